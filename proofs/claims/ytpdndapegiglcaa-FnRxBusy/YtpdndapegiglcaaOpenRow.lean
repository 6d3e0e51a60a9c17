/- Statements whose order is open, over boxes held as whole rows: loads and values that may be taken first, stores, and what each operation of a statement leaves where new memory alone is made. -/
import Derived.Test.YtpdndapegiglcaaOpenAny
import Derived.Test.YtpdndapegiglcaaBoxLaw
namespace Go.Proofs.Ytpdndapegiglcaa
open Go.RowKit

theorem Bl.drew {w : World} {b : Nat} {cs : Array Value} {t : TypeId} (h : Bl w b cs t) : Bl w.drew b cs t := h
section
variable {ops : Array Oper} {C : World → Prop} {Q : Exit → Act → World → Prop} {R : Act → World → Prop} {n i : Nat} {o : Oper} {rest : List (Nat × Bool × Oper)} {a : Act} {w : World}
theorem by_run (hg : o.guard = none) (v : Value) (hr : ∀ w', C w' → (execOp a.eval o).run Try.prog w' = .ok (.value v) w') (h : wpBy Try.prog ops C n Q R rest (a.put o.dst v) w) : wpBy Try.prog ops C n Q R ((i, true, o) :: rest) a w :=
  ⟨v, .inl ⟨by simp [Region.wanted, hg], fun w' hC => .inl (hr w' hC)⟩, h⟩
theorem run_load_row {w : World} (ty : TypeId) (x : Operand) (ho : o.op = .load ty x) (g : Nat) (hx : a.eval x = .pointer (some ⟨g, 0, none⟩)) {t : TypeId} {cs : Array Value} {d : TypeDesc} (hg : Bl w g cs t)
    (hu : Try.prog.underlying ty = some d) (hd : d.isRow = true) (hi : (Try.prog.info? ty).map (·.size) = some cs.size) :
    (execOp a.eval o).run Try.prog w = .ok (.value (.agg cs)) w := by
  have e := run_loadVar_mid (P := Try.prog) w g 0 ty cs.toList d (bl_range hg 0 cs.toList (fun j v e => by simpa using e)) hu hd (by simpa using hi)
  rw [Array.toArray_toList] at e
  unfold execOp
  simp only [ho, hx, Instr.loadAt, Instr.sureAddr, Sem.run_bind, Sem.run_pure, Result.andThen_ok, e]
theorem by_load (hgd : o.guard = none) (ty : TypeId) (x : Operand) (ho : o.op = .load ty x) (g : Nat) (hx : a.eval x = .pointer (some ⟨g, 0, none⟩)) {t : TypeId} {cs : Array Value} {d : TypeDesc} (hC : ∀ w', C w' → Bl w' g cs t)
    (hu : Try.prog.underlying ty = some d) (hd : d.isRow = true) (hi : (Try.prog.info? ty).map (·.size) = some cs.size)
    (h : wpBy Try.prog ops C n Q R rest (a.put o.dst (.agg cs)) w) : wpBy Try.prog ops C n Q R ((i, true, o) :: rest) a w :=
  by_run hgd _ (fun _ h => run_load_row ty x ho g hx (hC _ h) hu hd hi) h
theorem by_wp (ho : ops[i]? = some o) (hg : o.guard = none) (h : o.wp Try.prog a w (fun a' w' => (i < n → C w') ∧ wpBy Try.prog ops C n Q R rest a' w') Q) : wpBy Try.prog ops C n Q R ((i, false, o) :: rest) a w := by
  show wpOp Try.prog ops Q i _ a w
  unfold wpOp
  simp only [ho]
  rw [if_pos (by simp [Region.wanted, hg])]
  exact .inl h
theorem by_store (hops : ops[i]? = some o) (hgd : o.guard = none) (ty : TypeId) (x y : Operand) (ho : o.op = .store ty x y) (g : Nat) (cells : Array Value) (hx : a.eval x = .pointer (some ⟨g, 0, none⟩)) (hy : a.eval y = .agg cells)
    {t : TypeId} {old : Array Value} (hg : Bl w g old t) (hi : (Try.prog.info? ty).map (·.size) = some cells.size) (hold : old.size = cells.size) (h1 : cells.all (·.oneCell') = true)
    (h : ∀ w', Bl w' g cells t → w.grownBy w' (some g) → (i < n → C w') ∧ wpBy Try.prog ops C n Q R rest (a.put o.dst undef) w') : wpBy Try.prog ops C n Q R ((i, false, o) :: rest) a w :=
  by_wp hops hgd (wp_box_store ty x y ho g cells hx hy hg hi hold h1 h)
theorem by_set (hops : ops[i]? = some o) (hgd : o.guard = none) (x : Operand) (ho : o.op = .assign x) (h : (i < n → C w) ∧ wpBy Try.prog ops C n Q R rest (a.put o.dst (a.eval x)) w) : wpBy Try.prog ops C n Q R ((i, false, o) :: rest) a w :=
  by_wp hops hgd (by unfold Oper.wp execOp; simp only [ho, Sem.run_pure]; exact h)
theorem by_setv (hops : ops[i]? = some o) (hgd : o.guard = none) (x : Operand) (ho : o.op = .assign x) (v : Value) (hv : a.eval x = v) (h : (i < n → C w) ∧ wpBy Try.prog ops C n Q R rest (a.put o.dst v) w) : wpBy Try.prog ops C n Q R ((i, false, o) :: rest) a w :=
  by_set hops hgd x ho (by rw [hv]; exact h)
end
/-! Where new memory alone is made. -/
def Gk (w0 : World) (_ : Nat) (w : World) : Prop := Below w0.heap.size w0 w
/-- A new box of a statement. -/
def KBox (B : Nat) (cs : Array Value) (t : TypeId) (v : Value) (w : World) : Prop := ∃ b, v = .pointer (some ⟨b, 0, none⟩) ∧ B ≤ b ∧ Bl w b cs t
theorem KBox.mono {B : Nat} {cs : Array Value} {t : TypeId} {v : Value} {w w' : World} (h : KBox B cs t v w) (k : Below w.heap.size w w') : KBox B cs t v w' := by
  obtain ⟨b, h1, h2, h3⟩ := h
  exact ⟨b, h1, h2, h3.kept k⟩
section
variable {Q : Exit → Act → World → Prop} {o : Oper} {a : Act} {w w0 : World} {c : Nat} {PR : Value → World → Prop}
theorem kt_val {v : Value} (ho : (execOp a.eval o).run Try.prog w = .ok (.value v) w) (hG : Gk w0 c w) (h : PR v w) :
    o.wp Try.prog a w (fun a' w' => ∃ v, a' = a.put o.dst v ∧ PR v w' ∧ Gk w0 (c + 1) w' ∧ Below w.heap.size w w') Q := by
  unfold Oper.wp
  rw [ho]
  exact ⟨v, rfl, h, hG, Below.refl _ _⟩
theorem kt_call {f : FuncId} {args : Array Value} (ho : (execOp a.eval o).run Try.prog w = .ok (.enter f args) w) (hG : Gk w0 c w)
    (hc : Calls Try.prog f args w (fun e w' => ∃ v, e = .returned v ∧ PR v w' ∧ Below w.heap.size w w')) :
    o.wp Try.prog a w (fun a' w' => ∃ v, a' = a.put o.dst v ∧ PR v w' ∧ Gk w0 (c + 1) w' ∧ Below w.heap.size w w') Q := by
  unfold Oper.wp
  rw [ho]
  refine hc.mono ?_
  rintro e w' ⟨v, rfl, h1, h2⟩
  exact ⟨v, rfl, h1, bchain hG h2, h2⟩
theorem kt_new {ty : TypeId} {zs : Array Value} (ho : o.op = .alloc ty) (hz : ∀ w, (zeroValue ty).run Try.prog w = .ok (.agg zs) w) (hG : Gk w0 c w) :
    o.wp Try.prog a w (fun a' w' => ∃ v, a' = a.put o.dst v ∧ KBox w0.heap.size zs ty v w' ∧ Gk w0 (c + 1) w' ∧ Below w.heap.size w w') Q :=
  wp_box_new ty ho zs hz (fun _ h1 h2 => ⟨_, rfl, ⟨_, rfl, hG.size, h1⟩, bchain hG h2, h2⟩)
end
end Go.Proofs.Ytpdndapegiglcaa
