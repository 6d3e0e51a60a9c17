/- Boxed variables by whole rows: what loads, stores of all, of a part, of one cell leave; the world behind each is whatever it is. -/
import Derived.Test.YtpdndapegiglcaaBoxes
import Derived.Deep.MidRow
namespace Go.Proofs.Ytpdndapegiglcaa
open Go.RowKit

theorem Bl.grown {w w' : World} {b g : Nat} {cs : Array Value} {t : TypeId} (h : Bl w b cs t) (k : w.grownBy w' (some g)) (hb : b ≠ g) : Bl w' b cs t :=
  (k.block b h.lt (fun e => hb (Option.some.inj e))).trans h
theorem below_at {n : Nat} {w w1 w2 : World} {g : Nat} (h : Below n w w1) (k : w1.grownBy w2 (some g)) (hn : n ≤ w1.heap.size) (hg : n ≤ g) : Below n w w2 :=
  h.grown k hn (fun q e => by cases e; exact hg)
/-- Cells put into a row from a place on. -/
def putAt (cs : Array Value) : Nat → List Value → Array Value
  | _, [] => cs
  | o, v :: r => putAt (cs.setIfInBounds o v) (o + 1) r
theorem grown_setCell (w : World) (g i : Nat) (v : Value) : w.grownBy (w.setCell ⟨g, i, none⟩ v) (some g) :=
  ⟨rfl, rfl, rfl, by simp [World.setCell], fun k _ hk => Below.heap_setCell _ _ _ _ (fun e => hk (by rw [e]))⟩
theorem bl_setCells {g : Nat} {t : TypeId} : ∀ (vs : List Value) (o : Nat) (cs : Array Value) (w : World), Bl w g cs t → Bl (w.setCells g o vs) g (putAt cs o vs) t ∧ w.grownBy (w.setCells g o vs) (some g)
  | [], _, _, w, h => ⟨h, rfl, rfl, rfl, Nat.le_refl _, fun _ _ _ => rfl⟩
  | v :: r, o, cs, w, h => by
    have h1 : Bl (w.setCell ⟨g, o, none⟩ v) g (cs.setIfInBounds o v) t := heap_setCell_same w g o cs t v h
    obtain ⟨h2, h3⟩ := bl_setCells r (o + 1) _ _ h1
    have h4 := grown_setCell w g o v
    exact ⟨h2, h3.os.trans h4.os, h3.tape.trans h4.tape, h3.output.trans h4.output, Nat.le_trans h4.size h3.size, fun k hk hne => (h3.block k (Nat.lt_of_lt_of_le hk h4.size) hne).trans (h4.block k hk hne)⟩
theorem bl_there {w : World} {g : Nat} {cs : Array Value} {t : TypeId} (h : Bl w g cs t) (o n : Nat) (hn : o + n ≤ cs.size) : w.there g o n := fun j hj =>
  ⟨by rw [h.k]; simp; omega, h.f _⟩
theorem bl_range {w : World} {g : Nat} {cs : Array Value} {t : TypeId} (h : Bl w g cs t) (o : Nat) (vs : List Value) (hv : ∀ j v, vs[j]? = some v → cs[o + j]? = some v) : w.rangeAt g o vs := fun j v e => by
  rw [h.k]; exact hv j v e

section
variable {ops : Array Oper} {rest : List Oper} {o : Oper} {a : Act} {w : World} {Q : Exit → Act → World → Prop} {K : Act → World → Prop}
/-- A store of all of a box. -/
theorem wp_box_store (ty : TypeId) (x y : Operand) (ho : o.op = .store ty x y) (g : Nat) (cells : Array Value) (hx : a.eval x = .pointer (some ⟨g, 0, none⟩)) (hy : a.eval y = .agg cells)
    {t : TypeId} {old : Array Value} (hg : Bl w g old t) (hi : (Try.prog.info? ty).map (·.size) = some cells.size) (hold : old.size = cells.size) (h1 : cells.all (·.oneCell') = true)
    (h : ∀ w', Bl w' g cells t → w.grownBy w' (some g) → K (a.put o.dst undef) w') : o.wp Try.prog a w K Q :=
  wp_store_row ty x y ho g cells hx hy t old hg hi hold h1 (h _ (Bl.row hg cells) ⟨rfl, rfl, rfl, by simp, fun k _ hk => setRow_other _ _ _ _ (fun e => hk (by rw [e]))⟩)
theorem box_store (hgd : o.guard = none) (ty : TypeId) (x y : Operand) (ho : o.op = .store ty x y) (g : Nat) (cells : Array Value) (hx : a.eval x = .pointer (some ⟨g, 0, none⟩)) (hy : a.eval y = .agg cells)
    {t : TypeId} {old : Array Value} (hg : Bl w g old t) (hi : (Try.prog.info? ty).map (·.size) = some cells.size) (hold : old.size = cells.size) (h1 : cells.all (·.oneCell') = true)
    (h : ∀ w', Bl w' g cells t → w.grownBy w' (some g) → wpList Try.prog ops Q rest (a.put o.dst undef) w') : wpList Try.prog ops Q (o :: rest) a w :=
  wpList_plain hgd fun _ hK => wp_box_store ty x y ho g cells hx hy hg hi hold h1 (fun w' h1 h2 => hK _ _ (h w' h1 h2))
/-- A store of a part of a box. -/
theorem wp_box_part (ty : TypeId) (x y : Operand) (ho : o.op = .store ty x y) (g i : Nat) (cells : Array Value) (hx : a.eval x = .pointer (some ⟨g, i, none⟩)) (hy : a.eval y = .agg cells)
    {t : TypeId} {old : Array Value} (hg : Bl w g old t) (hi : (Try.prog.info? ty).map (·.size) = some cells.size) (hold : i + cells.size ≤ old.size) (h1 : cells.all (·.oneCell') = true)
    (h : ∀ w', Bl w' g (putAt old i cells.toList) t → w.grownBy w' (some g) → K (a.put o.dst undef) w') : o.wp Try.prog a w K Q :=
  have e := bl_setCells cells.toList i old w hg
  wp_store_mid ty x y ho g i cells hx hy (bl_there hg i cells.size hold) hi h1 (h _ e.1 e.2)
theorem box_part (hgd : o.guard = none) (ty : TypeId) (x y : Operand) (ho : o.op = .store ty x y) (g i : Nat) (cells : Array Value) (hx : a.eval x = .pointer (some ⟨g, i, none⟩)) (hy : a.eval y = .agg cells)
    {t : TypeId} {old : Array Value} (hg : Bl w g old t) (hi : (Try.prog.info? ty).map (·.size) = some cells.size) (hold : i + cells.size ≤ old.size) (h1 : cells.all (·.oneCell') = true)
    (h : ∀ w', Bl w' g (putAt old i cells.toList) t → w.grownBy w' (some g) → wpList Try.prog ops Q rest (a.put o.dst undef) w') : wpList Try.prog ops Q (o :: rest) a w :=
  wpList_plain hgd fun _ hK => wp_box_part ty x y ho g i cells hx hy hg hi hold h1 (fun w' h1 h2 => hK _ _ (h w' h1 h2))
/-- A store of an int, of a bool. -/
theorem wp_box_int (x y : Operand) (ho : o.op = .store 3 x y) (g i : Nat) (n : Int) (hx : a.eval x = .pointer (some ⟨g, i, none⟩)) (hy : a.eval y = .int .i64 n)
    {t : TypeId} {old : Array Value} (hg : Bl w g old t) (hold : i < old.size)
    (h : ∀ w', Bl w' g (old.setIfInBounds i (.int .i64 n)) t → w.grownBy w' (some g) → K (a.put o.dst undef) w') : o.wp Try.prog a w K Q := by
  have k1 : w.cell? ⟨g, i, none⟩ = some old[i] := by rw [hg.k]; simp [hold]
  have k2 := hg.f i
  have hh := h _ (heap_setCell_same w g i old t (.int .i64 n) hg) (grown_setCell w g i _)
  unfold Oper.wp execOp
  simp only [ho, hx, hy]
  simp [go_sem, k1, k2]
  exact hh
theorem wp_box_bool (x y : Operand) (ho : o.op = .store 4 x y) (g i : Nat) (n : Bool) (hx : a.eval x = .pointer (some ⟨g, i, none⟩)) (hy : a.eval y = .bool n)
    {t : TypeId} {old : Array Value} (hg : Bl w g old t) (hold : i < old.size)
    (h : ∀ w', Bl w' g (old.setIfInBounds i (.bool n)) t → w.grownBy w' (some g) → K (a.put o.dst undef) w') : o.wp Try.prog a w K Q := by
  have k1 : w.cell? ⟨g, i, none⟩ = some old[i] := by rw [hg.k]; simp [hold]
  have k2 := hg.f i
  have hh := h _ (heap_setCell_same w g i old t (.bool n) hg) (grown_setCell w g i _)
  unfold Oper.wp execOp
  simp only [ho, hx, hy]
  simp [go_sem, k1, k2]
  exact hh
theorem box_int (hgd : o.guard = none) (x y : Operand) (ho : o.op = .store 3 x y) (g i : Nat) (n : Int) (hx : a.eval x = .pointer (some ⟨g, i, none⟩)) (hy : a.eval y = .int .i64 n)
    {t : TypeId} {old : Array Value} (hg : Bl w g old t) (hold : i < old.size)
    (h : ∀ w', Bl w' g (old.setIfInBounds i (.int .i64 n)) t → w.grownBy w' (some g) → wpList Try.prog ops Q rest (a.put o.dst undef) w') : wpList Try.prog ops Q (o :: rest) a w :=
  wpList_plain hgd fun _ hK => wp_box_int x y ho g i n hx hy hg hold (fun w' h1 h2 => hK _ _ (h w' h1 h2))
theorem box_bool (hgd : o.guard = none) (x y : Operand) (ho : o.op = .store 4 x y) (g i : Nat) (n : Bool) (hx : a.eval x = .pointer (some ⟨g, i, none⟩)) (hy : a.eval y = .bool n)
    {t : TypeId} {old : Array Value} (hg : Bl w g old t) (hold : i < old.size)
    (h : ∀ w', Bl w' g (old.setIfInBounds i (.bool n)) t → w.grownBy w' (some g) → wpList Try.prog ops Q rest (a.put o.dst undef) w') : wpList Try.prog ops Q (o :: rest) a w :=
  wpList_plain hgd fun _ hK => wp_box_bool x y ho g i n hx hy hg hold (fun w' h1 h2 => hK _ _ (h w' h1 h2))
/-- A new box, with its type's zero in it. -/
theorem run_new {ty : TypeId} {zs : Array Value} (hz : ∀ w, (zeroValue ty).run Try.prog w = .ok (.agg zs) w) (w : World) :
    (Instr.alloc ty true (.tuple #[])).run Try.prog w = .ok (.pointer (some ⟨w.heap.size, 0, none⟩)) (w.alloc (.cells zs ty)) := by
  simp [Instr.alloc, hz, newVar, newRow, Value.cells, go_sem]
theorem run_box {ty : TypeId} (zs : Array Value) (w : World) :
    (Instr.box ty (.agg zs)).run Try.prog w = .ok (.pointer (some ⟨w.heap.size, 0, none⟩)) (w.alloc (.cells zs ty)) := by
  simp [Instr.box, newVar, newRow, Value.cells, go_sem]
theorem wp_box_new (ty : TypeId) (ho : o.op = .alloc ty) (zs : Array Value) (hz : ∀ w, (zeroValue ty).run Try.prog w = .ok (.agg zs) w)
    (h : ∀ w', Bl w' w.heap.size zs ty → Below w.heap.size w w' → K (a.put o.dst (.pointer (some ⟨w.heap.size, 0, none⟩))) w') : o.wp Try.prog a w K Q := by
  have hh := h _ (bl_new w zs ty) (bo_alloc w _)
  unfold Oper.wp execOp
  simp only [ho, run_new hz, Sem.run_bind, Sem.run_pure, Result.andThen_ok]
  exact hh
theorem box_new {d : Tmp} (hgd : o.guard = none) (_hd : o.dst = some d) (ty : TypeId) (ho : o.op = .alloc ty) (zs : Array Value) (hz : ∀ w, (zeroValue ty).run Try.prog w = .ok (.agg zs) w)
    (h : ∀ w', Bl w' w.heap.size zs ty → Below w.heap.size w w' → wpList Try.prog ops Q rest (a.put o.dst (.pointer (some ⟨w.heap.size, 0, none⟩))) w') : wpList Try.prog ops Q (o :: rest) a w :=
  wpList_plain hgd fun _ hK => wp_box_new ty ho zs hz (fun w' h1 h2 => hK _ _ (h w' h1 h2))
theorem wp_box_box (ty : TypeId) (x : Operand) (ho : o.op = .box ty x) (zs : Array Value) (hx : a.eval x = .agg zs)
    (h : ∀ w', Bl w' w.heap.size zs ty → Below w.heap.size w w' → K (a.put o.dst (.pointer (some ⟨w.heap.size, 0, none⟩))) w') : o.wp Try.prog a w K Q := by
  have hh := h _ (bl_new w zs ty) (bo_alloc w _)
  unfold Oper.wp execOp
  simp only [ho, hx, run_box, Sem.run_bind, Sem.run_pure, Result.andThen_ok]
  exact hh
theorem box_box {d : Tmp} (hgd : o.guard = none) (_hd : o.dst = some d) (ty : TypeId) (x : Operand) (ho : o.op = .box ty x) (zs : Array Value) (hx : a.eval x = .agg zs)
    (h : ∀ w', Bl w' w.heap.size zs ty → Below w.heap.size w w' → wpList Try.prog ops Q rest (a.put o.dst (.pointer (some ⟨w.heap.size, 0, none⟩))) w') : wpList Try.prog ops Q (o :: rest) a w :=
  wpList_plain hgd fun _ hK => wp_box_box ty x ho zs hx (fun w' h1 h2 => hK _ _ (h w' h1 h2))
theorem box_load (hgd : o.guard = none) (ty : TypeId) (x : Operand) (ho : o.op = .load ty x) (g : Nat) (hx : a.eval x = .pointer (some ⟨g, 0, none⟩)) {cs : Array Value} {d : TypeDesc} (hg : Bl w g cs ty)
    (hu : Try.prog.underlying ty = some d) (hd : d.isRow = true) (hi : (Try.prog.info? ty).map (·.size) = some cs.size) (h : wpList Try.prog ops Q rest (a.put o.dst (.agg cs)) w) : wpList Try.prog ops Q (o :: rest) a w := by
  have e := wpList_load_mid (P := Try.prog) (ops := ops) (rest := rest) (w := w) (Q := Q) hgd ty x ho g 0 hx cs.toList d (bl_range hg 0 cs.toList (fun j v e => by simpa using e)) hu hd (by simpa using hi)
  rw [Array.toArray_toList] at e
  exact e h
theorem box_loadg (hw : Region.wanted o (yielded ops a.tmps) = true) (ty : TypeId) (x : Operand) (ho : o.op = .load ty x) (g : Nat) (hx : a.eval x = .pointer (some ⟨g, 0, none⟩)) {cs : Array Value} {d : TypeDesc} (hg : Bl w g cs ty)
    (hu : Try.prog.underlying ty = some d) (hd : d.isRow = true) (hi : (Try.prog.info? ty).map (·.size) = some cs.size) (h : wpList Try.prog ops Q rest (a.put o.dst (.agg cs)) w) : wpList Try.prog ops Q (o :: rest) a w := by
  have e := wp_load_mid (P := Try.prog) (op := o) (a := a) (w := w) (K := wpList Try.prog ops Q rest) (Q := Q) ty x ho g 0 hx cs.toList d (bl_range hg 0 cs.toList (fun j v e => by simpa using e)) hu hd (by simpa using hi)
  rw [Array.toArray_toList] at e
  unfold wpList
  rw [if_pos hw]
  exact .inl (e h)
theorem at_loadg (ty : TypeId) {d : Option Tmp} {x : Operand} {t : TypeId} {pos : String} {af : Array Edge} {gd : Nat × Bool} (h : wpList Try.prog ops Q (⟨d, .load ty x, t, pos, af, some gd⟩ :: rest) a w) : wpList Try.prog ops Q (⟨d, .load ty x, t, pos, af, some gd⟩ :: rest) a w := h
/-! Where an arm fits: told by the first operation alone. -/
theorem at_load (ty : TypeId) {d : Option Tmp} {x : Operand} {t : TypeId} {pos : String} {af : Array Edge} (h : wpList Try.prog ops Q (⟨d, .load ty x, t, pos, af, none⟩ :: rest) a w) : wpList Try.prog ops Q (⟨d, .load ty x, t, pos, af, none⟩ :: rest) a w := h
theorem at_store (ty : TypeId) {d : Option Tmp} {x y : Operand} {t : TypeId} {pos : String} {af : Array Edge} (h : wpList Try.prog ops Q (⟨d, .store ty x y, t, pos, af, none⟩ :: rest) a w) : wpList Try.prog ops Q (⟨d, .store ty x y, t, pos, af, none⟩ :: rest) a w := h
theorem at_new (d : Tmp) (ty : TypeId) {t : TypeId} {pos : String} {af : Array Edge} (h : wpList Try.prog ops Q (⟨some d, .alloc ty, t, pos, af, none⟩ :: rest) a w) : wpList Try.prog ops Q (⟨some d, .alloc ty, t, pos, af, none⟩ :: rest) a w := h
theorem at_box (d : Tmp) (ty : TypeId) {x : Operand} {t : TypeId} {pos : String} {af : Array Edge} (h : wpList Try.prog ops Q (⟨some d, .box ty x, t, pos, af, none⟩ :: rest) a w) : wpList Try.prog ops Q (⟨some d, .box ty x, t, pos, af, none⟩ :: rest) a w := h
end
/-! What a function hands back out of its boxes. -/
theorem run_row {w : World} {g : Nat} {cs : Array Value} {t : TypeId} {d : TypeDesc} (h : Bl w g cs t) (hu : Try.prog.underlying t = some d) (hd : d.isRow = true) (hi : (Try.prog.info? t).map (·.size) = some cs.size) : (loadVar t ⟨g, 0, none⟩).run Try.prog w = .ok (.agg cs) w := by
  have e := run_loadVar_mid (P := Try.prog) w g 0 t cs.toList d (bl_range h 0 cs.toList (fun j v e => by simpa using e)) hu hd (by simpa using hi)
  rwa [Array.toArray_toList] at e
theorem results_ct {fn : Func} {p r : Tmp} {t : TypeId} (h : fn.results = #[.cell p t, .tmp r]) (tmps : Array Value) (w : World) (g : Nat) (cs : Array Value) (d : TypeDesc) (hp : tmps.getD p undef = .pointer (some ⟨g, 0, none⟩)) (hg : Bl w g cs t) (hu : Try.prog.underlying t = some d) (hd : d.isRow = true) (hi : (Try.prog.info? t).map (·.size) = some cs.size) :
    (results fn tmps).run Try.prog w = .ok (.tuple #[.agg cs, tmps.getD r undef]) w := by
  have hp' : tmps[p]?.getD undef = .pointer (some ⟨g, 0, none⟩) := by simpa using hp
  simp [results, h, hp', asAddr, run_row hg hu hd hi]
theorem results_cc {fn : Func} {p q : Tmp} {t u : TypeId} (h : fn.results = #[.cell p t, .cell q u]) (tmps : Array Value) (w : World) (g : Nat) (cs : Array Value) (d : TypeDesc) (hp : tmps.getD p undef = .pointer (some ⟨g, 0, none⟩)) (hg : Bl w g cs t) (hu : Try.prog.underlying t = some d) (hd : d.isRow = true) (hi : (Try.prog.info? t).map (·.size) = some cs.size)
    (g' : Nat) (cs' : Array Value) (d' : TypeDesc) (hp' : tmps.getD q undef = .pointer (some ⟨g', 0, none⟩)) (hg' : Bl w g' cs' u) (hu' : Try.prog.underlying u = some d') (hd' : d'.isRow = true) (hi' : (Try.prog.info? u).map (·.size) = some cs'.size) :
    (results fn tmps).run Try.prog w = .ok (.tuple #[.agg cs, .agg cs']) w := by
  have e1 : tmps[p]?.getD undef = .pointer (some ⟨g, 0, none⟩) := by simpa using hp
  have e2 : tmps[q]?.getD undef = .pointer (some ⟨g', 0, none⟩) := by simpa using hp'
  simp [results, h, e1, e2, asAddr, run_row hg hu hd hi, run_row hg' hu' hd' hi']
theorem results_cct {fn : Func} {p q r : Tmp} {t u : TypeId} (h : fn.results = #[.cell p t, .cell q u, .tmp r]) (tmps : Array Value) (w : World) (g : Nat) (cs : Array Value) (d : TypeDesc) (hp : tmps.getD p undef = .pointer (some ⟨g, 0, none⟩)) (hg : Bl w g cs t) (hu : Try.prog.underlying t = some d) (hd : d.isRow = true) (hi : (Try.prog.info? t).map (·.size) = some cs.size)
    (g' : Nat) (cs' : Array Value) (d' : TypeDesc) (hp' : tmps.getD q undef = .pointer (some ⟨g', 0, none⟩)) (hg' : Bl w g' cs' u) (hu' : Try.prog.underlying u = some d') (hd' : d'.isRow = true) (hi' : (Try.prog.info? u).map (·.size) = some cs'.size) :
    (results fn tmps).run Try.prog w = .ok (.tuple #[.agg cs, .agg cs', tmps.getD r undef]) w := by
  have e1 : tmps[p]?.getD undef = .pointer (some ⟨g, 0, none⟩) := by simpa using hp
  have e2 : tmps[q]?.getD undef = .pointer (some ⟨g', 0, none⟩) := by simpa using hp'
  simp [results, h, e1, e2, asAddr, run_row hg hu hd hi, run_row hg' hu' hd' hi']
end Go.Proofs.Ytpdndapegiglcaa
