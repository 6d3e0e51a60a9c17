/- Comparisons of what two want, as one operation. -/
import Derived.Test.YtkogmnjgpaocbaaCfg
import Derived.Test.YtkogmnjgpaocbaaOpenRow
namespace Go.Proofs.Ytkogmnjgpaocbaa
open Go.RowKit
theorem Opt.same_self (a : Opt) : a.same a = true := (Opt.same_iff a a).2 rfl
section
variable {ops : Array Oper} {rest : List Oper} {o : Oper} {a : Act} {w : World} {Q : Exit → Act → World → Prop}
theorem run_cfg_eq (x y : Operand) (ho : o.op = .binOp .eql 53 x y 53) (a1 a2 a3 a4 a5 b1 b2 b3 b4 b5 : Int) (hx : a.eval x = .agg #[.int .i64 a1, .int .i64 a2, .int .i64 a3, .int .i64 a4, .int .i64 a5]) (hy : a.eval y = .agg #[.int .i64 b1, .int .i64 b2, .int .i64 b3, .int .i64 b4, .int .i64 b5])
    (E : Bool) (hE : Opt.same ⟨a1, a2, a3, a4, a5⟩ ⟨b1, b2, b3, b4, b5⟩ = E) (w : World) : (execOp a.eval o).run Try.prog w = .ok (.value (.bool E)) w := by
  have hu := Try.underlying53
  have hg : Try.prog.eqGuardType Try.prog.depth 53 = false := by kernel_rfl
  have hp : Try.prog.stoodInHeld 53 = false := by kernel_rfl
  unfold execOp
  simp only [ho, hx, hy]
  subst hE
  simp [go_sem, hg, hp, hu, Opt.same]
  clear hu hg hp hx hy ho
  repeat' split
  all_goals simp_all
theorem run_cfg_ne (x y : Operand) (ho : o.op = .binOp .neq 53 x y 53) (a1 a2 a3 a4 a5 b1 b2 b3 b4 b5 : Int) (hx : a.eval x = .agg #[.int .i64 a1, .int .i64 a2, .int .i64 a3, .int .i64 a4, .int .i64 a5]) (hy : a.eval y = .agg #[.int .i64 b1, .int .i64 b2, .int .i64 b3, .int .i64 b4, .int .i64 b5])
    (E : Bool) (hE : Opt.same ⟨a1, a2, a3, a4, a5⟩ ⟨b1, b2, b3, b4, b5⟩ = E) (w : World) : (execOp a.eval o).run Try.prog w = .ok (.value (.bool (!E))) w := by
  have hu := Try.underlying53
  have hg : Try.prog.eqGuardType Try.prog.depth 53 = false := by kernel_rfl
  have hp : Try.prog.stoodInHeld 53 = false := by kernel_rfl
  unfold execOp
  simp only [ho, hx, hy]
  subst hE
  simp [go_sem, hg, hp, hu, Opt.same]
  clear hu hg hp hx hy ho
  repeat' split
  all_goals simp_all
theorem at_cmp (c : BinOp) (ty : TypeId) {d : Option Tmp} {x y : Operand} {t u : TypeId} {pos : String} {af : Array Edge} (h : wpList Try.prog ops Q (⟨d, .binOp c ty x y u, t, pos, af, none⟩ :: rest) a w) : wpList Try.prog ops Q (⟨d, .binOp c ty x y u, t, pos, af, none⟩ :: rest) a w := h
theorem cfg_eq (hgd : o.guard = none) (x y : Operand) (ho : o.op = .binOp .eql 53 x y 53) (a1 a2 a3 a4 a5 b1 b2 b3 b4 b5 : Int) (hx : a.eval x = .agg #[.int .i64 a1, .int .i64 a2, .int .i64 a3, .int .i64 a4, .int .i64 a5]) (hy : a.eval y = .agg #[.int .i64 b1, .int .i64 b2, .int .i64 b3, .int .i64 b4, .int .i64 b5])
    (E : Bool) (hE : Opt.same ⟨a1, a2, a3, a4, a5⟩ ⟨b1, b2, b3, b4, b5⟩ = E) (h : wpList Try.prog ops Q rest (a.put o.dst (.bool E)) w) : wpList Try.prog ops Q (o :: rest) a w :=
  wpList_plain hgd fun _ hK => by
    unfold Oper.wp
    rw [run_cfg_eq x y ho a1 a2 a3 a4 a5 b1 b2 b3 b4 b5 hx hy E hE w]
    exact hK _ _ h
theorem cfg_ne (hgd : o.guard = none) (x y : Operand) (ho : o.op = .binOp .neq 53 x y 53) (a1 a2 a3 a4 a5 b1 b2 b3 b4 b5 : Int) (hx : a.eval x = .agg #[.int .i64 a1, .int .i64 a2, .int .i64 a3, .int .i64 a4, .int .i64 a5]) (hy : a.eval y = .agg #[.int .i64 b1, .int .i64 b2, .int .i64 b3, .int .i64 b4, .int .i64 b5])
    (E : Bool) (hE : Opt.same ⟨a1, a2, a3, a4, a5⟩ ⟨b1, b2, b3, b4, b5⟩ = E) (h : wpList Try.prog ops Q rest (a.put o.dst (.bool (!E))) w) : wpList Try.prog ops Q (o :: rest) a w :=
  wpList_plain hgd fun _ hK => by
    unfold Oper.wp
    rw [run_cfg_ne x y ho a1 a2 a3 a4 a5 b1 b2 b3 b4 b5 hx hy E hE w]
    exact hK _ _ h
end
section
variable {ops : Array Oper} {C : World → Prop} {Q : Exit → Act → World → Prop} {R : Act → World → Prop} {n i : Nat} {o : Oper} {rest : List (Nat × Bool × Oper)} {a : Act} {w : World}
/-- A load of a part of a box, taken first. -/
theorem by_part (hgd : o.guard = none) (ty : TypeId) (x : Operand) (ho : o.op = .load ty x) (g k : Nat) (hx : a.eval x = .pointer (some ⟨g, k, none⟩)) {t : TypeId} {cs : Array Value} {d : TypeDesc} (hC : ∀ w', C w' → Bl w' g cs t) (sub : List Value) (hs : (cs.toList.drop k).take sub.length = sub)
    (hu : Try.prog.underlying ty = some d) (hd : d.isRow = true) (hi : (Try.prog.info? ty).map (·.size) = some sub.length)
    (h : wpBy Try.prog ops C n Q R rest (a.put o.dst (.agg sub.toArray)) w) : wpBy Try.prog ops C n Q R ((i, true, o) :: rest) a w := by
  refine by_run hgd _ (fun w' hw => ?_) h
  have e := run_loadVar_mid (P := Try.prog) w' g k ty sub d (bl_range (hC w' hw) k sub (fun j v e => by
    rw [← hs] at e
    have hj : j < sub.length := by
      have := (List.getElem?_eq_some_iff.1 e).1
      simp at this
      omega
    simpa [List.getElem?_take, hj] using e)) hu hd hi
  unfold execOp
  simp only [ho, hx, Instr.loadAt, Instr.sureAddr, Sem.run_bind, Sem.run_pure, Result.andThen_ok, e]
/-- A field's place, taken first. -/
theorem by_addr (hgd : o.guard = none) (ty : TypeId) (x : Operand) (k : Nat) (ho : o.op = .fieldAddr ty x k) (g off : Nat) (hx : a.eval x = .pointer (some ⟨g, 0, none⟩)) (hf : ∀ (g : Nat) (w : World), (Instr.fieldAt ty (.pointer (some ⟨g, 0, none⟩)) k).run Try.prog w = .ok (.pointer (some ⟨g, off, none⟩)) w)
    (h : wpBy Try.prog ops C n Q R rest (a.put o.dst (.pointer (some ⟨g, off, none⟩))) w) : wpBy Try.prog ops C n Q R ((i, true, o) :: rest) a w :=
  by_run hgd _ (fun w' _ => by
    unfold execOp
    simp only [ho, hx, hf, Sem.run_bind, Sem.run_pure, Result.andThen_ok]) h
end
end Go.Proofs.Ytkogmnjgpaocbaa
