/- Steps of a statement whose order is open that lie behind a guard. -/
import Derived.Test.YtpdndapegiglcaaOpenRow
namespace Go.Proofs.Ytpdndapegiglcaa
open Go.RowKit
section
variable {ops : Array Oper} {C : World → Prop} {Q : Exit → Act → World → Prop} {R : Act → World → Prop} {n i : Nat} {o : Oper} {rest : List (Nat × Bool × Oper)} {a : Act} {w : World}
theorem by_rung (hw : Region.wanted o (yielded ops a.tmps) = true) (v : Value) (hr : ∀ w', C w' → (execOp a.eval o).run Try.prog w' = .ok (.value v) w') (h : wpBy Try.prog ops C n Q R rest (a.put o.dst v) w) : wpBy Try.prog ops C n Q R ((i, true, o) :: rest) a w :=
  ⟨v, .inl ⟨hw, fun w' hC => .inl (hr w' hC)⟩, h⟩
theorem by_wpg (ho : ops[i]? = some o) (hw : Region.wanted o (yielded ops a.tmps) = true) (h : o.wp Try.prog a w (fun a' w' => (i < n → C w') ∧ wpBy Try.prog ops C n Q R rest a' w') Q) : wpBy Try.prog ops C n Q R ((i, false, o) :: rest) a w := by
  show wpOp Try.prog ops Q i _ a w
  unfold wpOp
  simp only [ho]
  rw [if_pos hw]
  exact .inl h
end
end Go.Proofs.Ytpdndapegiglcaa
