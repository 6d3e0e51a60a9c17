/- Comparisons of alike ones that agree, and of what is said. -/
import Derived.Test.YtaoafikkamnjlaaNegVal
namespace Go.Proofs.Ytaoafikkamnjlaa
open Go.RowKit
section
variable {ops : Array Oper} {rest : List Oper} {o : Oper} {a : Act} {w : World} {Q : Exit → Act → World → Prop}
theorem run_neg_eql (x y : Operand) (ho : o.op = .binOp .eql 26 x y 26) (s : Neg) (hx : a.eval x = .agg s.cs) (hy : a.eval y = .agg s.cs) (w : World) : (execOp a.eval o).run Try.prog w = .ok (.value (.bool true)) w := by
  have hu := Try.underlying26
  have hu2 := Try.underlying24
  have hg : Try.prog.eqGuardType Try.prog.depth 26 = false := by kernel_rfl
  have hp : Try.prog.stoodInHeld 26 = false := by kernel_rfl
  have hp2 : Try.prog.stoodInHeld 24 = false := by kernel_rfl
  unfold execOp
  simp only [ho, hx, hy, Neg.cs]
  simp [go_sem, hg, hp, hp2, hu, hu2]
theorem neg_eql (hw : Region.wanted o (yielded ops a.tmps) = true) (x y : Operand) (ho : o.op = .binOp .eql 26 x y 26) (s : Neg) (hx : a.eval x = .agg s.cs) (hy : a.eval y = .agg s.cs) (h : wpList Try.prog ops Q rest (a.put o.dst (.bool true)) w) : wpList Try.prog ops Q (o :: rest) a w := by
  unfold wpList
  rw [if_pos hw]
  refine .inl ?_
  unfold Oper.wp
  rw [run_neg_eql x y ho s hx hy w]
  exact h
theorem run_neg_neq (x y : Operand) (ho : o.op = .binOp .neq 26 x y 26) (s : Neg) (hx : a.eval x = .agg s.cs) (hy : a.eval y = .agg s.cs) (w : World) : (execOp a.eval o).run Try.prog w = .ok (.value (.bool false)) w := by
  have hu := Try.underlying26
  have hu2 := Try.underlying24
  have hg : Try.prog.eqGuardType Try.prog.depth 26 = false := by kernel_rfl
  have hp : Try.prog.stoodInHeld 26 = false := by kernel_rfl
  have hp2 : Try.prog.stoodInHeld 24 = false := by kernel_rfl
  unfold execOp
  simp only [ho, hx, hy, Neg.cs]
  simp [go_sem, hg, hp, hp2, hu, hu2]
theorem neg_neq (hw : Region.wanted o (yielded ops a.tmps) = true) (x y : Operand) (ho : o.op = .binOp .neq 26 x y 26) (s : Neg) (hx : a.eval x = .agg s.cs) (hy : a.eval y = .agg s.cs) (h : wpList Try.prog ops Q rest (a.put o.dst (.bool false)) w) : wpList Try.prog ops Q (o :: rest) a w := by
  unfold wpList
  rw [if_pos hw]
  refine .inl ?_
  unfold Oper.wp
  rw [run_neg_neq x y ho s hx hy w]
  exact h
theorem run_msg_eql (x y : Operand) (ho : o.op = .binOp .eql 28 x y 28) (s : Msg) (hx : a.eval x = .agg s.cs) (hy : a.eval y = .agg s.cs) (w : World) : (execOp a.eval o).run Try.prog w = .ok (.value (.bool true)) w := by
  have hu := Try.underlying28
  have hu2 := Try.underlying24
  have hg : Try.prog.eqGuardType Try.prog.depth 28 = false := by kernel_rfl
  have hp : Try.prog.stoodInHeld 28 = false := by kernel_rfl
  have hp2 : Try.prog.stoodInHeld 24 = false := by kernel_rfl
  unfold execOp
  simp only [ho, hx, hy, Msg.cs]
  simp [go_sem, hg, hp, hp2, hu, hu2]
theorem msg_eql (hw : Region.wanted o (yielded ops a.tmps) = true) (x y : Operand) (ho : o.op = .binOp .eql 28 x y 28) (s : Msg) (hx : a.eval x = .agg s.cs) (hy : a.eval y = .agg s.cs) (h : wpList Try.prog ops Q rest (a.put o.dst (.bool true)) w) : wpList Try.prog ops Q (o :: rest) a w := by
  unfold wpList
  rw [if_pos hw]
  refine .inl ?_
  unfold Oper.wp
  rw [run_msg_eql x y ho s hx hy w]
  exact h
theorem run_msg_neq (x y : Operand) (ho : o.op = .binOp .neq 28 x y 28) (s : Msg) (hx : a.eval x = .agg s.cs) (hy : a.eval y = .agg s.cs) (w : World) : (execOp a.eval o).run Try.prog w = .ok (.value (.bool false)) w := by
  have hu := Try.underlying28
  have hu2 := Try.underlying24
  have hg : Try.prog.eqGuardType Try.prog.depth 28 = false := by kernel_rfl
  have hp : Try.prog.stoodInHeld 28 = false := by kernel_rfl
  have hp2 : Try.prog.stoodInHeld 24 = false := by kernel_rfl
  unfold execOp
  simp only [ho, hx, hy, Msg.cs]
  simp [go_sem, hg, hp, hp2, hu, hu2]
theorem msg_neq (hw : Region.wanted o (yielded ops a.tmps) = true) (x y : Operand) (ho : o.op = .binOp .neq 28 x y 28) (s : Msg) (hx : a.eval x = .agg s.cs) (hy : a.eval y = .agg s.cs) (h : wpList Try.prog ops Q rest (a.put o.dst (.bool false)) w) : wpList Try.prog ops Q (o :: rest) a w := by
  unfold wpList
  rw [if_pos hw]
  refine .inl ?_
  unfold Oper.wp
  rw [run_msg_neq x y ho s hx hy w]
  exact h
theorem at_any (c : BinOp) (ty : TypeId) {d : Option Tmp} {x y : Operand} {t u : TypeId} {pos : String} {af : Array Edge} {gd : Option (Nat × Bool)} (h : wpList Try.prog ops Q (⟨d, .binOp c ty x y u, t, pos, af, gd⟩ :: rest) a w) : wpList Try.prog ops Q (⟨d, .binOp c ty x y u, t, pos, af, gd⟩ :: rest) a w := h
end
/-- Who says something is ok behind it. -/
theorem sHear_says (s : Neg) (m : Msg) (hs : s.ok = true) (h : (sHear s m).2.2 = true) : (sHear s m).1.ok = true := by
  revert h
  unfold sHear
  by_cases h0 : (s.ok && inB m.kind 1 3 && m.opts.ok) = false
  · rw [if_pos h0]; intro h; cases h
  rw [if_neg h0]
  simp only [Bool.not_eq_false, Bool.and_eq_true] at h0
  simp only [Neg.ok, Bool.and_eq_true] at hs
  repeat' split
  all_goals
    intro h
    first
      | (cases h; done)
      | (simp only [Neg.ok, Opt.yes, Bool.and_eq_true, Bool.or_eq_true]; simp_all [Opt.yes])
/-- The same said once more leaves one that agrees as it is. -/
theorem sHear_twice (s : Neg) (m : Msg) (hx : (sHear s m).1.ok = true) : sHear (sHear s m).1 m = sHear s m := by
  by_cases h0 : (s.ok && inB m.kind 1 3 && m.opts.ok) = false
  · have e : sHear s m = (Neg.zero, Msg.zero, false) := by unfold sHear; rw [if_pos h0]
    rw [e] at hx
    exact absurd hx (by decide)
  have h1 : inB m.kind 1 3 = true ∧ m.opts.ok = true := by
    simp only [Bool.not_eq_false, Bool.and_eq_true] at h0
    exact ⟨h0.1.2, h0.2⟩
  obtain ⟨H, hH⟩ : ∃ H, sHear s m = H := ⟨_, rfl⟩
  rw [hH] at hx ⊢
  have h2 : ¬ (H.1.ok && inB m.kind 1 3 && m.opts.ok) = false := by simp [hx, h1]
  have hmin : ∀ a b : Opt, (a.least b).least b = a.least b := fun a b => by simp only [Opt.least, Opt.mk.injEq, true_and]; omega
  unfold sHear at hH
  rw [if_neg h0] at hH
  unfold sHear
  rw [if_neg h2]
  repeat' split at hH
  all_goals
    subst hH
    simp_all
end Go.Proofs.Ytaoafikkamnjlaa
