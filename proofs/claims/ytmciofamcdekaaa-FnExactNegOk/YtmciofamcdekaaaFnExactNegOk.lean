/- At every argument the law of NegOk is true: the program answers as the specification. -/
import Derived.Test.YtmciofamcdekaaaRows
import Derived.Test.YtmciofamcdekaaaWNegOk
import Derived.Test.YtmciofamcdekaaaOpensNeg2
import Derived.WalkKit
import Derived.ProofKit
import Derived.OpenShut
import Derived.ShutString
import Derived.ChangeOld
import Derived.Below
namespace Go.Proofs.Ytmciofamcdekaaa.fnExactNegOk
open Go.ChangeShapes Go.WideShapes Go.ChangeAt Go.RowKit
set_option linter.unusedVariables false

theorem own : ownKnob Try.prog.godebug = none := by kernel_rfl
theorem laidOut : laidOutB Try.prog = true := by kernel_rfl

set_option maxRecDepth 100000 in
set_option maxHeartbeats 1000000 in
theorem lifted (os : Os) (started : os.Started) (H : Type) (enc : TypeId × Value → H) :
    ReturnsInHanded {} Try.checked os 4 .any (Rows.fnExactNegOkSpec.pre6 enc Try.prog Try.f4 Rows.fnExactNegOkRow.domain false) (Rows.fnExactNegOkSpec.post enc Try.prog Try.f4 false true false false) := by
  refine returnsInHanded_of_change (C := Try.checked) own started (by kernel_rfl) Try.func4
    (ChangeSpec.witness6 (enc := enc) (C := Try.checked) false ⟨#[], #[.agg #[.int .i64 0, .int .i64 0, .int .i64 0, .int .i64 0, .int .i64 0, .int .i64 0, .int .i64 0, .int .i64 0, .int .i64 0, .int .i64 0, .int .i64 0, .int .i64 0, .int .i64 0, .int .i64 0, .int .i64 0, .int .i64 0, .int .i64 0, .int .i64 0, .int .i64 0, .int .i64 0, .bool false]], []⟩ 8 (by kernel_rfl) (by kernel_rfl) (by kernel_rfl) (by kernel_rfl)) ?_
  intro W base args ds gs before hval0 hW hcnd _
  have hval : ∀ (j : Nat) t v, Try.f4.params[j]? = some t → args[j]? = some v → Value.okWide Try.prog W .any base t v := hval0
  have hW' := hW
  obtain ⟨p, q, hA0, hV, rfl, hfz, hnd⟩ := hW
  have hA : DataW.TrodAll enc Try.prog W 0 (fun _ => true) true Try.f4.params.toList args.toList ds p := hA0
  rw [Try.params4] at hA hval
  obtain ⟨v0, vs0, d0, ds0, p0, q0, hargs0, rfl, rfl, h0, r0⟩ := trodAll_cons hA
  obtain ⟨rfl, rfl, rfl⟩ := trodAll_nil r0
  obtain rfl : args = #[v0] := by cases args; simp_all
  obtain ⟨rfl, rfl⟩ := trodVars_none hV
  have k0 := h0
  have lt0 : ∀ x ∈ p0, x.block < W.heap.size := by obtain ⟨m, hm⟩ := k0; exact DataW.trod_lt m _ _ _ hm
  obtain ⟨cs0, rfl, _⟩ := okWide_struct Try.underlying32 (hval 0 32 v0 rfl rfl)
  obtain ⟨fuel0, hf0⟩ := h0
  obtain ⟨x_0_own_mode, x_0_own_win, x_0_own_mps, x_0_own_mtu, x_0_own_try, x_0_asks_mode, x_0_asks_win, x_0_asks_mps, x_0_asks_mtu, x_0_asks_try, x_0_mine_mode, x_0_mine_win, x_0_mine_mps, x_0_mine_mtu, x_0_mine_try, x_0_yours_mode, x_0_yours_win, x_0_yours_mps, x_0_yours_mtu, x_0_yours_try, x_0_fails, e0, w0_0, w0_1, w0_2, w0_3, w0_4, w0_5, w0_6, w0_7, w0_8, w0_9, w0_10, w0_11, w0_12, w0_13, w0_14, w0_15, w0_16, w0_17, w0_18, w0_19⟩ := opn_NegState hf0
  obtain rfl : cs0 = #[.int .i64 x_0_own_mode, .int .i64 x_0_own_win, .int .i64 x_0_own_mps, .int .i64 x_0_own_mtu, .int .i64 x_0_own_try, .int .i64 x_0_asks_mode, .int .i64 x_0_asks_win, .int .i64 x_0_asks_mps, .int .i64 x_0_asks_mtu, .int .i64 x_0_asks_try, .int .i64 x_0_mine_mode, .int .i64 x_0_mine_win, .int .i64 x_0_mine_mps, .int .i64 x_0_mine_mtu, .int .i64 x_0_mine_try, .int .i64 x_0_yours_mode, .int .i64 x_0_yours_win, .int .i64 x_0_yours_mps, .int .i64 x_0_yours_mtu, .int .i64 x_0_yours_try, .bool x_0_fails] := by cases cs0; simpa [Value.cells] using e0
  clear hA0 hval0
  refine (walk x_0_own_mode x_0_own_win x_0_own_mps x_0_own_mtu x_0_own_try x_0_asks_mode x_0_asks_win x_0_asks_mps x_0_asks_mtu x_0_asks_try x_0_mine_mode x_0_mine_win x_0_mine_mps x_0_mine_mtu x_0_mine_try x_0_yours_mode x_0_yours_win x_0_yours_mps x_0_yours_mtu x_0_yours_try x_0_fails W ).mono fun e W' ⟨he, bel⟩ => ?_
  subst he
  exact ⟨_, rfl, _, _, _, [], _, [], hW', trodAll_mk1 (shut_bool Try.underlying4 _), (trodAll_cons_mk (Below.trod laidOut (by kernel_rfl) (of_decide_eq_true (by kernel_rfl)) k0 bel lt0) trodAll_mk0), rfl, bel.frame _, fun h => by cases h⟩

theorem over : Rows.fnExactNegOkRow.holds Try.pinned (OpenSpec.ofChange Rows.fnExactNegOkSpec) :=
  OpenClaim.holds_of_wide 4 Try.f4 rfl rfl rfl rfl rfl rfl rfl ⟨rfl, rfl, rfl, rfl, rfl⟩ rfl rfl rfl rfl rfl (by kernel_rfl) Try.func4 (by kernel_rfl)
    (of_decide_eq_true (by kernel_rfl)) (by unfold Func.isWrapper; first | (rw [if_pos (by decide +kernel)]; kernel_rfl) | (rw [if_neg (by decide +kernel)]; exact ⟨rfl, rfl⟩))
    (fun os started H enc _ => lifted os started H enc)

theorem proved : Rows.FnExactNegOkSaid := over
#print axioms proved
end Go.Proofs.Ytmciofamcdekaaa.fnExactNegOk
