/- What has come of a message: when it is ok, of the program and of the specification. -/
import Derived.Test.YtpdndapegiglcaaFrmMath
import Derived.Deep.Light
namespace Go.Proofs.Ytpdndapegiglcaa
open Go.RowKit

/-- What has come of a message is ok. -/
def joinB (len : Int) (n : Nat) : Bool := decide ((len = 0 ∧ n = 0) ∨ (2 ≤ len ∧ len ≤ 24 ∧ 1 ≤ n ∧ (n : Int) < len))
set_option maxHeartbeats 1000000 in
theorem impl_join (len : Int) (a : Option Addr) (n cap : Nat) (w : World) :
    Calls Try.prog 28 #[.agg #[.int .i64 len, .slice a n cap]] w fun e w' => e = .returned (.bool (joinB len n)) ∧ Below w.heap.size w w' := by
  go_enter Try.func28, Try.ntmps28
  go_wp2
  all_goals
    go_ret
    refine ⟨ret_bool ?_, (Below.refl _ _).alloc (Nat.le_refl _) _⟩
    go_light
    rw [Bool.eq_iff_iff]
    simp only [joinB, decide_eq_true_eq]
    grind
set_option maxHeartbeats 1000000 in
theorem spec_join (len : Int) (a : Option Addr) (n cap : Nat) (w : World) :
    Calls Try.prog 24 #[.agg #[.int .i64 len, .slice a n cap]] w fun e w' => e = .returned (.bool (joinB len n)) ∧ Below w.heap.size w w' := by
  have hw : 2 ≤ len ∧ len ≤ 24 → wrap64 (len + -1) = len + -1 := by
    intro h
    unfold wrap64
    omega
  go_enter Try.func24, Try.ntmps24
  go_wp2_with (go_at_call 22; refine (in_any _ _ _ _).mono ?_; rintro e w' ⟨rfl, rfl⟩)
  all_goals
    go_ret
    refine ⟨ret_bool ?_, (Below.refl _ _).alloc (Nat.le_refl _) _⟩
    go_light
    rw [Bool.eq_iff_iff]
    simp only [joinB, inB_iff, decide_eq_true_eq, beq_iff_eq, Bool.false_eq_true, true_iff, false_iff] at *
    grind
end Go.Proofs.Ytpdndapegiglcaa
