/- The law of NumOf returns true at every number: both functions answer alike. -/
import Derived.Test.YtldedjbijdaegaaNum
import Derived.RowKit3
namespace Go.Proofs.Ytldedjbijdaegaa.fnExactNumOf
open Go.RowKit
theorem both (n : Int) (h : 0 ≤ n) (w : World) :
    Calls Try.prog 4 #[.int .i64 n] w fun e w' => e = .returned (.bool true) ∧ w' = w := by
  go_enter Try.func4, Try.ntmps4
  go_wp2_with (first
    | (go_at_call 7; refine (spec_of n h _).mono ?_; rintro e w' ⟨rfl, rfl⟩)
    | (go_at_call 8; refine (impl_of n h _).mono ?_; rintro e w' ⟨rfl, rfl⟩))
  go_ret
  exact ⟨rfl, rfl⟩
theorem neither (n : Int) (h : n < 0) (w : World) :
    Calls Try.prog 4 #[.int .i64 n] w fun e w' => e = .returned (.bool true) ∧ w' = w := by
  go_enter Try.func4, Try.ntmps4
  go_wp2_with (first
    | (go_at_call 7; refine (spec_of_no n h _).mono ?_; rintro e w' ⟨rfl, rfl⟩)
    | (go_at_call 8; refine (impl_of_no n h _).mono ?_; rintro e w' ⟨rfl, rfl⟩))
  go_ret
  exact ⟨rfl, rfl⟩
theorem walk (a0 : Int) (_w0 : (Lit.int .i64 a0).wf = true) (w : World) :
    Calls Try.prog 4 #[.int .i64 a0] w fun e w' => e = .returned (.bool true) ∧ Grown w w' := by
  by_cases h : a0 < 0
  · refine (neither a0 h w).mono ?_
    rintro e w' ⟨rfl, rfl⟩
    exact ⟨rfl, Grown.refl _⟩
  · refine (both a0 (by omega) w).mono ?_
    rintro e w' ⟨rfl, rfl⟩
    exact ⟨rfl, Grown.refl _⟩
end Go.Proofs.Ytldedjbijdaegaa.fnExactNumOf
