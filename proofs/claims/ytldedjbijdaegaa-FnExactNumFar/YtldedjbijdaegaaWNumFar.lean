/- The law of NumFar returns true at every two numbers: both functions answer alike. -/
import Derived.Test.YtldedjbijdaegaaNum
import Derived.RowKit3
namespace Go.Proofs.Ytldedjbijdaegaa.fnExactNumFar
open Go.RowKit
theorem both (a b : Int) (ha : 0 ≤ a ∧ a < 8) (hb : 0 ≤ b ∧ b < 8) (w : World) :
    Calls Try.prog 3 #[.int .i64 a, .int .i64 b] w fun e w' => e = .returned (.bool true) ∧ w' = w := by
  go_enter Try.func3, Try.ntmps3
  go_wp2_with (first
    | (go_at_call 5; refine (spec_far a b ha hb _).mono ?_; rintro e w' ⟨rfl, rfl⟩)
    | (go_at_call 6; refine (impl_far a b ha hb _).mono ?_; rintro e w' ⟨rfl, rfl⟩))
  go_ret
  exact ⟨rfl, rfl⟩
theorem neither (a b : Int) (h : inB a 0 7 = false ∨ inB b 0 7 = false) (w : World) :
    Calls Try.prog 3 #[.int .i64 a, .int .i64 b] w fun e w' => e = .returned (.bool true) ∧ w' = w := by
  go_enter Try.func3, Try.ntmps3
  go_wp2_with (first
    | (go_at_call 5; refine (spec_far_no a b h _).mono ?_; rintro e w' ⟨rfl, rfl⟩)
    | (go_at_call 6; refine (impl_far_no a b h _).mono ?_; rintro e w' ⟨rfl, rfl⟩))
  go_ret
  exact ⟨rfl, rfl⟩
theorem walk (a0 : Int) (a1 : Int) (_w0 : (Lit.int .i64 a0).wf = true) (_w1 : (Lit.int .i64 a1).wf = true) (w : World) :
    Calls Try.prog 3 #[.int .i64 a0, .int .i64 a1] w fun e w' => e = .returned (.bool true) ∧ Grown w w' := by
  by_cases h : inB a0 0 7 = false ∨ inB a1 0 7 = false
  · refine (neither a0 a1 h w).mono ?_
    rintro e w' ⟨rfl, rfl⟩
    exact ⟨rfl, Grown.refl _⟩
  · have h1 : inB a0 0 7 = true := by simpa using fun h1 => h (.inl h1)
    have h2 : inB a1 0 7 = true := by simpa using fun h2 => h (.inr h2)
    have h1 := (inB_iff _ _ _).1 h1
    have h2 := (inB_iff _ _ _).1 h2
    refine (both a0 a1 (by omega) (by omega) w).mono ?_
    rintro e w' ⟨rfl, rfl⟩
    exact ⟨rfl, Grown.refl _⟩
end Go.Proofs.Ytldedjbijdaegaa.fnExactNumFar
