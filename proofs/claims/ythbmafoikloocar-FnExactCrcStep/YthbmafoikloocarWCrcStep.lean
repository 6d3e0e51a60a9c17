/- The law of CrcStep returns true at every sum and byte: both functions answer alike. -/
import Derived.Test.YthbmafoikloocarCrcStep
import Derived.RowKit3
namespace Go.Proofs.Ythbmafoikloocar.fnExactCrcStep
open Go.RowKit
theorem both (s b : Nat) (hs : s < 65536) (hb : b < 256) (w : World) :
    Calls Try.prog 5 #[.int .i64 s, .int .u8 b] w fun e w' => e = .returned (.bool true) ∧ w' = w := by
  go_enter Try.func5, Try.ntmps5
  go_wp2_with (first
    | (go_at_call 22; refine (spec_step s b hs hb _).mono ?_; rintro e w' ⟨rfl, rfl⟩)
    | (go_at_call 23; refine (impl_step s b hs hb _).mono ?_; rintro e w' ⟨rfl, rfl⟩))
  go_ret
  exact ⟨rfl, rfl⟩
theorem neither (s : Int) (b : Nat) (hs : s < 0 ∨ 65535 < s) (w : World) :
    Calls Try.prog 5 #[.int .i64 s, .int .u8 b] w fun e w' => e = .returned (.bool true) ∧ w' = w := by
  go_enter Try.func5, Try.ntmps5
  go_wp2_with (first
    | (go_at_call 22; refine (spec_step_no s b hs _).mono ?_; rintro e w' ⟨rfl, rfl⟩)
    | (go_at_call 23; refine (impl_step_no s b hs _).mono ?_; rintro e w' ⟨rfl, rfl⟩))
  go_ret
  exact ⟨rfl, rfl⟩
theorem walk (a0 : Int) (a1 : Int) (_w0 : (Lit.int .i64 a0).wf = true) (w1 : (Lit.int .u8 a1).wf = true) (w : World) :
    Calls Try.prog 5 #[.int .i64 a0, .int .u8 a1] w fun e w' => e = .returned (.bool true) ∧ Grown w w' := by
  have hb : 0 ≤ a1 ∧ a1 < 256 := by
    simp [Lit.wf, IntKind.min, IntKind.max, IntKind.bits, IntKind.signed] at w1
    omega
  obtain ⟨b, rfl⟩ := Int.eq_ofNat_of_zero_le hb.1
  by_cases h : a0 < 0 ∨ 65535 < a0
  · refine (neither a0 b h w).mono ?_
    rintro e w' ⟨rfl, rfl⟩
    exact ⟨rfl, Grown.refl _⟩
  · obtain ⟨s, rfl⟩ := Int.eq_ofNat_of_zero_le (show 0 ≤ a0 by omega)
    refine (both s b (by omega) (by omega) w).mono ?_
    rintro e w' ⟨rfl, rfl⟩
    exact ⟨rfl, Grown.refl _⟩
end Go.Proofs.Ythbmafoikloocar.fnExactCrcStep
