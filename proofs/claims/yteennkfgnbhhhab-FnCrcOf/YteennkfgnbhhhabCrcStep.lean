/- CrcStep of the specification and of the program: both answer the same number, at every sum and every byte; the world stays. -/
import Derived.Test.YteennkfgnbhhhabRows
import Derived.Test.YteennkfgnbhhhabCrcMath
import Derived.Test.YteennkfgnbhhhabIn
import Derived.WalkKit
import Derived.WalkLawsBesides
import Derived.WalkSpells
namespace Go.Proofs.Yteennkfgnbhhhab
open Go.RowKit

set_option maxHeartbeats 400000 in
theorem spec_step (s b : Nat) (hs : s < 65536) (hb : b < 256) (w : World) :
    Calls Try.prog 19 #[.int .i64 s, .int .u8 b] w fun e w' => e = .returned (.int .i64 (CrcM.stp s b)) ∧ w' = w := by
  have hx := i64_xor_nat s b (by omega) (by omega)
  have hlt : s ^^^ b < 65536 := Nat.xor_lt_two_pow (n := 16) hs (by omega)
  go_enter Try.func19, Try.ntmps19
  go_wp2_with (go_at_call 24; refine (in_yes _ _ _ (by omega) (by omega) _).mono ?_; rintro e w' ⟨rfl, rfl⟩)
  clear hx
  go_loop [0, 5] (fun x i => ∃ k : Nat, k ≤ 8 ∧ i = .int .i64 k ∧ x = .int .i64 (CrcM.it k (s ^^^ b))) (fun _ i => 8 - (intOf i).toNat)
  case atStart => exact ⟨0, Nat.zero_le _, rfl, rfl⟩
  case round =>
    obtain ⟨k, hk, rfl, rfl⟩ := hrel
    by_cases hk8 : k < 8
    · have hX := CrcM.it_lt k hlt
      have HS : Hid (CrcM.it (k + 1) (s ^^^ b) = CrcM.half (CrcM.it k (s ^^^ b))) := rfl
      generalize CrcM.it k (s ^^^ b) = X at *
      have hx2 : bits .xor .i64 ((X : Int) / 2) 40961 = ((X / 2 ^^^ 40961 : Nat) : Int) := i64_xor_nat (X / 2) 40961 (by omega) (by decide)
      by_cases ho : X % 2 = 1
      · have HH : Hid (CrcM.half X = X / 2 ^^^ 40961) := by unfold CrcM.half; exact if_pos ho
        have ho' : (X : Int) % 2 = 1 := by omega
        clear ho
        go_wp2
        go_round
        case rel => exact ⟨k + 1, by omega, by go_num, by rw [HS.out, HH.out]⟩
        case measure => simp [intOf]; omega
      · have HH : Hid (CrcM.half X = X / 2) := by unfold CrcM.half; exact if_neg ho
        have ho' : (X : Int) % 2 = 0 := by omega
        clear ho
        go_wp2
        go_round
        case rel => exact ⟨k + 1, by omega, by go_num, by rw [HS.out, HH.out]; go_num⟩
        case measure => simp [intOf]; omega
    · have : k = 8 := by omega
      subst this
      go_wp2
      go_ret
      exact ⟨rfl, rfl⟩

set_option maxHeartbeats 400000 in
theorem spec_step_no (s : Int) (b : Nat) (hs : s < 0 ∨ 65535 < s) (w : World) :
    Calls Try.prog 19 #[.int .i64 s, .int .u8 b] w fun e w' => e = .returned (.int .i64 (-1)) ∧ w' = w := by
  go_enter Try.func19, Try.ntmps19
  go_wp2_with (go_at_call 24; refine (in_no _ _ _ hs _).mono ?_; rintro e w' ⟨rfl, rfl⟩)
  go_ret
  exact ⟨rfl, rfl⟩

set_option maxHeartbeats 400000 in
theorem impl_step (s b : Nat) (hs : s < 65536) (hb : b < 256) (w : World) :
    Calls Try.prog 10 #[.int .i64 s, .int .u8 b] w fun e w' => e = .returned (.int .i64 (CrcM.stp s b)) ∧ w' = w := by
  have hx := i64_xor_nat s b (by omega) (by omega)
  have hlt : s ^^^ b < 65536 := Nat.xor_lt_two_pow (n := 16) hs (by omega)
  have hs1 : ¬ (s : Int) < 0 := by omega
  have hs2 : ¬ (65535 : Int) < (s : Int) := by omega
  go_enter Try.func10, Try.ntmps10
  go_wp2
  clear hx
  go_loop [0, 16] (fun x i => ∃ k : Nat, k ≤ 8 ∧ i = .int .i64 k ∧ x = .int .i64 (CrcM.it k (s ^^^ b))) (fun _ i => 8 - (intOf i).toNat)
  case atStart => exact ⟨0, Nat.zero_le _, rfl, rfl⟩
  case round =>
    obtain ⟨k, hk, rfl, rfl⟩ := hrel
    by_cases hk8 : k < 8
    · have hX := CrcM.it_lt k hlt
      have HS : Hid (CrcM.it (k + 1) (s ^^^ b) = CrcM.half (CrcM.it k (s ^^^ b))) := rfl
      generalize CrcM.it k (s ^^^ b) = X at *
      have hx2 : bits .xor .i64 ((X : Int) / 2) 40961 = ((X / 2 ^^^ 40961 : Nat) : Int) := i64_xor_nat (X / 2) 40961 (by omega) (by decide)
      by_cases ho : X % 2 = 1
      · have HH : Hid (CrcM.half X = X / 2 ^^^ 40961) := by unfold CrcM.half; exact if_pos ho
        have ho' : (X : Int) % 2 = 1 := by omega
        clear ho
        go_wp2
        go_round
        case rel => exact ⟨k + 1, by omega, by go_num, by rw [HS.out, HH.out]⟩
        case measure => simp [intOf]; omega
      · have HH : Hid (CrcM.half X = X / 2) := by unfold CrcM.half; exact if_neg ho
        have ho' : (X : Int) % 2 = 0 := by omega
        clear ho
        go_wp2
        go_round
        case rel => exact ⟨k + 1, by omega, by go_num, by rw [HS.out, HH.out]; go_num⟩
        case measure => simp [intOf]; omega
    · have : k = 8 := by omega
      subst this
      go_wp2
      go_ret
      exact ⟨rfl, rfl⟩

set_option maxHeartbeats 400000 in
theorem impl_step_no (s : Int) (b : Nat) (hs : s < 0 ∨ 65535 < s) (w : World) :
    Calls Try.prog 10 #[.int .i64 s, .int .u8 b] w fun e w' => e = .returned (.int .i64 (-1)) ∧ w' = w := by
  by_cases h1 : s < 0
  · go_enter Try.func10, Try.ntmps10
    go_wp2
    go_ret
    exact ⟨rfl, rfl⟩
  · have h2 : 65535 < s := by omega
    go_enter Try.func10, Try.ntmps10
    go_wp2
    go_ret
    exact ⟨rfl, rfl⟩
end Go.Proofs.Yteennkfgnbhhhab
