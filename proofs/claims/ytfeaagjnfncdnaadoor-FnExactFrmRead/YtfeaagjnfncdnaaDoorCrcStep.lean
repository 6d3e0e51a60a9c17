/- CrcStep of the specification and of the program: both answer the same number, at every sum and every byte; the world stays. -/
import Derived.Test.YtfeaagjnfncdnaaDoorRows
import Derived.Test.YtfeaagjnfncdnaaDoorCrcMath
import Derived.WalkKit
import Derived.WalkLawsBesides
import Derived.WalkSpells
namespace Go.Proofs.YtfeaagjnfncdnaaDoor
open Go.RowKit

theorem i64_xor_nat (a b : Nat) (ha : a < 9223372036854775808) (hb : b < 9223372036854775808) : bits .xor .i64 (a : Int) (b : Int) = ((a ^^^ b : Nat) : Int) := by
  have hx : a ^^^ b < 2 ^ 63 := Nat.xor_lt_two_pow (by omega) (by omega)
  have h1 : (BitVec.ofInt 64 (a : Int)).toNat = a := by
    rw [BitVec.ofInt_natCast, BitVec.toNat_ofNat]; exact Nat.mod_eq_of_lt (by omega)
  have h2 : (BitVec.ofInt 64 (b : Int)).toNat = b := by
    rw [BitVec.ofInt_natCast, BitVec.toNat_ofNat]; exact Nat.mod_eq_of_lt (by omega)
  show IntKind.i64.wrap ((BitVec.ofInt 64 (a : Int) ^^^ BitVec.ofInt 64 (b : Int)).toNat : Int) = _
  rw [BitVec.toNat_xor, h1, h2]
  simp [IntKind.wrap, IntKind.bits, IntKind.signed]
  omega

theorem ret_int {k : IntKind} {a b : Int} (h : a = b) : Ending.returned (.int k a) = .returned (.int k b) := by rw [h]

theorem in_yes (n lo hi : Int) (h1 : lo ≤ n) (h2 : n ≤ hi) (w : World) :
    Calls Tryd.prog 20 #[.int .i64 n, .int .i64 lo, .int .i64 hi] w fun e w' => e = .returned (.bool true) ∧ w' = w := by
  go_enter Tryd.func20, Tryd.ntmps20
  go_wp2
  go_ret
  exact ⟨rfl, rfl⟩
theorem in_low (n lo hi : Int) (h1 : n < lo) (w : World) :
    Calls Tryd.prog 20 #[.int .i64 n, .int .i64 lo, .int .i64 hi] w fun e w' => e = .returned (.bool false) ∧ w' = w := by
  have h1' : ¬ lo ≤ n := by omega
  go_enter Tryd.func20, Tryd.ntmps20
  go_wp2
  go_ret
  exact ⟨rfl, rfl⟩
theorem in_high (n lo hi : Int) (h0 : lo ≤ n) (h1 : hi < n) (w : World) :
    Calls Tryd.prog 20 #[.int .i64 n, .int .i64 lo, .int .i64 hi] w fun e w' => e = .returned (.bool false) ∧ w' = w := by
  have h1' : ¬ n ≤ hi := by omega
  go_enter Tryd.func20, Tryd.ntmps20
  go_wp2
  go_ret
  exact ⟨rfl, rfl⟩
theorem in_no (n lo hi : Int) (h : n < lo ∨ hi < n) (w : World) :
    Calls Tryd.prog 20 #[.int .i64 n, .int .i64 lo, .int .i64 hi] w fun e w' => e = .returned (.bool false) ∧ w' = w := by
  by_cases h1 : n < lo
  · exact in_low n lo hi h1 w
  · exact in_high n lo hi (by omega) (by omega) w

set_option maxHeartbeats 400000 in
theorem spec_step (s b : Nat) (hs : s < 65536) (hb : b < 256) (w : World) :
    Calls Tryd.prog 27 #[.int .i64 s, .int .u8 b] w fun e w' => e = .returned (.int .i64 (CrcM.stp s b)) ∧ w' = w := by
  have hx := i64_xor_nat s b (by omega) (by omega)
  have hlt : s ^^^ b < 65536 := Nat.xor_lt_two_pow (n := 16) hs (by omega)
  go_enter Tryd.func27, Tryd.ntmps27
  go_wp2_with (go_at_call 20; refine (in_yes _ _ _ (by omega) (by omega) _).mono ?_; rintro e w' ⟨rfl, rfl⟩)
  clear hx
  go_loop [0, 5] (fun x i => ∃ k : Nat, k ≤ 8 ∧ i = .int .i64 k ∧ x = .int .i64 (CrcM.it k (s ^^^ b))) (fun _ i => 8 - (intOf i).toNat)
  case atStart => exact ⟨0, Nat.zero_le _, rfl, rfl⟩
  case round =>
    obtain ⟨k, hk, rfl, rfl⟩ := hrel
    by_cases hk8 : k < 8
    · have hX := CrcM.it_lt k hlt
      have HS : Hid (CrcM.it (k + 1) (s ^^^ b) = CrcM.half (CrcM.it k (s ^^^ b))) := rfl
      generalize CrcM.it k (s ^^^ b) = X at *
      have hx2 : bits .xor .i64 ((X : Int) / 2) 40961 = ((X / 2 ^^^ 40961 : Nat) : Int) := i64_xor_nat (X / 2) 40961 (by omega) (by decide)
      by_cases ho : X % 2 = 1
      · have HH : Hid (CrcM.half X = X / 2 ^^^ 40961) := by unfold CrcM.half; exact if_pos ho
        have ho' : (X : Int) % 2 = 1 := by omega
        clear ho
        go_wp2
        go_round
        case rel => exact ⟨k + 1, by omega, by go_num, by rw [HS.out, HH.out]⟩
        case measure => simp [intOf]; omega
      · have HH : Hid (CrcM.half X = X / 2) := by unfold CrcM.half; exact if_neg ho
        have ho' : (X : Int) % 2 = 0 := by omega
        clear ho
        go_wp2
        go_round
        case rel => exact ⟨k + 1, by omega, by go_num, by rw [HS.out, HH.out]; go_num⟩
        case measure => simp [intOf]; omega
    · have : k = 8 := by omega
      subst this
      go_wp2
      go_ret
      exact ⟨rfl, rfl⟩

set_option maxHeartbeats 400000 in
theorem spec_step_no (s : Int) (b : Nat) (hs : s < 0 ∨ 65535 < s) (w : World) :
    Calls Tryd.prog 27 #[.int .i64 s, .int .u8 b] w fun e w' => e = .returned (.int .i64 (-1)) ∧ w' = w := by
  go_enter Tryd.func27, Tryd.ntmps27
  go_wp2_with (go_at_call 20; refine (in_no _ _ _ hs _).mono ?_; rintro e w' ⟨rfl, rfl⟩)
  go_ret
  exact ⟨rfl, rfl⟩

set_option maxHeartbeats 400000 in
theorem impl_step (s b : Nat) (hs : s < 65536) (hb : b < 256) (w : World) :
    Calls Tryd.prog 31 #[.int .i64 s, .int .u8 b] w fun e w' => e = .returned (.int .i64 (CrcM.stp s b)) ∧ w' = w := by
  have hx := i64_xor_nat s b (by omega) (by omega)
  have hlt : s ^^^ b < 65536 := Nat.xor_lt_two_pow (n := 16) hs (by omega)
  have hs1 : ¬ (s : Int) < 0 := by omega
  have hs2 : ¬ (65535 : Int) < (s : Int) := by omega
  go_enter Tryd.func31, Tryd.ntmps31
  go_wp2
  clear hx
  go_loop [0, 16] (fun x i => ∃ k : Nat, k ≤ 8 ∧ i = .int .i64 k ∧ x = .int .i64 (CrcM.it k (s ^^^ b))) (fun _ i => 8 - (intOf i).toNat)
  case atStart => exact ⟨0, Nat.zero_le _, rfl, rfl⟩
  case round =>
    obtain ⟨k, hk, rfl, rfl⟩ := hrel
    by_cases hk8 : k < 8
    · have hX := CrcM.it_lt k hlt
      have HS : Hid (CrcM.it (k + 1) (s ^^^ b) = CrcM.half (CrcM.it k (s ^^^ b))) := rfl
      generalize CrcM.it k (s ^^^ b) = X at *
      have hx2 : bits .xor .i64 ((X : Int) / 2) 40961 = ((X / 2 ^^^ 40961 : Nat) : Int) := i64_xor_nat (X / 2) 40961 (by omega) (by decide)
      by_cases ho : X % 2 = 1
      · have HH : Hid (CrcM.half X = X / 2 ^^^ 40961) := by unfold CrcM.half; exact if_pos ho
        have ho' : (X : Int) % 2 = 1 := by omega
        clear ho
        go_wp2
        go_round
        case rel => exact ⟨k + 1, by omega, by go_num, by rw [HS.out, HH.out]⟩
        case measure => simp [intOf]; omega
      · have HH : Hid (CrcM.half X = X / 2) := by unfold CrcM.half; exact if_neg ho
        have ho' : (X : Int) % 2 = 0 := by omega
        clear ho
        go_wp2
        go_round
        case rel => exact ⟨k + 1, by omega, by go_num, by rw [HS.out, HH.out]; go_num⟩
        case measure => simp [intOf]; omega
    · have : k = 8 := by omega
      subst this
      go_wp2
      go_ret
      exact ⟨rfl, rfl⟩

set_option maxHeartbeats 400000 in
theorem impl_step_no (s : Int) (b : Nat) (hs : s < 0 ∨ 65535 < s) (w : World) :
    Calls Tryd.prog 31 #[.int .i64 s, .int .u8 b] w fun e w' => e = .returned (.int .i64 (-1)) ∧ w' = w := by
  by_cases h1 : s < 0
  · go_enter Tryd.func31, Tryd.ntmps31
    go_wp2
    go_ret
    exact ⟨rfl, rfl⟩
  · have h2 : 65535 < s := by omega
    go_enter Tryd.func31, Tryd.ntmps31
    go_wp2
    go_ret
    exact ⟨rfl, rfl⟩
end Go.Proofs.YtfeaagjnfncdnaaDoor
