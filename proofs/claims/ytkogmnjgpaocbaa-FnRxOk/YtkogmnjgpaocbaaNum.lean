/- Numbers that come round: what the program's and the specification's functions answer, at every number; the world stays. -/
import Derived.Test.YtkogmnjgpaocbaaIsNum
namespace Go.Proofs.Ytkogmnjgpaocbaa
open Go.RowKit

theorem tmod8 (n : Int) : n.tmod 8 = if 0 ≤ n ∨ n % 8 = 0 then n % 8 else n % 8 - 8 := by
  rw [Int.tmod_eq_emod]
  split <;> split <;> omega

theorem impl_round (n : Int) (w : World) :
    Calls Try.prog 87 #[.int .i64 n] w fun e w' => e = .returned (.int .i64 (n % 8)) ∧ w' = w := by
  have ht := tmod8 n
  by_cases h : 0 ≤ n ∨ n % 8 = 0
  · rw [if_pos h] at ht
    go_enter Try.func87, Try.ntmps87
    go_wp2
    all_goals (go_ret; refine ⟨ret_int ?_, rfl⟩; omega)
  · rw [if_neg h] at ht
    go_enter Try.func87, Try.ntmps87
    go_wp2
    all_goals (go_ret; refine ⟨ret_int ?_, rfl⟩; omega)

theorem impl_farto (a b : Int) (ha : 0 ≤ a ∧ a < 8) (hb : 0 ≤ b ∧ b < 8) (w : World) :
    Calls Try.prog 110 #[.int .i64 a, .int .i64 b] w fun e w' => e = .returned (.int .i64 ((b - a) % 8)) ∧ w' = w := by
  go_enter Try.func110, Try.ntmps110
  go_wp2_with (go_at_call 87; refine (impl_round _ _).mono ?_; rintro e w' ⟨rfl, rfl⟩)
  go_ret
  exact ⟨ret_int (by omega), rfl⟩

theorem impl_far (a b : Int) (ha : 0 ≤ a ∧ a < 8) (hb : 0 ≤ b ∧ b < 8) (w : World) :
    Calls Try.prog 83 #[.int .i64 a, .int .i64 b] w fun e w' => e = .returned (.int .i64 ((b - a) % 8)) ∧ w' = w := by
  have h1 : inB a 0 7 = true := (inB_iff _ _ _).2 (by omega)
  have h2 : inB b 0 7 = true := (inB_iff _ _ _).2 (by omega)
  go_enter Try.func83, Try.ntmps83
  go_wp2_with (first
    | (go_at_call 109; refine (number_any _ _).mono ?_; rintro e w' ⟨rfl, rfl⟩)
    | (go_at_call 110; refine (impl_farto _ _ ha hb _).mono ?_; rintro e w' ⟨rfl, rfl⟩))
  all_goals (go_ret; exact ⟨rfl, rfl⟩)
theorem impl_far_no (a b : Int) (h : inB a 0 7 = false ∨ inB b 0 7 = false) (w : World) :
    Calls Try.prog 83 #[.int .i64 a, .int .i64 b] w fun e w' => e = .returned (.int .i64 (-1)) ∧ w' = w := by
  cases h1 : inB a 0 7
  · go_enter Try.func83, Try.ntmps83
    go_wp2_with (go_at_call 109; refine (number_any _ _).mono ?_; rintro e w' ⟨rfl, rfl⟩)
    go_ret
    exact ⟨rfl, rfl⟩
  · have h2 : inB b 0 7 = false := by simpa [h1] using h
    go_enter Try.func83, Try.ntmps83
    go_wp2_with (go_at_call 109; refine (number_any _ _).mono ?_; rintro e w' ⟨rfl, rfl⟩)
    go_ret
    exact ⟨rfl, rfl⟩

theorem spec_far (a b : Int) (ha : 0 ≤ a ∧ a < 8) (hb : 0 ≤ b ∧ b < 8) (w : World) :
    Calls Try.prog 85 #[.int .i64 a, .int .i64 b] w fun e w' => e = .returned (.int .i64 ((b - a) % 8)) ∧ w' = w := by
  have h1 : inB a 0 7 = true := (inB_iff _ _ _).2 (by omega)
  have h2 : inB b 0 7 = true := (inB_iff _ _ _).2 (by omega)
  have ht : (b - a + 8).tmod 8 = (b - a) % 8 := by
    rw [tmod8, if_pos (by omega)]; omega
  go_enter Try.func85, Try.ntmps85
  go_wp2_with (go_at_call 56; refine (in_any _ _ _ _).mono ?_; rintro e w' ⟨rfl, rfl⟩)
  go_ret
  exact ⟨ret_int (by omega), rfl⟩
theorem spec_far_no (a b : Int) (h : inB a 0 7 = false ∨ inB b 0 7 = false) (w : World) :
    Calls Try.prog 85 #[.int .i64 a, .int .i64 b] w fun e w' => e = .returned (.int .i64 (-1)) ∧ w' = w := by
  cases h1 : inB a 0 7
  · go_enter Try.func85, Try.ntmps85
    go_wp2_with (go_at_call 56; refine (in_any _ _ _ _).mono ?_; rintro e w' ⟨rfl, rfl⟩)
    go_ret
    exact ⟨rfl, rfl⟩
  · have h2 : inB b 0 7 = false := by simpa [h1] using h
    go_enter Try.func85, Try.ntmps85
    go_wp2_with (go_at_call 56; refine (in_any _ _ _ _).mono ?_; rintro e w' ⟨rfl, rfl⟩)
    go_ret
    exact ⟨rfl, rfl⟩

theorem impl_numof (n : Int) (h : 0 ≤ n) (w : World) :
    Calls Try.prog 54 #[.int .i64 n] w fun e w' => e = .returned (.int .i64 (n % 8)) ∧ w' = w := by
  go_enter Try.func54, Try.ntmps54
  go_wp2_with (go_at_call 87; refine (impl_round _ _).mono ?_; rintro e w' ⟨rfl, rfl⟩)
  go_ret
  exact ⟨ret_int (by omega), rfl⟩
theorem impl_numof_no (n : Int) (h : n < 0) (w : World) :
    Calls Try.prog 54 #[.int .i64 n] w fun e w' => e = .returned (.int .i64 (-1)) ∧ w' = w := by
  go_enter Try.func54, Try.ntmps54
  go_wp2
  go_ret
  exact ⟨rfl, rfl⟩
theorem spec_numof (n : Int) (h : 0 ≤ n) (w : World) :
    Calls Try.prog 57 #[.int .i64 n] w fun e w' => e = .returned (.int .i64 (n % 8)) ∧ w' = w := by
  have ht : n.tmod 8 = n % 8 := by rw [tmod8, if_pos (by omega)]
  go_enter Try.func57, Try.ntmps57
  go_wp2
  go_ret
  exact ⟨ret_int (by omega), rfl⟩
theorem spec_numof_no (n : Int) (h : n < 0) (w : World) :
    Calls Try.prog 57 #[.int .i64 n] w fun e w' => e = .returned (.int .i64 (-1)) ∧ w' = w := by
  go_enter Try.func57, Try.ntmps57
  go_wp2
  go_ret
  exact ⟨rfl, rfl⟩
end Go.Proofs.Ytkogmnjgpaocbaa
