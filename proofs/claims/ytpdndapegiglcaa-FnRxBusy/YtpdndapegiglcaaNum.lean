/- Numbers that come round: what the program's and the specification's functions answer, at every number; the world stays. -/
import Derived.Test.YtpdndapegiglcaaIsNum
namespace Go.Proofs.Ytpdndapegiglcaa
open Go.RowKit

theorem tmod8 (n : Int) : n.tmod 8 = if 0 ≤ n ∨ n % 8 = 0 then n % 8 else n % 8 - 8 := by
  rw [Int.tmod_eq_emod]
  split <;> split <;> omega

theorem impl_round (n : Int) (w : World) :
    Calls Try.prog 36 #[.int .i64 n] w fun e w' => e = .returned (.int .i64 (n % 8)) ∧ w' = w := by
  have ht := tmod8 n
  by_cases h : 0 ≤ n ∨ n % 8 = 0
  · rw [if_pos h] at ht
    go_enter Try.func36, Try.ntmps36
    go_wp2
    all_goals (go_ret; refine ⟨ret_int ?_, rfl⟩; omega)
  · rw [if_neg h] at ht
    go_enter Try.func36, Try.ntmps36
    go_wp2
    all_goals (go_ret; refine ⟨ret_int ?_, rfl⟩; omega)

theorem impl_numof (n : Int) (h : 0 ≤ n) (w : World) :
    Calls Try.prog 27 #[.int .i64 n] w fun e w' => e = .returned (.int .i64 (n % 8)) ∧ w' = w := by
  go_enter Try.func27, Try.ntmps27
  go_wp2_with (go_at_call 36; refine (impl_round _ _).mono ?_; rintro e w' ⟨rfl, rfl⟩)
  go_ret
  exact ⟨ret_int (by omega), rfl⟩
theorem impl_numof_no (n : Int) (h : n < 0) (w : World) :
    Calls Try.prog 27 #[.int .i64 n] w fun e w' => e = .returned (.int .i64 (-1)) ∧ w' = w := by
  go_enter Try.func27, Try.ntmps27
  go_wp2
  go_ret
  exact ⟨rfl, rfl⟩
theorem spec_numof (n : Int) (h : 0 ≤ n) (w : World) :
    Calls Try.prog 23 #[.int .i64 n] w fun e w' => e = .returned (.int .i64 (n % 8)) ∧ w' = w := by
  have ht : n.tmod 8 = n % 8 := by rw [tmod8, if_pos (by omega)]
  go_enter Try.func23, Try.ntmps23
  go_wp2
  go_ret
  exact ⟨ret_int (by omega), rfl⟩
theorem spec_numof_no (n : Int) (h : n < 0) (w : World) :
    Calls Try.prog 23 #[.int .i64 n] w fun e w' => e = .returned (.int .i64 (-1)) ∧ w' = w := by
  go_enter Try.func23, Try.ntmps23
  go_wp2
  go_ret
  exact ⟨rfl, rfl⟩
end Go.Proofs.Ytpdndapegiglcaa
