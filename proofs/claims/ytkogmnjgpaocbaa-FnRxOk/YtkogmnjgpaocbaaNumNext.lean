/- The number behind one, and so many on: of the program and of the specification. -/
import Derived.Test.YtkogmnjgpaocbaaNum
namespace Go.Proofs.Ytkogmnjgpaocbaa
open Go.RowKit

/-- How far it is from one number on to another one; -1 if one of both is none. -/
def farF (a b : Int) : Int := if inB a 0 7 && inB b 0 7 then (b - a) % 8 else -1
theorem farF_in {a b : Int} (ha : 0 ≤ a ∧ a < 8) (hb : 0 ≤ b ∧ b < 8) : farF a b = (b - a) % 8 := by
  have h1 : inB a 0 7 = true := (inB_iff _ _ _).2 (by omega)
  have h2 : inB b 0 7 = true := (inB_iff _ _ _).2 (by omega)
  simp [farF, h1, h2]
theorem farF_out {a b : Int} (h : inB a 0 7 = false ∨ inB b 0 7 = false) : farF a b = -1 := by
  rcases h with h | h <;> simp [farF, h]
theorem far_cases (a b : Int) : ((0 ≤ a ∧ a < 8) ∧ (0 ≤ b ∧ b < 8) ∧ farF a b = (b - a) % 8) ∨ ((inB a 0 7 = false ∨ inB b 0 7 = false) ∧ farF a b = -1 ∧ (a < 0 ∨ 8 ≤ a ∨ b < 0 ∨ 8 ≤ b)) := by
  by_cases h : inB a 0 7 = false ∨ inB b 0 7 = false
  · refine .inr ⟨h, farF_out h, ?_⟩
    simp only [inB_not] at h
    omega
  · have h1 : inB a 0 7 = true := by simpa using fun h1 => h (.inl h1)
    have h2 : inB b 0 7 = true := by simpa using fun h2 => h (.inr h2)
    rw [inB_iff] at h1 h2
    exact .inl ⟨by omega, by omega, farF_in (by omega) (by omega)⟩
theorem impl_far_any (a b : Int) (w : World) :
    Calls Try.prog 83 #[.int .i64 a, .int .i64 b] w fun e w' => e = .returned (.int .i64 (farF a b)) ∧ w' = w := by
  rcases far_cases a b with ⟨ha, hb, e⟩ | ⟨h, e, _⟩
  · rw [e]; exact impl_far a b ha hb w
  · rw [e]; exact impl_far_no a b h w
theorem spec_far_any (a b : Int) (w : World) :
    Calls Try.prog 85 #[.int .i64 a, .int .i64 b] w fun e w' => e = .returned (.int .i64 (farF a b)) ∧ w' = w := by
  rcases far_cases a b with ⟨ha, hb, e⟩ | ⟨h, e, _⟩
  · rw [e]; exact spec_far a b ha hb w
  · rw [e]; exact spec_far_no a b h w
theorem impl_on (n s : Int) (hn : 0 ≤ n ∧ n < 8) (hs : 0 ≤ s ∧ s < 100) (w : World) :
    Calls Try.prog 113 #[.int .i64 n, .int .i64 s] w fun e w' => e = .returned (.int .i64 ((n + s) % 8)) ∧ w' = w := by
  go_enter Try.func113, Try.ntmps113
  go_wp2_with (go_at_call 87; refine (impl_round _ _).mono ?_; rintro e w' ⟨rfl, rfl⟩)
  go_ret
  exact ⟨rfl, rfl⟩
theorem impl_nextm (n : Int) (hn : 0 ≤ n ∧ n < 8) (w : World) :
    Calls Try.prog 88 #[.int .i64 n] w fun e w' => e = .returned (.int .i64 ((n + 1) % 8)) ∧ w' = w := by
  go_enter Try.func88, Try.ntmps88
  go_wp2_with (go_at_call 113; refine (impl_on n 1 hn (by omega) _).mono ?_; rintro e w' ⟨rfl, rfl⟩)
  go_ret
  exact ⟨rfl, rfl⟩
theorem impl_next (n : Int) (w : World) :
    Calls Try.prog 47 #[.int .i64 n] w fun e w' => e = .returned (.int .i64 ((n + 1) % 8)) ∧ w' = w := by
  have h8 : 0 ≤ n % 8 ∧ n % 8 < 8 := by omega
  go_enter Try.func47, Try.ntmps47
  go_wp2_with (first
    | (go_at_call 87; refine (impl_round _ _).mono ?_; rintro e w' ⟨rfl, rfl⟩)
    | (go_at_call 88; refine (impl_nextm _ h8 _).mono ?_; rintro e w' ⟨rfl, rfl⟩))
  go_ret
  exact ⟨ret_int (by omega), rfl⟩
theorem spec_next (n : Int) (hn : 0 ≤ n ∧ n < 1000000) (w : World) :
    Calls Try.prog 92 #[.int .i64 n] w fun e w' => e = .returned (.int .i64 ((n + 1) % 8)) ∧ w' = w := by
  have ht : (n + 1).tmod 8 = (n + 1) % 8 := by rw [tmod8, if_pos (by omega)]
  go_enter Try.func92, Try.ntmps92
  go_wp2
  go_ret
  exact ⟨ret_int (by omega), rfl⟩
end Go.Proofs.Ytkogmnjgpaocbaa
