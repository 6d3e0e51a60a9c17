/- The law of NumOf, promise 17, returns true at every code. -/
import Derived.Test.YteennkfgnbhhhaaDrawNum
import Derived.Test.YteennkfgnbhhhaaNumNext
import Derived.Test.YteennkfgnbhhhaaLiOk
import Derived.RowKit3
namespace Go.Proofs.Yteennkfgnbhhhaa.fnNumOf
open Go.RowKit

def ofF (n : Int) : Int := if n < 0 then -1 else n % 8
theorem impl_of_any (n : Int) (w : World) :
    Calls Try.prog 16 #[.int .i64 n] w fun e w' => e = .returned (.int .i64 (ofF n)) ∧ w' = w := by
  by_cases h : n < 0
  · rw [ofF, if_pos h]; exact impl_numof_no n h w
  · rw [ofF, if_neg h]; exact impl_numof n (by omega) w
theorem spec_of_any (n : Int) (w : World) :
    Calls Try.prog 17 #[.int .i64 n] w fun e w' => e = .returned (.int .i64 (ofF n)) ∧ w' = w := by
  by_cases h : n < 0
  · rw [ofF, if_pos h]; exact spec_numof_no n h w
  · rw [ofF, if_neg h]; exact spec_numof n (by omega) w

set_option maxRecDepth 100000 in
set_option maxHeartbeats 8000000 in
theorem small (a0 : Option Addr) (len0 cap0 : Nat) (cz : List Nat) (w : World) (hs0 : ¬ (1048576 : Int) < (len0 : Int)) (hR0 : Rd w (.slice a0 len0 cap0) cz) :
    Calls Try.prog 4 #[.slice a0 len0 cap0] w fun e w' => e = .returned (.bool true) ∧ Below w.heap.size w w' := by
  go_enter Try.func4, Try.ntmps4
  go_wp2_with fail
  refine (drawOf_any _ cz _ hR0).mono ?_
  rintro e w1 ⟨n, rfl, hn, bl⟩
  go_wp2_with fail
  refine (drawNext_any _ cz _ (hR0.kept bl)).mono ?_
  rintro e w2 ⟨m, rfl, hm, b2⟩
  replace bl := bchain bl b2
  have hm' : 0 ≤ m ∧ m < 1000000 := by omega
  by_cases h0 : n < 0
  · have e0 : ofF n = -1 := if_pos h0
    go_wp2_with (first
      | (go_at_call 16; refine (impl_of_any _ _).mono ?_; rintro e w' ⟨rfl, rfl⟩)
      | (go_at_call 17; refine (spec_of_any _ _).mono ?_; rintro e w' ⟨rfl, rfl⟩)
      | (go_at_call 13; refine (impl_next _ _).mono ?_; rintro e w' ⟨rfl, rfl⟩)
      | (go_at_call 18; refine (spec_next _ hm' _).mono ?_; rintro e w' ⟨rfl, rfl⟩)
      | (go_at_call 12; refine (li_ok _).mono ?_; rintro e w3 ⟨rfl, b3⟩))
    all_goals first | (exfalso; omega) | (go_ret; exact ⟨rfl, bchain bl b3⟩)
  · have e0 : ofF n = n % 8 := if_neg h0
    by_cases h1 : 1099511627776 < n
    · have et : n.tmod 8 = n % 8 := by rw [tmod8, if_pos (by omega)]
      go_wp2_with (first
      | (go_at_call 16; refine (impl_of_any _ _).mono ?_; rintro e w' ⟨rfl, rfl⟩)
      | (go_at_call 17; refine (spec_of_any _ _).mono ?_; rintro e w' ⟨rfl, rfl⟩)
      | (go_at_call 13; refine (impl_next _ _).mono ?_; rintro e w' ⟨rfl, rfl⟩)
      | (go_at_call 18; refine (spec_next _ hm' _).mono ?_; rintro e w' ⟨rfl, rfl⟩))
      all_goals first | (exfalso; omega) | (go_ret; exact ⟨by first | rfl | simp_all, bl⟩)
    · have e1 : ofF (n + 1) = (ofF n + 1) % 8 := by rw [e0, ofF, if_neg (by omega)]; omega
      have e8 : ofF (n + 8) = ofF n := by rw [e0, ofF, if_neg (by omega)]; omega
      go_wp2_with (first
      | (go_at_call 16; refine (impl_of_any _ _).mono ?_; rintro e w' ⟨rfl, rfl⟩)
      | (go_at_call 17; refine (spec_of_any _ _).mono ?_; rintro e w' ⟨rfl, rfl⟩)
      | (go_at_call 13; refine (impl_next _ _).mono ?_; rintro e w' ⟨rfl, rfl⟩)
      | (go_at_call 18; refine (spec_next _ hm' _).mono ?_; rintro e w' ⟨rfl, rfl⟩))
      all_goals first | (exfalso; omega) | (go_ret; exact ⟨by first | rfl | simp_all, bl⟩)
theorem walk (a0 : Option Addr) (len0 cap0 : Nat) (z0 : List Int) (w : World) (w0 : IsRow .u8 w a0 len0 cap0 z0) :
    Calls Try.prog 4 #[.slice a0 len0 cap0] w fun e w' => e = .returned (.bool true) ∧ Below w.heap.size w w' := by
  by_cases hs0 : (1048576 : Int) < (len0 : Int)
  · go_enter Try.func4, Try.ntmps4
    go_wp2
    go_ret
    exact ⟨rfl, Below.refl _ _⟩
  · obtain ⟨cz, hR0, _⟩ := w0.rd (by omega)
    exact small a0 len0 cap0 cz w hs0 hR0
end Go.Proofs.Yteennkfgnbhhhaa.fnNumOf
