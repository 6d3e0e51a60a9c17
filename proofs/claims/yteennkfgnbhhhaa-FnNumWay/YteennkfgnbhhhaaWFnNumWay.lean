/- The law of ways round about, promise 68, returns true at every two codes. -/
import Derived.Test.YteennkfgnbhhhaaDrawNum
import Derived.Test.YteennkfgnbhhhaaNumNext
import Derived.Test.YteennkfgnbhhhaaLiOk
import Derived.RowKit3
namespace Go.Proofs.Yteennkfgnbhhhaa.fnNumWay
open Go.RowKit

set_option maxRecDepth 100000 in
set_option maxHeartbeats 8000000 in
theorem small (a0 a1 : Option Addr) (len0 cap0 len1 cap1 : Nat) (cz mz : List Nat) (w : World) (hs0 : ¬ (1048576 : Int) < (len0 : Int)) (hs1 : ¬ (1048576 : Int) < (len1 : Int)) (hR0 : Rd w (.slice a0 len0 cap0) cz) (hR1 : Rd w (.slice a1 len1 cap1) mz) :
    Calls Try.prog 5 #[.slice a0 len0 cap0, .slice a1 len1 cap1] w fun e w' => e = .returned (.bool true) ∧ Below w.heap.size w w' := by
  go_enter Try.func5, Try.ntmps5
  go_wp2_with fail
  refine (drawFar_any _ cz _ hR0).mono ?_
  rintro e w1 ⟨a, b, rfl, ra, rb, bl⟩
  go_wp2_with fail
  refine (drawFar_any _ mz _ (hR1.kept bl)).mono ?_
  rintro e w2 ⟨c, d, rfl, rc, rd, b2⟩
  replace bl := bchain bl b2
  by_cases hin : farF a b < 0 ∨ farF b c < 0
  · rcases hin with hin | hin
    all_goals
      go_wp2_with (first
        | (go_at_call 10; refine (impl_far_any _ _ _).mono ?_; rintro e w' ⟨rfl, rfl⟩)
        | (go_at_call 11; refine (spec_far_any _ _ _).mono ?_; rintro e w' ⟨rfl, rfl⟩)
        | (go_at_call 12; refine (li_ok _).mono ?_; rintro e w3 ⟨rfl, b3⟩))
      all_goals (go_ret; exact ⟨rfl, bchain bl b3⟩)
  · have h1 : ¬ farF a b < 0 := by omega
    have h2 : ¬ farF b c < 0 := by omega
    have hm : (farF a b + farF b c).tmod 8 = farF a c ∧ farF a b < 8 ∧ farF b c < 8 := by
      rcases far_cases a b with ⟨ha, hb, hf⟩ | ⟨_, hf, hno⟩
      · rcases far_cases b c with ⟨_, hc, hg⟩ | ⟨_, hg, hno⟩
        · rw [farF_in ha hc, hf, hg, tmod8, if_pos (by omega)]
          omega
        · omega
      · omega
    obtain ⟨hm, h3, h4⟩ := hm
    go_wp2_with (first
        | (go_at_call 10; refine (impl_far_any _ _ _).mono ?_; rintro e w' ⟨rfl, rfl⟩)
        | (go_at_call 11; refine (spec_far_any _ _ _).mono ?_; rintro e w' ⟨rfl, rfl⟩))
    all_goals (go_ret; exact ⟨by first | rfl | simp_all, bl⟩)
theorem walk (a0 : Option Addr) (len0 cap0 : Nat) (z0 : List Int) (a1 : Option Addr) (len1 cap1 : Nat) (z1 : List Int) (w : World) (w0 : IsRow .u8 w a0 len0 cap0 z0) (w1 : IsRow .u8 w a1 len1 cap1 z1) :
    Calls Try.prog 5 #[.slice a0 len0 cap0, .slice a1 len1 cap1] w fun e w' => e = .returned (.bool true) ∧ Below w.heap.size w w' := by
  by_cases hs0 : (1048576 : Int) < (len0 : Int)
  · go_enter Try.func5, Try.ntmps5
    go_wp2
    go_ret
    exact ⟨rfl, Below.refl _ _⟩
  · by_cases hs1 : (1048576 : Int) < (len1 : Int)
    · go_enter Try.func5, Try.ntmps5
      go_wp2
      go_ret
      exact ⟨rfl, Below.refl _ _⟩
    · obtain ⟨cz, hR0, _⟩ := w0.rd (by omega)
      obtain ⟨mz, hR1, _⟩ := w1.rd (by omega)
      exact small a0 a1 len0 cap0 len1 cap1 cz mz w hs0 hs1 hR0 hR1
end Go.Proofs.Yteennkfgnbhhhaa.fnNumWay
