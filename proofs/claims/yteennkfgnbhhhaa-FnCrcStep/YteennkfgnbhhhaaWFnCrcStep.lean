/- The law of CrcStep, promise 11, returns true at every two codes. -/
import Derived.Test.YteennkfgnbhhhaaDrawStep
import Derived.Test.YteennkfgnbhhhaaCrcStep
import Derived.Test.YteennkfgnbhhhaaLiOk
import Derived.RowKit3
namespace Go.Proofs.Yteennkfgnbhhhaa.fnCrcStep
open Go.RowKit

/-- The sum behind a byte, at every number. -/
def stepF (s : Int) (b : Nat) : Int := if 0 ≤ s ∧ s ≤ 65535 then ((CrcM.stp s.toNat b : Nat) : Int) else -1
theorem impl_step_any (s : Int) (b : Nat) (hb : b < 256) (w : World) :
    Calls Try.prog 26 #[.int .i64 s, .int .u8 (b : Int)] w fun e w' => e = .returned (.int .i64 (stepF s b)) ∧ w' = w := by
  by_cases h : 0 ≤ s ∧ s ≤ 65535
  · rw [stepF, if_pos h]
    obtain ⟨n, rfl⟩ := Int.eq_ofNat_of_zero_le h.1
    exact impl_step n b (by omega) hb w
  · rw [stepF, if_neg h]
    exact impl_step_no s b (by omega) w
theorem spec_step_any (s : Int) (b : Nat) (hb : b < 256) (w : World) :
    Calls Try.prog 27 #[.int .i64 s, .int .u8 (b : Int)] w fun e w' => e = .returned (.int .i64 (stepF s b)) ∧ w' = w := by
  by_cases h : 0 ≤ s ∧ s ≤ 65535
  · rw [stepF, if_pos h]
    obtain ⟨n, rfl⟩ := Int.eq_ofNat_of_zero_le h.1
    exact spec_step n b (by omega) hb w
  · rw [stepF, if_neg h]
    exact spec_step_no s b (by omega) w
theorem stepF_byte {s : Int} {b c : Nat} (h : 0 ≤ s ∧ s ≤ 65535) (hb : b < 256) (hc : c < 256) : (stepF s c == stepF s b) = decide (b = c) := by
  rw [stepF, stepF, if_pos h, if_pos h, Bool.eq_iff_iff, beq_iff_eq, decide_eq_true_eq]
  constructor
  · intro e
    exact (CrcM.stp_inj_right (s := s.toNat) (by omega) hc hb (by omega)).symm
  · rintro rfl
    rfl
theorem stepF_sum {s t : Int} {b : Nat} (h : 0 ≤ s ∧ s ≤ 65535) (h' : 0 ≤ t ∧ t ≤ 65535) (hb : b < 256) : (stepF t b == stepF s b) = decide (t = s) := by
  rw [stepF, stepF, if_pos h, if_pos h', Bool.eq_iff_iff, beq_iff_eq, decide_eq_true_eq]
  constructor
  · intro e
    have := CrcM.stp_inj_left (s := t.toNat) (t := s.toNat) (b := b) (by omega) (by omega) hb (by omega)
    omega
  · rintro rfl
    rfl

set_option maxRecDepth 100000 in
set_option maxHeartbeats 8000000 in
theorem small (a0 a1 : Option Addr) (len0 cap0 len1 cap1 : Nat) (cz mz : List Nat) (w : World) (hs0 : ¬ (1048576 : Int) < (len0 : Int)) (hs1 : ¬ (1048576 : Int) < (len1 : Int)) (hR0 : Rd w (.slice a0 len0 cap0) cz) (hR1 : Rd w (.slice a1 len1 cap1) mz) :
    Calls Try.prog 8 #[.slice a0 len0 cap0, .slice a1 len1 cap1] w fun e w' => e = .returned (.bool true) ∧ Below w.heap.size w w' := by
  go_enter Try.func8, Try.ntmps8
  go_wp2_with fail
  refine (drawStep_any _ cz _ hR0).mono ?_
  rintro e w1 ⟨s, b, rfl, hs, hb, bl⟩
  go_wp2_with fail
  refine (drawStep_any _ mz _ (hR1.kept bl)).mono ?_
  rintro e w2 ⟨t, c, rfl, ht, hc, b2⟩
  replace bl := bchain bl b2
  clear b2 hR0 hR1
  by_cases hin : 0 ≤ s ∧ s ≤ 65535
  · have h1 : ¬ s < 0 := by omega
    have h2 : ¬ 65535 < s := by omega
    have hF : 0 ≤ stepF s b ∧ stepF s b ≤ 65535 := by
      rw [stepF, if_pos hin]
      have := CrcM.stp_lt (s := s.toNat) (b := b) (by omega) hb
      omega
    have h3 : ¬ stepF s b < 0 := by omega
    have h4 : ¬ 65535 < stepF s b := by omega
    by_cases hbc : b = c
    · subst hbc
      by_cases h5 : t < 0
      · go_wp2_with (first
          | (go_at_call 26; refine (impl_step_any _ _ (by assumption) _).mono ?_; rintro e w' ⟨rfl, rfl⟩)
          | (go_at_call 27; refine (spec_step_any _ _ (by assumption) _).mono ?_; rintro e w' ⟨rfl, rfl⟩))
        all_goals first | (exfalso; omega) | (go_ret; exact ⟨by first | rfl | simp_all, bl⟩)
      · by_cases h6 : 65535 < t
        · go_wp2_with (first
            | (go_at_call 26; refine (impl_step_any _ _ (by assumption) _).mono ?_; rintro e w' ⟨rfl, rfl⟩)
            | (go_at_call 27; refine (spec_step_any _ _ (by assumption) _).mono ?_; rintro e w' ⟨rfl, rfl⟩))
          all_goals first | (exfalso; omega) | (go_ret; exact ⟨by first | rfl | simp_all, bl⟩)
        · by_cases hts : t = s
          · subst hts
            go_wp2_with (first
              | (go_at_call 26; refine (impl_step_any _ _ (by assumption) _).mono ?_; rintro e w' ⟨rfl, rfl⟩)
              | (go_at_call 27; refine (spec_step_any _ _ (by assumption) _).mono ?_; rintro e w' ⟨rfl, rfl⟩))
            all_goals first | (exfalso; omega) | (go_ret; exact ⟨by first | rfl | simp_all, bl⟩)
          · have hS : (stepF t b == stepF s b) = false := by rw [stepF_sum (s := s) (t := t) (b := b) hin (by omega) hb]; simp [hts]
            have hT : (t == s) = false := beq_eq_false_iff_ne.2 hts
            go_wp2_with (first
              | (go_at_call 26; refine (impl_step_any _ _ (by assumption) _).mono ?_; rintro e w' ⟨rfl, rfl⟩)
              | (go_at_call 27; refine (spec_step_any _ _ (by assumption) _).mono ?_; rintro e w' ⟨rfl, rfl⟩))
            all_goals first | (exfalso; omega) | (go_ret; exact ⟨by first | rfl | simp_all, bl⟩)
    · have hB : (stepF s c == stepF s b) = false := by rw [stepF_byte (s := s) hin hb hc]; simp [hbc]
      have hE : ((b : Int) == (c : Int)) = false := beq_eq_false_iff_ne.2 (by omega)
      by_cases h5 : t < 0
      · go_wp2_with (first
          | (go_at_call 26; refine (impl_step_any _ _ (by assumption) _).mono ?_; rintro e w' ⟨rfl, rfl⟩)
          | (go_at_call 27; refine (spec_step_any _ _ (by assumption) _).mono ?_; rintro e w' ⟨rfl, rfl⟩))
        all_goals first | (exfalso; omega) | (go_ret; exact ⟨by first | rfl | simp_all, bl⟩)
      · by_cases h6 : 65535 < t
        · go_wp2_with (first
            | (go_at_call 26; refine (impl_step_any _ _ (by assumption) _).mono ?_; rintro e w' ⟨rfl, rfl⟩)
            | (go_at_call 27; refine (spec_step_any _ _ (by assumption) _).mono ?_; rintro e w' ⟨rfl, rfl⟩))
          all_goals first | (exfalso; omega) | (go_ret; exact ⟨by first | rfl | simp_all, bl⟩)
        · by_cases hts : t = s
          · subst hts
            go_wp2_with (first
              | (go_at_call 26; refine (impl_step_any _ _ (by assumption) _).mono ?_; rintro e w' ⟨rfl, rfl⟩)
              | (go_at_call 27; refine (spec_step_any _ _ (by assumption) _).mono ?_; rintro e w' ⟨rfl, rfl⟩))
            all_goals first | (exfalso; omega) | (go_ret; exact ⟨by first | rfl | simp_all, bl⟩)
          · have hS : (stepF t b == stepF s b) = false := by rw [stepF_sum (s := s) (t := t) (b := b) hin (by omega) hb]; simp [hts]
            have hT : (t == s) = false := beq_eq_false_iff_ne.2 hts
            go_wp2_with (first
              | (go_at_call 26; refine (impl_step_any _ _ (by assumption) _).mono ?_; rintro e w' ⟨rfl, rfl⟩)
              | (go_at_call 27; refine (spec_step_any _ _ (by assumption) _).mono ?_; rintro e w' ⟨rfl, rfl⟩))
            all_goals first | (exfalso; omega) | (go_ret; exact ⟨by first | rfl | simp_all, bl⟩)
  · have hF : stepF s b = -1 := by rw [stepF, if_neg hin]
    by_cases h1 : s < 0
    all_goals
      try have h2 : 65535 < s := by omega
      go_wp2_with (first
        | (go_at_call 26; refine (impl_step_any _ _ (by assumption) _).mono ?_; rintro e w' ⟨rfl, rfl⟩; rw [hF])
        | (go_at_call 27; refine (spec_step_any _ _ (by assumption) _).mono ?_; rintro e w' ⟨rfl, rfl⟩; rw [hF])
        | (go_at_call 12; refine (li_ok _).mono ?_; rintro e w3 ⟨rfl, b3⟩))
      go_ret
      exact ⟨rfl, bchain bl b3⟩
theorem walk (a0 : Option Addr) (len0 cap0 : Nat) (z0 : List Int) (a1 : Option Addr) (len1 cap1 : Nat) (z1 : List Int) (w : World) (w0 : IsRow .u8 w a0 len0 cap0 z0) (w1 : IsRow .u8 w a1 len1 cap1 z1) :
    Calls Try.prog 8 #[.slice a0 len0 cap0, .slice a1 len1 cap1] w fun e w' => e = .returned (.bool true) ∧ Below w.heap.size w w' := by
  by_cases hs0 : (1048576 : Int) < (len0 : Int)
  · go_enter Try.func8, Try.ntmps8
    go_wp2
    go_ret
    exact ⟨rfl, Below.refl _ _⟩
  · by_cases hs1 : (1048576 : Int) < (len1 : Int)
    · go_enter Try.func8, Try.ntmps8
      go_wp2
      go_ret
      exact ⟨rfl, Below.refl _ _⟩
    · obtain ⟨cz, hR0, _⟩ := w0.rd (by omega)
      obtain ⟨mz, hR1, _⟩ := w1.rd (by omega)
      exact small a0 a1 len0 cap0 len1 cap1 cz mz w hs0 hs1 hR0 hR1
end Go.Proofs.Yteennkfgnbhhhaa.fnCrcStep
