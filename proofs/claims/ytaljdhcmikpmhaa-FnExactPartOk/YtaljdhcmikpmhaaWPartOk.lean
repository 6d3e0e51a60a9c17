/- The law of PartOk returns true at every argument. -/
import Derived.Test.YtaljdhcmikpmhaaPiece
import Derived.Test.YtaljdhcmikpmhaaXPart
import Derived.Deep.RegionLaw
namespace Go.Proofs.Ytaljdhcmikpmhaa.fnExactPartOk
open Go.RowKit
set_option maxHeartbeats 2000000 in
theorem small (seg len : Int) (a : Option Addr) (bs : List Nat) (cap : Nat) (w : World) (hl : bs.length ≤ 1048576) (hR : Rd w (.slice a bs.length cap) bs) :
    Calls Try.prog 4 #[.agg #[.int .i64 seg, .int .i64 len, .slice a bs.length cap]] w fun e w' => e = .returned (.bool true) ∧ Below w.heap.size w w' := by
  have hby := hR.1
  have hneg : ¬ (1048576 : Int) - (bs.length : Int) < 0 := by omega
  go_enter Try.func4, Try.ntmps4
  go_wp2_with fail
  refine (szPart_small _ _ _ _ _ 1048576 _ hl (by omega)).mono ?_
  rintro e w1 ⟨rfl, b1⟩
  have k1 := box_kept b1
  have R1 := hR.kept (box_below b1)
  -- the specification
  go_wp2_with fail
  refine (toPart_any _ _ _ bs _ R1).mono ?_
  rintro e w2 ⟨v2, rfl, o2, b2⟩
  have r2 := o2.rd hby (by omega)
  obtain ⟨a2, c2, rfl⟩ := r2.form
  go_wp2_with fail
  refine (spec_part _ _ _ _ _ _).mono ?_
  rintro e w3 ⟨rfl, b3⟩
  have b13 := bchain b1 (bchain b2 b3)
  have k3 := box_kept b13
  have R3 := hR.kept (box_below b13)
  -- the program
  go_wp2_with fail
  refine (toPart_any _ _ _ bs _ R3).mono ?_
  rintro e w4 ⟨v4, rfl, o4, b4⟩
  have r4 := o4.rd hby (by omega)
  obtain ⟨a4, c4, rfl⟩ := r4.form
  go_wp2_with fail
  refine (impl_part _ _ _ _ _ _).mono ?_
  rintro e w5 ⟨rfl, b5⟩
  have j5 := box_kept b5
  have b15 := bchain (bchain b13 b4) (box_below b5)
  have k5 := box_kept b15
  have R5 := (hR.kept (box_below b15)).kept (Below.refl _ _).drew
  have X5 := ((r4.kept (box_below b5))).kept (Below.refl _ _).drew
  -- the argument as it was
  go_wp2
  go_region_with (first
    | (go_at_call 17; refine (toPart_any _ _ _ bs _ R5).mono ?_; rintro e w6 ⟨v6, rfl, o6, b6⟩; have j6 := box_kept (bchain b5.drew b6); have b16 := bchain b15.drew b6; have r6 := o6.rd hby (by omega))
    | (go_at_call 19; refine (eqPart_same _ _ _ _ bs _ (X5.kept b6) r6).mono ?_; rintro e w7 ⟨rfl, b7⟩))
  all_goals
    have HB := box_below (bchain b16 b7)
    go_wp2
    go_ret
    exact ⟨rfl, HB⟩
set_option maxHeartbeats 2000000 in
theorem great (seg len : Int) (a : Option Addr) (n cap : Nat) (w : World) (h : ¬ n ≤ 1048576) (hm : n ≤ maxLen) :
    Calls Try.prog 4 #[.agg #[.int .i64 seg, .int .i64 len, .slice a n cap]] w fun e w' => e = .returned (.bool true) ∧ Below w.heap.size w w' := by
  go_enter Try.func4, Try.ntmps4
  go_wp2_with fail
  refine (szPart_great _ _ _ _ _ 1048576 _ h (by omega) hm).mono ?_
  rintro e w1 ⟨rfl, b1⟩
  go_wp2
  go_ret
  exact ⟨rfl, box_below b1⟩
theorem walk (seg len : Int) (a0 : Option Addr) (len0 cap0 : Nat) (z0 : List Int) (w : World) (w0 : IsRow .u8 w a0 len0 cap0 z0) :
    Calls Try.prog 4 #[.agg #[.int .i64 seg, .int .i64 len, .slice a0 len0 cap0]] w fun e w' => e = .returned (.bool true) ∧ Below w.heap.size w w' := by
  by_cases hs : len0 ≤ 1048576
  · obtain ⟨bs, hR, hlen⟩ := w0.rd (by omega)
    subst hlen
    exact small _ _ a0 bs cap0 w hs hR
  · refine great _ _ a0 len0 cap0 w hs ?_
    rcases w0 with ⟨_, rfl, _⟩ | ⟨x, _, h1, h2, _⟩
    · simp [maxLen]
    · omega
end Go.Proofs.Ytaljdhcmikpmhaa.fnExactPartOk
