/- The law of NegLess, promise 74, returns true at every code. -/
import Derived.Test.YtmciofamcdekaaaDrawMeet
import Derived.Test.YtmciofamcdekaaaHearImpl
import Derived.Test.YtmciofamcdekaaaCallRow
import Derived.Test.YtmciofamcdekaaaOpenLate
import Derived.Test.YtmciofamcdekaaaLiOk
import Derived.RowKit3
namespace Go.Proofs.Ytmciofamcdekaaa.fnNegLess
open Go.RowKit
set_option maxRecDepth 100000 in
set_option maxHeartbeats 4000000 in
theorem small (a0 : Option Addr) (len0 cap0 : Nat) (cz : List Nat) (w : World) (hs0 : ¬ (1048576 : Int) < (len0 : Int)) (hR0 : Rd w (.slice a0 len0 cap0) cz) :
    Calls Try.prog 8 #[.slice a0 len0 cap0] w fun e w' => e = .returned (.bool true) ∧ Below w.heap.size w w' := by
  have b0 : Below w.heap.size w w := Below.refl _ _
  have hu := Try.underlying24
  have hg : Try.prog.eqGuardType Try.prog.depth 24 = false := by kernel_rfl
  have hp : Try.prog.stoodInHeld 24 = false := by kernel_rfl
  go_enter Try.func8, Try.ntmps8
  go_wp2_with fail
  refine (drawMeet_any _ cz _ hR0).mono ?_
  rintro e w1 ⟨x1, x2, x3, x4, x5, y1, y2, y3, y4, y5, rfl, hx, hy, bb⟩
  replace b0 := bchain b0 bb
  clear bb hR0 hx hy
  go_wp2_with (first
    | ((with_reducible refine at_new 3 24 ?_); refine box_new (d := 3) rfl rfl 24 rfl _ zero_cfg ?_; intro w' B3 bb; have n3 := b0.size;  (try have l4_3 := B4.lt); (try have l5_3 := B5.lt); (try have l7_3 := B7.lt); (try have l9_3 := B9.lt); (try have l10_3 := B10.lt); (try have l12_3 := B12.lt); (try have l13_3 := B13.lt); (try clear k3); (try clear k5); (try clear k10); (try clear k13); replace b0 := bchain b0 bb;  (try replace B4 := B4.kept bb); (try replace B5 := B5.kept bb); (try replace B7 := B7.kept bb); (try replace B9 := B9.kept bb); (try replace B10 := B10.kept bb); (try replace B12 := B12.kept bb); (try replace B13 := B13.kept bb); clear bb; (try have k3 := B3.k); (try have k5 := B5.k); (try have k10 := B10.k); (try have k13 := B13.k))
    | ((with_reducible refine at_new 4 24 ?_); refine box_new (d := 4) rfl rfl 24 rfl _ zero_cfg ?_; intro w' B4 bb; have n4 := b0.size;  (try have l3_4 := B3.lt); (try have l5_4 := B5.lt); (try have l7_4 := B7.lt); (try have l9_4 := B9.lt); (try have l10_4 := B10.lt); (try have l12_4 := B12.lt); (try have l13_4 := B13.lt); (try clear k3); (try clear k5); (try clear k10); (try clear k13); replace b0 := bchain b0 bb; (try replace B3 := B3.kept bb);  (try replace B5 := B5.kept bb); (try replace B7 := B7.kept bb); (try replace B9 := B9.kept bb); (try replace B10 := B10.kept bb); (try replace B12 := B12.kept bb); (try replace B13 := B13.kept bb); clear bb; (try have k3 := B3.k); (try have k5 := B5.k); (try have k10 := B10.k); (try have k13 := B13.k))
    | ((with_reducible refine at_load 24 ?_); refine box_load rfl 24 _ rfl _ rfl (by with_reducible assumption) Try.underlying24 rfl (by kernel_rfl) ?_)
    | ((with_reducible refine at_store 24 ?_); refine box_store rfl 24 _ _ rfl _ _ rfl rfl (by with_reducible exact B3) (by kernel_rfl) (by rfl) (by simp [Value.oneCell']) ?_; clear B3; intro w' B3 gg; (try clear k3); (try clear k5); (try clear k10); (try clear k13); replace b0 := below_at b0 gg b0.size n3; (try replace B4 := B4.grown gg (Nat.ne_of_gt l3_4)); (try replace B5 := B5.grown gg (Nat.ne_of_gt l3_5)); (try replace B7 := B7.grown gg (Nat.ne_of_gt l3_7)); (try replace B9 := B9.grown gg (Nat.ne_of_gt l3_9)); (try replace B10 := B10.grown gg (Nat.ne_of_gt l3_10)); (try replace B12 := B12.grown gg (Nat.ne_of_gt l3_12)); (try replace B13 := B13.grown gg (Nat.ne_of_gt l3_13)); clear gg; (try have k3 := B3.k); (try have k5 := B5.k); (try have k10 := B10.k); (try have k13 := B13.k))
    | ((with_reducible refine at_store 24 ?_); refine box_store rfl 24 _ _ rfl _ _ rfl rfl (by with_reducible exact B4) (by kernel_rfl) (by rfl) (by simp [Value.oneCell']) ?_; clear B4; intro w' B4 gg; (try clear k3); (try clear k5); (try clear k10); (try clear k13); replace b0 := below_at b0 gg b0.size n4; (try replace B3 := B3.grown gg (Nat.ne_of_lt l3_4)); (try replace B5 := B5.grown gg (Nat.ne_of_gt l4_5)); (try replace B7 := B7.grown gg (Nat.ne_of_gt l4_7)); (try replace B9 := B9.grown gg (Nat.ne_of_gt l4_9)); (try replace B10 := B10.grown gg (Nat.ne_of_gt l4_10)); (try replace B12 := B12.grown gg (Nat.ne_of_gt l4_12)); (try replace B13 := B13.grown gg (Nat.ne_of_gt l4_13)); clear gg; (try have k3 := B3.k); (try have k5 := B5.k); (try have k10 := B10.k); (try have k13 := B13.k)))
  cases hm : meets ⟨x1, x2, x3, x4, x5⟩ ⟨y1, y2, y3, y4, y5⟩
  · go_wp2_with (first
      | ((with_reducible refine at_load 24 ?_); refine box_load rfl 24 _ rfl _ rfl (by with_reducible assumption) Try.underlying24 rfl (by kernel_rfl) ?_))
    refine (impl_meet_no _ _ _ _ _ _ _ _ _ _ hm _).mono ?_
    rintro e w' ⟨rfl, bb⟩
    (try clear k3)
    (try clear k5)
    (try clear k10)
    (try clear k13)
    replace b0 := bchain b0 bb
    (try replace B3 := B3.kept bb)
    (try replace B4 := B4.kept bb)
    (try replace B5 := B5.kept bb)
    (try replace B7 := B7.kept bb)
    (try replace B9 := B9.kept bb)
    (try replace B10 := B10.kept bb)
    (try replace B12 := B12.kept bb)
    (try replace B13 := B13.kept bb)
    clear bb
    (try have k3 := B3.k)
    (try have k5 := B5.k)
    (try have k10 := B10.k)
    (try have k13 := B13.k)
    go_wp2_with (first
      | ((with_reducible refine at_new 5 24 ?_); refine box_new (d := 5) rfl rfl 24 rfl _ zero_cfg ?_; intro w' B5 bb; have n5 := b0.size;  (try have l3_5 := B3.lt); (try have l4_5 := B4.lt); (try have l7_5 := B7.lt); (try have l9_5 := B9.lt); (try have l10_5 := B10.lt); (try have l12_5 := B12.lt); (try have l13_5 := B13.lt); (try clear k3); (try clear k5); (try clear k10); (try clear k13); replace b0 := bchain b0 bb; (try replace B3 := B3.kept bb); (try replace B4 := B4.kept bb);  (try replace B7 := B7.kept bb); (try replace B9 := B9.kept bb); (try replace B10 := B10.kept bb); (try replace B12 := B12.kept bb); (try replace B13 := B13.kept bb); clear bb; (try have k3 := B3.k); (try have k5 := B5.k); (try have k10 := B10.k); (try have k13 := B13.k))
      | ((with_reducible refine at_load 24 ?_); refine box_load rfl 24 _ rfl _ rfl (by with_reducible assumption) Try.underlying24 rfl (by kernel_rfl) ?_)
      | ((with_reducible refine at_store 24 ?_); refine box_store rfl 24 _ _ rfl _ _ rfl rfl (by with_reducible exact B5) (by kernel_rfl) (by rfl) (by simp [Value.oneCell']) ?_; clear B5; intro w' B5 gg; (try clear k3); (try clear k5); (try clear k10); (try clear k13); replace b0 := below_at b0 gg b0.size n5; (try replace B3 := B3.grown gg (Nat.ne_of_lt l3_5)); (try replace B4 := B4.grown gg (Nat.ne_of_lt l4_5)); (try replace B7 := B7.grown gg (Nat.ne_of_gt l5_7)); (try replace B9 := B9.grown gg (Nat.ne_of_gt l5_9)); (try replace B10 := B10.grown gg (Nat.ne_of_gt l5_10)); (try replace B12 := B12.grown gg (Nat.ne_of_gt l5_12)); (try replace B13 := B13.grown gg (Nat.ne_of_gt l5_13)); clear gg; (try have k3 := B3.k); (try have k5 := B5.k); (try have k10 := B10.k); (try have k13 := B13.k)))
    refine (spec_meet_no _ _ _ _ _ _ _ _ _ _ hm _).mono ?_
    rintro e w' ⟨rfl, bb⟩
    (try clear k3)
    (try clear k5)
    (try clear k10)
    (try clear k13)
    replace b0 := bchain b0 bb
    (try replace B3 := B3.kept bb)
    (try replace B4 := B4.kept bb)
    (try replace B5 := B5.kept bb)
    (try replace B7 := B7.kept bb)
    (try replace B9 := B9.kept bb)
    (try replace B10 := B10.kept bb)
    (try replace B12 := B12.kept bb)
    (try replace B13 := B13.kept bb)
    clear bb
    (try have k3 := B3.k)
    (try have k5 := B5.k)
    (try have k10 := B10.k)
    (try have k13 := B13.k)
    go_wp2_with (first
      | ((with_reducible refine at_new 7 24 ?_); refine box_new (d := 7) rfl rfl 24 rfl _ zero_cfg ?_; intro w' B7 bb; have n7 := b0.size;  (try have l3_7 := B3.lt); (try have l4_7 := B4.lt); (try have l5_7 := B5.lt); (try have l9_7 := B9.lt); (try have l10_7 := B10.lt); (try have l12_7 := B12.lt); (try have l13_7 := B13.lt); (try clear k3); (try clear k5); (try clear k10); (try clear k13); replace b0 := bchain b0 bb; (try replace B3 := B3.kept bb); (try replace B4 := B4.kept bb); (try replace B5 := B5.kept bb);  (try replace B9 := B9.kept bb); (try replace B10 := B10.kept bb); (try replace B12 := B12.kept bb); (try replace B13 := B13.kept bb); clear bb; (try have k3 := B3.k); (try have k5 := B5.k); (try have k10 := B10.k); (try have k13 := B13.k))
      | ((with_reducible refine at_load 24 ?_); refine box_load rfl 24 _ rfl _ rfl (by with_reducible assumption) Try.underlying24 rfl (by kernel_rfl) ?_)
      | ((with_reducible refine at_store 24 ?_); refine box_store rfl 24 _ _ rfl _ _ rfl rfl (by with_reducible exact B7) (by kernel_rfl) (by rfl) (by simp [Value.oneCell']) ?_; clear B7; intro w' B7 gg; (try clear k3); (try clear k5); (try clear k10); (try clear k13); replace b0 := below_at b0 gg b0.size n7; (try replace B3 := B3.grown gg (Nat.ne_of_lt l3_7)); (try replace B4 := B4.grown gg (Nat.ne_of_lt l4_7)); (try replace B5 := B5.grown gg (Nat.ne_of_lt l5_7)); (try replace B9 := B9.grown gg (Nat.ne_of_gt l7_9)); (try replace B10 := B10.grown gg (Nat.ne_of_gt l7_10)); (try replace B12 := B12.grown gg (Nat.ne_of_gt l7_12)); (try replace B13 := B13.grown gg (Nat.ne_of_gt l7_13)); clear gg; (try have k3 := B3.k); (try have k5 := B5.k); (try have k10 := B10.k); (try have k13 := B13.k))
      | ((with_reducible refine at_cmp .neq 24 ?_); refine cfg_ne rfl _ _ rfl _ _ _ _ _ _ _ _ _ _ rfl rfl _ (Opt.same_self _) ?_))
    refine (li_ok _).mono ?_
    rintro e w' ⟨rfl, bb⟩
    (try clear k3)
    (try clear k5)
    (try clear k10)
    (try clear k13)
    replace b0 := bchain b0 bb
    (try replace B3 := B3.kept bb)
    (try replace B4 := B4.kept bb)
    (try replace B5 := B5.kept bb)
    (try replace B7 := B7.kept bb)
    (try replace B9 := B9.kept bb)
    (try replace B10 := B10.kept bb)
    (try replace B12 := B12.kept bb)
    (try replace B13 := B13.kept bb)
    clear bb
    (try have k3 := B3.k)
    (try have k5 := B5.k)
    (try have k10 := B10.k)
    (try have k13 := B13.k)
    go_wp2
    go_ret
    exact ⟨rfl, b0⟩
  · obtain rfl : x1 = y1 := meets_mode hm
    have hm2 : meets ⟨x1, y2, y3, y4, y5⟩ ⟨x1, x2, x3, x4, x5⟩ = true := by rw [meets_comm]; exact hm
    have hxo := (meets_ok hm).1
    have hy := (meets_ok hm).2
    have hokN : Neg.ok ⟨⟨x1, y2, y3, y4, y5⟩, ⟨x1, y2, y3, y4, y5⟩, ⟨0, 0, 0, 0, 0⟩, ⟨0, 0, 0, 0, 0⟩, false⟩ = true := by simp [Neg.ok, hy, Opt.yes, Opt.same, Opt.zero]
    obtain ⟨c2, h2⟩ : ∃ c, min x2 y2 = c := ⟨_, rfl⟩
    have g2 : min y2 x2 = c2 := by rw [← h2]; exact min_swap _ _
    have j2 : min y2 c2 = c2 := by rw [← h2]; exact min_back _ _
    obtain ⟨c3, h3⟩ : ∃ c, min x3 y3 = c := ⟨_, rfl⟩
    have g3 : min y3 x3 = c3 := by rw [← h3]; exact min_swap _ _
    have j3 : min y3 c3 = c3 := by rw [← h3]; exact min_back _ _
    obtain ⟨c4, h4⟩ : ∃ c, min x4 y4 = c := ⟨_, rfl⟩
    have g4 : min y4 x4 = c4 := by rw [← h4]; exact min_swap _ _
    have j4 : min y4 c4 = c4 := by rw [← h4]; exact min_back _ _
    obtain ⟨c5, h5⟩ : ∃ c, min x5 y5 = c := ⟨_, rfl⟩
    have g5 : min y5 x5 = c5 := by rw [← h5]; exact min_swap _ _
    have j5 : min y5 c5 = c5 := by rw [← h5]; exact min_back _ _
    have hc : Opt.ok ⟨x1, c2, c3, c4, c5⟩ = true := by
      have := least_ok hxo hy
      simpa [Opt.least, h2, h3, h4, h5] using this
    have hm3 : meets ⟨x1, y2, y3, y4, y5⟩ ⟨x1, c2, c3, c4, c5⟩ = true := meets_mk hy hc rfl
    cases hE : Opt.same ⟨x1, c2, c3, c4, c5⟩ ⟨x1, x2, x3, x4, x5⟩
    · have hear1 : ∀ w : World, Calls Try.prog 31 #[.agg #[.int .i64 x1, .int .i64 y2, .int .i64 y3, .int .i64 y4, .int .i64 y5, .int .i64 x1, .int .i64 y2, .int .i64 y3, .int .i64 y4, .int .i64 y5, .int .i64 0, .int .i64 0, .int .i64 0, .int .i64 0, .int .i64 0, .int .i64 0, .int .i64 0, .int .i64 0, .int .i64 0, .int .i64 0, .bool false], .agg #[.int .i64 1, .int .i64 x1, .int .i64 x2, .int .i64 x3, .int .i64 x4, .int .i64 x5]] w fun e w' => e = .returned (.tuple #[.agg #[.int .i64 x1, .int .i64 y2, .int .i64 y3, .int .i64 y4, .int .i64 y5, .int .i64 x1, .int .i64 y2, .int .i64 y3, .int .i64 y4, .int .i64 y5, .int .i64 0, .int .i64 0, .int .i64 0, .int .i64 0, .int .i64 0, .int .i64 0, .int .i64 0, .int .i64 0, .int .i64 0, .int .i64 0, .bool false], .agg #[.int .i64 3, .int .i64 x1, .int .i64 c2, .int .i64 c3, .int .i64 c4, .int .i64 c5], .bool true]) ∧ Below w.heap.size w w' := fun w => hear_ask x1 y2 y3 y4 y5 x1 y2 y3 y4 y5 0 0 0 0 0 0 0 0 0 0 x2 x3 x4 x5 _ _ _ _ _ _ _ _ _ _ _ _ _ _ _ _ _ _ _ _ _ _ _ _ _ _ false false hokN hxo (fun w => ask_no x1 y2 y3 y4 y5 x1 y2 y3 y4 y5 0 0 0 0 0 0 0 0 0 0 x1 x2 x3 x4 x5 c2 c3 c4 c5 false hm2 g2 g3 g4 g5 hE w) w
      have hear2 : ∀ w : World, Calls Try.prog 31 #[.agg #[.int .i64 x1, .int .i64 y2, .int .i64 y3, .int .i64 y4, .int .i64 y5, .int .i64 x1, .int .i64 y2, .int .i64 y3, .int .i64 y4, .int .i64 y5, .int .i64 0, .int .i64 0, .int .i64 0, .int .i64 0, .int .i64 0, .int .i64 0, .int .i64 0, .int .i64 0, .int .i64 0, .int .i64 0, .bool false], .agg #[.int .i64 1, .int .i64 x1, .int .i64 c2, .int .i64 c3, .int .i64 c4, .int .i64 c5]] w fun e w' => e = .returned (.tuple #[.agg #[.int .i64 x1, .int .i64 y2, .int .i64 y3, .int .i64 y4, .int .i64 y5, .int .i64 x1, .int .i64 y2, .int .i64 y3, .int .i64 y4, .int .i64 y5, .int .i64 0, .int .i64 0, .int .i64 0, .int .i64 0, .int .i64 0, .int .i64 x1, .int .i64 c2, .int .i64 c3, .int .i64 c4, .int .i64 c5, .bool false], .agg #[.int .i64 2, .int .i64 x1, .int .i64 c2, .int .i64 c3, .int .i64 c4, .int .i64 c5], .bool true]) ∧ Below w.heap.size w w' := fun w => hear_ask x1 y2 y3 y4 y5 x1 y2 y3 y4 y5 0 0 0 0 0 0 0 0 0 0 c2 c3 c4 c5 _ _ _ _ _ _ _ _ _ _ _ _ _ _ _ _ _ _ _ _ _ _ _ _ _ _ false false hokN hc (fun w => ask_yes x1 y2 y3 y4 y5 x1 y2 y3 y4 y5 0 0 0 0 0 0 0 0 0 0 x1 c2 c3 c4 c5 false hm3 j2 j3 j4 j5 w) w
      have H2 : Hid (_ = _) := h2
      clear h2
      have G2 : Hid (_ = _) := g2
      clear g2
      have J2 : Hid (_ = _) := j2
      clear j2
      have H3 : Hid (_ = _) := h3
      clear h3
      have G3 : Hid (_ = _) := g3
      clear g3
      have J3 : Hid (_ = _) := j3
      clear j3
      have H4 : Hid (_ = _) := h4
      clear h4
      have G4 : Hid (_ = _) := g4
      clear g4
      have J4 : Hid (_ = _) := j4
      clear j4
      have H5 : Hid (_ = _) := h5
      clear h5
      have G5 : Hid (_ = _) := g5
      clear g5
      have J5 : Hid (_ = _) := j5
      clear j5
      go_wp2_with (first
        | ((with_reducible refine at_load 24 ?_); refine box_load rfl 24 _ rfl _ rfl (by with_reducible assumption) Try.underlying24 rfl (by kernel_rfl) ?_))
      refine (impl_meet_yes _ _ _ _ _ _ _ _ _ _ c2 c3 c4 c5 hm H2.out H3.out H4.out H5.out _).mono ?_
      rintro e w' ⟨rfl, bb⟩
      (try clear k3)
      (try clear k5)
      (try clear k10)
      (try clear k13)
      replace b0 := bchain b0 bb
      (try replace B3 := B3.kept bb)
      (try replace B4 := B4.kept bb)
      (try replace B5 := B5.kept bb)
      (try replace B7 := B7.kept bb)
      (try replace B9 := B9.kept bb)
      (try replace B10 := B10.kept bb)
      (try replace B12 := B12.kept bb)
      (try replace B13 := B13.kept bb)
      clear bb
      (try have k3 := B3.k)
      (try have k5 := B5.k)
      (try have k10 := B10.k)
      (try have k13 := B13.k)
      go_wp2_with (first
        | ((with_reducible refine at_new 5 24 ?_); refine box_new (d := 5) rfl rfl 24 rfl _ zero_cfg ?_; intro w' B5 bb; have n5 := b0.size;  (try have l3_5 := B3.lt); (try have l4_5 := B4.lt); (try have l7_5 := B7.lt); (try have l9_5 := B9.lt); (try have l10_5 := B10.lt); (try have l12_5 := B12.lt); (try have l13_5 := B13.lt); (try clear k3); (try clear k5); (try clear k10); (try clear k13); replace b0 := bchain b0 bb; (try replace B3 := B3.kept bb); (try replace B4 := B4.kept bb);  (try replace B7 := B7.kept bb); (try replace B9 := B9.kept bb); (try replace B10 := B10.kept bb); (try replace B12 := B12.kept bb); (try replace B13 := B13.kept bb); clear bb; (try have k3 := B3.k); (try have k5 := B5.k); (try have k10 := B10.k); (try have k13 := B13.k))
        | ((with_reducible refine at_load 24 ?_); refine box_load rfl 24 _ rfl _ rfl (by with_reducible assumption) Try.underlying24 rfl (by kernel_rfl) ?_)
        | ((with_reducible refine at_store 24 ?_); refine box_store rfl 24 _ _ rfl _ _ rfl rfl (by with_reducible exact B5) (by kernel_rfl) (by rfl) (by simp [Value.oneCell']) ?_; clear B5; intro w' B5 gg; (try clear k3); (try clear k5); (try clear k10); (try clear k13); replace b0 := below_at b0 gg b0.size n5; (try replace B3 := B3.grown gg (Nat.ne_of_lt l3_5)); (try replace B4 := B4.grown gg (Nat.ne_of_lt l4_5)); (try replace B7 := B7.grown gg (Nat.ne_of_gt l5_7)); (try replace B9 := B9.grown gg (Nat.ne_of_gt l5_9)); (try replace B10 := B10.grown gg (Nat.ne_of_gt l5_10)); (try replace B12 := B12.grown gg (Nat.ne_of_gt l5_12)); (try replace B13 := B13.grown gg (Nat.ne_of_gt l5_13)); clear gg; (try have k3 := B3.k); (try have k5 := B5.k); (try have k10 := B10.k); (try have k13 := B13.k)))
      refine (spec_meet_yes _ _ _ _ _ _ _ _ _ _ c2 c3 c4 c5 hm H2.out H3.out H4.out H5.out _).mono ?_
      rintro e w' ⟨rfl, bb⟩
      (try clear k3)
      (try clear k5)
      (try clear k10)
      (try clear k13)
      replace b0 := bchain b0 bb
      (try replace B3 := B3.kept bb)
      (try replace B4 := B4.kept bb)
      (try replace B5 := B5.kept bb)
      (try replace B7 := B7.kept bb)
      (try replace B9 := B9.kept bb)
      (try replace B10 := B10.kept bb)
      (try replace B12 := B12.kept bb)
      (try replace B13 := B13.kept bb)
      clear bb
      (try have k3 := B3.k)
      (try have k5 := B5.k)
      (try have k10 := B10.k)
      (try have k13 := B13.k)
      go_wp2_with (first
        | ((with_reducible refine at_new 7 24 ?_); refine box_new (d := 7) rfl rfl 24 rfl _ zero_cfg ?_; intro w' B7 bb; have n7 := b0.size;  (try have l3_7 := B3.lt); (try have l4_7 := B4.lt); (try have l5_7 := B5.lt); (try have l9_7 := B9.lt); (try have l10_7 := B10.lt); (try have l12_7 := B12.lt); (try have l13_7 := B13.lt); (try clear k3); (try clear k5); (try clear k10); (try clear k13); replace b0 := bchain b0 bb; (try replace B3 := B3.kept bb); (try replace B4 := B4.kept bb); (try replace B5 := B5.kept bb);  (try replace B9 := B9.kept bb); (try replace B10 := B10.kept bb); (try replace B12 := B12.kept bb); (try replace B13 := B13.kept bb); clear bb; (try have k3 := B3.k); (try have k5 := B5.k); (try have k10 := B10.k); (try have k13 := B13.k))
        | ((with_reducible refine at_load 24 ?_); refine box_load rfl 24 _ rfl _ rfl (by with_reducible assumption) Try.underlying24 rfl (by kernel_rfl) ?_)
        | ((with_reducible refine at_store 24 ?_); refine box_store rfl 24 _ _ rfl _ _ rfl rfl (by with_reducible exact B7) (by kernel_rfl) (by rfl) (by simp [Value.oneCell']) ?_; clear B7; intro w' B7 gg; (try clear k3); (try clear k5); (try clear k10); (try clear k13); replace b0 := below_at b0 gg b0.size n7; (try replace B3 := B3.grown gg (Nat.ne_of_lt l3_7)); (try replace B4 := B4.grown gg (Nat.ne_of_lt l4_7)); (try replace B5 := B5.grown gg (Nat.ne_of_lt l5_7)); (try replace B9 := B9.grown gg (Nat.ne_of_gt l7_9)); (try replace B10 := B10.grown gg (Nat.ne_of_gt l7_10)); (try replace B12 := B12.grown gg (Nat.ne_of_gt l7_12)); (try replace B13 := B13.grown gg (Nat.ne_of_gt l7_13)); clear gg; (try have k3 := B3.k); (try have k5 := B5.k); (try have k10 := B10.k); (try have k13 := B13.k))
        | ((with_reducible refine at_cmp .neq 24 ?_); refine cfg_ne rfl _ _ rfl _ _ _ _ _ _ _ _ _ _ rfl rfl _ (Opt.same_self _) ?_))
      clear k3 k5
      refine region_lates 11 [47, 48, 49, 50, 51, 46, 52, 53, 54, 9, 10] [11, 12, 13] (fun i v wx => match i with | 0 => v = .agg #[.int .i64 x1, .int .i64 y2, .int .i64 y3, .int .i64 y4, .int .i64 y5] | 1 => v = .agg #[.int .i64 x1, .int .i64 y2, .int .i64 y3, .int .i64 y4, .int .i64 y5, .int .i64 x1, .int .i64 y2, .int .i64 y3, .int .i64 y4, .int .i64 y5, .int .i64 0, .int .i64 0, .int .i64 0, .int .i64 0, .int .i64 0, .int .i64 0, .int .i64 0, .int .i64 0, .int .i64 0, .int .i64 0, .bool false] | 2 => v = .agg #[.int .i64 x1, .int .i64 x2, .int .i64 x3, .int .i64 x4, .int .i64 x5] | 3 => v = .agg #[.int .i64 1, .int .i64 x1, .int .i64 x2, .int .i64 x3, .int .i64 x4, .int .i64 x5] | 4 => v = .tuple #[.agg #[.int .i64 x1, .int .i64 y2, .int .i64 y3, .int .i64 y4, .int .i64 y5, .int .i64 x1, .int .i64 y2, .int .i64 y3, .int .i64 y4, .int .i64 y5, .int .i64 0, .int .i64 0, .int .i64 0, .int .i64 0, .int .i64 0, .int .i64 0, .int .i64 0, .int .i64 0, .int .i64 0, .int .i64 0, .bool false], .agg #[.int .i64 3, .int .i64 x1, .int .i64 c2, .int .i64 c3, .int .i64 c4, .int .i64 c5], .bool true] | 5 => v = .tuple #[.agg #[.int .i64 x1, .int .i64 y2, .int .i64 y3, .int .i64 y4, .int .i64 y5, .int .i64 x1, .int .i64 y2, .int .i64 y3, .int .i64 y4, .int .i64 y5, .int .i64 0, .int .i64 0, .int .i64 0, .int .i64 0, .int .i64 0, .int .i64 0, .int .i64 0, .int .i64 0, .int .i64 0, .int .i64 0, .bool false], .agg #[.int .i64 3, .int .i64 x1, .int .i64 c2, .int .i64 c3, .int .i64 c4, .int .i64 c5], .bool true] | 6 => v = .agg #[.int .i64 x1, .int .i64 y2, .int .i64 y3, .int .i64 y4, .int .i64 y5, .int .i64 x1, .int .i64 y2, .int .i64 y3, .int .i64 y4, .int .i64 y5, .int .i64 0, .int .i64 0, .int .i64 0, .int .i64 0, .int .i64 0, .int .i64 0, .int .i64 0, .int .i64 0, .int .i64 0, .int .i64 0, .bool false] | 7 => v = .agg #[.int .i64 3, .int .i64 x1, .int .i64 c2, .int .i64 c3, .int .i64 c4, .int .i64 c5] | 8 => v = .bool true | 9 => KBox w'.drew.heap.size #[.int .i64 0, .int .i64 0, .int .i64 0, .int .i64 0, .int .i64 0, .int .i64 0, .int .i64 0, .int .i64 0, .int .i64 0, .int .i64 0, .int .i64 0, .int .i64 0, .int .i64 0, .int .i64 0, .int .i64 0, .int .i64 0, .int .i64 0, .int .i64 0, .int .i64 0, .int .i64 0, .bool false] 26 v wx | 10 => KBox w'.drew.heap.size #[.int .i64 0, .int .i64 0, .int .i64 0, .int .i64 0, .int .i64 0, .int .i64 0] 37 v wx | _ => True) (Gk w'.drew) (fun w1 w2 => Below w1.heap.size w1 w2) (by kernel_rfl) [7, 8] (by kernel_rfl) (fun x _ _ _ _ h => by cases x <;> exact h) (dsts_in (by kernel_rfl)) (Below.refl _ _) ?hT10 ?step10 ?lst10 ?fin10
      case hT10 =>
        intro j v w1 w2 h k
        match j, h with
        | 0, h => exact h
        | 1, h => exact h
        | 2, h => exact h
        | 3, h => exact h
        | 4, h => exact h
        | 5, h => exact h
        | 6, h => exact h
        | 7, h => exact h
        | 8, h => exact h
        | 9, h => exact KBox.mono h k
        | 10, h => exact KBox.mono h k
        | _ + 11, _ => exact trivial
      case step10 =>
        intro i o hi ho a wx c hc hG hk
        match i, hi with
        | 0, _ =>
          cases ho
          have e4 : a.eval (.tmp 4) = .pointer (some ⟨_, 0, none⟩) := hk.was 4 (by kernel_rfl)
          exact kt_val (PR := fun v _ => v = .agg #[.int .i64 x1, .int .i64 y2, .int .i64 y3, .int .i64 y4, .int .i64 y5]) (run_load_row 24 _ rfl _ e4 (B4.drew.kept hG) Try.underlying24 rfl (by kernel_rfl)) hG rfl
        | 1, _ =>
          cases ho
          have e47 : a.eval (.tmp 47) = .agg #[.int .i64 x1, .int .i64 y2, .int .i64 y3, .int .i64 y4, .int .i64 y5] := hk.has 0 47 (by kernel_rfl) (by simp)
          exact kt_call (PR := fun v _ => v = .agg #[.int .i64 x1, .int .i64 y2, .int .i64 y3, .int .i64 y4, .int .i64 y5, .int .i64 x1, .int .i64 y2, .int .i64 y3, .int .i64 y4, .int .i64 y5, .int .i64 0, .int .i64 0, .int .i64 0, .int .i64 0, .int .i64 0, .int .i64 0, .int .i64 0, .int .i64 0, .int .i64 0, .int .i64 0, .bool false]) (run_call1 rfl e47 (fun _ _ => by kernel_rfl)) hG ((impl_new_yes _ _ _ _ _ hy _).mono (fun _ _ hh => ⟨_, hh.1, rfl, hh.2⟩))
        | 2, _ =>
          cases ho
          have e3 : a.eval (.tmp 3) = .pointer (some ⟨_, 0, none⟩) := hk.was 3 (by kernel_rfl)
          exact kt_val (PR := fun v _ => v = .agg #[.int .i64 x1, .int .i64 x2, .int .i64 x3, .int .i64 x4, .int .i64 x5]) (run_load_row 24 _ rfl _ e3 (B3.drew.kept hG) Try.underlying24 rfl (by kernel_rfl)) hG rfl
        | 3, _ =>
          cases ho
          have e49 : a.eval (.tmp 49) = .agg #[.int .i64 x1, .int .i64 x2, .int .i64 x3, .int .i64 x4, .int .i64 x5] := hk.has 2 49 (by kernel_rfl) (by simp)
          exact kt_val (PR := fun v _ => v = .agg #[.int .i64 1, .int .i64 x1, .int .i64 x2, .int .i64 x3, .int .i64 x4, .int .i64 x5]) (run_msg rfl e49) hG rfl
        | 4, _ =>
          cases ho
          have e48 : a.eval (.tmp 48) = .agg #[.int .i64 x1, .int .i64 y2, .int .i64 y3, .int .i64 y4, .int .i64 y5, .int .i64 x1, .int .i64 y2, .int .i64 y3, .int .i64 y4, .int .i64 y5, .int .i64 0, .int .i64 0, .int .i64 0, .int .i64 0, .int .i64 0, .int .i64 0, .int .i64 0, .int .i64 0, .int .i64 0, .int .i64 0, .bool false] := hk.has 1 48 (by kernel_rfl) (by simp)
          have e50 : a.eval (.tmp 50) = .agg #[.int .i64 1, .int .i64 x1, .int .i64 x2, .int .i64 x3, .int .i64 x4, .int .i64 x5] := hk.has 3 50 (by kernel_rfl) (by simp)
          exact kt_call (PR := fun v _ => v = .tuple #[.agg #[.int .i64 x1, .int .i64 y2, .int .i64 y3, .int .i64 y4, .int .i64 y5, .int .i64 x1, .int .i64 y2, .int .i64 y3, .int .i64 y4, .int .i64 y5, .int .i64 0, .int .i64 0, .int .i64 0, .int .i64 0, .int .i64 0, .int .i64 0, .int .i64 0, .int .i64 0, .int .i64 0, .int .i64 0, .bool false], .agg #[.int .i64 3, .int .i64 x1, .int .i64 c2, .int .i64 c3, .int .i64 c4, .int .i64 c5], .bool true]) (run_call2 rfl e48 e50 (fun _ _ => by kernel_rfl)) hG ((hear1 _).mono (fun _ _ hh => ⟨_, hh.1, rfl, hh.2⟩))
        | 5, _ =>
          cases ho
          have e51 : a.eval (.tmp 51) = .tuple #[.agg #[.int .i64 x1, .int .i64 y2, .int .i64 y3, .int .i64 y4, .int .i64 y5, .int .i64 x1, .int .i64 y2, .int .i64 y3, .int .i64 y4, .int .i64 y5, .int .i64 0, .int .i64 0, .int .i64 0, .int .i64 0, .int .i64 0, .int .i64 0, .int .i64 0, .int .i64 0, .int .i64 0, .int .i64 0, .bool false], .agg #[.int .i64 3, .int .i64 x1, .int .i64 c2, .int .i64 c3, .int .i64 c4, .int .i64 c5], .bool true] := hk.has 4 51 (by kernel_rfl) (by simp)
          exact kt_val (PR := fun v _ => v = .tuple #[.agg #[.int .i64 x1, .int .i64 y2, .int .i64 y3, .int .i64 y4, .int .i64 y5, .int .i64 x1, .int .i64 y2, .int .i64 y3, .int .i64 y4, .int .i64 y5, .int .i64 0, .int .i64 0, .int .i64 0, .int .i64 0, .int .i64 0, .int .i64 0, .int .i64 0, .int .i64 0, .int .i64 0, .int .i64 0, .bool false], .agg #[.int .i64 3, .int .i64 x1, .int .i64 c2, .int .i64 c3, .int .i64 c4, .int .i64 c5], .bool true]) (run_move e51) hG rfl
        | 6, _ =>
          cases ho
          have e46 : a.eval (.tmp 46) = .tuple #[.agg #[.int .i64 x1, .int .i64 y2, .int .i64 y3, .int .i64 y4, .int .i64 y5, .int .i64 x1, .int .i64 y2, .int .i64 y3, .int .i64 y4, .int .i64 y5, .int .i64 0, .int .i64 0, .int .i64 0, .int .i64 0, .int .i64 0, .int .i64 0, .int .i64 0, .int .i64 0, .int .i64 0, .int .i64 0, .bool false], .agg #[.int .i64 3, .int .i64 x1, .int .i64 c2, .int .i64 c3, .int .i64 c4, .int .i64 c5], .bool true] := hk.has 5 46 (by kernel_rfl) (by simp)
          exact kt_val (PR := fun v _ => v = .agg #[.int .i64 x1, .int .i64 y2, .int .i64 y3, .int .i64 y4, .int .i64 y5, .int .i64 x1, .int .i64 y2, .int .i64 y3, .int .i64 y4, .int .i64 y5, .int .i64 0, .int .i64 0, .int .i64 0, .int .i64 0, .int .i64 0, .int .i64 0, .int .i64 0, .int .i64 0, .int .i64 0, .int .i64 0, .bool false]) (run_extract e46 rfl) hG rfl
        | 7, _ =>
          cases ho
          have e46 : a.eval (.tmp 46) = .tuple #[.agg #[.int .i64 x1, .int .i64 y2, .int .i64 y3, .int .i64 y4, .int .i64 y5, .int .i64 x1, .int .i64 y2, .int .i64 y3, .int .i64 y4, .int .i64 y5, .int .i64 0, .int .i64 0, .int .i64 0, .int .i64 0, .int .i64 0, .int .i64 0, .int .i64 0, .int .i64 0, .int .i64 0, .int .i64 0, .bool false], .agg #[.int .i64 3, .int .i64 x1, .int .i64 c2, .int .i64 c3, .int .i64 c4, .int .i64 c5], .bool true] := hk.has 5 46 (by kernel_rfl) (by simp)
          exact kt_val (PR := fun v _ => v = .agg #[.int .i64 3, .int .i64 x1, .int .i64 c2, .int .i64 c3, .int .i64 c4, .int .i64 c5]) (run_extract e46 rfl) hG rfl
        | 8, _ =>
          cases ho
          have e46 : a.eval (.tmp 46) = .tuple #[.agg #[.int .i64 x1, .int .i64 y2, .int .i64 y3, .int .i64 y4, .int .i64 y5, .int .i64 x1, .int .i64 y2, .int .i64 y3, .int .i64 y4, .int .i64 y5, .int .i64 0, .int .i64 0, .int .i64 0, .int .i64 0, .int .i64 0, .int .i64 0, .int .i64 0, .int .i64 0, .int .i64 0, .int .i64 0, .bool false], .agg #[.int .i64 3, .int .i64 x1, .int .i64 c2, .int .i64 c3, .int .i64 c4, .int .i64 c5], .bool true] := hk.has 5 46 (by kernel_rfl) (by simp)
          exact kt_val (PR := fun v _ => v = .bool true) (run_extract e46 rfl) hG rfl
        | 9, _ =>
          cases ho
          exact kt_new rfl zero_neg hG
        | 10, _ =>
          cases ho
          exact kt_new rfl zero_msg hG
        | k + 11, hi => omega
      case lst10 =>
        intro i o hi ho a wx c hG hk
        simp only [List.mem_cons, List.not_mem_nil, or_false] at hi
        rcases hi with rfl | rfl
        · cases ho
          have e46 : a.eval (.tmp 46) = .tuple #[.agg #[.int .i64 x1, .int .i64 y2, .int .i64 y3, .int .i64 y4, .int .i64 y5, .int .i64 x1, .int .i64 y2, .int .i64 y3, .int .i64 y4, .int .i64 y5, .int .i64 0, .int .i64 0, .int .i64 0, .int .i64 0, .int .i64 0, .int .i64 0, .int .i64 0, .int .i64 0, .int .i64 0, .int .i64 0, .bool false], .agg #[.int .i64 3, .int .i64 x1, .int .i64 c2, .int .i64 c3, .int .i64 c4, .int .i64 c5], .bool true] := hk.has 5 46 (by kernel_rfl) (by simp)
          exact ⟨_, fun _ => run_extract e46 rfl, rfl, hG⟩
        · cases ho
          have e46 : a.eval (.tmp 46) = .tuple #[.agg #[.int .i64 x1, .int .i64 y2, .int .i64 y3, .int .i64 y4, .int .i64 y5, .int .i64 x1, .int .i64 y2, .int .i64 y3, .int .i64 y4, .int .i64 y5, .int .i64 0, .int .i64 0, .int .i64 0, .int .i64 0, .int .i64 0, .int .i64 0, .int .i64 0, .int .i64 0, .int .i64 0, .int .i64 0, .bool false], .agg #[.int .i64 3, .int .i64 x1, .int .i64 c2, .int .i64 c3, .int .i64 c4, .int .i64 c5], .bool true] := hk.has 5 46 (by kernel_rfl) (by simp)
          exact ⟨_, fun _ => run_extract e46 rfl, rfl, hG⟩
      intro vals wx hG hv
      have v0 : vals 0 = .agg #[.int .i64 x1, .int .i64 y2, .int .i64 y3, .int .i64 y4, .int .i64 y5] := hv 0 (by omega)
      have v1 : vals 1 = .agg #[.int .i64 x1, .int .i64 y2, .int .i64 y3, .int .i64 y4, .int .i64 y5, .int .i64 x1, .int .i64 y2, .int .i64 y3, .int .i64 y4, .int .i64 y5, .int .i64 0, .int .i64 0, .int .i64 0, .int .i64 0, .int .i64 0, .int .i64 0, .int .i64 0, .int .i64 0, .int .i64 0, .int .i64 0, .bool false] := hv 1 (by omega)
      have v2 : vals 2 = .agg #[.int .i64 x1, .int .i64 x2, .int .i64 x3, .int .i64 x4, .int .i64 x5] := hv 2 (by omega)
      have v3 : vals 3 = .agg #[.int .i64 1, .int .i64 x1, .int .i64 x2, .int .i64 x3, .int .i64 x4, .int .i64 x5] := hv 3 (by omega)
      have v4 : vals 4 = .tuple #[.agg #[.int .i64 x1, .int .i64 y2, .int .i64 y3, .int .i64 y4, .int .i64 y5, .int .i64 x1, .int .i64 y2, .int .i64 y3, .int .i64 y4, .int .i64 y5, .int .i64 0, .int .i64 0, .int .i64 0, .int .i64 0, .int .i64 0, .int .i64 0, .int .i64 0, .int .i64 0, .int .i64 0, .int .i64 0, .bool false], .agg #[.int .i64 3, .int .i64 x1, .int .i64 c2, .int .i64 c3, .int .i64 c4, .int .i64 c5], .bool true] := hv 4 (by omega)
      have v5 : vals 5 = .tuple #[.agg #[.int .i64 x1, .int .i64 y2, .int .i64 y3, .int .i64 y4, .int .i64 y5, .int .i64 x1, .int .i64 y2, .int .i64 y3, .int .i64 y4, .int .i64 y5, .int .i64 0, .int .i64 0, .int .i64 0, .int .i64 0, .int .i64 0, .int .i64 0, .int .i64 0, .int .i64 0, .int .i64 0, .int .i64 0, .bool false], .agg #[.int .i64 3, .int .i64 x1, .int .i64 c2, .int .i64 c3, .int .i64 c4, .int .i64 c5], .bool true] := hv 5 (by omega)
      have v6 : vals 6 = .agg #[.int .i64 x1, .int .i64 y2, .int .i64 y3, .int .i64 y4, .int .i64 y5, .int .i64 x1, .int .i64 y2, .int .i64 y3, .int .i64 y4, .int .i64 y5, .int .i64 0, .int .i64 0, .int .i64 0, .int .i64 0, .int .i64 0, .int .i64 0, .int .i64 0, .int .i64 0, .int .i64 0, .int .i64 0, .bool false] := hv 6 (by omega)
      have v7 : vals 7 = .agg #[.int .i64 3, .int .i64 x1, .int .i64 c2, .int .i64 c3, .int .i64 c4, .int .i64 c5] := hv 7 (by omega)
      have v8 : vals 8 = .bool true := hv 8 (by omega)
      obtain ⟨g9, v9, m9, B9⟩ := hv 9 (by omega)
      obtain ⟨g10, v10, m10, B10⟩ := hv 10 (by omega)
      clear hv
      simp only [putsL, Act.put, v0, v1, v2, v3, v4, v5, v6, v7, v8, v9, v10, List.setIfInBounds_toArray, List.set_cons_zero, List.set_cons_succ]
      clear v0 v1 v2 v3 v4 v5 v6 v7 v8 v9 v10
      have n9 : w.heap.size ≤ g9 := Nat.le_trans b0.size m9
      have l3_9 := Nat.lt_of_lt_of_le B3.lt m9
      have l4_9 := Nat.lt_of_lt_of_le B4.lt m9
      have l5_9 := Nat.lt_of_lt_of_le B5.lt m9
      have l7_9 := Nat.lt_of_lt_of_le B7.lt m9
      have n10 : w.heap.size ≤ g10 := Nat.le_trans b0.size m10
      have l3_10 := Nat.lt_of_lt_of_le B3.lt m10
      have l4_10 := Nat.lt_of_lt_of_le B4.lt m10
      have l5_10 := Nat.lt_of_lt_of_le B5.lt m10
      have l7_10 := Nat.lt_of_lt_of_le B7.lt m10
      have ne_9_10 : g9 ≠ g10 := B9.ne B10 (by decide)
      replace b0 := bchain b0.drew hG
      replace B3 := B3.drew.kept hG
      replace B4 := B4.drew.kept hG
      replace B5 := B5.drew.kept hG
      replace B7 := B7.drew.kept hG
      clear hG
      refine tail_cons rfl rfl ?_
      refine wp_box_store 26 _ _ rfl _ _ rfl rfl B9 (by kernel_rfl) rfl (by simp [Value.oneCell']) ?_
      clear B9
      intro w' B9 gg
      replace b0 := below_at b0 gg b0.size n9
      replace B3 := B3.grown gg (Nat.ne_of_lt l3_9)
      replace B4 := B4.grown gg (Nat.ne_of_lt l4_9)
      replace B5 := B5.grown gg (Nat.ne_of_lt l5_9)
      replace B7 := B7.grown gg (Nat.ne_of_lt l7_9)
      replace B10 := B10.grown gg (Ne.symm ne_9_10)
      clear gg
      refine tail_cons rfl rfl ?_
      refine wp_box_store 37 _ _ rfl _ _ rfl rfl B10 (by kernel_rfl) rfl (by simp [Value.oneCell']) ?_
      clear B10
      intro w' B10 gg
      replace b0 := below_at b0 gg b0.size n10
      replace B3 := B3.grown gg (Nat.ne_of_lt l3_10)
      replace B4 := B4.grown gg (Nat.ne_of_lt l4_10)
      replace B5 := B5.grown gg (Nat.ne_of_lt l5_10)
      replace B7 := B7.grown gg (Nat.ne_of_lt l7_10)
      replace B9 := B9.grown gg ne_9_10
      clear gg
      refine tail_one rfl rfl ?_
      go_simp
      have k3 := B3.k
      have k5 := B5.k
      have k10 := B10.k
      go_wp2_with fail
      clear k3 k5 k10
      refine region_lates 11 [56, 57, 58, 59, 60, 55, 61, 62, 63, 12, 13] [11, 12, 13] (fun i v wx => match i with | 0 => v = .agg #[.int .i64 x1, .int .i64 y2, .int .i64 y3, .int .i64 y4, .int .i64 y5] | 1 => v = .agg #[.int .i64 x1, .int .i64 y2, .int .i64 y3, .int .i64 y4, .int .i64 y5, .int .i64 x1, .int .i64 y2, .int .i64 y3, .int .i64 y4, .int .i64 y5, .int .i64 0, .int .i64 0, .int .i64 0, .int .i64 0, .int .i64 0, .int .i64 0, .int .i64 0, .int .i64 0, .int .i64 0, .int .i64 0, .bool false] | 2 => v = .agg #[.int .i64 x1, .int .i64 c2, .int .i64 c3, .int .i64 c4, .int .i64 c5] | 3 => v = .agg #[.int .i64 1, .int .i64 x1, .int .i64 c2, .int .i64 c3, .int .i64 c4, .int .i64 c5] | 4 => v = .tuple #[.agg #[.int .i64 x1, .int .i64 y2, .int .i64 y3, .int .i64 y4, .int .i64 y5, .int .i64 x1, .int .i64 y2, .int .i64 y3, .int .i64 y4, .int .i64 y5, .int .i64 0, .int .i64 0, .int .i64 0, .int .i64 0, .int .i64 0, .int .i64 x1, .int .i64 c2, .int .i64 c3, .int .i64 c4, .int .i64 c5, .bool false], .agg #[.int .i64 2, .int .i64 x1, .int .i64 c2, .int .i64 c3, .int .i64 c4, .int .i64 c5], .bool true] | 5 => v = .tuple #[.agg #[.int .i64 x1, .int .i64 y2, .int .i64 y3, .int .i64 y4, .int .i64 y5, .int .i64 x1, .int .i64 y2, .int .i64 y3, .int .i64 y4, .int .i64 y5, .int .i64 0, .int .i64 0, .int .i64 0, .int .i64 0, .int .i64 0, .int .i64 x1, .int .i64 c2, .int .i64 c3, .int .i64 c4, .int .i64 c5, .bool false], .agg #[.int .i64 2, .int .i64 x1, .int .i64 c2, .int .i64 c3, .int .i64 c4, .int .i64 c5], .bool true] | 6 => v = .agg #[.int .i64 x1, .int .i64 y2, .int .i64 y3, .int .i64 y4, .int .i64 y5, .int .i64 x1, .int .i64 y2, .int .i64 y3, .int .i64 y4, .int .i64 y5, .int .i64 0, .int .i64 0, .int .i64 0, .int .i64 0, .int .i64 0, .int .i64 x1, .int .i64 c2, .int .i64 c3, .int .i64 c4, .int .i64 c5, .bool false] | 7 => v = .agg #[.int .i64 2, .int .i64 x1, .int .i64 c2, .int .i64 c3, .int .i64 c4, .int .i64 c5] | 8 => v = .bool true | 9 => KBox w'.drew.heap.size #[.int .i64 0, .int .i64 0, .int .i64 0, .int .i64 0, .int .i64 0, .int .i64 0, .int .i64 0, .int .i64 0, .int .i64 0, .int .i64 0, .int .i64 0, .int .i64 0, .int .i64 0, .int .i64 0, .int .i64 0, .int .i64 0, .int .i64 0, .int .i64 0, .int .i64 0, .int .i64 0, .bool false] 26 v wx | 10 => KBox w'.drew.heap.size #[.int .i64 0, .int .i64 0, .int .i64 0, .int .i64 0, .int .i64 0, .int .i64 0] 37 v wx | _ => True) (Gk w'.drew) (fun w1 w2 => Below w1.heap.size w1 w2) (by kernel_rfl) [7, 8] (by kernel_rfl) (fun x _ _ _ _ h => by cases x <;> exact h) (dsts_in (by kernel_rfl)) (Below.refl _ _) ?hT11 ?step11 ?lst11 ?fin11
      case hT11 =>
        intro j v w1 w2 h k
        match j, h with
        | 0, h => exact h
        | 1, h => exact h
        | 2, h => exact h
        | 3, h => exact h
        | 4, h => exact h
        | 5, h => exact h
        | 6, h => exact h
        | 7, h => exact h
        | 8, h => exact h
        | 9, h => exact KBox.mono h k
        | 10, h => exact KBox.mono h k
        | _ + 11, _ => exact trivial
      case step11 =>
        intro i o hi ho a wx c hc hG hk
        match i, hi with
        | 0, _ =>
          cases ho
          have e4 : a.eval (.tmp 4) = .pointer (some ⟨_, 0, none⟩) := hk.was 4 (by kernel_rfl)
          exact kt_val (PR := fun v _ => v = .agg #[.int .i64 x1, .int .i64 y2, .int .i64 y3, .int .i64 y4, .int .i64 y5]) (run_load_row 24 _ rfl _ e4 (B4.drew.kept hG) Try.underlying24 rfl (by kernel_rfl)) hG rfl
        | 1, _ =>
          cases ho
          have e56 : a.eval (.tmp 56) = .agg #[.int .i64 x1, .int .i64 y2, .int .i64 y3, .int .i64 y4, .int .i64 y5] := hk.has 0 56 (by kernel_rfl) (by simp)
          exact kt_call (PR := fun v _ => v = .agg #[.int .i64 x1, .int .i64 y2, .int .i64 y3, .int .i64 y4, .int .i64 y5, .int .i64 x1, .int .i64 y2, .int .i64 y3, .int .i64 y4, .int .i64 y5, .int .i64 0, .int .i64 0, .int .i64 0, .int .i64 0, .int .i64 0, .int .i64 0, .int .i64 0, .int .i64 0, .int .i64 0, .int .i64 0, .bool false]) (run_call1 rfl e56 (fun _ _ => by kernel_rfl)) hG ((impl_new_yes _ _ _ _ _ hy _).mono (fun _ _ hh => ⟨_, hh.1, rfl, hh.2⟩))
        | 2, _ =>
          cases ho
          have e5 : a.eval (.tmp 5) = .pointer (some ⟨_, 0, none⟩) := hk.was 5 (by kernel_rfl)
          exact kt_val (PR := fun v _ => v = .agg #[.int .i64 x1, .int .i64 c2, .int .i64 c3, .int .i64 c4, .int .i64 c5]) (run_load_row 24 _ rfl _ e5 (B5.drew.kept hG) Try.underlying24 rfl (by kernel_rfl)) hG rfl
        | 3, _ =>
          cases ho
          have e58 : a.eval (.tmp 58) = .agg #[.int .i64 x1, .int .i64 c2, .int .i64 c3, .int .i64 c4, .int .i64 c5] := hk.has 2 58 (by kernel_rfl) (by simp)
          exact kt_val (PR := fun v _ => v = .agg #[.int .i64 1, .int .i64 x1, .int .i64 c2, .int .i64 c3, .int .i64 c4, .int .i64 c5]) (run_msg rfl e58) hG rfl
        | 4, _ =>
          cases ho
          have e57 : a.eval (.tmp 57) = .agg #[.int .i64 x1, .int .i64 y2, .int .i64 y3, .int .i64 y4, .int .i64 y5, .int .i64 x1, .int .i64 y2, .int .i64 y3, .int .i64 y4, .int .i64 y5, .int .i64 0, .int .i64 0, .int .i64 0, .int .i64 0, .int .i64 0, .int .i64 0, .int .i64 0, .int .i64 0, .int .i64 0, .int .i64 0, .bool false] := hk.has 1 57 (by kernel_rfl) (by simp)
          have e59 : a.eval (.tmp 59) = .agg #[.int .i64 1, .int .i64 x1, .int .i64 c2, .int .i64 c3, .int .i64 c4, .int .i64 c5] := hk.has 3 59 (by kernel_rfl) (by simp)
          exact kt_call (PR := fun v _ => v = .tuple #[.agg #[.int .i64 x1, .int .i64 y2, .int .i64 y3, .int .i64 y4, .int .i64 y5, .int .i64 x1, .int .i64 y2, .int .i64 y3, .int .i64 y4, .int .i64 y5, .int .i64 0, .int .i64 0, .int .i64 0, .int .i64 0, .int .i64 0, .int .i64 x1, .int .i64 c2, .int .i64 c3, .int .i64 c4, .int .i64 c5, .bool false], .agg #[.int .i64 2, .int .i64 x1, .int .i64 c2, .int .i64 c3, .int .i64 c4, .int .i64 c5], .bool true]) (run_call2 rfl e57 e59 (fun _ _ => by kernel_rfl)) hG ((hear2 _).mono (fun _ _ hh => ⟨_, hh.1, rfl, hh.2⟩))
        | 5, _ =>
          cases ho
          have e60 : a.eval (.tmp 60) = .tuple #[.agg #[.int .i64 x1, .int .i64 y2, .int .i64 y3, .int .i64 y4, .int .i64 y5, .int .i64 x1, .int .i64 y2, .int .i64 y3, .int .i64 y4, .int .i64 y5, .int .i64 0, .int .i64 0, .int .i64 0, .int .i64 0, .int .i64 0, .int .i64 x1, .int .i64 c2, .int .i64 c3, .int .i64 c4, .int .i64 c5, .bool false], .agg #[.int .i64 2, .int .i64 x1, .int .i64 c2, .int .i64 c3, .int .i64 c4, .int .i64 c5], .bool true] := hk.has 4 60 (by kernel_rfl) (by simp)
          exact kt_val (PR := fun v _ => v = .tuple #[.agg #[.int .i64 x1, .int .i64 y2, .int .i64 y3, .int .i64 y4, .int .i64 y5, .int .i64 x1, .int .i64 y2, .int .i64 y3, .int .i64 y4, .int .i64 y5, .int .i64 0, .int .i64 0, .int .i64 0, .int .i64 0, .int .i64 0, .int .i64 x1, .int .i64 c2, .int .i64 c3, .int .i64 c4, .int .i64 c5, .bool false], .agg #[.int .i64 2, .int .i64 x1, .int .i64 c2, .int .i64 c3, .int .i64 c4, .int .i64 c5], .bool true]) (run_move e60) hG rfl
        | 6, _ =>
          cases ho
          have e55 : a.eval (.tmp 55) = .tuple #[.agg #[.int .i64 x1, .int .i64 y2, .int .i64 y3, .int .i64 y4, .int .i64 y5, .int .i64 x1, .int .i64 y2, .int .i64 y3, .int .i64 y4, .int .i64 y5, .int .i64 0, .int .i64 0, .int .i64 0, .int .i64 0, .int .i64 0, .int .i64 x1, .int .i64 c2, .int .i64 c3, .int .i64 c4, .int .i64 c5, .bool false], .agg #[.int .i64 2, .int .i64 x1, .int .i64 c2, .int .i64 c3, .int .i64 c4, .int .i64 c5], .bool true] := hk.has 5 55 (by kernel_rfl) (by simp)
          exact kt_val (PR := fun v _ => v = .agg #[.int .i64 x1, .int .i64 y2, .int .i64 y3, .int .i64 y4, .int .i64 y5, .int .i64 x1, .int .i64 y2, .int .i64 y3, .int .i64 y4, .int .i64 y5, .int .i64 0, .int .i64 0, .int .i64 0, .int .i64 0, .int .i64 0, .int .i64 x1, .int .i64 c2, .int .i64 c3, .int .i64 c4, .int .i64 c5, .bool false]) (run_extract e55 rfl) hG rfl
        | 7, _ =>
          cases ho
          have e55 : a.eval (.tmp 55) = .tuple #[.agg #[.int .i64 x1, .int .i64 y2, .int .i64 y3, .int .i64 y4, .int .i64 y5, .int .i64 x1, .int .i64 y2, .int .i64 y3, .int .i64 y4, .int .i64 y5, .int .i64 0, .int .i64 0, .int .i64 0, .int .i64 0, .int .i64 0, .int .i64 x1, .int .i64 c2, .int .i64 c3, .int .i64 c4, .int .i64 c5, .bool false], .agg #[.int .i64 2, .int .i64 x1, .int .i64 c2, .int .i64 c3, .int .i64 c4, .int .i64 c5], .bool true] := hk.has 5 55 (by kernel_rfl) (by simp)
          exact kt_val (PR := fun v _ => v = .agg #[.int .i64 2, .int .i64 x1, .int .i64 c2, .int .i64 c3, .int .i64 c4, .int .i64 c5]) (run_extract e55 rfl) hG rfl
        | 8, _ =>
          cases ho
          have e55 : a.eval (.tmp 55) = .tuple #[.agg #[.int .i64 x1, .int .i64 y2, .int .i64 y3, .int .i64 y4, .int .i64 y5, .int .i64 x1, .int .i64 y2, .int .i64 y3, .int .i64 y4, .int .i64 y5, .int .i64 0, .int .i64 0, .int .i64 0, .int .i64 0, .int .i64 0, .int .i64 x1, .int .i64 c2, .int .i64 c3, .int .i64 c4, .int .i64 c5, .bool false], .agg #[.int .i64 2, .int .i64 x1, .int .i64 c2, .int .i64 c3, .int .i64 c4, .int .i64 c5], .bool true] := hk.has 5 55 (by kernel_rfl) (by simp)
          exact kt_val (PR := fun v _ => v = .bool true) (run_extract e55 rfl) hG rfl
        | 9, _ =>
          cases ho
          exact kt_new rfl zero_neg hG
        | 10, _ =>
          cases ho
          exact kt_new rfl zero_msg hG
        | k + 11, hi => omega
      case lst11 =>
        intro i o hi ho a wx c hG hk
        simp only [List.mem_cons, List.not_mem_nil, or_false] at hi
        rcases hi with rfl | rfl
        · cases ho
          have e55 : a.eval (.tmp 55) = .tuple #[.agg #[.int .i64 x1, .int .i64 y2, .int .i64 y3, .int .i64 y4, .int .i64 y5, .int .i64 x1, .int .i64 y2, .int .i64 y3, .int .i64 y4, .int .i64 y5, .int .i64 0, .int .i64 0, .int .i64 0, .int .i64 0, .int .i64 0, .int .i64 x1, .int .i64 c2, .int .i64 c3, .int .i64 c4, .int .i64 c5, .bool false], .agg #[.int .i64 2, .int .i64 x1, .int .i64 c2, .int .i64 c3, .int .i64 c4, .int .i64 c5], .bool true] := hk.has 5 55 (by kernel_rfl) (by simp)
          exact ⟨_, fun _ => run_extract e55 rfl, rfl, hG⟩
        · cases ho
          have e55 : a.eval (.tmp 55) = .tuple #[.agg #[.int .i64 x1, .int .i64 y2, .int .i64 y3, .int .i64 y4, .int .i64 y5, .int .i64 x1, .int .i64 y2, .int .i64 y3, .int .i64 y4, .int .i64 y5, .int .i64 0, .int .i64 0, .int .i64 0, .int .i64 0, .int .i64 0, .int .i64 x1, .int .i64 c2, .int .i64 c3, .int .i64 c4, .int .i64 c5, .bool false], .agg #[.int .i64 2, .int .i64 x1, .int .i64 c2, .int .i64 c3, .int .i64 c4, .int .i64 c5], .bool true] := hk.has 5 55 (by kernel_rfl) (by simp)
          exact ⟨_, fun _ => run_extract e55 rfl, rfl, hG⟩
      intro vals wx hG hv
      have v0 : vals 0 = .agg #[.int .i64 x1, .int .i64 y2, .int .i64 y3, .int .i64 y4, .int .i64 y5] := hv 0 (by omega)
      have v1 : vals 1 = .agg #[.int .i64 x1, .int .i64 y2, .int .i64 y3, .int .i64 y4, .int .i64 y5, .int .i64 x1, .int .i64 y2, .int .i64 y3, .int .i64 y4, .int .i64 y5, .int .i64 0, .int .i64 0, .int .i64 0, .int .i64 0, .int .i64 0, .int .i64 0, .int .i64 0, .int .i64 0, .int .i64 0, .int .i64 0, .bool false] := hv 1 (by omega)
      have v2 : vals 2 = .agg #[.int .i64 x1, .int .i64 c2, .int .i64 c3, .int .i64 c4, .int .i64 c5] := hv 2 (by omega)
      have v3 : vals 3 = .agg #[.int .i64 1, .int .i64 x1, .int .i64 c2, .int .i64 c3, .int .i64 c4, .int .i64 c5] := hv 3 (by omega)
      have v4 : vals 4 = .tuple #[.agg #[.int .i64 x1, .int .i64 y2, .int .i64 y3, .int .i64 y4, .int .i64 y5, .int .i64 x1, .int .i64 y2, .int .i64 y3, .int .i64 y4, .int .i64 y5, .int .i64 0, .int .i64 0, .int .i64 0, .int .i64 0, .int .i64 0, .int .i64 x1, .int .i64 c2, .int .i64 c3, .int .i64 c4, .int .i64 c5, .bool false], .agg #[.int .i64 2, .int .i64 x1, .int .i64 c2, .int .i64 c3, .int .i64 c4, .int .i64 c5], .bool true] := hv 4 (by omega)
      have v5 : vals 5 = .tuple #[.agg #[.int .i64 x1, .int .i64 y2, .int .i64 y3, .int .i64 y4, .int .i64 y5, .int .i64 x1, .int .i64 y2, .int .i64 y3, .int .i64 y4, .int .i64 y5, .int .i64 0, .int .i64 0, .int .i64 0, .int .i64 0, .int .i64 0, .int .i64 x1, .int .i64 c2, .int .i64 c3, .int .i64 c4, .int .i64 c5, .bool false], .agg #[.int .i64 2, .int .i64 x1, .int .i64 c2, .int .i64 c3, .int .i64 c4, .int .i64 c5], .bool true] := hv 5 (by omega)
      have v6 : vals 6 = .agg #[.int .i64 x1, .int .i64 y2, .int .i64 y3, .int .i64 y4, .int .i64 y5, .int .i64 x1, .int .i64 y2, .int .i64 y3, .int .i64 y4, .int .i64 y5, .int .i64 0, .int .i64 0, .int .i64 0, .int .i64 0, .int .i64 0, .int .i64 x1, .int .i64 c2, .int .i64 c3, .int .i64 c4, .int .i64 c5, .bool false] := hv 6 (by omega)
      have v7 : vals 7 = .agg #[.int .i64 2, .int .i64 x1, .int .i64 c2, .int .i64 c3, .int .i64 c4, .int .i64 c5] := hv 7 (by omega)
      have v8 : vals 8 = .bool true := hv 8 (by omega)
      obtain ⟨g12, v9, m12, B12⟩ := hv 9 (by omega)
      obtain ⟨g13, v10, m13, B13⟩ := hv 10 (by omega)
      clear hv
      simp only [putsL, Act.put, v0, v1, v2, v3, v4, v5, v6, v7, v8, v9, v10, List.setIfInBounds_toArray, List.set_cons_zero, List.set_cons_succ]
      clear v0 v1 v2 v3 v4 v5 v6 v7 v8 v9 v10
      have n12 : w.heap.size ≤ g12 := Nat.le_trans b0.size m12
      have l3_12 := Nat.lt_of_lt_of_le B3.lt m12
      have l4_12 := Nat.lt_of_lt_of_le B4.lt m12
      have l5_12 := Nat.lt_of_lt_of_le B5.lt m12
      have l7_12 := Nat.lt_of_lt_of_le B7.lt m12
      have l9_12 := Nat.lt_of_lt_of_le B9.lt m12
      have l10_12 := Nat.lt_of_lt_of_le B10.lt m12
      have n13 : w.heap.size ≤ g13 := Nat.le_trans b0.size m13
      have l3_13 := Nat.lt_of_lt_of_le B3.lt m13
      have l4_13 := Nat.lt_of_lt_of_le B4.lt m13
      have l5_13 := Nat.lt_of_lt_of_le B5.lt m13
      have l7_13 := Nat.lt_of_lt_of_le B7.lt m13
      have l9_13 := Nat.lt_of_lt_of_le B9.lt m13
      have l10_13 := Nat.lt_of_lt_of_le B10.lt m13
      have ne_12_13 : g12 ≠ g13 := B12.ne B13 (by decide)
      replace b0 := bchain b0.drew hG
      replace B3 := B3.drew.kept hG
      replace B4 := B4.drew.kept hG
      replace B5 := B5.drew.kept hG
      replace B7 := B7.drew.kept hG
      replace B9 := B9.drew.kept hG
      replace B10 := B10.drew.kept hG
      clear hG
      refine tail_cons rfl rfl ?_
      refine wp_box_store 26 _ _ rfl _ _ rfl rfl B12 (by kernel_rfl) rfl (by simp [Value.oneCell']) ?_
      clear B12
      intro w' B12 gg
      replace b0 := below_at b0 gg b0.size n12
      replace B3 := B3.grown gg (Nat.ne_of_lt l3_12)
      replace B4 := B4.grown gg (Nat.ne_of_lt l4_12)
      replace B5 := B5.grown gg (Nat.ne_of_lt l5_12)
      replace B7 := B7.grown gg (Nat.ne_of_lt l7_12)
      replace B9 := B9.grown gg (Nat.ne_of_lt l9_12)
      replace B10 := B10.grown gg (Nat.ne_of_lt l10_12)
      replace B13 := B13.grown gg (Ne.symm ne_12_13)
      clear gg
      refine tail_cons rfl rfl ?_
      refine wp_box_store 37 _ _ rfl _ _ rfl rfl B13 (by kernel_rfl) rfl (by simp [Value.oneCell']) ?_
      clear B13
      intro w' B13 gg
      replace b0 := below_at b0 gg b0.size n13
      replace B3 := B3.grown gg (Nat.ne_of_lt l3_13)
      replace B4 := B4.grown gg (Nat.ne_of_lt l4_13)
      replace B5 := B5.grown gg (Nat.ne_of_lt l5_13)
      replace B7 := B7.grown gg (Nat.ne_of_lt l7_13)
      replace B9 := B9.grown gg (Nat.ne_of_lt l9_13)
      replace B10 := B10.grown gg (Nat.ne_of_lt l10_13)
      replace B12 := B12.grown gg ne_12_13
      clear gg
      refine tail_one rfl rfl ?_
      go_simp
      have k3 := B3.k
      have k5 := B5.k
      have k10 := B10.k
      have k13 := B13.k
      go_wp2_with (first
        | ((with_reducible refine at_load 24 ?_); refine box_load rfl 24 _ rfl _ rfl (by with_reducible assumption) Try.underlying24 rfl (by kernel_rfl) ?_))
      have hEE : Opt.same ⟨x1, c2, c3, c4, c5⟩ ⟨x1, x2, x3, x4, x5⟩ = false := hE
      clear k3 k5 k10
      replace b0 := b0.drew
      replace B3 := B3.drew
      replace B5 := B5.drew
      replace B10 := B10.drew
      refine region_by (fun w' => Bl w' _ #[.int .i64 3, .int .i64 x1, .int .i64 c2, .int .i64 c3, .int .i64 c4, .int .i64 c5] 37 ∧ Bl w' _ #[.int .i64 x1, .int .i64 c2, .int .i64 c3, .int .i64 c4, .int .i64 c5] 24 ∧ Bl w' _ #[.int .i64 x1, .int .i64 x2, .int .i64 x3, .int .i64 x4, .int .i64 x5] 24) 8 [(0, true), (1, true), (2, true), (3, true), (4, true), (5, true), (6, true), (7, false)] ⟨none, .assign (.tmp 0), 0, "", #[], none⟩ (by kernel_rfl) (by kernel_rfl) ⟨B10, B5, B3⟩ (fun x _ _ _ _ h => by cases x <;> exact h) ?_
      simp only [arrange, List.map_cons, List.map_nil, List.getD_cons_zero, List.getD_cons_succ]
      generalize World.drew _ = dw at b0 B3 B5 B10 ⊢
      refine by_addr rfl _ _ _ rfl _ 0 rfl (fun _ _ => by simp [go_sem]) ?_
      simp only [Act.put, List.setIfInBounds_toArray, List.set]
      refine by_cell _ _ rfl (fun _ h => h.1) 3 rfl ?_
      simp only [Act.put, List.setIfInBounds_toArray, List.set]
      refine by_run rfl (.bool false) (fun _ _ => by simp [execOp, go_sem]) ?_
      simp only [Act.put, List.setIfInBounds_toArray, List.set]
      refine by_load rfl 24 _ rfl _ rfl (fun _ h => h.2.1) Try.underlying24 rfl (by kernel_rfl) ?_
      simp only [Act.put, List.setIfInBounds_toArray, List.set]
      refine by_load rfl 24 _ rfl _ rfl (fun _ h => h.2.2) Try.underlying24 rfl (by kernel_rfl) ?_
      simp only [Act.put, List.setIfInBounds_toArray, List.set]
      refine by_run rfl (.bool false) (fun _ _ => run_cfg_eq _ _ rfl _ _ _ _ _ _ _ _ _ _ rfl rfl _ hEE _) ?_
      simp only [Act.put, List.setIfInBounds_toArray, List.set]
      refine by_run rfl (.bool true) (fun _ _ => by simp [execOp, go_sem]) ?_
      simp only [Act.put, List.setIfInBounds_toArray, List.set]
      refine by_setv rfl rfl _ rfl (.bool true) rfl ⟨fun _ => ⟨B10, B5, B3⟩, ?_⟩
      simp only [Act.put, List.setIfInBounds_toArray, List.set]
      refine by_nil ?_
      have k3 := B3.k
      have k5 := B5.k
      have k10 := B10.k
      go_wp2
      go_ret
      exact ⟨rfl, b0⟩
    · obtain ⟨rfl, rfl, rfl, rfl⟩ : c2 = x2 ∧ c3 = x3 ∧ c4 = x4 ∧ c5 = x5 := by
        have := (Opt.same_iff _ _).1 hE
        simpa using this
      have hear1 : ∀ w : World, Calls Try.prog 31 #[.agg #[.int .i64 x1, .int .i64 y2, .int .i64 y3, .int .i64 y4, .int .i64 y5, .int .i64 x1, .int .i64 y2, .int .i64 y3, .int .i64 y4, .int .i64 y5, .int .i64 0, .int .i64 0, .int .i64 0, .int .i64 0, .int .i64 0, .int .i64 0, .int .i64 0, .int .i64 0, .int .i64 0, .int .i64 0, .bool false], .agg #[.int .i64 1, .int .i64 x1, .int .i64 c2, .int .i64 c3, .int .i64 c4, .int .i64 c5]] w fun e w' => e = .returned (.tuple #[.agg #[.int .i64 x1, .int .i64 y2, .int .i64 y3, .int .i64 y4, .int .i64 y5, .int .i64 x1, .int .i64 y2, .int .i64 y3, .int .i64 y4, .int .i64 y5, .int .i64 0, .int .i64 0, .int .i64 0, .int .i64 0, .int .i64 0, .int .i64 x1, .int .i64 c2, .int .i64 c3, .int .i64 c4, .int .i64 c5, .bool false], .agg #[.int .i64 2, .int .i64 x1, .int .i64 c2, .int .i64 c3, .int .i64 c4, .int .i64 c5], .bool true]) ∧ Below w.heap.size w w' := fun w => hear_ask x1 y2 y3 y4 y5 x1 y2 y3 y4 y5 0 0 0 0 0 0 0 0 0 0 c2 c3 c4 c5 _ _ _ _ _ _ _ _ _ _ _ _ _ _ _ _ _ _ _ _ _ _ _ _ _ _ false false hokN hxo (fun w => ask_yes x1 y2 y3 y4 y5 x1 y2 y3 y4 y5 0 0 0 0 0 0 0 0 0 0 x1 c2 c3 c4 c5 false hm2 g2 g3 g4 g5 w) w
      have hear2 : ∀ w : World, Calls Try.prog 31 #[.agg #[.int .i64 x1, .int .i64 y2, .int .i64 y3, .int .i64 y4, .int .i64 y5, .int .i64 x1, .int .i64 y2, .int .i64 y3, .int .i64 y4, .int .i64 y5, .int .i64 0, .int .i64 0, .int .i64 0, .int .i64 0, .int .i64 0, .int .i64 0, .int .i64 0, .int .i64 0, .int .i64 0, .int .i64 0, .bool false], .agg #[.int .i64 1, .int .i64 x1, .int .i64 c2, .int .i64 c3, .int .i64 c4, .int .i64 c5]] w fun e w' => e = .returned (.tuple #[.agg #[.int .i64 x1, .int .i64 y2, .int .i64 y3, .int .i64 y4, .int .i64 y5, .int .i64 x1, .int .i64 y2, .int .i64 y3, .int .i64 y4, .int .i64 y5, .int .i64 0, .int .i64 0, .int .i64 0, .int .i64 0, .int .i64 0, .int .i64 x1, .int .i64 c2, .int .i64 c3, .int .i64 c4, .int .i64 c5, .bool false], .agg #[.int .i64 2, .int .i64 x1, .int .i64 c2, .int .i64 c3, .int .i64 c4, .int .i64 c5], .bool true]) ∧ Below w.heap.size w w' := fun w => hear_ask x1 y2 y3 y4 y5 x1 y2 y3 y4 y5 0 0 0 0 0 0 0 0 0 0 c2 c3 c4 c5 _ _ _ _ _ _ _ _ _ _ _ _ _ _ _ _ _ _ _ _ _ _ _ _ _ _ false false hokN hxo (fun w => ask_yes x1 y2 y3 y4 y5 x1 y2 y3 y4 y5 0 0 0 0 0 0 0 0 0 0 x1 c2 c3 c4 c5 false hm2 g2 g3 g4 g5 w) w
      have H2 : Hid (_ = _) := h2
      clear h2
      have G2 : Hid (_ = _) := g2
      clear g2
      have J2 : Hid (_ = _) := j2
      clear j2
      have H3 : Hid (_ = _) := h3
      clear h3
      have G3 : Hid (_ = _) := g3
      clear g3
      have J3 : Hid (_ = _) := j3
      clear j3
      have H4 : Hid (_ = _) := h4
      clear h4
      have G4 : Hid (_ = _) := g4
      clear g4
      have J4 : Hid (_ = _) := j4
      clear j4
      have H5 : Hid (_ = _) := h5
      clear h5
      have G5 : Hid (_ = _) := g5
      clear g5
      have J5 : Hid (_ = _) := j5
      clear j5
      go_wp2_with (first
        | ((with_reducible refine at_load 24 ?_); refine box_load rfl 24 _ rfl _ rfl (by with_reducible assumption) Try.underlying24 rfl (by kernel_rfl) ?_))
      refine (impl_meet_yes _ _ _ _ _ _ _ _ _ _ c2 c3 c4 c5 hm H2.out H3.out H4.out H5.out _).mono ?_
      rintro e w' ⟨rfl, bb⟩
      (try clear k3)
      (try clear k5)
      (try clear k10)
      (try clear k13)
      replace b0 := bchain b0 bb
      (try replace B3 := B3.kept bb)
      (try replace B4 := B4.kept bb)
      (try replace B5 := B5.kept bb)
      (try replace B7 := B7.kept bb)
      (try replace B9 := B9.kept bb)
      (try replace B10 := B10.kept bb)
      (try replace B12 := B12.kept bb)
      (try replace B13 := B13.kept bb)
      clear bb
      (try have k3 := B3.k)
      (try have k5 := B5.k)
      (try have k10 := B10.k)
      (try have k13 := B13.k)
      go_wp2_with (first
        | ((with_reducible refine at_new 5 24 ?_); refine box_new (d := 5) rfl rfl 24 rfl _ zero_cfg ?_; intro w' B5 bb; have n5 := b0.size;  (try have l3_5 := B3.lt); (try have l4_5 := B4.lt); (try have l7_5 := B7.lt); (try have l9_5 := B9.lt); (try have l10_5 := B10.lt); (try have l12_5 := B12.lt); (try have l13_5 := B13.lt); (try clear k3); (try clear k5); (try clear k10); (try clear k13); replace b0 := bchain b0 bb; (try replace B3 := B3.kept bb); (try replace B4 := B4.kept bb);  (try replace B7 := B7.kept bb); (try replace B9 := B9.kept bb); (try replace B10 := B10.kept bb); (try replace B12 := B12.kept bb); (try replace B13 := B13.kept bb); clear bb; (try have k3 := B3.k); (try have k5 := B5.k); (try have k10 := B10.k); (try have k13 := B13.k))
        | ((with_reducible refine at_load 24 ?_); refine box_load rfl 24 _ rfl _ rfl (by with_reducible assumption) Try.underlying24 rfl (by kernel_rfl) ?_)
        | ((with_reducible refine at_store 24 ?_); refine box_store rfl 24 _ _ rfl _ _ rfl rfl (by with_reducible exact B5) (by kernel_rfl) (by rfl) (by simp [Value.oneCell']) ?_; clear B5; intro w' B5 gg; (try clear k3); (try clear k5); (try clear k10); (try clear k13); replace b0 := below_at b0 gg b0.size n5; (try replace B3 := B3.grown gg (Nat.ne_of_lt l3_5)); (try replace B4 := B4.grown gg (Nat.ne_of_lt l4_5)); (try replace B7 := B7.grown gg (Nat.ne_of_gt l5_7)); (try replace B9 := B9.grown gg (Nat.ne_of_gt l5_9)); (try replace B10 := B10.grown gg (Nat.ne_of_gt l5_10)); (try replace B12 := B12.grown gg (Nat.ne_of_gt l5_12)); (try replace B13 := B13.grown gg (Nat.ne_of_gt l5_13)); clear gg; (try have k3 := B3.k); (try have k5 := B5.k); (try have k10 := B10.k); (try have k13 := B13.k)))
      refine (spec_meet_yes _ _ _ _ _ _ _ _ _ _ c2 c3 c4 c5 hm H2.out H3.out H4.out H5.out _).mono ?_
      rintro e w' ⟨rfl, bb⟩
      (try clear k3)
      (try clear k5)
      (try clear k10)
      (try clear k13)
      replace b0 := bchain b0 bb
      (try replace B3 := B3.kept bb)
      (try replace B4 := B4.kept bb)
      (try replace B5 := B5.kept bb)
      (try replace B7 := B7.kept bb)
      (try replace B9 := B9.kept bb)
      (try replace B10 := B10.kept bb)
      (try replace B12 := B12.kept bb)
      (try replace B13 := B13.kept bb)
      clear bb
      (try have k3 := B3.k)
      (try have k5 := B5.k)
      (try have k10 := B10.k)
      (try have k13 := B13.k)
      go_wp2_with (first
        | ((with_reducible refine at_new 7 24 ?_); refine box_new (d := 7) rfl rfl 24 rfl _ zero_cfg ?_; intro w' B7 bb; have n7 := b0.size;  (try have l3_7 := B3.lt); (try have l4_7 := B4.lt); (try have l5_7 := B5.lt); (try have l9_7 := B9.lt); (try have l10_7 := B10.lt); (try have l12_7 := B12.lt); (try have l13_7 := B13.lt); (try clear k3); (try clear k5); (try clear k10); (try clear k13); replace b0 := bchain b0 bb; (try replace B3 := B3.kept bb); (try replace B4 := B4.kept bb); (try replace B5 := B5.kept bb);  (try replace B9 := B9.kept bb); (try replace B10 := B10.kept bb); (try replace B12 := B12.kept bb); (try replace B13 := B13.kept bb); clear bb; (try have k3 := B3.k); (try have k5 := B5.k); (try have k10 := B10.k); (try have k13 := B13.k))
        | ((with_reducible refine at_load 24 ?_); refine box_load rfl 24 _ rfl _ rfl (by with_reducible assumption) Try.underlying24 rfl (by kernel_rfl) ?_)
        | ((with_reducible refine at_store 24 ?_); refine box_store rfl 24 _ _ rfl _ _ rfl rfl (by with_reducible exact B7) (by kernel_rfl) (by rfl) (by simp [Value.oneCell']) ?_; clear B7; intro w' B7 gg; (try clear k3); (try clear k5); (try clear k10); (try clear k13); replace b0 := below_at b0 gg b0.size n7; (try replace B3 := B3.grown gg (Nat.ne_of_lt l3_7)); (try replace B4 := B4.grown gg (Nat.ne_of_lt l4_7)); (try replace B5 := B5.grown gg (Nat.ne_of_lt l5_7)); (try replace B9 := B9.grown gg (Nat.ne_of_gt l7_9)); (try replace B10 := B10.grown gg (Nat.ne_of_gt l7_10)); (try replace B12 := B12.grown gg (Nat.ne_of_gt l7_12)); (try replace B13 := B13.grown gg (Nat.ne_of_gt l7_13)); clear gg; (try have k3 := B3.k); (try have k5 := B5.k); (try have k10 := B10.k); (try have k13 := B13.k))
        | ((with_reducible refine at_cmp .neq 24 ?_); refine cfg_ne rfl _ _ rfl _ _ _ _ _ _ _ _ _ _ rfl rfl _ (Opt.same_self _) ?_))
      clear k3 k5
      refine region_lates 11 [47, 48, 49, 50, 51, 46, 52, 53, 54, 9, 10] [11, 12, 13] (fun i v wx => match i with | 0 => v = .agg #[.int .i64 x1, .int .i64 y2, .int .i64 y3, .int .i64 y4, .int .i64 y5] | 1 => v = .agg #[.int .i64 x1, .int .i64 y2, .int .i64 y3, .int .i64 y4, .int .i64 y5, .int .i64 x1, .int .i64 y2, .int .i64 y3, .int .i64 y4, .int .i64 y5, .int .i64 0, .int .i64 0, .int .i64 0, .int .i64 0, .int .i64 0, .int .i64 0, .int .i64 0, .int .i64 0, .int .i64 0, .int .i64 0, .bool false] | 2 => v = .agg #[.int .i64 x1, .int .i64 c2, .int .i64 c3, .int .i64 c4, .int .i64 c5] | 3 => v = .agg #[.int .i64 1, .int .i64 x1, .int .i64 c2, .int .i64 c3, .int .i64 c4, .int .i64 c5] | 4 => v = .tuple #[.agg #[.int .i64 x1, .int .i64 y2, .int .i64 y3, .int .i64 y4, .int .i64 y5, .int .i64 x1, .int .i64 y2, .int .i64 y3, .int .i64 y4, .int .i64 y5, .int .i64 0, .int .i64 0, .int .i64 0, .int .i64 0, .int .i64 0, .int .i64 x1, .int .i64 c2, .int .i64 c3, .int .i64 c4, .int .i64 c5, .bool false], .agg #[.int .i64 2, .int .i64 x1, .int .i64 c2, .int .i64 c3, .int .i64 c4, .int .i64 c5], .bool true] | 5 => v = .tuple #[.agg #[.int .i64 x1, .int .i64 y2, .int .i64 y3, .int .i64 y4, .int .i64 y5, .int .i64 x1, .int .i64 y2, .int .i64 y3, .int .i64 y4, .int .i64 y5, .int .i64 0, .int .i64 0, .int .i64 0, .int .i64 0, .int .i64 0, .int .i64 x1, .int .i64 c2, .int .i64 c3, .int .i64 c4, .int .i64 c5, .bool false], .agg #[.int .i64 2, .int .i64 x1, .int .i64 c2, .int .i64 c3, .int .i64 c4, .int .i64 c5], .bool true] | 6 => v = .agg #[.int .i64 x1, .int .i64 y2, .int .i64 y3, .int .i64 y4, .int .i64 y5, .int .i64 x1, .int .i64 y2, .int .i64 y3, .int .i64 y4, .int .i64 y5, .int .i64 0, .int .i64 0, .int .i64 0, .int .i64 0, .int .i64 0, .int .i64 x1, .int .i64 c2, .int .i64 c3, .int .i64 c4, .int .i64 c5, .bool false] | 7 => v = .agg #[.int .i64 2, .int .i64 x1, .int .i64 c2, .int .i64 c3, .int .i64 c4, .int .i64 c5] | 8 => v = .bool true | 9 => KBox w'.drew.heap.size #[.int .i64 0, .int .i64 0, .int .i64 0, .int .i64 0, .int .i64 0, .int .i64 0, .int .i64 0, .int .i64 0, .int .i64 0, .int .i64 0, .int .i64 0, .int .i64 0, .int .i64 0, .int .i64 0, .int .i64 0, .int .i64 0, .int .i64 0, .int .i64 0, .int .i64 0, .int .i64 0, .bool false] 26 v wx | 10 => KBox w'.drew.heap.size #[.int .i64 0, .int .i64 0, .int .i64 0, .int .i64 0, .int .i64 0, .int .i64 0] 37 v wx | _ => True) (Gk w'.drew) (fun w1 w2 => Below w1.heap.size w1 w2) (by kernel_rfl) [7, 8] (by kernel_rfl) (fun x _ _ _ _ h => by cases x <;> exact h) (dsts_in (by kernel_rfl)) (Below.refl _ _) ?hT110 ?step110 ?lst110 ?fin110
      case hT110 =>
        intro j v w1 w2 h k
        match j, h with
        | 0, h => exact h
        | 1, h => exact h
        | 2, h => exact h
        | 3, h => exact h
        | 4, h => exact h
        | 5, h => exact h
        | 6, h => exact h
        | 7, h => exact h
        | 8, h => exact h
        | 9, h => exact KBox.mono h k
        | 10, h => exact KBox.mono h k
        | _ + 11, _ => exact trivial
      case step110 =>
        intro i o hi ho a wx c hc hG hk
        match i, hi with
        | 0, _ =>
          cases ho
          have e4 : a.eval (.tmp 4) = .pointer (some ⟨_, 0, none⟩) := hk.was 4 (by kernel_rfl)
          exact kt_val (PR := fun v _ => v = .agg #[.int .i64 x1, .int .i64 y2, .int .i64 y3, .int .i64 y4, .int .i64 y5]) (run_load_row 24 _ rfl _ e4 (B4.drew.kept hG) Try.underlying24 rfl (by kernel_rfl)) hG rfl
        | 1, _ =>
          cases ho
          have e47 : a.eval (.tmp 47) = .agg #[.int .i64 x1, .int .i64 y2, .int .i64 y3, .int .i64 y4, .int .i64 y5] := hk.has 0 47 (by kernel_rfl) (by simp)
          exact kt_call (PR := fun v _ => v = .agg #[.int .i64 x1, .int .i64 y2, .int .i64 y3, .int .i64 y4, .int .i64 y5, .int .i64 x1, .int .i64 y2, .int .i64 y3, .int .i64 y4, .int .i64 y5, .int .i64 0, .int .i64 0, .int .i64 0, .int .i64 0, .int .i64 0, .int .i64 0, .int .i64 0, .int .i64 0, .int .i64 0, .int .i64 0, .bool false]) (run_call1 rfl e47 (fun _ _ => by kernel_rfl)) hG ((impl_new_yes _ _ _ _ _ hy _).mono (fun _ _ hh => ⟨_, hh.1, rfl, hh.2⟩))
        | 2, _ =>
          cases ho
          have e3 : a.eval (.tmp 3) = .pointer (some ⟨_, 0, none⟩) := hk.was 3 (by kernel_rfl)
          exact kt_val (PR := fun v _ => v = .agg #[.int .i64 x1, .int .i64 c2, .int .i64 c3, .int .i64 c4, .int .i64 c5]) (run_load_row 24 _ rfl _ e3 (B3.drew.kept hG) Try.underlying24 rfl (by kernel_rfl)) hG rfl
        | 3, _ =>
          cases ho
          have e49 : a.eval (.tmp 49) = .agg #[.int .i64 x1, .int .i64 c2, .int .i64 c3, .int .i64 c4, .int .i64 c5] := hk.has 2 49 (by kernel_rfl) (by simp)
          exact kt_val (PR := fun v _ => v = .agg #[.int .i64 1, .int .i64 x1, .int .i64 c2, .int .i64 c3, .int .i64 c4, .int .i64 c5]) (run_msg rfl e49) hG rfl
        | 4, _ =>
          cases ho
          have e48 : a.eval (.tmp 48) = .agg #[.int .i64 x1, .int .i64 y2, .int .i64 y3, .int .i64 y4, .int .i64 y5, .int .i64 x1, .int .i64 y2, .int .i64 y3, .int .i64 y4, .int .i64 y5, .int .i64 0, .int .i64 0, .int .i64 0, .int .i64 0, .int .i64 0, .int .i64 0, .int .i64 0, .int .i64 0, .int .i64 0, .int .i64 0, .bool false] := hk.has 1 48 (by kernel_rfl) (by simp)
          have e50 : a.eval (.tmp 50) = .agg #[.int .i64 1, .int .i64 x1, .int .i64 c2, .int .i64 c3, .int .i64 c4, .int .i64 c5] := hk.has 3 50 (by kernel_rfl) (by simp)
          exact kt_call (PR := fun v _ => v = .tuple #[.agg #[.int .i64 x1, .int .i64 y2, .int .i64 y3, .int .i64 y4, .int .i64 y5, .int .i64 x1, .int .i64 y2, .int .i64 y3, .int .i64 y4, .int .i64 y5, .int .i64 0, .int .i64 0, .int .i64 0, .int .i64 0, .int .i64 0, .int .i64 x1, .int .i64 c2, .int .i64 c3, .int .i64 c4, .int .i64 c5, .bool false], .agg #[.int .i64 2, .int .i64 x1, .int .i64 c2, .int .i64 c3, .int .i64 c4, .int .i64 c5], .bool true]) (run_call2 rfl e48 e50 (fun _ _ => by kernel_rfl)) hG ((hear1 _).mono (fun _ _ hh => ⟨_, hh.1, rfl, hh.2⟩))
        | 5, _ =>
          cases ho
          have e51 : a.eval (.tmp 51) = .tuple #[.agg #[.int .i64 x1, .int .i64 y2, .int .i64 y3, .int .i64 y4, .int .i64 y5, .int .i64 x1, .int .i64 y2, .int .i64 y3, .int .i64 y4, .int .i64 y5, .int .i64 0, .int .i64 0, .int .i64 0, .int .i64 0, .int .i64 0, .int .i64 x1, .int .i64 c2, .int .i64 c3, .int .i64 c4, .int .i64 c5, .bool false], .agg #[.int .i64 2, .int .i64 x1, .int .i64 c2, .int .i64 c3, .int .i64 c4, .int .i64 c5], .bool true] := hk.has 4 51 (by kernel_rfl) (by simp)
          exact kt_val (PR := fun v _ => v = .tuple #[.agg #[.int .i64 x1, .int .i64 y2, .int .i64 y3, .int .i64 y4, .int .i64 y5, .int .i64 x1, .int .i64 y2, .int .i64 y3, .int .i64 y4, .int .i64 y5, .int .i64 0, .int .i64 0, .int .i64 0, .int .i64 0, .int .i64 0, .int .i64 x1, .int .i64 c2, .int .i64 c3, .int .i64 c4, .int .i64 c5, .bool false], .agg #[.int .i64 2, .int .i64 x1, .int .i64 c2, .int .i64 c3, .int .i64 c4, .int .i64 c5], .bool true]) (run_move e51) hG rfl
        | 6, _ =>
          cases ho
          have e46 : a.eval (.tmp 46) = .tuple #[.agg #[.int .i64 x1, .int .i64 y2, .int .i64 y3, .int .i64 y4, .int .i64 y5, .int .i64 x1, .int .i64 y2, .int .i64 y3, .int .i64 y4, .int .i64 y5, .int .i64 0, .int .i64 0, .int .i64 0, .int .i64 0, .int .i64 0, .int .i64 x1, .int .i64 c2, .int .i64 c3, .int .i64 c4, .int .i64 c5, .bool false], .agg #[.int .i64 2, .int .i64 x1, .int .i64 c2, .int .i64 c3, .int .i64 c4, .int .i64 c5], .bool true] := hk.has 5 46 (by kernel_rfl) (by simp)
          exact kt_val (PR := fun v _ => v = .agg #[.int .i64 x1, .int .i64 y2, .int .i64 y3, .int .i64 y4, .int .i64 y5, .int .i64 x1, .int .i64 y2, .int .i64 y3, .int .i64 y4, .int .i64 y5, .int .i64 0, .int .i64 0, .int .i64 0, .int .i64 0, .int .i64 0, .int .i64 x1, .int .i64 c2, .int .i64 c3, .int .i64 c4, .int .i64 c5, .bool false]) (run_extract e46 rfl) hG rfl
        | 7, _ =>
          cases ho
          have e46 : a.eval (.tmp 46) = .tuple #[.agg #[.int .i64 x1, .int .i64 y2, .int .i64 y3, .int .i64 y4, .int .i64 y5, .int .i64 x1, .int .i64 y2, .int .i64 y3, .int .i64 y4, .int .i64 y5, .int .i64 0, .int .i64 0, .int .i64 0, .int .i64 0, .int .i64 0, .int .i64 x1, .int .i64 c2, .int .i64 c3, .int .i64 c4, .int .i64 c5, .bool false], .agg #[.int .i64 2, .int .i64 x1, .int .i64 c2, .int .i64 c3, .int .i64 c4, .int .i64 c5], .bool true] := hk.has 5 46 (by kernel_rfl) (by simp)
          exact kt_val (PR := fun v _ => v = .agg #[.int .i64 2, .int .i64 x1, .int .i64 c2, .int .i64 c3, .int .i64 c4, .int .i64 c5]) (run_extract e46 rfl) hG rfl
        | 8, _ =>
          cases ho
          have e46 : a.eval (.tmp 46) = .tuple #[.agg #[.int .i64 x1, .int .i64 y2, .int .i64 y3, .int .i64 y4, .int .i64 y5, .int .i64 x1, .int .i64 y2, .int .i64 y3, .int .i64 y4, .int .i64 y5, .int .i64 0, .int .i64 0, .int .i64 0, .int .i64 0, .int .i64 0, .int .i64 x1, .int .i64 c2, .int .i64 c3, .int .i64 c4, .int .i64 c5, .bool false], .agg #[.int .i64 2, .int .i64 x1, .int .i64 c2, .int .i64 c3, .int .i64 c4, .int .i64 c5], .bool true] := hk.has 5 46 (by kernel_rfl) (by simp)
          exact kt_val (PR := fun v _ => v = .bool true) (run_extract e46 rfl) hG rfl
        | 9, _ =>
          cases ho
          exact kt_new rfl zero_neg hG
        | 10, _ =>
          cases ho
          exact kt_new rfl zero_msg hG
        | k + 11, hi => omega
      case lst110 =>
        intro i o hi ho a wx c hG hk
        simp only [List.mem_cons, List.not_mem_nil, or_false] at hi
        rcases hi with rfl | rfl
        · cases ho
          have e46 : a.eval (.tmp 46) = .tuple #[.agg #[.int .i64 x1, .int .i64 y2, .int .i64 y3, .int .i64 y4, .int .i64 y5, .int .i64 x1, .int .i64 y2, .int .i64 y3, .int .i64 y4, .int .i64 y5, .int .i64 0, .int .i64 0, .int .i64 0, .int .i64 0, .int .i64 0, .int .i64 x1, .int .i64 c2, .int .i64 c3, .int .i64 c4, .int .i64 c5, .bool false], .agg #[.int .i64 2, .int .i64 x1, .int .i64 c2, .int .i64 c3, .int .i64 c4, .int .i64 c5], .bool true] := hk.has 5 46 (by kernel_rfl) (by simp)
          exact ⟨_, fun _ => run_extract e46 rfl, rfl, hG⟩
        · cases ho
          have e46 : a.eval (.tmp 46) = .tuple #[.agg #[.int .i64 x1, .int .i64 y2, .int .i64 y3, .int .i64 y4, .int .i64 y5, .int .i64 x1, .int .i64 y2, .int .i64 y3, .int .i64 y4, .int .i64 y5, .int .i64 0, .int .i64 0, .int .i64 0, .int .i64 0, .int .i64 0, .int .i64 x1, .int .i64 c2, .int .i64 c3, .int .i64 c4, .int .i64 c5, .bool false], .agg #[.int .i64 2, .int .i64 x1, .int .i64 c2, .int .i64 c3, .int .i64 c4, .int .i64 c5], .bool true] := hk.has 5 46 (by kernel_rfl) (by simp)
          exact ⟨_, fun _ => run_extract e46 rfl, rfl, hG⟩
      intro vals wx hG hv
      have v0 : vals 0 = .agg #[.int .i64 x1, .int .i64 y2, .int .i64 y3, .int .i64 y4, .int .i64 y5] := hv 0 (by omega)
      have v1 : vals 1 = .agg #[.int .i64 x1, .int .i64 y2, .int .i64 y3, .int .i64 y4, .int .i64 y5, .int .i64 x1, .int .i64 y2, .int .i64 y3, .int .i64 y4, .int .i64 y5, .int .i64 0, .int .i64 0, .int .i64 0, .int .i64 0, .int .i64 0, .int .i64 0, .int .i64 0, .int .i64 0, .int .i64 0, .int .i64 0, .bool false] := hv 1 (by omega)
      have v2 : vals 2 = .agg #[.int .i64 x1, .int .i64 c2, .int .i64 c3, .int .i64 c4, .int .i64 c5] := hv 2 (by omega)
      have v3 : vals 3 = .agg #[.int .i64 1, .int .i64 x1, .int .i64 c2, .int .i64 c3, .int .i64 c4, .int .i64 c5] := hv 3 (by omega)
      have v4 : vals 4 = .tuple #[.agg #[.int .i64 x1, .int .i64 y2, .int .i64 y3, .int .i64 y4, .int .i64 y5, .int .i64 x1, .int .i64 y2, .int .i64 y3, .int .i64 y4, .int .i64 y5, .int .i64 0, .int .i64 0, .int .i64 0, .int .i64 0, .int .i64 0, .int .i64 x1, .int .i64 c2, .int .i64 c3, .int .i64 c4, .int .i64 c5, .bool false], .agg #[.int .i64 2, .int .i64 x1, .int .i64 c2, .int .i64 c3, .int .i64 c4, .int .i64 c5], .bool true] := hv 4 (by omega)
      have v5 : vals 5 = .tuple #[.agg #[.int .i64 x1, .int .i64 y2, .int .i64 y3, .int .i64 y4, .int .i64 y5, .int .i64 x1, .int .i64 y2, .int .i64 y3, .int .i64 y4, .int .i64 y5, .int .i64 0, .int .i64 0, .int .i64 0, .int .i64 0, .int .i64 0, .int .i64 x1, .int .i64 c2, .int .i64 c3, .int .i64 c4, .int .i64 c5, .bool false], .agg #[.int .i64 2, .int .i64 x1, .int .i64 c2, .int .i64 c3, .int .i64 c4, .int .i64 c5], .bool true] := hv 5 (by omega)
      have v6 : vals 6 = .agg #[.int .i64 x1, .int .i64 y2, .int .i64 y3, .int .i64 y4, .int .i64 y5, .int .i64 x1, .int .i64 y2, .int .i64 y3, .int .i64 y4, .int .i64 y5, .int .i64 0, .int .i64 0, .int .i64 0, .int .i64 0, .int .i64 0, .int .i64 x1, .int .i64 c2, .int .i64 c3, .int .i64 c4, .int .i64 c5, .bool false] := hv 6 (by omega)
      have v7 : vals 7 = .agg #[.int .i64 2, .int .i64 x1, .int .i64 c2, .int .i64 c3, .int .i64 c4, .int .i64 c5] := hv 7 (by omega)
      have v8 : vals 8 = .bool true := hv 8 (by omega)
      obtain ⟨g9, v9, m9, B9⟩ := hv 9 (by omega)
      obtain ⟨g10, v10, m10, B10⟩ := hv 10 (by omega)
      clear hv
      simp only [putsL, Act.put, v0, v1, v2, v3, v4, v5, v6, v7, v8, v9, v10, List.setIfInBounds_toArray, List.set_cons_zero, List.set_cons_succ]
      clear v0 v1 v2 v3 v4 v5 v6 v7 v8 v9 v10
      have n9 : w.heap.size ≤ g9 := Nat.le_trans b0.size m9
      have l3_9 := Nat.lt_of_lt_of_le B3.lt m9
      have l4_9 := Nat.lt_of_lt_of_le B4.lt m9
      have l5_9 := Nat.lt_of_lt_of_le B5.lt m9
      have l7_9 := Nat.lt_of_lt_of_le B7.lt m9
      have n10 : w.heap.size ≤ g10 := Nat.le_trans b0.size m10
      have l3_10 := Nat.lt_of_lt_of_le B3.lt m10
      have l4_10 := Nat.lt_of_lt_of_le B4.lt m10
      have l5_10 := Nat.lt_of_lt_of_le B5.lt m10
      have l7_10 := Nat.lt_of_lt_of_le B7.lt m10
      have ne_9_10 : g9 ≠ g10 := B9.ne B10 (by decide)
      replace b0 := bchain b0.drew hG
      replace B3 := B3.drew.kept hG
      replace B4 := B4.drew.kept hG
      replace B5 := B5.drew.kept hG
      replace B7 := B7.drew.kept hG
      clear hG
      refine tail_cons rfl rfl ?_
      refine wp_box_store 26 _ _ rfl _ _ rfl rfl B9 (by kernel_rfl) rfl (by simp [Value.oneCell']) ?_
      clear B9
      intro w' B9 gg
      replace b0 := below_at b0 gg b0.size n9
      replace B3 := B3.grown gg (Nat.ne_of_lt l3_9)
      replace B4 := B4.grown gg (Nat.ne_of_lt l4_9)
      replace B5 := B5.grown gg (Nat.ne_of_lt l5_9)
      replace B7 := B7.grown gg (Nat.ne_of_lt l7_9)
      replace B10 := B10.grown gg (Ne.symm ne_9_10)
      clear gg
      refine tail_cons rfl rfl ?_
      refine wp_box_store 37 _ _ rfl _ _ rfl rfl B10 (by kernel_rfl) rfl (by simp [Value.oneCell']) ?_
      clear B10
      intro w' B10 gg
      replace b0 := below_at b0 gg b0.size n10
      replace B3 := B3.grown gg (Nat.ne_of_lt l3_10)
      replace B4 := B4.grown gg (Nat.ne_of_lt l4_10)
      replace B5 := B5.grown gg (Nat.ne_of_lt l5_10)
      replace B7 := B7.grown gg (Nat.ne_of_lt l7_10)
      replace B9 := B9.grown gg ne_9_10
      clear gg
      refine tail_one rfl rfl ?_
      go_simp
      have k3 := B3.k
      have k5 := B5.k
      have k10 := B10.k
      go_wp2_with fail
      clear k3 k5 k10
      refine region_lates 11 [56, 57, 58, 59, 60, 55, 61, 62, 63, 12, 13] [11, 12, 13] (fun i v wx => match i with | 0 => v = .agg #[.int .i64 x1, .int .i64 y2, .int .i64 y3, .int .i64 y4, .int .i64 y5] | 1 => v = .agg #[.int .i64 x1, .int .i64 y2, .int .i64 y3, .int .i64 y4, .int .i64 y5, .int .i64 x1, .int .i64 y2, .int .i64 y3, .int .i64 y4, .int .i64 y5, .int .i64 0, .int .i64 0, .int .i64 0, .int .i64 0, .int .i64 0, .int .i64 0, .int .i64 0, .int .i64 0, .int .i64 0, .int .i64 0, .bool false] | 2 => v = .agg #[.int .i64 x1, .int .i64 c2, .int .i64 c3, .int .i64 c4, .int .i64 c5] | 3 => v = .agg #[.int .i64 1, .int .i64 x1, .int .i64 c2, .int .i64 c3, .int .i64 c4, .int .i64 c5] | 4 => v = .tuple #[.agg #[.int .i64 x1, .int .i64 y2, .int .i64 y3, .int .i64 y4, .int .i64 y5, .int .i64 x1, .int .i64 y2, .int .i64 y3, .int .i64 y4, .int .i64 y5, .int .i64 0, .int .i64 0, .int .i64 0, .int .i64 0, .int .i64 0, .int .i64 x1, .int .i64 c2, .int .i64 c3, .int .i64 c4, .int .i64 c5, .bool false], .agg #[.int .i64 2, .int .i64 x1, .int .i64 c2, .int .i64 c3, .int .i64 c4, .int .i64 c5], .bool true] | 5 => v = .tuple #[.agg #[.int .i64 x1, .int .i64 y2, .int .i64 y3, .int .i64 y4, .int .i64 y5, .int .i64 x1, .int .i64 y2, .int .i64 y3, .int .i64 y4, .int .i64 y5, .int .i64 0, .int .i64 0, .int .i64 0, .int .i64 0, .int .i64 0, .int .i64 x1, .int .i64 c2, .int .i64 c3, .int .i64 c4, .int .i64 c5, .bool false], .agg #[.int .i64 2, .int .i64 x1, .int .i64 c2, .int .i64 c3, .int .i64 c4, .int .i64 c5], .bool true] | 6 => v = .agg #[.int .i64 x1, .int .i64 y2, .int .i64 y3, .int .i64 y4, .int .i64 y5, .int .i64 x1, .int .i64 y2, .int .i64 y3, .int .i64 y4, .int .i64 y5, .int .i64 0, .int .i64 0, .int .i64 0, .int .i64 0, .int .i64 0, .int .i64 x1, .int .i64 c2, .int .i64 c3, .int .i64 c4, .int .i64 c5, .bool false] | 7 => v = .agg #[.int .i64 2, .int .i64 x1, .int .i64 c2, .int .i64 c3, .int .i64 c4, .int .i64 c5] | 8 => v = .bool true | 9 => KBox w'.drew.heap.size #[.int .i64 0, .int .i64 0, .int .i64 0, .int .i64 0, .int .i64 0, .int .i64 0, .int .i64 0, .int .i64 0, .int .i64 0, .int .i64 0, .int .i64 0, .int .i64 0, .int .i64 0, .int .i64 0, .int .i64 0, .int .i64 0, .int .i64 0, .int .i64 0, .int .i64 0, .int .i64 0, .bool false] 26 v wx | 10 => KBox w'.drew.heap.size #[.int .i64 0, .int .i64 0, .int .i64 0, .int .i64 0, .int .i64 0, .int .i64 0] 37 v wx | _ => True) (Gk w'.drew) (fun w1 w2 => Below w1.heap.size w1 w2) (by kernel_rfl) [7, 8] (by kernel_rfl) (fun x _ _ _ _ h => by cases x <;> exact h) (dsts_in (by kernel_rfl)) (Below.refl _ _) ?hT111 ?step111 ?lst111 ?fin111
      case hT111 =>
        intro j v w1 w2 h k
        match j, h with
        | 0, h => exact h
        | 1, h => exact h
        | 2, h => exact h
        | 3, h => exact h
        | 4, h => exact h
        | 5, h => exact h
        | 6, h => exact h
        | 7, h => exact h
        | 8, h => exact h
        | 9, h => exact KBox.mono h k
        | 10, h => exact KBox.mono h k
        | _ + 11, _ => exact trivial
      case step111 =>
        intro i o hi ho a wx c hc hG hk
        match i, hi with
        | 0, _ =>
          cases ho
          have e4 : a.eval (.tmp 4) = .pointer (some ⟨_, 0, none⟩) := hk.was 4 (by kernel_rfl)
          exact kt_val (PR := fun v _ => v = .agg #[.int .i64 x1, .int .i64 y2, .int .i64 y3, .int .i64 y4, .int .i64 y5]) (run_load_row 24 _ rfl _ e4 (B4.drew.kept hG) Try.underlying24 rfl (by kernel_rfl)) hG rfl
        | 1, _ =>
          cases ho
          have e56 : a.eval (.tmp 56) = .agg #[.int .i64 x1, .int .i64 y2, .int .i64 y3, .int .i64 y4, .int .i64 y5] := hk.has 0 56 (by kernel_rfl) (by simp)
          exact kt_call (PR := fun v _ => v = .agg #[.int .i64 x1, .int .i64 y2, .int .i64 y3, .int .i64 y4, .int .i64 y5, .int .i64 x1, .int .i64 y2, .int .i64 y3, .int .i64 y4, .int .i64 y5, .int .i64 0, .int .i64 0, .int .i64 0, .int .i64 0, .int .i64 0, .int .i64 0, .int .i64 0, .int .i64 0, .int .i64 0, .int .i64 0, .bool false]) (run_call1 rfl e56 (fun _ _ => by kernel_rfl)) hG ((impl_new_yes _ _ _ _ _ hy _).mono (fun _ _ hh => ⟨_, hh.1, rfl, hh.2⟩))
        | 2, _ =>
          cases ho
          have e5 : a.eval (.tmp 5) = .pointer (some ⟨_, 0, none⟩) := hk.was 5 (by kernel_rfl)
          exact kt_val (PR := fun v _ => v = .agg #[.int .i64 x1, .int .i64 c2, .int .i64 c3, .int .i64 c4, .int .i64 c5]) (run_load_row 24 _ rfl _ e5 (B5.drew.kept hG) Try.underlying24 rfl (by kernel_rfl)) hG rfl
        | 3, _ =>
          cases ho
          have e58 : a.eval (.tmp 58) = .agg #[.int .i64 x1, .int .i64 c2, .int .i64 c3, .int .i64 c4, .int .i64 c5] := hk.has 2 58 (by kernel_rfl) (by simp)
          exact kt_val (PR := fun v _ => v = .agg #[.int .i64 1, .int .i64 x1, .int .i64 c2, .int .i64 c3, .int .i64 c4, .int .i64 c5]) (run_msg rfl e58) hG rfl
        | 4, _ =>
          cases ho
          have e57 : a.eval (.tmp 57) = .agg #[.int .i64 x1, .int .i64 y2, .int .i64 y3, .int .i64 y4, .int .i64 y5, .int .i64 x1, .int .i64 y2, .int .i64 y3, .int .i64 y4, .int .i64 y5, .int .i64 0, .int .i64 0, .int .i64 0, .int .i64 0, .int .i64 0, .int .i64 0, .int .i64 0, .int .i64 0, .int .i64 0, .int .i64 0, .bool false] := hk.has 1 57 (by kernel_rfl) (by simp)
          have e59 : a.eval (.tmp 59) = .agg #[.int .i64 1, .int .i64 x1, .int .i64 c2, .int .i64 c3, .int .i64 c4, .int .i64 c5] := hk.has 3 59 (by kernel_rfl) (by simp)
          exact kt_call (PR := fun v _ => v = .tuple #[.agg #[.int .i64 x1, .int .i64 y2, .int .i64 y3, .int .i64 y4, .int .i64 y5, .int .i64 x1, .int .i64 y2, .int .i64 y3, .int .i64 y4, .int .i64 y5, .int .i64 0, .int .i64 0, .int .i64 0, .int .i64 0, .int .i64 0, .int .i64 x1, .int .i64 c2, .int .i64 c3, .int .i64 c4, .int .i64 c5, .bool false], .agg #[.int .i64 2, .int .i64 x1, .int .i64 c2, .int .i64 c3, .int .i64 c4, .int .i64 c5], .bool true]) (run_call2 rfl e57 e59 (fun _ _ => by kernel_rfl)) hG ((hear2 _).mono (fun _ _ hh => ⟨_, hh.1, rfl, hh.2⟩))
        | 5, _ =>
          cases ho
          have e60 : a.eval (.tmp 60) = .tuple #[.agg #[.int .i64 x1, .int .i64 y2, .int .i64 y3, .int .i64 y4, .int .i64 y5, .int .i64 x1, .int .i64 y2, .int .i64 y3, .int .i64 y4, .int .i64 y5, .int .i64 0, .int .i64 0, .int .i64 0, .int .i64 0, .int .i64 0, .int .i64 x1, .int .i64 c2, .int .i64 c3, .int .i64 c4, .int .i64 c5, .bool false], .agg #[.int .i64 2, .int .i64 x1, .int .i64 c2, .int .i64 c3, .int .i64 c4, .int .i64 c5], .bool true] := hk.has 4 60 (by kernel_rfl) (by simp)
          exact kt_val (PR := fun v _ => v = .tuple #[.agg #[.int .i64 x1, .int .i64 y2, .int .i64 y3, .int .i64 y4, .int .i64 y5, .int .i64 x1, .int .i64 y2, .int .i64 y3, .int .i64 y4, .int .i64 y5, .int .i64 0, .int .i64 0, .int .i64 0, .int .i64 0, .int .i64 0, .int .i64 x1, .int .i64 c2, .int .i64 c3, .int .i64 c4, .int .i64 c5, .bool false], .agg #[.int .i64 2, .int .i64 x1, .int .i64 c2, .int .i64 c3, .int .i64 c4, .int .i64 c5], .bool true]) (run_move e60) hG rfl
        | 6, _ =>
          cases ho
          have e55 : a.eval (.tmp 55) = .tuple #[.agg #[.int .i64 x1, .int .i64 y2, .int .i64 y3, .int .i64 y4, .int .i64 y5, .int .i64 x1, .int .i64 y2, .int .i64 y3, .int .i64 y4, .int .i64 y5, .int .i64 0, .int .i64 0, .int .i64 0, .int .i64 0, .int .i64 0, .int .i64 x1, .int .i64 c2, .int .i64 c3, .int .i64 c4, .int .i64 c5, .bool false], .agg #[.int .i64 2, .int .i64 x1, .int .i64 c2, .int .i64 c3, .int .i64 c4, .int .i64 c5], .bool true] := hk.has 5 55 (by kernel_rfl) (by simp)
          exact kt_val (PR := fun v _ => v = .agg #[.int .i64 x1, .int .i64 y2, .int .i64 y3, .int .i64 y4, .int .i64 y5, .int .i64 x1, .int .i64 y2, .int .i64 y3, .int .i64 y4, .int .i64 y5, .int .i64 0, .int .i64 0, .int .i64 0, .int .i64 0, .int .i64 0, .int .i64 x1, .int .i64 c2, .int .i64 c3, .int .i64 c4, .int .i64 c5, .bool false]) (run_extract e55 rfl) hG rfl
        | 7, _ =>
          cases ho
          have e55 : a.eval (.tmp 55) = .tuple #[.agg #[.int .i64 x1, .int .i64 y2, .int .i64 y3, .int .i64 y4, .int .i64 y5, .int .i64 x1, .int .i64 y2, .int .i64 y3, .int .i64 y4, .int .i64 y5, .int .i64 0, .int .i64 0, .int .i64 0, .int .i64 0, .int .i64 0, .int .i64 x1, .int .i64 c2, .int .i64 c3, .int .i64 c4, .int .i64 c5, .bool false], .agg #[.int .i64 2, .int .i64 x1, .int .i64 c2, .int .i64 c3, .int .i64 c4, .int .i64 c5], .bool true] := hk.has 5 55 (by kernel_rfl) (by simp)
          exact kt_val (PR := fun v _ => v = .agg #[.int .i64 2, .int .i64 x1, .int .i64 c2, .int .i64 c3, .int .i64 c4, .int .i64 c5]) (run_extract e55 rfl) hG rfl
        | 8, _ =>
          cases ho
          have e55 : a.eval (.tmp 55) = .tuple #[.agg #[.int .i64 x1, .int .i64 y2, .int .i64 y3, .int .i64 y4, .int .i64 y5, .int .i64 x1, .int .i64 y2, .int .i64 y3, .int .i64 y4, .int .i64 y5, .int .i64 0, .int .i64 0, .int .i64 0, .int .i64 0, .int .i64 0, .int .i64 x1, .int .i64 c2, .int .i64 c3, .int .i64 c4, .int .i64 c5, .bool false], .agg #[.int .i64 2, .int .i64 x1, .int .i64 c2, .int .i64 c3, .int .i64 c4, .int .i64 c5], .bool true] := hk.has 5 55 (by kernel_rfl) (by simp)
          exact kt_val (PR := fun v _ => v = .bool true) (run_extract e55 rfl) hG rfl
        | 9, _ =>
          cases ho
          exact kt_new rfl zero_neg hG
        | 10, _ =>
          cases ho
          exact kt_new rfl zero_msg hG
        | k + 11, hi => omega
      case lst111 =>
        intro i o hi ho a wx c hG hk
        simp only [List.mem_cons, List.not_mem_nil, or_false] at hi
        rcases hi with rfl | rfl
        · cases ho
          have e55 : a.eval (.tmp 55) = .tuple #[.agg #[.int .i64 x1, .int .i64 y2, .int .i64 y3, .int .i64 y4, .int .i64 y5, .int .i64 x1, .int .i64 y2, .int .i64 y3, .int .i64 y4, .int .i64 y5, .int .i64 0, .int .i64 0, .int .i64 0, .int .i64 0, .int .i64 0, .int .i64 x1, .int .i64 c2, .int .i64 c3, .int .i64 c4, .int .i64 c5, .bool false], .agg #[.int .i64 2, .int .i64 x1, .int .i64 c2, .int .i64 c3, .int .i64 c4, .int .i64 c5], .bool true] := hk.has 5 55 (by kernel_rfl) (by simp)
          exact ⟨_, fun _ => run_extract e55 rfl, rfl, hG⟩
        · cases ho
          have e55 : a.eval (.tmp 55) = .tuple #[.agg #[.int .i64 x1, .int .i64 y2, .int .i64 y3, .int .i64 y4, .int .i64 y5, .int .i64 x1, .int .i64 y2, .int .i64 y3, .int .i64 y4, .int .i64 y5, .int .i64 0, .int .i64 0, .int .i64 0, .int .i64 0, .int .i64 0, .int .i64 x1, .int .i64 c2, .int .i64 c3, .int .i64 c4, .int .i64 c5, .bool false], .agg #[.int .i64 2, .int .i64 x1, .int .i64 c2, .int .i64 c3, .int .i64 c4, .int .i64 c5], .bool true] := hk.has 5 55 (by kernel_rfl) (by simp)
          exact ⟨_, fun _ => run_extract e55 rfl, rfl, hG⟩
      intro vals wx hG hv
      have v0 : vals 0 = .agg #[.int .i64 x1, .int .i64 y2, .int .i64 y3, .int .i64 y4, .int .i64 y5] := hv 0 (by omega)
      have v1 : vals 1 = .agg #[.int .i64 x1, .int .i64 y2, .int .i64 y3, .int .i64 y4, .int .i64 y5, .int .i64 x1, .int .i64 y2, .int .i64 y3, .int .i64 y4, .int .i64 y5, .int .i64 0, .int .i64 0, .int .i64 0, .int .i64 0, .int .i64 0, .int .i64 0, .int .i64 0, .int .i64 0, .int .i64 0, .int .i64 0, .bool false] := hv 1 (by omega)
      have v2 : vals 2 = .agg #[.int .i64 x1, .int .i64 c2, .int .i64 c3, .int .i64 c4, .int .i64 c5] := hv 2 (by omega)
      have v3 : vals 3 = .agg #[.int .i64 1, .int .i64 x1, .int .i64 c2, .int .i64 c3, .int .i64 c4, .int .i64 c5] := hv 3 (by omega)
      have v4 : vals 4 = .tuple #[.agg #[.int .i64 x1, .int .i64 y2, .int .i64 y3, .int .i64 y4, .int .i64 y5, .int .i64 x1, .int .i64 y2, .int .i64 y3, .int .i64 y4, .int .i64 y5, .int .i64 0, .int .i64 0, .int .i64 0, .int .i64 0, .int .i64 0, .int .i64 x1, .int .i64 c2, .int .i64 c3, .int .i64 c4, .int .i64 c5, .bool false], .agg #[.int .i64 2, .int .i64 x1, .int .i64 c2, .int .i64 c3, .int .i64 c4, .int .i64 c5], .bool true] := hv 4 (by omega)
      have v5 : vals 5 = .tuple #[.agg #[.int .i64 x1, .int .i64 y2, .int .i64 y3, .int .i64 y4, .int .i64 y5, .int .i64 x1, .int .i64 y2, .int .i64 y3, .int .i64 y4, .int .i64 y5, .int .i64 0, .int .i64 0, .int .i64 0, .int .i64 0, .int .i64 0, .int .i64 x1, .int .i64 c2, .int .i64 c3, .int .i64 c4, .int .i64 c5, .bool false], .agg #[.int .i64 2, .int .i64 x1, .int .i64 c2, .int .i64 c3, .int .i64 c4, .int .i64 c5], .bool true] := hv 5 (by omega)
      have v6 : vals 6 = .agg #[.int .i64 x1, .int .i64 y2, .int .i64 y3, .int .i64 y4, .int .i64 y5, .int .i64 x1, .int .i64 y2, .int .i64 y3, .int .i64 y4, .int .i64 y5, .int .i64 0, .int .i64 0, .int .i64 0, .int .i64 0, .int .i64 0, .int .i64 x1, .int .i64 c2, .int .i64 c3, .int .i64 c4, .int .i64 c5, .bool false] := hv 6 (by omega)
      have v7 : vals 7 = .agg #[.int .i64 2, .int .i64 x1, .int .i64 c2, .int .i64 c3, .int .i64 c4, .int .i64 c5] := hv 7 (by omega)
      have v8 : vals 8 = .bool true := hv 8 (by omega)
      obtain ⟨g12, v9, m12, B12⟩ := hv 9 (by omega)
      obtain ⟨g13, v10, m13, B13⟩ := hv 10 (by omega)
      clear hv
      simp only [putsL, Act.put, v0, v1, v2, v3, v4, v5, v6, v7, v8, v9, v10, List.setIfInBounds_toArray, List.set_cons_zero, List.set_cons_succ]
      clear v0 v1 v2 v3 v4 v5 v6 v7 v8 v9 v10
      have n12 : w.heap.size ≤ g12 := Nat.le_trans b0.size m12
      have l3_12 := Nat.lt_of_lt_of_le B3.lt m12
      have l4_12 := Nat.lt_of_lt_of_le B4.lt m12
      have l5_12 := Nat.lt_of_lt_of_le B5.lt m12
      have l7_12 := Nat.lt_of_lt_of_le B7.lt m12
      have l9_12 := Nat.lt_of_lt_of_le B9.lt m12
      have l10_12 := Nat.lt_of_lt_of_le B10.lt m12
      have n13 : w.heap.size ≤ g13 := Nat.le_trans b0.size m13
      have l3_13 := Nat.lt_of_lt_of_le B3.lt m13
      have l4_13 := Nat.lt_of_lt_of_le B4.lt m13
      have l5_13 := Nat.lt_of_lt_of_le B5.lt m13
      have l7_13 := Nat.lt_of_lt_of_le B7.lt m13
      have l9_13 := Nat.lt_of_lt_of_le B9.lt m13
      have l10_13 := Nat.lt_of_lt_of_le B10.lt m13
      have ne_12_13 : g12 ≠ g13 := B12.ne B13 (by decide)
      replace b0 := bchain b0.drew hG
      replace B3 := B3.drew.kept hG
      replace B4 := B4.drew.kept hG
      replace B5 := B5.drew.kept hG
      replace B7 := B7.drew.kept hG
      replace B9 := B9.drew.kept hG
      replace B10 := B10.drew.kept hG
      clear hG
      refine tail_cons rfl rfl ?_
      refine wp_box_store 26 _ _ rfl _ _ rfl rfl B12 (by kernel_rfl) rfl (by simp [Value.oneCell']) ?_
      clear B12
      intro w' B12 gg
      replace b0 := below_at b0 gg b0.size n12
      replace B3 := B3.grown gg (Nat.ne_of_lt l3_12)
      replace B4 := B4.grown gg (Nat.ne_of_lt l4_12)
      replace B5 := B5.grown gg (Nat.ne_of_lt l5_12)
      replace B7 := B7.grown gg (Nat.ne_of_lt l7_12)
      replace B9 := B9.grown gg (Nat.ne_of_lt l9_12)
      replace B10 := B10.grown gg (Nat.ne_of_lt l10_12)
      replace B13 := B13.grown gg (Ne.symm ne_12_13)
      clear gg
      refine tail_cons rfl rfl ?_
      refine wp_box_store 37 _ _ rfl _ _ rfl rfl B13 (by kernel_rfl) rfl (by simp [Value.oneCell']) ?_
      clear B13
      intro w' B13 gg
      replace b0 := below_at b0 gg b0.size n13
      replace B3 := B3.grown gg (Nat.ne_of_lt l3_13)
      replace B4 := B4.grown gg (Nat.ne_of_lt l4_13)
      replace B5 := B5.grown gg (Nat.ne_of_lt l5_13)
      replace B7 := B7.grown gg (Nat.ne_of_lt l7_13)
      replace B9 := B9.grown gg (Nat.ne_of_lt l9_13)
      replace B10 := B10.grown gg (Nat.ne_of_lt l10_13)
      replace B12 := B12.grown gg ne_12_13
      clear gg
      refine tail_one rfl rfl ?_
      go_simp
      have k3 := B3.k
      have k5 := B5.k
      have k10 := B10.k
      have k13 := B13.k
      go_wp2_with (first
        | ((with_reducible refine at_load 24 ?_); refine box_load rfl 24 _ rfl _ rfl (by with_reducible assumption) Try.underlying24 rfl (by kernel_rfl) ?_))
      have hEE : Opt.same ⟨x1, c2, c3, c4, c5⟩ ⟨x1, c2, c3, c4, c5⟩ = true := Opt.same_self _
      clear k3 k5 k10
      replace b0 := b0.drew
      replace B3 := B3.drew
      replace B5 := B5.drew
      replace B10 := B10.drew
      refine region_by (fun w' => Bl w' _ #[.int .i64 2, .int .i64 x1, .int .i64 c2, .int .i64 c3, .int .i64 c4, .int .i64 c5] 37 ∧ Bl w' _ #[.int .i64 x1, .int .i64 c2, .int .i64 c3, .int .i64 c4, .int .i64 c5] 24 ∧ Bl w' _ #[.int .i64 x1, .int .i64 c2, .int .i64 c3, .int .i64 c4, .int .i64 c5] 24) 8 [(0, true), (1, true), (2, true), (3, true), (4, true), (5, true), (6, true), (7, false)] ⟨none, .assign (.tmp 0), 0, "", #[], none⟩ (by kernel_rfl) (by kernel_rfl) ⟨B10, B5, B3⟩ (fun x _ _ _ _ h => by cases x <;> exact h) ?_
      simp only [arrange, List.map_cons, List.map_nil, List.getD_cons_zero, List.getD_cons_succ]
      generalize World.drew _ = dw at b0 B3 B5 B10 ⊢
      refine by_addr rfl _ _ _ rfl _ 0 rfl (fun _ _ => by simp [go_sem]) ?_
      simp only [Act.put, List.setIfInBounds_toArray, List.set]
      refine by_cell _ _ rfl (fun _ h => h.1) 2 rfl ?_
      simp only [Act.put, List.setIfInBounds_toArray, List.set]
      refine by_run rfl (.bool true) (fun _ _ => by simp [execOp, go_sem]) ?_
      simp only [Act.put, List.setIfInBounds_toArray, List.set]
      refine by_load rfl 24 _ rfl _ rfl (fun _ h => h.2.1) Try.underlying24 rfl (by kernel_rfl) ?_
      simp only [Act.put, List.setIfInBounds_toArray, List.set]
      refine by_load rfl 24 _ rfl _ rfl (fun _ h => h.2.2) Try.underlying24 rfl (by kernel_rfl) ?_
      simp only [Act.put, List.setIfInBounds_toArray, List.set]
      refine by_run rfl (.bool true) (fun _ _ => run_cfg_eq _ _ rfl _ _ _ _ _ _ _ _ _ _ rfl rfl _ hEE _) ?_
      simp only [Act.put, List.setIfInBounds_toArray, List.set]
      refine by_run rfl (.bool true) (fun _ _ => by simp [execOp, go_sem]) ?_
      simp only [Act.put, List.setIfInBounds_toArray, List.set]
      refine by_setv rfl rfl _ rfl (.bool true) rfl ⟨fun _ => ⟨B10, B5, B3⟩, ?_⟩
      simp only [Act.put, List.setIfInBounds_toArray, List.set]
      refine by_nil ?_
      have k3 := B3.k
      have k5 := B5.k
      have k10 := B10.k
      go_wp2
      go_ret
      exact ⟨rfl, b0⟩
theorem walk (a0 : Option Addr) (len0 cap0 : Nat) (z0 : List Int) (w : World) (w0 : IsRow .u8 w a0 len0 cap0 z0) :
    Calls Try.prog 8 #[.slice a0 len0 cap0] w fun e w' => e = .returned (.bool true) ∧ Below w.heap.size w w' := by
  by_cases hs0 : (1048576 : Int) < (len0 : Int)
  · go_enter Try.func8, Try.ntmps8
    go_wp2
    go_ret
    exact ⟨rfl, Below.refl _ _⟩
  obtain ⟨cz, hR0, _⟩ := w0.rd (by omega)
  exact small a0 len0 cap0 cz w hs0 hR0
end Go.Proofs.Ytmciofamcdekaaa.fnNegLess
