/- The law of CfgThree, promise 99, returns true at every code. -/
import Derived.Test.YtmciofamcdekaaaDrawMeet
import Derived.Test.YtmciofamcdekaaaMeetLaw
import Derived.Test.YtmciofamcdekaaaLiOk
import Derived.RowKit3
namespace Go.Proofs.Ytmciofamcdekaaa.fnCfgThree
open Go.RowKit
set_option maxRecDepth 100000 in
set_option maxHeartbeats 4000000 in
theorem small (a0 : Option Addr) (len0 cap0 : Nat) (cz : List Nat) (a1 : Option Addr) (len1 cap1 : Nat) (mz : List Nat) (w : World) (hs0 : ¬ (1048576 : Int) < (len0 : Int))  (hs1 : ¬ (1048576 : Int) < (len1 : Int)) (hR0 : Rd w (.slice a0 len0 cap0) cz) (hR1 : Rd w (.slice a1 len1 cap1) mz) :
    Calls Try.prog 7 #[.slice a0 len0 cap0, .slice a1 len1 cap1] w fun e w' => e = .returned (.bool true) ∧ Below w.heap.size w w' := by
  have b0 : Below w.heap.size w w := Below.refl _ _
  have hu := Try.underlying24
  have hg : Try.prog.eqGuardType Try.prog.depth 24 = false := by kernel_rfl
  have hp : Try.prog.stoodInHeld 24 = false := by kernel_rfl
  go_enter Try.func7, Try.ntmps7
  go_wp2_with fail
  refine (drawMeet_any _ cz _ hR0).mono ?_
  rintro e w1 ⟨x1, x2, x3, x4, x5, y1, y2, y3, y4, y5, rfl, hx, hy, bb⟩
  replace b0 := bchain b0 bb
  clear bb hR0 hx hy
  go_wp2_with (first
    | ((with_reducible refine at_new 5 24 ?_); refine box_new (d := 5) rfl rfl 24 rfl _ zero_cfg ?_; intro w' B5 bb; have n5 := b0.size;  (try have l6_5 := B6.lt); (try have l7_5 := B7.lt); (try have l8_5 := B8.lt); (try have l9_5 := B9.lt); (try have l11_5 := B11.lt); (try have l13_5 := B13.lt); (try have l15_5 := B15.lt); (try have l17_5 := B17.lt); (try have l19_5 := B19.lt); (try clear k5); (try clear k15); (try clear k17); (try clear k19); replace b0 := bchain b0 bb;  (try replace B6 := B6.kept bb); (try replace B7 := B7.kept bb); (try replace B8 := B8.kept bb); (try replace B9 := B9.kept bb); (try replace B11 := B11.kept bb); (try replace B13 := B13.kept bb); (try replace B15 := B15.kept bb); (try replace B17 := B17.kept bb); (try replace B19 := B19.kept bb); clear bb; (try have k5 := B5.k); (try have k15 := B15.k); (try have k17 := B17.k); (try have k19 := B19.k))
    | ((with_reducible refine at_new 6 24 ?_); refine box_new (d := 6) rfl rfl 24 rfl _ zero_cfg ?_; intro w' B6 bb; have n6 := b0.size;  (try have l5_6 := B5.lt); (try have l7_6 := B7.lt); (try have l8_6 := B8.lt); (try have l9_6 := B9.lt); (try have l11_6 := B11.lt); (try have l13_6 := B13.lt); (try have l15_6 := B15.lt); (try have l17_6 := B17.lt); (try have l19_6 := B19.lt); (try clear k5); (try clear k15); (try clear k17); (try clear k19); replace b0 := bchain b0 bb; (try replace B5 := B5.kept bb);  (try replace B7 := B7.kept bb); (try replace B8 := B8.kept bb); (try replace B9 := B9.kept bb); (try replace B11 := B11.kept bb); (try replace B13 := B13.kept bb); (try replace B15 := B15.kept bb); (try replace B17 := B17.kept bb); (try replace B19 := B19.kept bb); clear bb; (try have k5 := B5.k); (try have k15 := B15.k); (try have k17 := B17.k); (try have k19 := B19.k))
    | ((with_reducible refine at_load 24 ?_); refine box_load rfl 24 _ rfl _ rfl (by with_reducible assumption) Try.underlying24 rfl (by kernel_rfl) ?_)
    | ((with_reducible refine at_store 24 ?_); refine box_store rfl 24 _ _ rfl _ _ rfl rfl (by with_reducible exact B5) (by kernel_rfl) (by rfl) (by simp [Value.oneCell']) ?_; clear B5; intro w' B5 gg; (try clear k5); (try clear k15); (try clear k17); (try clear k19); replace b0 := below_at b0 gg b0.size n5; (try replace B6 := B6.grown gg (Nat.ne_of_gt l5_6)); (try replace B7 := B7.grown gg (Nat.ne_of_gt l5_7)); (try replace B8 := B8.grown gg (Nat.ne_of_gt l5_8)); (try replace B9 := B9.grown gg (Nat.ne_of_gt l5_9)); (try replace B11 := B11.grown gg (Nat.ne_of_gt l5_11)); (try replace B13 := B13.grown gg (Nat.ne_of_gt l5_13)); (try replace B15 := B15.grown gg (Nat.ne_of_gt l5_15)); (try replace B17 := B17.grown gg (Nat.ne_of_gt l5_17)); (try replace B19 := B19.grown gg (Nat.ne_of_gt l5_19)); clear gg; (try have k5 := B5.k); (try have k15 := B15.k); (try have k17 := B17.k); (try have k19 := B19.k))
    | ((with_reducible refine at_store 24 ?_); refine box_store rfl 24 _ _ rfl _ _ rfl rfl (by with_reducible exact B6) (by kernel_rfl) (by rfl) (by simp [Value.oneCell']) ?_; clear B6; intro w' B6 gg; (try clear k5); (try clear k15); (try clear k17); (try clear k19); replace b0 := below_at b0 gg b0.size n6; (try replace B5 := B5.grown gg (Nat.ne_of_lt l5_6)); (try replace B7 := B7.grown gg (Nat.ne_of_gt l6_7)); (try replace B8 := B8.grown gg (Nat.ne_of_gt l6_8)); (try replace B9 := B9.grown gg (Nat.ne_of_gt l6_9)); (try replace B11 := B11.grown gg (Nat.ne_of_gt l6_11)); (try replace B13 := B13.grown gg (Nat.ne_of_gt l6_13)); (try replace B15 := B15.grown gg (Nat.ne_of_gt l6_15)); (try replace B17 := B17.grown gg (Nat.ne_of_gt l6_17)); (try replace B19 := B19.grown gg (Nat.ne_of_gt l6_19)); clear gg; (try have k5 := B5.k); (try have k15 := B15.k); (try have k17 := B17.k); (try have k19 := B19.k)))
  refine (drawMeet_any _ mz _ (hR1.kept b0)).mono ?_
  rintro e w' ⟨u1, u2, u3, u4, u5, v1, v2, v3, v4, v5, rfl, hx, hy, bb⟩
  clear hx hy hR1
  (try clear k5)
  (try clear k15)
  (try clear k17)
  (try clear k19)
  replace b0 := bchain b0 bb
  (try replace B5 := B5.kept bb)
  (try replace B6 := B6.kept bb)
  (try replace B7 := B7.kept bb)
  (try replace B8 := B8.kept bb)
  (try replace B9 := B9.kept bb)
  (try replace B11 := B11.kept bb)
  (try replace B13 := B13.kept bb)
  (try replace B15 := B15.kept bb)
  (try replace B17 := B17.kept bb)
  (try replace B19 := B19.kept bb)
  clear bb
  (try have k5 := B5.k)
  (try have k15 := B15.k)
  (try have k17 := B17.k)
  (try have k19 := B19.k)
  go_wp2_with (first
    | ((with_reducible refine at_new 7 24 ?_); refine box_new (d := 7) rfl rfl 24 rfl _ zero_cfg ?_; intro w' B7 bb; have n7 := b0.size;  (try have l5_7 := B5.lt); (try have l6_7 := B6.lt); (try have l8_7 := B8.lt); (try have l9_7 := B9.lt); (try have l11_7 := B11.lt); (try have l13_7 := B13.lt); (try have l15_7 := B15.lt); (try have l17_7 := B17.lt); (try have l19_7 := B19.lt); (try clear k5); (try clear k15); (try clear k17); (try clear k19); replace b0 := bchain b0 bb; (try replace B5 := B5.kept bb); (try replace B6 := B6.kept bb);  (try replace B8 := B8.kept bb); (try replace B9 := B9.kept bb); (try replace B11 := B11.kept bb); (try replace B13 := B13.kept bb); (try replace B15 := B15.kept bb); (try replace B17 := B17.kept bb); (try replace B19 := B19.kept bb); clear bb; (try have k5 := B5.k); (try have k15 := B15.k); (try have k17 := B17.k); (try have k19 := B19.k))
    | ((with_reducible refine at_new 8 24 ?_); refine box_new (d := 8) rfl rfl 24 rfl _ zero_cfg ?_; intro w' B8 bb; have n8 := b0.size;  (try have l5_8 := B5.lt); (try have l6_8 := B6.lt); (try have l7_8 := B7.lt); (try have l9_8 := B9.lt); (try have l11_8 := B11.lt); (try have l13_8 := B13.lt); (try have l15_8 := B15.lt); (try have l17_8 := B17.lt); (try have l19_8 := B19.lt); (try clear k5); (try clear k15); (try clear k17); (try clear k19); replace b0 := bchain b0 bb; (try replace B5 := B5.kept bb); (try replace B6 := B6.kept bb); (try replace B7 := B7.kept bb);  (try replace B9 := B9.kept bb); (try replace B11 := B11.kept bb); (try replace B13 := B13.kept bb); (try replace B15 := B15.kept bb); (try replace B17 := B17.kept bb); (try replace B19 := B19.kept bb); clear bb; (try have k5 := B5.k); (try have k15 := B15.k); (try have k17 := B17.k); (try have k19 := B19.k))
    | ((with_reducible refine at_load 24 ?_); refine box_load rfl 24 _ rfl _ rfl (by with_reducible assumption) Try.underlying24 rfl (by kernel_rfl) ?_)
    | ((with_reducible refine at_store 24 ?_); refine box_store rfl 24 _ _ rfl _ _ rfl rfl (by with_reducible exact B7) (by kernel_rfl) (by rfl) (by simp [Value.oneCell']) ?_; clear B7; intro w' B7 gg; (try clear k5); (try clear k15); (try clear k17); (try clear k19); replace b0 := below_at b0 gg b0.size n7; (try replace B5 := B5.grown gg (Nat.ne_of_lt l5_7)); (try replace B6 := B6.grown gg (Nat.ne_of_lt l6_7)); (try replace B8 := B8.grown gg (Nat.ne_of_gt l7_8)); (try replace B9 := B9.grown gg (Nat.ne_of_gt l7_9)); (try replace B11 := B11.grown gg (Nat.ne_of_gt l7_11)); (try replace B13 := B13.grown gg (Nat.ne_of_gt l7_13)); (try replace B15 := B15.grown gg (Nat.ne_of_gt l7_15)); (try replace B17 := B17.grown gg (Nat.ne_of_gt l7_17)); (try replace B19 := B19.grown gg (Nat.ne_of_gt l7_19)); clear gg; (try have k5 := B5.k); (try have k15 := B15.k); (try have k17 := B17.k); (try have k19 := B19.k))
    | ((with_reducible refine at_store 24 ?_); refine box_store rfl 24 _ _ rfl _ _ rfl rfl (by with_reducible exact B8) (by kernel_rfl) (by rfl) (by simp [Value.oneCell']) ?_; clear B8; intro w' B8 gg; (try clear k5); (try clear k15); (try clear k17); (try clear k19); replace b0 := below_at b0 gg b0.size n8; (try replace B5 := B5.grown gg (Nat.ne_of_lt l5_8)); (try replace B6 := B6.grown gg (Nat.ne_of_lt l6_8)); (try replace B7 := B7.grown gg (Nat.ne_of_lt l7_8)); (try replace B9 := B9.grown gg (Nat.ne_of_gt l8_9)); (try replace B11 := B11.grown gg (Nat.ne_of_gt l8_11)); (try replace B13 := B13.grown gg (Nat.ne_of_gt l8_13)); (try replace B15 := B15.grown gg (Nat.ne_of_gt l8_15)); (try replace B17 := B17.grown gg (Nat.ne_of_gt l8_17)); (try replace B19 := B19.grown gg (Nat.ne_of_gt l8_19)); clear gg; (try have k5 := B5.k); (try have k15 := B15.k); (try have k17 := B17.k); (try have k19 := B19.k)))
  cases hm : meets ⟨x1, x2, x3, x4, x5⟩ ⟨y1, y2, y3, y4, y5⟩ <;> cases hn : meets ⟨y1, y2, y3, y4, y5⟩ ⟨v1, v2, v3, v4, v5⟩
  · go_wp2_with (first
      | ((with_reducible refine at_load 24 ?_); refine box_load rfl 24 _ rfl _ rfl (by with_reducible assumption) Try.underlying24 rfl (by kernel_rfl) ?_))
    refine (impl_meet_no _ _ _ _ _ _ _ _ _ _ hm _).mono ?_
    rintro e w' ⟨rfl, bb⟩
    (try clear k5)
    (try clear k15)
    (try clear k17)
    (try clear k19)
    replace b0 := bchain b0 bb
    (try replace B5 := B5.kept bb)
    (try replace B6 := B6.kept bb)
    (try replace B7 := B7.kept bb)
    (try replace B8 := B8.kept bb)
    (try replace B9 := B9.kept bb)
    (try replace B11 := B11.kept bb)
    (try replace B13 := B13.kept bb)
    (try replace B15 := B15.kept bb)
    (try replace B17 := B17.kept bb)
    (try replace B19 := B19.kept bb)
    clear bb
    (try have k5 := B5.k)
    (try have k15 := B15.k)
    (try have k17 := B17.k)
    (try have k19 := B19.k)
    go_wp2_with (first
      | ((with_reducible refine at_new 9 24 ?_); refine box_new (d := 9) rfl rfl 24 rfl _ zero_cfg ?_; intro w' B9 bb; have n9 := b0.size;  (try have l5_9 := B5.lt); (try have l6_9 := B6.lt); (try have l7_9 := B7.lt); (try have l8_9 := B8.lt); (try have l11_9 := B11.lt); (try have l13_9 := B13.lt); (try have l15_9 := B15.lt); (try have l17_9 := B17.lt); (try have l19_9 := B19.lt); (try clear k5); (try clear k15); (try clear k17); (try clear k19); replace b0 := bchain b0 bb; (try replace B5 := B5.kept bb); (try replace B6 := B6.kept bb); (try replace B7 := B7.kept bb); (try replace B8 := B8.kept bb);  (try replace B11 := B11.kept bb); (try replace B13 := B13.kept bb); (try replace B15 := B15.kept bb); (try replace B17 := B17.kept bb); (try replace B19 := B19.kept bb); clear bb; (try have k5 := B5.k); (try have k15 := B15.k); (try have k17 := B17.k); (try have k19 := B19.k))
      | ((with_reducible refine at_load 24 ?_); refine box_load rfl 24 _ rfl _ rfl (by with_reducible assumption) Try.underlying24 rfl (by kernel_rfl) ?_)
      | ((with_reducible refine at_store 24 ?_); refine box_store rfl 24 _ _ rfl _ _ rfl rfl (by with_reducible exact B9) (by kernel_rfl) (by rfl) (by simp [Value.oneCell']) ?_; clear B9; intro w' B9 gg; (try clear k5); (try clear k15); (try clear k17); (try clear k19); replace b0 := below_at b0 gg b0.size n9; (try replace B5 := B5.grown gg (Nat.ne_of_lt l5_9)); (try replace B6 := B6.grown gg (Nat.ne_of_lt l6_9)); (try replace B7 := B7.grown gg (Nat.ne_of_lt l7_9)); (try replace B8 := B8.grown gg (Nat.ne_of_lt l8_9)); (try replace B11 := B11.grown gg (Nat.ne_of_gt l9_11)); (try replace B13 := B13.grown gg (Nat.ne_of_gt l9_13)); (try replace B15 := B15.grown gg (Nat.ne_of_gt l9_15)); (try replace B17 := B17.grown gg (Nat.ne_of_gt l9_17)); (try replace B19 := B19.grown gg (Nat.ne_of_gt l9_19)); clear gg; (try have k5 := B5.k); (try have k15 := B15.k); (try have k17 := B17.k); (try have k19 := B19.k)))
    refine (impl_meet_no _ _ _ _ _ _ _ _ _ _ hn _).mono ?_
    rintro e w' ⟨rfl, bb⟩
    (try clear k5)
    (try clear k15)
    (try clear k17)
    (try clear k19)
    replace b0 := bchain b0 bb
    (try replace B5 := B5.kept bb)
    (try replace B6 := B6.kept bb)
    (try replace B7 := B7.kept bb)
    (try replace B8 := B8.kept bb)
    (try replace B9 := B9.kept bb)
    (try replace B11 := B11.kept bb)
    (try replace B13 := B13.kept bb)
    (try replace B15 := B15.kept bb)
    (try replace B17 := B17.kept bb)
    (try replace B19 := B19.kept bb)
    clear bb
    (try have k5 := B5.k)
    (try have k15 := B15.k)
    (try have k17 := B17.k)
    (try have k19 := B19.k)
    go_wp2_with (first
      | ((with_reducible refine at_new 11 24 ?_); refine box_new (d := 11) rfl rfl 24 rfl _ zero_cfg ?_; intro w' B11 bb; have n11 := b0.size;  (try have l5_11 := B5.lt); (try have l6_11 := B6.lt); (try have l7_11 := B7.lt); (try have l8_11 := B8.lt); (try have l9_11 := B9.lt); (try have l13_11 := B13.lt); (try have l15_11 := B15.lt); (try have l17_11 := B17.lt); (try have l19_11 := B19.lt); (try clear k5); (try clear k15); (try clear k17); (try clear k19); replace b0 := bchain b0 bb; (try replace B5 := B5.kept bb); (try replace B6 := B6.kept bb); (try replace B7 := B7.kept bb); (try replace B8 := B8.kept bb); (try replace B9 := B9.kept bb);  (try replace B13 := B13.kept bb); (try replace B15 := B15.kept bb); (try replace B17 := B17.kept bb); (try replace B19 := B19.kept bb); clear bb; (try have k5 := B5.k); (try have k15 := B15.k); (try have k17 := B17.k); (try have k19 := B19.k))
      | ((with_reducible refine at_load 24 ?_); refine box_load rfl 24 _ rfl _ rfl (by with_reducible assumption) Try.underlying24 rfl (by kernel_rfl) ?_)
      | ((with_reducible refine at_store 24 ?_); refine box_store rfl 24 _ _ rfl _ _ rfl rfl (by with_reducible exact B11) (by kernel_rfl) (by rfl) (by simp [Value.oneCell']) ?_; clear B11; intro w' B11 gg; (try clear k5); (try clear k15); (try clear k17); (try clear k19); replace b0 := below_at b0 gg b0.size n11; (try replace B5 := B5.grown gg (Nat.ne_of_lt l5_11)); (try replace B6 := B6.grown gg (Nat.ne_of_lt l6_11)); (try replace B7 := B7.grown gg (Nat.ne_of_lt l7_11)); (try replace B8 := B8.grown gg (Nat.ne_of_lt l8_11)); (try replace B9 := B9.grown gg (Nat.ne_of_lt l9_11)); (try replace B13 := B13.grown gg (Nat.ne_of_gt l11_13)); (try replace B15 := B15.grown gg (Nat.ne_of_gt l11_15)); (try replace B17 := B17.grown gg (Nat.ne_of_gt l11_17)); (try replace B19 := B19.grown gg (Nat.ne_of_gt l11_19)); clear gg; (try have k5 := B5.k); (try have k15 := B15.k); (try have k17 := B17.k); (try have k19 := B19.k)))
    refine (spec_meet_no _ _ _ _ _ _ _ _ _ _ hm _).mono ?_
    rintro e w' ⟨rfl, bb⟩
    (try clear k5)
    (try clear k15)
    (try clear k17)
    (try clear k19)
    replace b0 := bchain b0 bb
    (try replace B5 := B5.kept bb)
    (try replace B6 := B6.kept bb)
    (try replace B7 := B7.kept bb)
    (try replace B8 := B8.kept bb)
    (try replace B9 := B9.kept bb)
    (try replace B11 := B11.kept bb)
    (try replace B13 := B13.kept bb)
    (try replace B15 := B15.kept bb)
    (try replace B17 := B17.kept bb)
    (try replace B19 := B19.kept bb)
    clear bb
    (try have k5 := B5.k)
    (try have k15 := B15.k)
    (try have k17 := B17.k)
    (try have k19 := B19.k)
    go_wp2_with (first
      | ((with_reducible refine at_new 13 24 ?_); refine box_new (d := 13) rfl rfl 24 rfl _ zero_cfg ?_; intro w' B13 bb; have n13 := b0.size;  (try have l5_13 := B5.lt); (try have l6_13 := B6.lt); (try have l7_13 := B7.lt); (try have l8_13 := B8.lt); (try have l9_13 := B9.lt); (try have l11_13 := B11.lt); (try have l15_13 := B15.lt); (try have l17_13 := B17.lt); (try have l19_13 := B19.lt); (try clear k5); (try clear k15); (try clear k17); (try clear k19); replace b0 := bchain b0 bb; (try replace B5 := B5.kept bb); (try replace B6 := B6.kept bb); (try replace B7 := B7.kept bb); (try replace B8 := B8.kept bb); (try replace B9 := B9.kept bb); (try replace B11 := B11.kept bb);  (try replace B15 := B15.kept bb); (try replace B17 := B17.kept bb); (try replace B19 := B19.kept bb); clear bb; (try have k5 := B5.k); (try have k15 := B15.k); (try have k17 := B17.k); (try have k19 := B19.k))
      | ((with_reducible refine at_load 24 ?_); refine box_load rfl 24 _ rfl _ rfl (by with_reducible assumption) Try.underlying24 rfl (by kernel_rfl) ?_)
      | ((with_reducible refine at_store 24 ?_); refine box_store rfl 24 _ _ rfl _ _ rfl rfl (by with_reducible exact B13) (by kernel_rfl) (by rfl) (by simp [Value.oneCell']) ?_; clear B13; intro w' B13 gg; (try clear k5); (try clear k15); (try clear k17); (try clear k19); replace b0 := below_at b0 gg b0.size n13; (try replace B5 := B5.grown gg (Nat.ne_of_lt l5_13)); (try replace B6 := B6.grown gg (Nat.ne_of_lt l6_13)); (try replace B7 := B7.grown gg (Nat.ne_of_lt l7_13)); (try replace B8 := B8.grown gg (Nat.ne_of_lt l8_13)); (try replace B9 := B9.grown gg (Nat.ne_of_lt l9_13)); (try replace B11 := B11.grown gg (Nat.ne_of_lt l11_13)); (try replace B15 := B15.grown gg (Nat.ne_of_gt l13_15)); (try replace B17 := B17.grown gg (Nat.ne_of_gt l13_17)); (try replace B19 := B19.grown gg (Nat.ne_of_gt l13_19)); clear gg; (try have k5 := B5.k); (try have k15 := B15.k); (try have k17 := B17.k); (try have k19 := B19.k)))
    refine (li_ok _).mono ?_
    rintro e w' ⟨rfl, bb⟩
    (try clear k5)
    (try clear k15)
    (try clear k17)
    (try clear k19)
    replace b0 := bchain b0 bb
    (try replace B5 := B5.kept bb)
    (try replace B6 := B6.kept bb)
    (try replace B7 := B7.kept bb)
    (try replace B8 := B8.kept bb)
    (try replace B9 := B9.kept bb)
    (try replace B11 := B11.kept bb)
    (try replace B13 := B13.kept bb)
    (try replace B15 := B15.kept bb)
    (try replace B17 := B17.kept bb)
    (try replace B19 := B19.kept bb)
    clear bb
    (try have k5 := B5.k)
    (try have k15 := B15.k)
    (try have k17 := B17.k)
    (try have k19 := B19.k)
    go_wp2
    go_ret
    exact ⟨rfl, b0⟩
  · obtain ⟨e1, he⟩ : ∃ e, e = y1 := ⟨_, rfl⟩
    clear he e1
    obtain ⟨e2, f2⟩ : ∃ c, min y2 v2 = c := ⟨_, rfl⟩
    obtain ⟨e3, f3⟩ : ∃ c, min y3 v3 = c := ⟨_, rfl⟩
    obtain ⟨e4, f4⟩ : ∃ c, min y4 v4 = c := ⟨_, rfl⟩
    obtain ⟨e5, f5⟩ : ∃ c, min y5 v5 = c := ⟨_, rfl⟩
    go_wp2_with (first
      | ((with_reducible refine at_load 24 ?_); refine box_load rfl 24 _ rfl _ rfl (by with_reducible assumption) Try.underlying24 rfl (by kernel_rfl) ?_))
    refine (impl_meet_no _ _ _ _ _ _ _ _ _ _ hm _).mono ?_
    rintro e w' ⟨rfl, bb⟩
    (try clear k5)
    (try clear k15)
    (try clear k17)
    (try clear k19)
    replace b0 := bchain b0 bb
    (try replace B5 := B5.kept bb)
    (try replace B6 := B6.kept bb)
    (try replace B7 := B7.kept bb)
    (try replace B8 := B8.kept bb)
    (try replace B9 := B9.kept bb)
    (try replace B11 := B11.kept bb)
    (try replace B13 := B13.kept bb)
    (try replace B15 := B15.kept bb)
    (try replace B17 := B17.kept bb)
    (try replace B19 := B19.kept bb)
    clear bb
    (try have k5 := B5.k)
    (try have k15 := B15.k)
    (try have k17 := B17.k)
    (try have k19 := B19.k)
    go_wp2_with (first
      | ((with_reducible refine at_new 9 24 ?_); refine box_new (d := 9) rfl rfl 24 rfl _ zero_cfg ?_; intro w' B9 bb; have n9 := b0.size;  (try have l5_9 := B5.lt); (try have l6_9 := B6.lt); (try have l7_9 := B7.lt); (try have l8_9 := B8.lt); (try have l11_9 := B11.lt); (try have l13_9 := B13.lt); (try have l15_9 := B15.lt); (try have l17_9 := B17.lt); (try have l19_9 := B19.lt); (try clear k5); (try clear k15); (try clear k17); (try clear k19); replace b0 := bchain b0 bb; (try replace B5 := B5.kept bb); (try replace B6 := B6.kept bb); (try replace B7 := B7.kept bb); (try replace B8 := B8.kept bb);  (try replace B11 := B11.kept bb); (try replace B13 := B13.kept bb); (try replace B15 := B15.kept bb); (try replace B17 := B17.kept bb); (try replace B19 := B19.kept bb); clear bb; (try have k5 := B5.k); (try have k15 := B15.k); (try have k17 := B17.k); (try have k19 := B19.k))
      | ((with_reducible refine at_load 24 ?_); refine box_load rfl 24 _ rfl _ rfl (by with_reducible assumption) Try.underlying24 rfl (by kernel_rfl) ?_)
      | ((with_reducible refine at_store 24 ?_); refine box_store rfl 24 _ _ rfl _ _ rfl rfl (by with_reducible exact B9) (by kernel_rfl) (by rfl) (by simp [Value.oneCell']) ?_; clear B9; intro w' B9 gg; (try clear k5); (try clear k15); (try clear k17); (try clear k19); replace b0 := below_at b0 gg b0.size n9; (try replace B5 := B5.grown gg (Nat.ne_of_lt l5_9)); (try replace B6 := B6.grown gg (Nat.ne_of_lt l6_9)); (try replace B7 := B7.grown gg (Nat.ne_of_lt l7_9)); (try replace B8 := B8.grown gg (Nat.ne_of_lt l8_9)); (try replace B11 := B11.grown gg (Nat.ne_of_gt l9_11)); (try replace B13 := B13.grown gg (Nat.ne_of_gt l9_13)); (try replace B15 := B15.grown gg (Nat.ne_of_gt l9_15)); (try replace B17 := B17.grown gg (Nat.ne_of_gt l9_17)); (try replace B19 := B19.grown gg (Nat.ne_of_gt l9_19)); clear gg; (try have k5 := B5.k); (try have k15 := B15.k); (try have k17 := B17.k); (try have k19 := B19.k)))
    refine (impl_meet_yes _ _ _ _ _ _ _ _ _ _ e2 e3 e4 e5 hn f2 f3 f4 f5 _).mono ?_
    rintro e w' ⟨rfl, bb⟩
    (try clear k5)
    (try clear k15)
    (try clear k17)
    (try clear k19)
    replace b0 := bchain b0 bb
    (try replace B5 := B5.kept bb)
    (try replace B6 := B6.kept bb)
    (try replace B7 := B7.kept bb)
    (try replace B8 := B8.kept bb)
    (try replace B9 := B9.kept bb)
    (try replace B11 := B11.kept bb)
    (try replace B13 := B13.kept bb)
    (try replace B15 := B15.kept bb)
    (try replace B17 := B17.kept bb)
    (try replace B19 := B19.kept bb)
    clear bb
    (try have k5 := B5.k)
    (try have k15 := B15.k)
    (try have k17 := B17.k)
    (try have k19 := B19.k)
    go_wp2_with (first
      | ((with_reducible refine at_new 11 24 ?_); refine box_new (d := 11) rfl rfl 24 rfl _ zero_cfg ?_; intro w' B11 bb; have n11 := b0.size;  (try have l5_11 := B5.lt); (try have l6_11 := B6.lt); (try have l7_11 := B7.lt); (try have l8_11 := B8.lt); (try have l9_11 := B9.lt); (try have l13_11 := B13.lt); (try have l15_11 := B15.lt); (try have l17_11 := B17.lt); (try have l19_11 := B19.lt); (try clear k5); (try clear k15); (try clear k17); (try clear k19); replace b0 := bchain b0 bb; (try replace B5 := B5.kept bb); (try replace B6 := B6.kept bb); (try replace B7 := B7.kept bb); (try replace B8 := B8.kept bb); (try replace B9 := B9.kept bb);  (try replace B13 := B13.kept bb); (try replace B15 := B15.kept bb); (try replace B17 := B17.kept bb); (try replace B19 := B19.kept bb); clear bb; (try have k5 := B5.k); (try have k15 := B15.k); (try have k17 := B17.k); (try have k19 := B19.k))
      | ((with_reducible refine at_load 24 ?_); refine box_load rfl 24 _ rfl _ rfl (by with_reducible assumption) Try.underlying24 rfl (by kernel_rfl) ?_)
      | ((with_reducible refine at_store 24 ?_); refine box_store rfl 24 _ _ rfl _ _ rfl rfl (by with_reducible exact B11) (by kernel_rfl) (by rfl) (by simp [Value.oneCell']) ?_; clear B11; intro w' B11 gg; (try clear k5); (try clear k15); (try clear k17); (try clear k19); replace b0 := below_at b0 gg b0.size n11; (try replace B5 := B5.grown gg (Nat.ne_of_lt l5_11)); (try replace B6 := B6.grown gg (Nat.ne_of_lt l6_11)); (try replace B7 := B7.grown gg (Nat.ne_of_lt l7_11)); (try replace B8 := B8.grown gg (Nat.ne_of_lt l8_11)); (try replace B9 := B9.grown gg (Nat.ne_of_lt l9_11)); (try replace B13 := B13.grown gg (Nat.ne_of_gt l11_13)); (try replace B15 := B15.grown gg (Nat.ne_of_gt l11_15)); (try replace B17 := B17.grown gg (Nat.ne_of_gt l11_17)); (try replace B19 := B19.grown gg (Nat.ne_of_gt l11_19)); clear gg; (try have k5 := B5.k); (try have k15 := B15.k); (try have k17 := B17.k); (try have k19 := B19.k)))
    refine (spec_meet_no _ _ _ _ _ _ _ _ _ _ hm _).mono ?_
    rintro e w' ⟨rfl, bb⟩
    (try clear k5)
    (try clear k15)
    (try clear k17)
    (try clear k19)
    replace b0 := bchain b0 bb
    (try replace B5 := B5.kept bb)
    (try replace B6 := B6.kept bb)
    (try replace B7 := B7.kept bb)
    (try replace B8 := B8.kept bb)
    (try replace B9 := B9.kept bb)
    (try replace B11 := B11.kept bb)
    (try replace B13 := B13.kept bb)
    (try replace B15 := B15.kept bb)
    (try replace B17 := B17.kept bb)
    (try replace B19 := B19.kept bb)
    clear bb
    (try have k5 := B5.k)
    (try have k15 := B15.k)
    (try have k17 := B17.k)
    (try have k19 := B19.k)
    go_wp2_with (first
      | ((with_reducible refine at_new 13 24 ?_); refine box_new (d := 13) rfl rfl 24 rfl _ zero_cfg ?_; intro w' B13 bb; have n13 := b0.size;  (try have l5_13 := B5.lt); (try have l6_13 := B6.lt); (try have l7_13 := B7.lt); (try have l8_13 := B8.lt); (try have l9_13 := B9.lt); (try have l11_13 := B11.lt); (try have l15_13 := B15.lt); (try have l17_13 := B17.lt); (try have l19_13 := B19.lt); (try clear k5); (try clear k15); (try clear k17); (try clear k19); replace b0 := bchain b0 bb; (try replace B5 := B5.kept bb); (try replace B6 := B6.kept bb); (try replace B7 := B7.kept bb); (try replace B8 := B8.kept bb); (try replace B9 := B9.kept bb); (try replace B11 := B11.kept bb);  (try replace B15 := B15.kept bb); (try replace B17 := B17.kept bb); (try replace B19 := B19.kept bb); clear bb; (try have k5 := B5.k); (try have k15 := B15.k); (try have k17 := B17.k); (try have k19 := B19.k))
      | ((with_reducible refine at_load 24 ?_); refine box_load rfl 24 _ rfl _ rfl (by with_reducible assumption) Try.underlying24 rfl (by kernel_rfl) ?_)
      | ((with_reducible refine at_store 24 ?_); refine box_store rfl 24 _ _ rfl _ _ rfl rfl (by with_reducible exact B13) (by kernel_rfl) (by rfl) (by simp [Value.oneCell']) ?_; clear B13; intro w' B13 gg; (try clear k5); (try clear k15); (try clear k17); (try clear k19); replace b0 := below_at b0 gg b0.size n13; (try replace B5 := B5.grown gg (Nat.ne_of_lt l5_13)); (try replace B6 := B6.grown gg (Nat.ne_of_lt l6_13)); (try replace B7 := B7.grown gg (Nat.ne_of_lt l7_13)); (try replace B8 := B8.grown gg (Nat.ne_of_lt l8_13)); (try replace B9 := B9.grown gg (Nat.ne_of_lt l9_13)); (try replace B11 := B11.grown gg (Nat.ne_of_lt l11_13)); (try replace B15 := B15.grown gg (Nat.ne_of_gt l13_15)); (try replace B17 := B17.grown gg (Nat.ne_of_gt l13_17)); (try replace B19 := B19.grown gg (Nat.ne_of_gt l13_19)); clear gg; (try have k5 := B5.k); (try have k15 := B15.k); (try have k17 := B17.k); (try have k19 := B19.k)))
    refine (li_ok _).mono ?_
    rintro e w' ⟨rfl, bb⟩
    (try clear k5)
    (try clear k15)
    (try clear k17)
    (try clear k19)
    replace b0 := bchain b0 bb
    (try replace B5 := B5.kept bb)
    (try replace B6 := B6.kept bb)
    (try replace B7 := B7.kept bb)
    (try replace B8 := B8.kept bb)
    (try replace B9 := B9.kept bb)
    (try replace B11 := B11.kept bb)
    (try replace B13 := B13.kept bb)
    (try replace B15 := B15.kept bb)
    (try replace B17 := B17.kept bb)
    (try replace B19 := B19.kept bb)
    clear bb
    (try have k5 := B5.k)
    (try have k15 := B15.k)
    (try have k17 := B17.k)
    (try have k19 := B19.k)
    go_wp2
    go_ret
    exact ⟨rfl, b0⟩
  · skip
    obtain ⟨c2, h2⟩ : ∃ c, min x2 y2 = c := ⟨_, rfl⟩
    obtain ⟨c3, h3⟩ : ∃ c, min x3 y3 = c := ⟨_, rfl⟩
    obtain ⟨c4, h4⟩ : ∃ c, min x4 y4 = c := ⟨_, rfl⟩
    obtain ⟨c5, h5⟩ : ∃ c, min x5 y5 = c := ⟨_, rfl⟩
    go_wp2_with (first
      | ((with_reducible refine at_load 24 ?_); refine box_load rfl 24 _ rfl _ rfl (by with_reducible assumption) Try.underlying24 rfl (by kernel_rfl) ?_))
    refine (impl_meet_yes _ _ _ _ _ _ _ _ _ _ c2 c3 c4 c5 hm h2 h3 h4 h5 _).mono ?_
    rintro e w' ⟨rfl, bb⟩
    (try clear k5)
    (try clear k15)
    (try clear k17)
    (try clear k19)
    replace b0 := bchain b0 bb
    (try replace B5 := B5.kept bb)
    (try replace B6 := B6.kept bb)
    (try replace B7 := B7.kept bb)
    (try replace B8 := B8.kept bb)
    (try replace B9 := B9.kept bb)
    (try replace B11 := B11.kept bb)
    (try replace B13 := B13.kept bb)
    (try replace B15 := B15.kept bb)
    (try replace B17 := B17.kept bb)
    (try replace B19 := B19.kept bb)
    clear bb
    (try have k5 := B5.k)
    (try have k15 := B15.k)
    (try have k17 := B17.k)
    (try have k19 := B19.k)
    go_wp2_with (first
      | ((with_reducible refine at_new 9 24 ?_); refine box_new (d := 9) rfl rfl 24 rfl _ zero_cfg ?_; intro w' B9 bb; have n9 := b0.size;  (try have l5_9 := B5.lt); (try have l6_9 := B6.lt); (try have l7_9 := B7.lt); (try have l8_9 := B8.lt); (try have l11_9 := B11.lt); (try have l13_9 := B13.lt); (try have l15_9 := B15.lt); (try have l17_9 := B17.lt); (try have l19_9 := B19.lt); (try clear k5); (try clear k15); (try clear k17); (try clear k19); replace b0 := bchain b0 bb; (try replace B5 := B5.kept bb); (try replace B6 := B6.kept bb); (try replace B7 := B7.kept bb); (try replace B8 := B8.kept bb);  (try replace B11 := B11.kept bb); (try replace B13 := B13.kept bb); (try replace B15 := B15.kept bb); (try replace B17 := B17.kept bb); (try replace B19 := B19.kept bb); clear bb; (try have k5 := B5.k); (try have k15 := B15.k); (try have k17 := B17.k); (try have k19 := B19.k))
      | ((with_reducible refine at_load 24 ?_); refine box_load rfl 24 _ rfl _ rfl (by with_reducible assumption) Try.underlying24 rfl (by kernel_rfl) ?_)
      | ((with_reducible refine at_store 24 ?_); refine box_store rfl 24 _ _ rfl _ _ rfl rfl (by with_reducible exact B9) (by kernel_rfl) (by rfl) (by simp [Value.oneCell']) ?_; clear B9; intro w' B9 gg; (try clear k5); (try clear k15); (try clear k17); (try clear k19); replace b0 := below_at b0 gg b0.size n9; (try replace B5 := B5.grown gg (Nat.ne_of_lt l5_9)); (try replace B6 := B6.grown gg (Nat.ne_of_lt l6_9)); (try replace B7 := B7.grown gg (Nat.ne_of_lt l7_9)); (try replace B8 := B8.grown gg (Nat.ne_of_lt l8_9)); (try replace B11 := B11.grown gg (Nat.ne_of_gt l9_11)); (try replace B13 := B13.grown gg (Nat.ne_of_gt l9_13)); (try replace B15 := B15.grown gg (Nat.ne_of_gt l9_15)); (try replace B17 := B17.grown gg (Nat.ne_of_gt l9_17)); (try replace B19 := B19.grown gg (Nat.ne_of_gt l9_19)); clear gg; (try have k5 := B5.k); (try have k15 := B15.k); (try have k17 := B17.k); (try have k19 := B19.k)))
    refine (impl_meet_no _ _ _ _ _ _ _ _ _ _ hn _).mono ?_
    rintro e w' ⟨rfl, bb⟩
    (try clear k5)
    (try clear k15)
    (try clear k17)
    (try clear k19)
    replace b0 := bchain b0 bb
    (try replace B5 := B5.kept bb)
    (try replace B6 := B6.kept bb)
    (try replace B7 := B7.kept bb)
    (try replace B8 := B8.kept bb)
    (try replace B9 := B9.kept bb)
    (try replace B11 := B11.kept bb)
    (try replace B13 := B13.kept bb)
    (try replace B15 := B15.kept bb)
    (try replace B17 := B17.kept bb)
    (try replace B19 := B19.kept bb)
    clear bb
    (try have k5 := B5.k)
    (try have k15 := B15.k)
    (try have k17 := B17.k)
    (try have k19 := B19.k)
    go_wp2_with (first
      | ((with_reducible refine at_new 11 24 ?_); refine box_new (d := 11) rfl rfl 24 rfl _ zero_cfg ?_; intro w' B11 bb; have n11 := b0.size;  (try have l5_11 := B5.lt); (try have l6_11 := B6.lt); (try have l7_11 := B7.lt); (try have l8_11 := B8.lt); (try have l9_11 := B9.lt); (try have l13_11 := B13.lt); (try have l15_11 := B15.lt); (try have l17_11 := B17.lt); (try have l19_11 := B19.lt); (try clear k5); (try clear k15); (try clear k17); (try clear k19); replace b0 := bchain b0 bb; (try replace B5 := B5.kept bb); (try replace B6 := B6.kept bb); (try replace B7 := B7.kept bb); (try replace B8 := B8.kept bb); (try replace B9 := B9.kept bb);  (try replace B13 := B13.kept bb); (try replace B15 := B15.kept bb); (try replace B17 := B17.kept bb); (try replace B19 := B19.kept bb); clear bb; (try have k5 := B5.k); (try have k15 := B15.k); (try have k17 := B17.k); (try have k19 := B19.k))
      | ((with_reducible refine at_load 24 ?_); refine box_load rfl 24 _ rfl _ rfl (by with_reducible assumption) Try.underlying24 rfl (by kernel_rfl) ?_)
      | ((with_reducible refine at_store 24 ?_); refine box_store rfl 24 _ _ rfl _ _ rfl rfl (by with_reducible exact B11) (by kernel_rfl) (by rfl) (by simp [Value.oneCell']) ?_; clear B11; intro w' B11 gg; (try clear k5); (try clear k15); (try clear k17); (try clear k19); replace b0 := below_at b0 gg b0.size n11; (try replace B5 := B5.grown gg (Nat.ne_of_lt l5_11)); (try replace B6 := B6.grown gg (Nat.ne_of_lt l6_11)); (try replace B7 := B7.grown gg (Nat.ne_of_lt l7_11)); (try replace B8 := B8.grown gg (Nat.ne_of_lt l8_11)); (try replace B9 := B9.grown gg (Nat.ne_of_lt l9_11)); (try replace B13 := B13.grown gg (Nat.ne_of_gt l11_13)); (try replace B15 := B15.grown gg (Nat.ne_of_gt l11_15)); (try replace B17 := B17.grown gg (Nat.ne_of_gt l11_17)); (try replace B19 := B19.grown gg (Nat.ne_of_gt l11_19)); clear gg; (try have k5 := B5.k); (try have k15 := B15.k); (try have k17 := B17.k); (try have k19 := B19.k)))
    refine (spec_meet_yes _ _ _ _ _ _ _ _ _ _ c2 c3 c4 c5 hm h2 h3 h4 h5 _).mono ?_
    rintro e w' ⟨rfl, bb⟩
    (try clear k5)
    (try clear k15)
    (try clear k17)
    (try clear k19)
    replace b0 := bchain b0 bb
    (try replace B5 := B5.kept bb)
    (try replace B6 := B6.kept bb)
    (try replace B7 := B7.kept bb)
    (try replace B8 := B8.kept bb)
    (try replace B9 := B9.kept bb)
    (try replace B11 := B11.kept bb)
    (try replace B13 := B13.kept bb)
    (try replace B15 := B15.kept bb)
    (try replace B17 := B17.kept bb)
    (try replace B19 := B19.kept bb)
    clear bb
    (try have k5 := B5.k)
    (try have k15 := B15.k)
    (try have k17 := B17.k)
    (try have k19 := B19.k)
    go_wp2_with (first
      | ((with_reducible refine at_new 13 24 ?_); refine box_new (d := 13) rfl rfl 24 rfl _ zero_cfg ?_; intro w' B13 bb; have n13 := b0.size;  (try have l5_13 := B5.lt); (try have l6_13 := B6.lt); (try have l7_13 := B7.lt); (try have l8_13 := B8.lt); (try have l9_13 := B9.lt); (try have l11_13 := B11.lt); (try have l15_13 := B15.lt); (try have l17_13 := B17.lt); (try have l19_13 := B19.lt); (try clear k5); (try clear k15); (try clear k17); (try clear k19); replace b0 := bchain b0 bb; (try replace B5 := B5.kept bb); (try replace B6 := B6.kept bb); (try replace B7 := B7.kept bb); (try replace B8 := B8.kept bb); (try replace B9 := B9.kept bb); (try replace B11 := B11.kept bb);  (try replace B15 := B15.kept bb); (try replace B17 := B17.kept bb); (try replace B19 := B19.kept bb); clear bb; (try have k5 := B5.k); (try have k15 := B15.k); (try have k17 := B17.k); (try have k19 := B19.k))
      | ((with_reducible refine at_load 24 ?_); refine box_load rfl 24 _ rfl _ rfl (by with_reducible assumption) Try.underlying24 rfl (by kernel_rfl) ?_)
      | ((with_reducible refine at_store 24 ?_); refine box_store rfl 24 _ _ rfl _ _ rfl rfl (by with_reducible exact B13) (by kernel_rfl) (by rfl) (by simp [Value.oneCell']) ?_; clear B13; intro w' B13 gg; (try clear k5); (try clear k15); (try clear k17); (try clear k19); replace b0 := below_at b0 gg b0.size n13; (try replace B5 := B5.grown gg (Nat.ne_of_lt l5_13)); (try replace B6 := B6.grown gg (Nat.ne_of_lt l6_13)); (try replace B7 := B7.grown gg (Nat.ne_of_lt l7_13)); (try replace B8 := B8.grown gg (Nat.ne_of_lt l8_13)); (try replace B9 := B9.grown gg (Nat.ne_of_lt l9_13)); (try replace B11 := B11.grown gg (Nat.ne_of_lt l11_13)); (try replace B15 := B15.grown gg (Nat.ne_of_gt l13_15)); (try replace B17 := B17.grown gg (Nat.ne_of_gt l13_17)); (try replace B19 := B19.grown gg (Nat.ne_of_gt l13_19)); clear gg; (try have k5 := B5.k); (try have k15 := B15.k); (try have k17 := B17.k); (try have k19 := B19.k)))
    refine (li_ok _).mono ?_
    rintro e w' ⟨rfl, bb⟩
    (try clear k5)
    (try clear k15)
    (try clear k17)
    (try clear k19)
    replace b0 := bchain b0 bb
    (try replace B5 := B5.kept bb)
    (try replace B6 := B6.kept bb)
    (try replace B7 := B7.kept bb)
    (try replace B8 := B8.kept bb)
    (try replace B9 := B9.kept bb)
    (try replace B11 := B11.kept bb)
    (try replace B13 := B13.kept bb)
    (try replace B15 := B15.kept bb)
    (try replace B17 := B17.kept bb)
    (try replace B19 := B19.kept bb)
    clear bb
    (try have k5 := B5.k)
    (try have k15 := B15.k)
    (try have k17 := B17.k)
    (try have k19 := B19.k)
    go_wp2
    go_ret
    exact ⟨rfl, b0⟩
  · obtain rfl : x1 = y1 := meets_mode hm
    obtain rfl : x1 = v1 := meets_mode hn
    obtain ⟨c2, h2⟩ : ∃ c, min x2 y2 = c := ⟨_, rfl⟩
    obtain ⟨c3, h3⟩ : ∃ c, min x3 y3 = c := ⟨_, rfl⟩
    obtain ⟨c4, h4⟩ : ∃ c, min x4 y4 = c := ⟨_, rfl⟩
    obtain ⟨c5, h5⟩ : ∃ c, min x5 y5 = c := ⟨_, rfl⟩
    obtain ⟨e2, f2⟩ : ∃ c, min y2 v2 = c := ⟨_, rfl⟩
    obtain ⟨e3, f3⟩ : ∃ c, min y3 v3 = c := ⟨_, rfl⟩
    obtain ⟨e4, f4⟩ : ∃ c, min y4 v4 = c := ⟨_, rfl⟩
    obtain ⟨e5, f5⟩ : ∃ c, min y5 v5 = c := ⟨_, rfl⟩
    obtain ⟨d2, j2⟩ : ∃ c, min c2 v2 = c := ⟨_, rfl⟩
    obtain ⟨d3, j3⟩ : ∃ c, min c3 v3 = c := ⟨_, rfl⟩
    obtain ⟨d4, j4⟩ : ∃ c, min c4 v4 = c := ⟨_, rfl⟩
    obtain ⟨d5, j5⟩ : ∃ c, min c5 v5 = c := ⟨_, rfl⟩
    have m2 : min x2 e2 = d2 := by rw [← j2, ← f2, ← h2]; exact min_three _ _ _
    have q2 : min x2 x2 = x2 := min_same _
    have m3 : min x3 e3 = d3 := by rw [← j3, ← f3, ← h3]; exact min_three _ _ _
    have q3 : min x3 x3 = x3 := min_same _
    have m4 : min x4 e4 = d4 := by rw [← j4, ← f4, ← h4]; exact min_three _ _ _
    have q4 : min x4 x4 = x4 := min_same _
    have m5 : min x5 e5 = d5 := by rw [← j5, ← f5, ← h5]; exact min_three _ _ _
    have q5 : min x5 x5 = x5 := min_same _
    have hc : Opt.ok ⟨x1, c2, c3, c4, c5⟩ = true := by
      have := least_ok (meets_ok hm).1 (meets_ok hm).2
      simpa [Opt.least, h2, h3, h4, h5] using this
    have he : Opt.ok ⟨x1, e2, e3, e4, e5⟩ = true := by
      have := least_ok (meets_ok hn).1 (meets_ok hn).2
      simpa [Opt.least, f2, f3, f4, f5] using this
    have hm4 : meets ⟨x1, c2, c3, c4, c5⟩ ⟨x1, v2, v3, v4, v5⟩ = true := meets_mk hc (meets_ok hn).2 rfl
    have hm5 : meets ⟨x1, x2, x3, x4, x5⟩ ⟨x1, e2, e3, e4, e5⟩ = true := meets_mk (meets_ok hm).1 he rfl
    have hm6 : meets ⟨x1, x2, x3, x4, x5⟩ ⟨x1, x2, x3, x4, x5⟩ = true := meets_mk (meets_ok hm).1 (meets_ok hm).1 rfl
    have M2 : Hid (_ = _) := m2
    clear m2
    have Q2 : Hid (_ = _) := q2
    clear q2
    have J2 : Hid (_ = _) := j2
    clear j2
    have F2 : Hid (_ = _) := f2
    clear f2
    have H2 : Hid (_ = _) := h2
    clear h2
    have M3 : Hid (_ = _) := m3
    clear m3
    have Q3 : Hid (_ = _) := q3
    clear q3
    have J3 : Hid (_ = _) := j3
    clear j3
    have F3 : Hid (_ = _) := f3
    clear f3
    have H3 : Hid (_ = _) := h3
    clear h3
    have M4 : Hid (_ = _) := m4
    clear m4
    have Q4 : Hid (_ = _) := q4
    clear q4
    have J4 : Hid (_ = _) := j4
    clear j4
    have F4 : Hid (_ = _) := f4
    clear f4
    have H4 : Hid (_ = _) := h4
    clear h4
    have M5 : Hid (_ = _) := m5
    clear m5
    have Q5 : Hid (_ = _) := q5
    clear q5
    have J5 : Hid (_ = _) := j5
    clear j5
    have F5 : Hid (_ = _) := f5
    clear f5
    have H5 : Hid (_ = _) := h5
    clear h5
    go_wp2_with (first
      | ((with_reducible refine at_load 24 ?_); refine box_load rfl 24 _ rfl _ rfl (by with_reducible assumption) Try.underlying24 rfl (by kernel_rfl) ?_))
    refine (impl_meet_yes _ _ _ _ _ _ _ _ _ _ c2 c3 c4 c5 hm H2.out H3.out H4.out H5.out _).mono ?_
    rintro e w' ⟨rfl, bb⟩
    (try clear k5)
    (try clear k15)
    (try clear k17)
    (try clear k19)
    replace b0 := bchain b0 bb
    (try replace B5 := B5.kept bb)
    (try replace B6 := B6.kept bb)
    (try replace B7 := B7.kept bb)
    (try replace B8 := B8.kept bb)
    (try replace B9 := B9.kept bb)
    (try replace B11 := B11.kept bb)
    (try replace B13 := B13.kept bb)
    (try replace B15 := B15.kept bb)
    (try replace B17 := B17.kept bb)
    (try replace B19 := B19.kept bb)
    clear bb
    (try have k5 := B5.k)
    (try have k15 := B15.k)
    (try have k17 := B17.k)
    (try have k19 := B19.k)
    go_wp2_with (first
      | ((with_reducible refine at_new 9 24 ?_); refine box_new (d := 9) rfl rfl 24 rfl _ zero_cfg ?_; intro w' B9 bb; have n9 := b0.size;  (try have l5_9 := B5.lt); (try have l6_9 := B6.lt); (try have l7_9 := B7.lt); (try have l8_9 := B8.lt); (try have l11_9 := B11.lt); (try have l13_9 := B13.lt); (try have l15_9 := B15.lt); (try have l17_9 := B17.lt); (try have l19_9 := B19.lt); (try clear k5); (try clear k15); (try clear k17); (try clear k19); replace b0 := bchain b0 bb; (try replace B5 := B5.kept bb); (try replace B6 := B6.kept bb); (try replace B7 := B7.kept bb); (try replace B8 := B8.kept bb);  (try replace B11 := B11.kept bb); (try replace B13 := B13.kept bb); (try replace B15 := B15.kept bb); (try replace B17 := B17.kept bb); (try replace B19 := B19.kept bb); clear bb; (try have k5 := B5.k); (try have k15 := B15.k); (try have k17 := B17.k); (try have k19 := B19.k))
      | ((with_reducible refine at_load 24 ?_); refine box_load rfl 24 _ rfl _ rfl (by with_reducible assumption) Try.underlying24 rfl (by kernel_rfl) ?_)
      | ((with_reducible refine at_store 24 ?_); refine box_store rfl 24 _ _ rfl _ _ rfl rfl (by with_reducible exact B9) (by kernel_rfl) (by rfl) (by simp [Value.oneCell']) ?_; clear B9; intro w' B9 gg; (try clear k5); (try clear k15); (try clear k17); (try clear k19); replace b0 := below_at b0 gg b0.size n9; (try replace B5 := B5.grown gg (Nat.ne_of_lt l5_9)); (try replace B6 := B6.grown gg (Nat.ne_of_lt l6_9)); (try replace B7 := B7.grown gg (Nat.ne_of_lt l7_9)); (try replace B8 := B8.grown gg (Nat.ne_of_lt l8_9)); (try replace B11 := B11.grown gg (Nat.ne_of_gt l9_11)); (try replace B13 := B13.grown gg (Nat.ne_of_gt l9_13)); (try replace B15 := B15.grown gg (Nat.ne_of_gt l9_15)); (try replace B17 := B17.grown gg (Nat.ne_of_gt l9_17)); (try replace B19 := B19.grown gg (Nat.ne_of_gt l9_19)); clear gg; (try have k5 := B5.k); (try have k15 := B15.k); (try have k17 := B17.k); (try have k19 := B19.k)))
    refine (impl_meet_yes _ _ _ _ _ _ _ _ _ _ e2 e3 e4 e5 hn F2.out F3.out F4.out F5.out _).mono ?_
    rintro e w' ⟨rfl, bb⟩
    (try clear k5)
    (try clear k15)
    (try clear k17)
    (try clear k19)
    replace b0 := bchain b0 bb
    (try replace B5 := B5.kept bb)
    (try replace B6 := B6.kept bb)
    (try replace B7 := B7.kept bb)
    (try replace B8 := B8.kept bb)
    (try replace B9 := B9.kept bb)
    (try replace B11 := B11.kept bb)
    (try replace B13 := B13.kept bb)
    (try replace B15 := B15.kept bb)
    (try replace B17 := B17.kept bb)
    (try replace B19 := B19.kept bb)
    clear bb
    (try have k5 := B5.k)
    (try have k15 := B15.k)
    (try have k17 := B17.k)
    (try have k19 := B19.k)
    go_wp2_with (first
      | ((with_reducible refine at_new 11 24 ?_); refine box_new (d := 11) rfl rfl 24 rfl _ zero_cfg ?_; intro w' B11 bb; have n11 := b0.size;  (try have l5_11 := B5.lt); (try have l6_11 := B6.lt); (try have l7_11 := B7.lt); (try have l8_11 := B8.lt); (try have l9_11 := B9.lt); (try have l13_11 := B13.lt); (try have l15_11 := B15.lt); (try have l17_11 := B17.lt); (try have l19_11 := B19.lt); (try clear k5); (try clear k15); (try clear k17); (try clear k19); replace b0 := bchain b0 bb; (try replace B5 := B5.kept bb); (try replace B6 := B6.kept bb); (try replace B7 := B7.kept bb); (try replace B8 := B8.kept bb); (try replace B9 := B9.kept bb);  (try replace B13 := B13.kept bb); (try replace B15 := B15.kept bb); (try replace B17 := B17.kept bb); (try replace B19 := B19.kept bb); clear bb; (try have k5 := B5.k); (try have k15 := B15.k); (try have k17 := B17.k); (try have k19 := B19.k))
      | ((with_reducible refine at_load 24 ?_); refine box_load rfl 24 _ rfl _ rfl (by with_reducible assumption) Try.underlying24 rfl (by kernel_rfl) ?_)
      | ((with_reducible refine at_store 24 ?_); refine box_store rfl 24 _ _ rfl _ _ rfl rfl (by with_reducible exact B11) (by kernel_rfl) (by rfl) (by simp [Value.oneCell']) ?_; clear B11; intro w' B11 gg; (try clear k5); (try clear k15); (try clear k17); (try clear k19); replace b0 := below_at b0 gg b0.size n11; (try replace B5 := B5.grown gg (Nat.ne_of_lt l5_11)); (try replace B6 := B6.grown gg (Nat.ne_of_lt l6_11)); (try replace B7 := B7.grown gg (Nat.ne_of_lt l7_11)); (try replace B8 := B8.grown gg (Nat.ne_of_lt l8_11)); (try replace B9 := B9.grown gg (Nat.ne_of_lt l9_11)); (try replace B13 := B13.grown gg (Nat.ne_of_gt l11_13)); (try replace B15 := B15.grown gg (Nat.ne_of_gt l11_15)); (try replace B17 := B17.grown gg (Nat.ne_of_gt l11_17)); (try replace B19 := B19.grown gg (Nat.ne_of_gt l11_19)); clear gg; (try have k5 := B5.k); (try have k15 := B15.k); (try have k17 := B17.k); (try have k19 := B19.k)))
    refine (spec_meet_yes _ _ _ _ _ _ _ _ _ _ c2 c3 c4 c5 hm H2.out H3.out H4.out H5.out _).mono ?_
    rintro e w' ⟨rfl, bb⟩
    (try clear k5)
    (try clear k15)
    (try clear k17)
    (try clear k19)
    replace b0 := bchain b0 bb
    (try replace B5 := B5.kept bb)
    (try replace B6 := B6.kept bb)
    (try replace B7 := B7.kept bb)
    (try replace B8 := B8.kept bb)
    (try replace B9 := B9.kept bb)
    (try replace B11 := B11.kept bb)
    (try replace B13 := B13.kept bb)
    (try replace B15 := B15.kept bb)
    (try replace B17 := B17.kept bb)
    (try replace B19 := B19.kept bb)
    clear bb
    (try have k5 := B5.k)
    (try have k15 := B15.k)
    (try have k17 := B17.k)
    (try have k19 := B19.k)
    go_wp2_with (first
      | ((with_reducible refine at_new 13 24 ?_); refine box_new (d := 13) rfl rfl 24 rfl _ zero_cfg ?_; intro w' B13 bb; have n13 := b0.size;  (try have l5_13 := B5.lt); (try have l6_13 := B6.lt); (try have l7_13 := B7.lt); (try have l8_13 := B8.lt); (try have l9_13 := B9.lt); (try have l11_13 := B11.lt); (try have l15_13 := B15.lt); (try have l17_13 := B17.lt); (try have l19_13 := B19.lt); (try clear k5); (try clear k15); (try clear k17); (try clear k19); replace b0 := bchain b0 bb; (try replace B5 := B5.kept bb); (try replace B6 := B6.kept bb); (try replace B7 := B7.kept bb); (try replace B8 := B8.kept bb); (try replace B9 := B9.kept bb); (try replace B11 := B11.kept bb);  (try replace B15 := B15.kept bb); (try replace B17 := B17.kept bb); (try replace B19 := B19.kept bb); clear bb; (try have k5 := B5.k); (try have k15 := B15.k); (try have k17 := B17.k); (try have k19 := B19.k))
      | ((with_reducible refine at_load 24 ?_); refine box_load rfl 24 _ rfl _ rfl (by with_reducible assumption) Try.underlying24 rfl (by kernel_rfl) ?_)
      | ((with_reducible refine at_store 24 ?_); refine box_store rfl 24 _ _ rfl _ _ rfl rfl (by with_reducible exact B13) (by kernel_rfl) (by rfl) (by simp [Value.oneCell']) ?_; clear B13; intro w' B13 gg; (try clear k5); (try clear k15); (try clear k17); (try clear k19); replace b0 := below_at b0 gg b0.size n13; (try replace B5 := B5.grown gg (Nat.ne_of_lt l5_13)); (try replace B6 := B6.grown gg (Nat.ne_of_lt l6_13)); (try replace B7 := B7.grown gg (Nat.ne_of_lt l7_13)); (try replace B8 := B8.grown gg (Nat.ne_of_lt l8_13)); (try replace B9 := B9.grown gg (Nat.ne_of_lt l9_13)); (try replace B11 := B11.grown gg (Nat.ne_of_lt l11_13)); (try replace B15 := B15.grown gg (Nat.ne_of_gt l13_15)); (try replace B17 := B17.grown gg (Nat.ne_of_gt l13_17)); (try replace B19 := B19.grown gg (Nat.ne_of_gt l13_19)); clear gg; (try have k5 := B5.k); (try have k15 := B15.k); (try have k17 := B17.k); (try have k19 := B19.k)))
    refine (impl_meet_yes _ _ _ _ _ _ _ _ _ _ d2 d3 d4 d5 hm4 J2.out J3.out J4.out J5.out _).mono ?_
    rintro e w' ⟨rfl, bb⟩
    (try clear k5)
    (try clear k15)
    (try clear k17)
    (try clear k19)
    replace b0 := bchain b0 bb
    (try replace B5 := B5.kept bb)
    (try replace B6 := B6.kept bb)
    (try replace B7 := B7.kept bb)
    (try replace B8 := B8.kept bb)
    (try replace B9 := B9.kept bb)
    (try replace B11 := B11.kept bb)
    (try replace B13 := B13.kept bb)
    (try replace B15 := B15.kept bb)
    (try replace B17 := B17.kept bb)
    (try replace B19 := B19.kept bb)
    clear bb
    (try have k5 := B5.k)
    (try have k15 := B15.k)
    (try have k17 := B17.k)
    (try have k19 := B19.k)
    go_wp2_with (first
      | ((with_reducible refine at_new 15 24 ?_); refine box_new (d := 15) rfl rfl 24 rfl _ zero_cfg ?_; intro w' B15 bb; have n15 := b0.size;  (try have l5_15 := B5.lt); (try have l6_15 := B6.lt); (try have l7_15 := B7.lt); (try have l8_15 := B8.lt); (try have l9_15 := B9.lt); (try have l11_15 := B11.lt); (try have l13_15 := B13.lt); (try have l17_15 := B17.lt); (try have l19_15 := B19.lt); (try clear k5); (try clear k15); (try clear k17); (try clear k19); replace b0 := bchain b0 bb; (try replace B5 := B5.kept bb); (try replace B6 := B6.kept bb); (try replace B7 := B7.kept bb); (try replace B8 := B8.kept bb); (try replace B9 := B9.kept bb); (try replace B11 := B11.kept bb); (try replace B13 := B13.kept bb);  (try replace B17 := B17.kept bb); (try replace B19 := B19.kept bb); clear bb; (try have k5 := B5.k); (try have k15 := B15.k); (try have k17 := B17.k); (try have k19 := B19.k))
      | ((with_reducible refine at_load 24 ?_); refine box_load rfl 24 _ rfl _ rfl (by with_reducible assumption) Try.underlying24 rfl (by kernel_rfl) ?_)
      | ((with_reducible refine at_store 24 ?_); refine box_store rfl 24 _ _ rfl _ _ rfl rfl (by with_reducible exact B15) (by kernel_rfl) (by rfl) (by simp [Value.oneCell']) ?_; clear B15; intro w' B15 gg; (try clear k5); (try clear k15); (try clear k17); (try clear k19); replace b0 := below_at b0 gg b0.size n15; (try replace B5 := B5.grown gg (Nat.ne_of_lt l5_15)); (try replace B6 := B6.grown gg (Nat.ne_of_lt l6_15)); (try replace B7 := B7.grown gg (Nat.ne_of_lt l7_15)); (try replace B8 := B8.grown gg (Nat.ne_of_lt l8_15)); (try replace B9 := B9.grown gg (Nat.ne_of_lt l9_15)); (try replace B11 := B11.grown gg (Nat.ne_of_lt l11_15)); (try replace B13 := B13.grown gg (Nat.ne_of_lt l13_15)); (try replace B17 := B17.grown gg (Nat.ne_of_gt l15_17)); (try replace B19 := B19.grown gg (Nat.ne_of_gt l15_19)); clear gg; (try have k5 := B5.k); (try have k15 := B15.k); (try have k17 := B17.k); (try have k19 := B19.k)))
    refine (impl_meet_yes _ _ _ _ _ _ _ _ _ _ d2 d3 d4 d5 hm5 M2.out M3.out M4.out M5.out _).mono ?_
    rintro e w' ⟨rfl, bb⟩
    (try clear k5)
    (try clear k15)
    (try clear k17)
    (try clear k19)
    replace b0 := bchain b0 bb
    (try replace B5 := B5.kept bb)
    (try replace B6 := B6.kept bb)
    (try replace B7 := B7.kept bb)
    (try replace B8 := B8.kept bb)
    (try replace B9 := B9.kept bb)
    (try replace B11 := B11.kept bb)
    (try replace B13 := B13.kept bb)
    (try replace B15 := B15.kept bb)
    (try replace B17 := B17.kept bb)
    (try replace B19 := B19.kept bb)
    clear bb
    (try have k5 := B5.k)
    (try have k15 := B15.k)
    (try have k17 := B17.k)
    (try have k19 := B19.k)
    go_wp2_with (first
      | ((with_reducible refine at_new 17 24 ?_); refine box_new (d := 17) rfl rfl 24 rfl _ zero_cfg ?_; intro w' B17 bb; have n17 := b0.size;  (try have l5_17 := B5.lt); (try have l6_17 := B6.lt); (try have l7_17 := B7.lt); (try have l8_17 := B8.lt); (try have l9_17 := B9.lt); (try have l11_17 := B11.lt); (try have l13_17 := B13.lt); (try have l15_17 := B15.lt); (try have l19_17 := B19.lt); (try clear k5); (try clear k15); (try clear k17); (try clear k19); replace b0 := bchain b0 bb; (try replace B5 := B5.kept bb); (try replace B6 := B6.kept bb); (try replace B7 := B7.kept bb); (try replace B8 := B8.kept bb); (try replace B9 := B9.kept bb); (try replace B11 := B11.kept bb); (try replace B13 := B13.kept bb); (try replace B15 := B15.kept bb);  (try replace B19 := B19.kept bb); clear bb; (try have k5 := B5.k); (try have k15 := B15.k); (try have k17 := B17.k); (try have k19 := B19.k))
      | ((with_reducible refine at_load 24 ?_); refine box_load rfl 24 _ rfl _ rfl (by with_reducible assumption) Try.underlying24 rfl (by kernel_rfl) ?_)
      | ((with_reducible refine at_store 24 ?_); refine box_store rfl 24 _ _ rfl _ _ rfl rfl (by with_reducible exact B17) (by kernel_rfl) (by rfl) (by simp [Value.oneCell']) ?_; clear B17; intro w' B17 gg; (try clear k5); (try clear k15); (try clear k17); (try clear k19); replace b0 := below_at b0 gg b0.size n17; (try replace B5 := B5.grown gg (Nat.ne_of_lt l5_17)); (try replace B6 := B6.grown gg (Nat.ne_of_lt l6_17)); (try replace B7 := B7.grown gg (Nat.ne_of_lt l7_17)); (try replace B8 := B8.grown gg (Nat.ne_of_lt l8_17)); (try replace B9 := B9.grown gg (Nat.ne_of_lt l9_17)); (try replace B11 := B11.grown gg (Nat.ne_of_lt l11_17)); (try replace B13 := B13.grown gg (Nat.ne_of_lt l13_17)); (try replace B15 := B15.grown gg (Nat.ne_of_lt l15_17)); (try replace B19 := B19.grown gg (Nat.ne_of_gt l17_19)); clear gg; (try have k5 := B5.k); (try have k15 := B15.k); (try have k17 := B17.k); (try have k19 := B19.k)))
    refine (impl_meet_yes _ _ _ _ _ _ _ _ _ _ x2 x3 x4 x5 hm6 Q2.out Q3.out Q4.out Q5.out _).mono ?_
    rintro e w' ⟨rfl, bb⟩
    (try clear k5)
    (try clear k15)
    (try clear k17)
    (try clear k19)
    replace b0 := bchain b0 bb
    (try replace B5 := B5.kept bb)
    (try replace B6 := B6.kept bb)
    (try replace B7 := B7.kept bb)
    (try replace B8 := B8.kept bb)
    (try replace B9 := B9.kept bb)
    (try replace B11 := B11.kept bb)
    (try replace B13 := B13.kept bb)
    (try replace B15 := B15.kept bb)
    (try replace B17 := B17.kept bb)
    (try replace B19 := B19.kept bb)
    clear bb
    (try have k5 := B5.k)
    (try have k15 := B15.k)
    (try have k17 := B17.k)
    (try have k19 := B19.k)
    go_wp2_with (first
      | ((with_reducible refine at_new 19 24 ?_); refine box_new (d := 19) rfl rfl 24 rfl _ zero_cfg ?_; intro w' B19 bb; have n19 := b0.size;  (try have l5_19 := B5.lt); (try have l6_19 := B6.lt); (try have l7_19 := B7.lt); (try have l8_19 := B8.lt); (try have l9_19 := B9.lt); (try have l11_19 := B11.lt); (try have l13_19 := B13.lt); (try have l15_19 := B15.lt); (try have l17_19 := B17.lt); (try clear k5); (try clear k15); (try clear k17); (try clear k19); replace b0 := bchain b0 bb; (try replace B5 := B5.kept bb); (try replace B6 := B6.kept bb); (try replace B7 := B7.kept bb); (try replace B8 := B8.kept bb); (try replace B9 := B9.kept bb); (try replace B11 := B11.kept bb); (try replace B13 := B13.kept bb); (try replace B15 := B15.kept bb); (try replace B17 := B17.kept bb);  clear bb; (try have k5 := B5.k); (try have k15 := B15.k); (try have k17 := B17.k); (try have k19 := B19.k))
      | ((with_reducible refine at_load 24 ?_); refine box_load rfl 24 _ rfl _ rfl (by with_reducible assumption) Try.underlying24 rfl (by kernel_rfl) ?_)
      | ((with_reducible refine at_store 24 ?_); refine box_store rfl 24 _ _ rfl _ _ rfl rfl (by with_reducible exact B19) (by kernel_rfl) (by rfl) (by simp [Value.oneCell']) ?_; clear B19; intro w' B19 gg; (try clear k5); (try clear k15); (try clear k17); (try clear k19); replace b0 := below_at b0 gg b0.size n19; (try replace B5 := B5.grown gg (Nat.ne_of_lt l5_19)); (try replace B6 := B6.grown gg (Nat.ne_of_lt l6_19)); (try replace B7 := B7.grown gg (Nat.ne_of_lt l7_19)); (try replace B8 := B8.grown gg (Nat.ne_of_lt l8_19)); (try replace B9 := B9.grown gg (Nat.ne_of_lt l9_19)); (try replace B11 := B11.grown gg (Nat.ne_of_lt l11_19)); (try replace B13 := B13.grown gg (Nat.ne_of_lt l13_19)); (try replace B15 := B15.grown gg (Nat.ne_of_lt l15_19)); (try replace B17 := B17.grown gg (Nat.ne_of_lt l17_19)); clear gg; (try have k5 := B5.k); (try have k15 := B15.k); (try have k17 := B17.k); (try have k19 := B19.k)))
    go_ret
    exact ⟨rfl, b0⟩
theorem walk (a0 : Option Addr) (len0 cap0 : Nat) (z0 : List Int) (a1 : Option Addr) (len1 cap1 : Nat) (z1 : List Int) (w : World) (w0 : IsRow .u8 w a0 len0 cap0 z0) (w1 : IsRow .u8 w a1 len1 cap1 z1) :
    Calls Try.prog 7 #[.slice a0 len0 cap0, .slice a1 len1 cap1] w fun e w' => e = .returned (.bool true) ∧ Below w.heap.size w w' := by
  by_cases hs0 : (1048576 : Int) < (len0 : Int)
  · go_enter Try.func7, Try.ntmps7
    go_wp2
    go_ret
    exact ⟨rfl, Below.refl _ _⟩
  by_cases hs1 : (1048576 : Int) < (len1 : Int)
  · go_enter Try.func7, Try.ntmps7
    go_wp2
    go_ret
    exact ⟨rfl, Below.refl _ _⟩
  obtain ⟨cz, hR0, _⟩ := w0.rd (by omega)
  obtain ⟨mz, hR1, _⟩ := w1.rd (by omega)
  exact small a0 len0 cap0 cz a1 len1 cap1 mz w hs0 hs1 hR0 hR1
end Go.Proofs.Ytmciofamcdekaaa.fnCfgThree
