/- The law of NegOk, promise 72, returns true at every code. -/
import Derived.Test.YtmciofamcdekaaaDrawNegs
import Derived.Test.YtmciofamcdekaaaLiOk
import Derived.RowKit3
namespace Go.Proofs.Ytmciofamcdekaaa.fnNegOk
open Go.RowKit
set_option maxHeartbeats 2000000 in
theorem done_none (o1 o2 o3 o4 o5 a1 a2 a3 a4 a5 : Int) (f : Bool) (hok : Neg.ok ⟨⟨o1, o2, o3, o4, o5⟩, ⟨a1, a2, a3, a4, a5⟩, ⟨0, 0, 0, 0, 0⟩, ⟨0, 0, 0, 0, 0⟩, f⟩ = true) (w : World) :
    Calls Try.prog 33 #[.agg #[.int .i64 o1, .int .i64 o2, .int .i64 o3, .int .i64 o4, .int .i64 o5, .int .i64 a1, .int .i64 a2, .int .i64 a3, .int .i64 a4, .int .i64 a5, .int .i64 0, .int .i64 0, .int .i64 0, .int .i64 0, .int .i64 0, .int .i64 0, .int .i64 0, .int .i64 0, .int .i64 0, .int .i64 0, .bool f]] w fun e w' => e = .returned (.tuple #[.agg #[.int .i64 0, .int .i64 0, .int .i64 0, .int .i64 0, .int .i64 0], .bool false]) ∧ Below w.heap.size w w' := by
  have b0 : Below w.heap.size w w := Below.refl _ _
  have hz : Opt.same ⟨0, 0, 0, 0, 0⟩ Opt.zero = true := rfl
  cases f
  all_goals
    go_enter Try.func33, Try.ntmps33
    go_wp2_with (first
      | ((with_reducible refine at_box 1 26 ?_); refine box_box (d := 1) rfl rfl 26 _ rfl _ rfl ?_; intro w' B1 bb; have n1 := b0.size;  (try have l2_1 := B2.lt); (try clear k1); replace b0 := bchain b0 bb;  (try replace B2 := B2.kept bb); clear bb; (try have k1 := B1.k))
      | ((with_reducible refine at_new 2 24 ?_); refine box_new (d := 2) rfl rfl 24 rfl _ zero_cfg ?_; intro w' B2 bb; have n2 := b0.size;  (try have l1_2 := B1.lt); (try clear k1); replace b0 := bchain b0 bb; (try replace B1 := B1.kept bb);  clear bb; (try have k1 := B1.k))
      | ((with_reducible refine at_load 26 ?_); refine box_load rfl 26 _ rfl _ rfl (by with_reducible assumption) Try.underlying26 rfl (by kernel_rfl) ?_)
      | ((with_reducible refine at_store 24 ?_); refine box_store rfl 24 _ _ rfl _ _ rfl rfl (by with_reducible exact B2) (by kernel_rfl) (by rfl) (by simp [Value.oneCell']) ?_; clear B2; intro w' B2 gg; (try clear k1); replace b0 := below_at b0 gg b0.size n2; (try replace B1 := B1.grown gg (Nat.ne_of_lt l1_2)); clear gg; (try have k1 := B1.k))
      | (go_at_call 21; refine (impl_neg_v _ _ _ _ _ _ _ _ _ _ _ _ _ _ _ _ _ _ _ _ _ _).mono ?_; rintro e w' ⟨rfl, bb⟩; rw [hok]; (try clear k1); replace b0 := bchain b0 bb; (try replace B1 := B1.kept bb); (try replace B2 := B2.kept bb); clear bb; (try have k1 := B1.k))
      | (go_at_call 44; refine (nothing_v _ _ _ _ _ _).mono ?_; rintro e w' ⟨rfl, bb⟩; rw [hz]; (try clear k1); replace b0 := bchain b0 bb; (try replace B1 := B1.kept bb); (try replace B2 := B2.kept bb); clear bb; (try have k1 := B1.k)))
    refine bodyPost_ret (results_ct rfl _ _ _ _ _ rfl B2 Try.underlying24 rfl (by kernel_rfl)) rfl ?_
    exact ⟨rfl, b0⟩
set_option maxRecDepth 100000 in
set_option maxHeartbeats 4000000 in
theorem small (a0 : Option Addr) (len0 cap0 : Nat) (cz : List Nat) (w : World) (hs0 : ¬ (1048576 : Int) < (len0 : Int)) (hR0 : Rd w (.slice a0 len0 cap0) cz) :
    Calls Try.prog 9 #[.slice a0 len0 cap0] w fun e w' => e = .returned (.bool true) ∧ Below w.heap.size w w' := by
  have b0 : Below w.heap.size w w := Below.refl _ _
  go_enter Try.func9, Try.ntmps9
  go_wp2_with fail
  refine (drawNegOk_any _ cz _ hR0).mono ?_
  rintro e w1 ⟨s, rfl, _, bb⟩
  replace b0 := bchain b0 bb
  clear bb hR0
  obtain ⟨⟨o1, o2, o3, o4, o5⟩, ⟨a1, a2, a3, a4, a5⟩, ⟨m1, m2, m3, m4, m5⟩, ⟨y1, y2, y3, y4, y5⟩, f⟩ := s
  simp only [Neg.cs]
  cases hok : Neg.ok ⟨⟨o1, o2, o3, o4, o5⟩, ⟨a1, a2, a3, a4, a5⟩, ⟨m1, m2, m3, m4, m5⟩, ⟨y1, y2, y3, y4, y5⟩, f⟩
  · go_wp2_with (first
      | ((with_reducible refine at_new 3 26 ?_); refine box_new (d := 3) rfl rfl 26 rfl _ zero_neg ?_; intro w' B3 bb; have n3 := b0.size;  (try have l5_3 := B5.lt); (try have l6_3 := B6.lt); (try have l7_3 := B7.lt);  replace b0 := bchain b0 bb;  (try replace B5 := B5.kept bb); (try replace B6 := B6.kept bb); (try replace B7 := B7.kept bb); clear bb; skip)
      | ((with_reducible refine at_new 5 26 ?_); refine box_new (d := 5) rfl rfl 26 rfl _ zero_neg ?_; intro w' B5 bb; have n5 := b0.size;  (try have l3_5 := B3.lt); (try have l6_5 := B6.lt); (try have l7_5 := B7.lt);  replace b0 := bchain b0 bb; (try replace B3 := B3.kept bb);  (try replace B6 := B6.kept bb); (try replace B7 := B7.kept bb); clear bb; skip)
      | ((with_reducible refine at_new 6 26 ?_); refine box_new (d := 6) rfl rfl 26 rfl _ zero_neg ?_; intro w' B6 bb; have n6 := b0.size;  (try have l3_6 := B3.lt); (try have l5_6 := B5.lt); (try have l7_6 := B7.lt);  replace b0 := bchain b0 bb; (try replace B3 := B3.kept bb); (try replace B5 := B5.kept bb);  (try replace B7 := B7.kept bb); clear bb; skip)
      | ((with_reducible refine at_new 7 24 ?_); refine box_new (d := 7) rfl rfl 24 rfl _ zero_cfg ?_; intro w' B7 bb; have n7 := b0.size;  (try have l3_7 := B3.lt); (try have l5_7 := B5.lt); (try have l6_7 := B6.lt);  replace b0 := bchain b0 bb; (try replace B3 := B3.kept bb); (try replace B5 := B5.kept bb); (try replace B6 := B6.kept bb);  clear bb; skip)
      | ((with_reducible refine at_load 26 ?_); refine box_load rfl 26 _ rfl _ rfl (by with_reducible assumption) Try.underlying26 rfl (by kernel_rfl) ?_)
      | ((with_reducible refine at_loadg 26 ?_); refine box_loadg (by rfl) 26 _ rfl _ rfl (by with_reducible assumption) Try.underlying26 rfl (by kernel_rfl) ?_)
      | ((with_reducible refine at_store 26 ?_); refine box_store rfl 26 _ _ rfl _ _ rfl rfl (by with_reducible exact B3) (by kernel_rfl) (by rfl) (by simp [Value.oneCell']) ?_; clear B3; intro w' B3 gg;  replace b0 := below_at b0 gg b0.size n3; (try replace B5 := B5.grown gg (Nat.ne_of_gt l3_5)); (try replace B6 := B6.grown gg (Nat.ne_of_gt l3_6)); (try replace B7 := B7.grown gg (Nat.ne_of_gt l3_7)); clear gg; skip)
      | ((with_reducible refine at_store 26 ?_); refine box_store rfl 26 _ _ rfl _ _ rfl rfl (by with_reducible exact B5) (by kernel_rfl) (by rfl) (by simp [Value.oneCell']) ?_; clear B5; intro w' B5 gg;  replace b0 := below_at b0 gg b0.size n5; (try replace B3 := B3.grown gg (Nat.ne_of_lt l3_5)); (try replace B6 := B6.grown gg (Nat.ne_of_gt l5_6)); (try replace B7 := B7.grown gg (Nat.ne_of_gt l5_7)); clear gg; skip)
      | ((with_reducible refine at_store 26 ?_); refine box_store rfl 26 _ _ rfl _ _ rfl rfl (by with_reducible exact B6) (by kernel_rfl) (by rfl) (by simp [Value.oneCell']) ?_; clear B6; intro w' B6 gg;  replace b0 := below_at b0 gg b0.size n6; (try replace B3 := B3.grown gg (Nat.ne_of_lt l3_6)); (try replace B5 := B5.grown gg (Nat.ne_of_lt l5_6)); (try replace B7 := B7.grown gg (Nat.ne_of_gt l6_7)); clear gg; skip)
      | ((with_reducible refine at_store 24 ?_); refine box_part rfl 24 _ _ rfl _ _ _ rfl rfl (by with_reducible exact B5) (by kernel_rfl) (by simp) (by simp [Value.oneCell']) ?_; clear B5; intro w' B5 gg; simp only [putAt, List.setIfInBounds_toArray, List.set, Nat.reduceAdd] at B5;  replace b0 := below_at b0 gg b0.size n5; (try replace B3 := B3.grown gg (Nat.ne_of_lt l3_5)); (try replace B6 := B6.grown gg (Nat.ne_of_gt l5_6)); (try replace B7 := B7.grown gg (Nat.ne_of_gt l5_7)); clear gg; skip)
      | ((with_reducible refine at_store 24 ?_); refine box_part rfl 24 _ _ rfl _ _ _ rfl rfl (by with_reducible exact B6) (by kernel_rfl) (by simp) (by simp [Value.oneCell']) ?_; clear B6; intro w' B6 gg; simp only [putAt, List.setIfInBounds_toArray, List.set, Nat.reduceAdd] at B6;  replace b0 := below_at b0 gg b0.size n6; (try replace B3 := B3.grown gg (Nat.ne_of_lt l3_6)); (try replace B5 := B5.grown gg (Nat.ne_of_lt l5_6)); (try replace B7 := B7.grown gg (Nat.ne_of_gt l6_7)); clear gg; skip)
      | ((with_reducible refine at_store 24 ?_); refine box_store rfl 24 _ _ rfl _ _ rfl rfl (by with_reducible exact B7) (by kernel_rfl) (by rfl) (by simp [Value.oneCell']) ?_; clear B7; intro w' B7 gg;  replace b0 := below_at b0 gg b0.size n7; (try replace B3 := B3.grown gg (Nat.ne_of_lt l3_7)); (try replace B5 := B5.grown gg (Nat.ne_of_lt l5_7)); (try replace B6 := B6.grown gg (Nat.ne_of_lt l6_7)); clear gg; skip)
      | (go_at_call 21; refine (impl_neg_v _ _ _ _ _ _ _ _ _ _ _ _ _ _ _ _ _ _ _ _ _ _).mono ?_; rintro e w' ⟨rfl, bb⟩; rw [hok];  replace b0 := bchain b0 bb; (try replace B3 := B3.kept bb); (try replace B5 := B5.kept bb); (try replace B6 := B6.kept bb); (try replace B7 := B7.kept bb); clear bb; skip)
      | (go_at_call 19; refine (spec_neg_v _ _ _ _ _ _ _ _ _ _ _ _ _ _ _ _ _ _ _ _ _ _).mono ?_; rintro e w' ⟨rfl, bb⟩; rw [hok];  replace b0 := bchain b0 bb; (try replace B3 := B3.kept bb); (try replace B5 := B5.kept bb); (try replace B6 := B6.kept bb); (try replace B7 := B7.kept bb); clear bb; skip)
      | (go_at_call 29; refine (li_ok _).mono ?_; rintro e w' ⟨rfl, bb⟩;  replace b0 := bchain b0 bb; (try replace B3 := B3.kept bb); (try replace B5 := B5.kept bb); (try replace B6 := B6.kept bb); (try replace B7 := B7.kept bb); clear bb; skip))
    go_ret
    exact ⟨rfl, b0⟩
  · have hx : Neg.ok ⟨⟨0, 0, 0, 0, 0⟩, ⟨a1, a2, a3, a4, a5⟩, ⟨m1, m2, m3, m4, m5⟩, ⟨y1, y2, y3, y4, y5⟩, f⟩ = false := by simp [Neg.ok, Opt.ok, inB]
    have hy : Neg.ok ⟨⟨o1, o2, o3, o4, o5⟩, ⟨a1, a2, a3, a4, a5⟩, ⟨0, 0, 0, 0, 0⟩, ⟨0, 0, 0, 0, 0⟩, f⟩ = true := by
      simp only [Neg.ok, Bool.and_eq_true] at hok ⊢
      exact ⟨⟨hok.1.1, rfl⟩, rfl⟩
    go_wp2_with (first
      | ((with_reducible refine at_new 3 26 ?_); refine box_new (d := 3) rfl rfl 26 rfl _ zero_neg ?_; intro w' B3 bb; have n3 := b0.size;  (try have l5_3 := B5.lt); (try have l6_3 := B6.lt); (try have l7_3 := B7.lt);  replace b0 := bchain b0 bb;  (try replace B5 := B5.kept bb); (try replace B6 := B6.kept bb); (try replace B7 := B7.kept bb); clear bb; skip)
      | ((with_reducible refine at_new 5 26 ?_); refine box_new (d := 5) rfl rfl 26 rfl _ zero_neg ?_; intro w' B5 bb; have n5 := b0.size;  (try have l3_5 := B3.lt); (try have l6_5 := B6.lt); (try have l7_5 := B7.lt);  replace b0 := bchain b0 bb; (try replace B3 := B3.kept bb);  (try replace B6 := B6.kept bb); (try replace B7 := B7.kept bb); clear bb; skip)
      | ((with_reducible refine at_new 6 26 ?_); refine box_new (d := 6) rfl rfl 26 rfl _ zero_neg ?_; intro w' B6 bb; have n6 := b0.size;  (try have l3_6 := B3.lt); (try have l5_6 := B5.lt); (try have l7_6 := B7.lt);  replace b0 := bchain b0 bb; (try replace B3 := B3.kept bb); (try replace B5 := B5.kept bb);  (try replace B7 := B7.kept bb); clear bb; skip)
      | ((with_reducible refine at_new 7 24 ?_); refine box_new (d := 7) rfl rfl 24 rfl _ zero_cfg ?_; intro w' B7 bb; have n7 := b0.size;  (try have l3_7 := B3.lt); (try have l5_7 := B5.lt); (try have l6_7 := B6.lt);  replace b0 := bchain b0 bb; (try replace B3 := B3.kept bb); (try replace B5 := B5.kept bb); (try replace B6 := B6.kept bb);  clear bb; skip)
      | ((with_reducible refine at_load 26 ?_); refine box_load rfl 26 _ rfl _ rfl (by with_reducible assumption) Try.underlying26 rfl (by kernel_rfl) ?_)
      | ((with_reducible refine at_loadg 26 ?_); refine box_loadg (by rfl) 26 _ rfl _ rfl (by with_reducible assumption) Try.underlying26 rfl (by kernel_rfl) ?_)
      | ((with_reducible refine at_store 26 ?_); refine box_store rfl 26 _ _ rfl _ _ rfl rfl (by with_reducible exact B3) (by kernel_rfl) (by rfl) (by simp [Value.oneCell']) ?_; clear B3; intro w' B3 gg;  replace b0 := below_at b0 gg b0.size n3; (try replace B5 := B5.grown gg (Nat.ne_of_gt l3_5)); (try replace B6 := B6.grown gg (Nat.ne_of_gt l3_6)); (try replace B7 := B7.grown gg (Nat.ne_of_gt l3_7)); clear gg; skip)
      | ((with_reducible refine at_store 26 ?_); refine box_store rfl 26 _ _ rfl _ _ rfl rfl (by with_reducible exact B5) (by kernel_rfl) (by rfl) (by simp [Value.oneCell']) ?_; clear B5; intro w' B5 gg;  replace b0 := below_at b0 gg b0.size n5; (try replace B3 := B3.grown gg (Nat.ne_of_lt l3_5)); (try replace B6 := B6.grown gg (Nat.ne_of_gt l5_6)); (try replace B7 := B7.grown gg (Nat.ne_of_gt l5_7)); clear gg; skip)
      | ((with_reducible refine at_store 26 ?_); refine box_store rfl 26 _ _ rfl _ _ rfl rfl (by with_reducible exact B6) (by kernel_rfl) (by rfl) (by simp [Value.oneCell']) ?_; clear B6; intro w' B6 gg;  replace b0 := below_at b0 gg b0.size n6; (try replace B3 := B3.grown gg (Nat.ne_of_lt l3_6)); (try replace B5 := B5.grown gg (Nat.ne_of_lt l5_6)); (try replace B7 := B7.grown gg (Nat.ne_of_gt l6_7)); clear gg; skip)
      | ((with_reducible refine at_store 24 ?_); refine box_part rfl 24 _ _ rfl _ _ _ rfl rfl (by with_reducible exact B5) (by kernel_rfl) (by simp) (by simp [Value.oneCell']) ?_; clear B5; intro w' B5 gg; simp only [putAt, List.setIfInBounds_toArray, List.set, Nat.reduceAdd] at B5;  replace b0 := below_at b0 gg b0.size n5; (try replace B3 := B3.grown gg (Nat.ne_of_lt l3_5)); (try replace B6 := B6.grown gg (Nat.ne_of_gt l5_6)); (try replace B7 := B7.grown gg (Nat.ne_of_gt l5_7)); clear gg; skip)
      | ((with_reducible refine at_store 24 ?_); refine box_part rfl 24 _ _ rfl _ _ _ rfl rfl (by with_reducible exact B6) (by kernel_rfl) (by simp) (by simp [Value.oneCell']) ?_; clear B6; intro w' B6 gg; simp only [putAt, List.setIfInBounds_toArray, List.set, Nat.reduceAdd] at B6;  replace b0 := below_at b0 gg b0.size n6; (try replace B3 := B3.grown gg (Nat.ne_of_lt l3_6)); (try replace B5 := B5.grown gg (Nat.ne_of_lt l5_6)); (try replace B7 := B7.grown gg (Nat.ne_of_gt l6_7)); clear gg; skip)
      | ((with_reducible refine at_store 24 ?_); refine box_store rfl 24 _ _ rfl _ _ rfl rfl (by with_reducible exact B7) (by kernel_rfl) (by rfl) (by simp [Value.oneCell']) ?_; clear B7; intro w' B7 gg;  replace b0 := below_at b0 gg b0.size n7; (try replace B3 := B3.grown gg (Nat.ne_of_lt l3_7)); (try replace B5 := B5.grown gg (Nat.ne_of_lt l5_7)); (try replace B6 := B6.grown gg (Nat.ne_of_lt l6_7)); clear gg; skip))
    refine (impl_neg_v _ _ _ _ _ _ _ _ _ _ _ _ _ _ _ _ _ _ _ _ _ _).mono ?_
    rintro e w' ⟨rfl, bb⟩
    rw [hok]
    replace b0 := bchain b0 bb
    (try replace B3 := B3.kept bb)
    (try replace B5 := B5.kept bb)
    (try replace B6 := B6.kept bb)
    (try replace B7 := B7.kept bb)
    clear bb
    skip
    go_wp2_with (first
      | ((with_reducible refine at_new 3 26 ?_); refine box_new (d := 3) rfl rfl 26 rfl _ zero_neg ?_; intro w' B3 bb; have n3 := b0.size;  (try have l5_3 := B5.lt); (try have l6_3 := B6.lt); (try have l7_3 := B7.lt);  replace b0 := bchain b0 bb;  (try replace B5 := B5.kept bb); (try replace B6 := B6.kept bb); (try replace B7 := B7.kept bb); clear bb; skip)
      | ((with_reducible refine at_new 5 26 ?_); refine box_new (d := 5) rfl rfl 26 rfl _ zero_neg ?_; intro w' B5 bb; have n5 := b0.size;  (try have l3_5 := B3.lt); (try have l6_5 := B6.lt); (try have l7_5 := B7.lt);  replace b0 := bchain b0 bb; (try replace B3 := B3.kept bb);  (try replace B6 := B6.kept bb); (try replace B7 := B7.kept bb); clear bb; skip)
      | ((with_reducible refine at_new 6 26 ?_); refine box_new (d := 6) rfl rfl 26 rfl _ zero_neg ?_; intro w' B6 bb; have n6 := b0.size;  (try have l3_6 := B3.lt); (try have l5_6 := B5.lt); (try have l7_6 := B7.lt);  replace b0 := bchain b0 bb; (try replace B3 := B3.kept bb); (try replace B5 := B5.kept bb);  (try replace B7 := B7.kept bb); clear bb; skip)
      | ((with_reducible refine at_new 7 24 ?_); refine box_new (d := 7) rfl rfl 24 rfl _ zero_cfg ?_; intro w' B7 bb; have n7 := b0.size;  (try have l3_7 := B3.lt); (try have l5_7 := B5.lt); (try have l6_7 := B6.lt);  replace b0 := bchain b0 bb; (try replace B3 := B3.kept bb); (try replace B5 := B5.kept bb); (try replace B6 := B6.kept bb);  clear bb; skip)
      | ((with_reducible refine at_load 26 ?_); refine box_load rfl 26 _ rfl _ rfl (by with_reducible assumption) Try.underlying26 rfl (by kernel_rfl) ?_)
      | ((with_reducible refine at_loadg 26 ?_); refine box_loadg (by rfl) 26 _ rfl _ rfl (by with_reducible assumption) Try.underlying26 rfl (by kernel_rfl) ?_)
      | ((with_reducible refine at_store 26 ?_); refine box_store rfl 26 _ _ rfl _ _ rfl rfl (by with_reducible exact B3) (by kernel_rfl) (by rfl) (by simp [Value.oneCell']) ?_; clear B3; intro w' B3 gg;  replace b0 := below_at b0 gg b0.size n3; (try replace B5 := B5.grown gg (Nat.ne_of_gt l3_5)); (try replace B6 := B6.grown gg (Nat.ne_of_gt l3_6)); (try replace B7 := B7.grown gg (Nat.ne_of_gt l3_7)); clear gg; skip)
      | ((with_reducible refine at_store 26 ?_); refine box_store rfl 26 _ _ rfl _ _ rfl rfl (by with_reducible exact B5) (by kernel_rfl) (by rfl) (by simp [Value.oneCell']) ?_; clear B5; intro w' B5 gg;  replace b0 := below_at b0 gg b0.size n5; (try replace B3 := B3.grown gg (Nat.ne_of_lt l3_5)); (try replace B6 := B6.grown gg (Nat.ne_of_gt l5_6)); (try replace B7 := B7.grown gg (Nat.ne_of_gt l5_7)); clear gg; skip)
      | ((with_reducible refine at_store 26 ?_); refine box_store rfl 26 _ _ rfl _ _ rfl rfl (by with_reducible exact B6) (by kernel_rfl) (by rfl) (by simp [Value.oneCell']) ?_; clear B6; intro w' B6 gg;  replace b0 := below_at b0 gg b0.size n6; (try replace B3 := B3.grown gg (Nat.ne_of_lt l3_6)); (try replace B5 := B5.grown gg (Nat.ne_of_lt l5_6)); (try replace B7 := B7.grown gg (Nat.ne_of_gt l6_7)); clear gg; skip)
      | ((with_reducible refine at_store 24 ?_); refine box_part rfl 24 _ _ rfl _ _ _ rfl rfl (by with_reducible exact B5) (by kernel_rfl) (by simp) (by simp [Value.oneCell']) ?_; clear B5; intro w' B5 gg; simp only [putAt, List.setIfInBounds_toArray, List.set, Nat.reduceAdd] at B5;  replace b0 := below_at b0 gg b0.size n5; (try replace B3 := B3.grown gg (Nat.ne_of_lt l3_5)); (try replace B6 := B6.grown gg (Nat.ne_of_gt l5_6)); (try replace B7 := B7.grown gg (Nat.ne_of_gt l5_7)); clear gg; skip)
      | ((with_reducible refine at_store 24 ?_); refine box_part rfl 24 _ _ rfl _ _ _ rfl rfl (by with_reducible exact B6) (by kernel_rfl) (by simp) (by simp [Value.oneCell']) ?_; clear B6; intro w' B6 gg; simp only [putAt, List.setIfInBounds_toArray, List.set, Nat.reduceAdd] at B6;  replace b0 := below_at b0 gg b0.size n6; (try replace B3 := B3.grown gg (Nat.ne_of_lt l3_6)); (try replace B5 := B5.grown gg (Nat.ne_of_lt l5_6)); (try replace B7 := B7.grown gg (Nat.ne_of_gt l6_7)); clear gg; skip)
      | ((with_reducible refine at_store 24 ?_); refine box_store rfl 24 _ _ rfl _ _ rfl rfl (by with_reducible exact B7) (by kernel_rfl) (by rfl) (by simp [Value.oneCell']) ?_; clear B7; intro w' B7 gg;  replace b0 := below_at b0 gg b0.size n7; (try replace B3 := B3.grown gg (Nat.ne_of_lt l3_7)); (try replace B5 := B5.grown gg (Nat.ne_of_lt l5_7)); (try replace B6 := B6.grown gg (Nat.ne_of_lt l6_7)); clear gg; skip))
    refine (spec_neg_v _ _ _ _ _ _ _ _ _ _ _ _ _ _ _ _ _ _ _ _ _ _).mono ?_
    rintro e w' ⟨rfl, bb⟩
    rw [hok]
    replace b0 := bchain b0 bb
    (try replace B3 := B3.kept bb)
    (try replace B5 := B5.kept bb)
    (try replace B6 := B6.kept bb)
    (try replace B7 := B7.kept bb)
    clear bb
    skip
    go_wp2_with (first
      | ((with_reducible refine at_new 3 26 ?_); refine box_new (d := 3) rfl rfl 26 rfl _ zero_neg ?_; intro w' B3 bb; have n3 := b0.size;  (try have l5_3 := B5.lt); (try have l6_3 := B6.lt); (try have l7_3 := B7.lt);  replace b0 := bchain b0 bb;  (try replace B5 := B5.kept bb); (try replace B6 := B6.kept bb); (try replace B7 := B7.kept bb); clear bb; skip)
      | ((with_reducible refine at_new 5 26 ?_); refine box_new (d := 5) rfl rfl 26 rfl _ zero_neg ?_; intro w' B5 bb; have n5 := b0.size;  (try have l3_5 := B3.lt); (try have l6_5 := B6.lt); (try have l7_5 := B7.lt);  replace b0 := bchain b0 bb; (try replace B3 := B3.kept bb);  (try replace B6 := B6.kept bb); (try replace B7 := B7.kept bb); clear bb; skip)
      | ((with_reducible refine at_new 6 26 ?_); refine box_new (d := 6) rfl rfl 26 rfl _ zero_neg ?_; intro w' B6 bb; have n6 := b0.size;  (try have l3_6 := B3.lt); (try have l5_6 := B5.lt); (try have l7_6 := B7.lt);  replace b0 := bchain b0 bb; (try replace B3 := B3.kept bb); (try replace B5 := B5.kept bb);  (try replace B7 := B7.kept bb); clear bb; skip)
      | ((with_reducible refine at_new 7 24 ?_); refine box_new (d := 7) rfl rfl 24 rfl _ zero_cfg ?_; intro w' B7 bb; have n7 := b0.size;  (try have l3_7 := B3.lt); (try have l5_7 := B5.lt); (try have l6_7 := B6.lt);  replace b0 := bchain b0 bb; (try replace B3 := B3.kept bb); (try replace B5 := B5.kept bb); (try replace B6 := B6.kept bb);  clear bb; skip)
      | ((with_reducible refine at_load 26 ?_); refine box_load rfl 26 _ rfl _ rfl (by with_reducible assumption) Try.underlying26 rfl (by kernel_rfl) ?_)
      | ((with_reducible refine at_loadg 26 ?_); refine box_loadg (by rfl) 26 _ rfl _ rfl (by with_reducible assumption) Try.underlying26 rfl (by kernel_rfl) ?_)
      | ((with_reducible refine at_store 26 ?_); refine box_store rfl 26 _ _ rfl _ _ rfl rfl (by with_reducible exact B3) (by kernel_rfl) (by rfl) (by simp [Value.oneCell']) ?_; clear B3; intro w' B3 gg;  replace b0 := below_at b0 gg b0.size n3; (try replace B5 := B5.grown gg (Nat.ne_of_gt l3_5)); (try replace B6 := B6.grown gg (Nat.ne_of_gt l3_6)); (try replace B7 := B7.grown gg (Nat.ne_of_gt l3_7)); clear gg; skip)
      | ((with_reducible refine at_store 26 ?_); refine box_store rfl 26 _ _ rfl _ _ rfl rfl (by with_reducible exact B5) (by kernel_rfl) (by rfl) (by simp [Value.oneCell']) ?_; clear B5; intro w' B5 gg;  replace b0 := below_at b0 gg b0.size n5; (try replace B3 := B3.grown gg (Nat.ne_of_lt l3_5)); (try replace B6 := B6.grown gg (Nat.ne_of_gt l5_6)); (try replace B7 := B7.grown gg (Nat.ne_of_gt l5_7)); clear gg; skip)
      | ((with_reducible refine at_store 26 ?_); refine box_store rfl 26 _ _ rfl _ _ rfl rfl (by with_reducible exact B6) (by kernel_rfl) (by rfl) (by simp [Value.oneCell']) ?_; clear B6; intro w' B6 gg;  replace b0 := below_at b0 gg b0.size n6; (try replace B3 := B3.grown gg (Nat.ne_of_lt l3_6)); (try replace B5 := B5.grown gg (Nat.ne_of_lt l5_6)); (try replace B7 := B7.grown gg (Nat.ne_of_gt l6_7)); clear gg; skip)
      | ((with_reducible refine at_store 24 ?_); refine box_part rfl 24 _ _ rfl _ _ _ rfl rfl (by with_reducible exact B5) (by kernel_rfl) (by simp) (by simp [Value.oneCell']) ?_; clear B5; intro w' B5 gg; simp only [putAt, List.setIfInBounds_toArray, List.set, Nat.reduceAdd] at B5;  replace b0 := below_at b0 gg b0.size n5; (try replace B3 := B3.grown gg (Nat.ne_of_lt l3_5)); (try replace B6 := B6.grown gg (Nat.ne_of_gt l5_6)); (try replace B7 := B7.grown gg (Nat.ne_of_gt l5_7)); clear gg; skip)
      | ((with_reducible refine at_store 24 ?_); refine box_part rfl 24 _ _ rfl _ _ _ rfl rfl (by with_reducible exact B6) (by kernel_rfl) (by simp) (by simp [Value.oneCell']) ?_; clear B6; intro w' B6 gg; simp only [putAt, List.setIfInBounds_toArray, List.set, Nat.reduceAdd] at B6;  replace b0 := below_at b0 gg b0.size n6; (try replace B3 := B3.grown gg (Nat.ne_of_lt l3_6)); (try replace B5 := B5.grown gg (Nat.ne_of_lt l5_6)); (try replace B7 := B7.grown gg (Nat.ne_of_gt l6_7)); clear gg; skip)
      | ((with_reducible refine at_store 24 ?_); refine box_store rfl 24 _ _ rfl _ _ rfl rfl (by with_reducible exact B7) (by kernel_rfl) (by rfl) (by simp [Value.oneCell']) ?_; clear B7; intro w' B7 gg;  replace b0 := below_at b0 gg b0.size n7; (try replace B3 := B3.grown gg (Nat.ne_of_lt l3_7)); (try replace B5 := B5.grown gg (Nat.ne_of_lt l5_7)); (try replace B6 := B6.grown gg (Nat.ne_of_lt l6_7)); clear gg; skip))
    refine (done_none o1 o2 o3 o4 o5 a1 a2 a3 a4 a5 f hy _).mono ?_
    rintro e w' ⟨rfl, bb⟩
    replace b0 := bchain b0 bb
    (try replace B3 := B3.kept bb)
    (try replace B5 := B5.kept bb)
    (try replace B6 := B6.kept bb)
    (try replace B7 := B7.kept bb)
    clear bb
    skip
    go_wp2_with (first
      | ((with_reducible refine at_new 3 26 ?_); refine box_new (d := 3) rfl rfl 26 rfl _ zero_neg ?_; intro w' B3 bb; have n3 := b0.size;  (try have l5_3 := B5.lt); (try have l6_3 := B6.lt); (try have l7_3 := B7.lt);  replace b0 := bchain b0 bb;  (try replace B5 := B5.kept bb); (try replace B6 := B6.kept bb); (try replace B7 := B7.kept bb); clear bb; skip)
      | ((with_reducible refine at_new 5 26 ?_); refine box_new (d := 5) rfl rfl 26 rfl _ zero_neg ?_; intro w' B5 bb; have n5 := b0.size;  (try have l3_5 := B3.lt); (try have l6_5 := B6.lt); (try have l7_5 := B7.lt);  replace b0 := bchain b0 bb; (try replace B3 := B3.kept bb);  (try replace B6 := B6.kept bb); (try replace B7 := B7.kept bb); clear bb; skip)
      | ((with_reducible refine at_new 6 26 ?_); refine box_new (d := 6) rfl rfl 26 rfl _ zero_neg ?_; intro w' B6 bb; have n6 := b0.size;  (try have l3_6 := B3.lt); (try have l5_6 := B5.lt); (try have l7_6 := B7.lt);  replace b0 := bchain b0 bb; (try replace B3 := B3.kept bb); (try replace B5 := B5.kept bb);  (try replace B7 := B7.kept bb); clear bb; skip)
      | ((with_reducible refine at_new 7 24 ?_); refine box_new (d := 7) rfl rfl 24 rfl _ zero_cfg ?_; intro w' B7 bb; have n7 := b0.size;  (try have l3_7 := B3.lt); (try have l5_7 := B5.lt); (try have l6_7 := B6.lt);  replace b0 := bchain b0 bb; (try replace B3 := B3.kept bb); (try replace B5 := B5.kept bb); (try replace B6 := B6.kept bb);  clear bb; skip)
      | ((with_reducible refine at_load 26 ?_); refine box_load rfl 26 _ rfl _ rfl (by with_reducible assumption) Try.underlying26 rfl (by kernel_rfl) ?_)
      | ((with_reducible refine at_loadg 26 ?_); refine box_loadg (by rfl) 26 _ rfl _ rfl (by with_reducible assumption) Try.underlying26 rfl (by kernel_rfl) ?_)
      | ((with_reducible refine at_store 26 ?_); refine box_store rfl 26 _ _ rfl _ _ rfl rfl (by with_reducible exact B3) (by kernel_rfl) (by rfl) (by simp [Value.oneCell']) ?_; clear B3; intro w' B3 gg;  replace b0 := below_at b0 gg b0.size n3; (try replace B5 := B5.grown gg (Nat.ne_of_gt l3_5)); (try replace B6 := B6.grown gg (Nat.ne_of_gt l3_6)); (try replace B7 := B7.grown gg (Nat.ne_of_gt l3_7)); clear gg; skip)
      | ((with_reducible refine at_store 26 ?_); refine box_store rfl 26 _ _ rfl _ _ rfl rfl (by with_reducible exact B5) (by kernel_rfl) (by rfl) (by simp [Value.oneCell']) ?_; clear B5; intro w' B5 gg;  replace b0 := below_at b0 gg b0.size n5; (try replace B3 := B3.grown gg (Nat.ne_of_lt l3_5)); (try replace B6 := B6.grown gg (Nat.ne_of_gt l5_6)); (try replace B7 := B7.grown gg (Nat.ne_of_gt l5_7)); clear gg; skip)
      | ((with_reducible refine at_store 26 ?_); refine box_store rfl 26 _ _ rfl _ _ rfl rfl (by with_reducible exact B6) (by kernel_rfl) (by rfl) (by simp [Value.oneCell']) ?_; clear B6; intro w' B6 gg;  replace b0 := below_at b0 gg b0.size n6; (try replace B3 := B3.grown gg (Nat.ne_of_lt l3_6)); (try replace B5 := B5.grown gg (Nat.ne_of_lt l5_6)); (try replace B7 := B7.grown gg (Nat.ne_of_gt l6_7)); clear gg; skip)
      | ((with_reducible refine at_store 24 ?_); refine box_part rfl 24 _ _ rfl _ _ _ rfl rfl (by with_reducible exact B5) (by kernel_rfl) (by simp) (by simp [Value.oneCell']) ?_; clear B5; intro w' B5 gg; simp only [putAt, List.setIfInBounds_toArray, List.set, Nat.reduceAdd] at B5;  replace b0 := below_at b0 gg b0.size n5; (try replace B3 := B3.grown gg (Nat.ne_of_lt l3_5)); (try replace B6 := B6.grown gg (Nat.ne_of_gt l5_6)); (try replace B7 := B7.grown gg (Nat.ne_of_gt l5_7)); clear gg; skip)
      | ((with_reducible refine at_store 24 ?_); refine box_part rfl 24 _ _ rfl _ _ _ rfl rfl (by with_reducible exact B6) (by kernel_rfl) (by simp) (by simp [Value.oneCell']) ?_; clear B6; intro w' B6 gg; simp only [putAt, List.setIfInBounds_toArray, List.set, Nat.reduceAdd] at B6;  replace b0 := below_at b0 gg b0.size n6; (try replace B3 := B3.grown gg (Nat.ne_of_lt l3_6)); (try replace B5 := B5.grown gg (Nat.ne_of_lt l5_6)); (try replace B7 := B7.grown gg (Nat.ne_of_gt l6_7)); clear gg; skip)
      | ((with_reducible refine at_store 24 ?_); refine box_store rfl 24 _ _ rfl _ _ rfl rfl (by with_reducible exact B7) (by kernel_rfl) (by rfl) (by simp [Value.oneCell']) ?_; clear B7; intro w' B7 gg;  replace b0 := below_at b0 gg b0.size n7; (try replace B3 := B3.grown gg (Nat.ne_of_lt l3_7)); (try replace B5 := B5.grown gg (Nat.ne_of_lt l5_7)); (try replace B6 := B6.grown gg (Nat.ne_of_lt l6_7)); clear gg; skip))
    refine (impl_neg_v _ _ _ _ _ _ _ _ _ _ _ _ _ _ _ _ _ _ _ _ _ _).mono ?_
    rintro e w' ⟨rfl, bb⟩
    rw [hx]
    replace b0 := bchain b0 bb
    (try replace B3 := B3.kept bb)
    (try replace B5 := B5.kept bb)
    (try replace B6 := B6.kept bb)
    (try replace B7 := B7.kept bb)
    clear bb
    skip
    go_wp2_with (first
      | ((with_reducible refine at_new 3 26 ?_); refine box_new (d := 3) rfl rfl 26 rfl _ zero_neg ?_; intro w' B3 bb; have n3 := b0.size;  (try have l5_3 := B5.lt); (try have l6_3 := B6.lt); (try have l7_3 := B7.lt);  replace b0 := bchain b0 bb;  (try replace B5 := B5.kept bb); (try replace B6 := B6.kept bb); (try replace B7 := B7.kept bb); clear bb; skip)
      | ((with_reducible refine at_new 5 26 ?_); refine box_new (d := 5) rfl rfl 26 rfl _ zero_neg ?_; intro w' B5 bb; have n5 := b0.size;  (try have l3_5 := B3.lt); (try have l6_5 := B6.lt); (try have l7_5 := B7.lt);  replace b0 := bchain b0 bb; (try replace B3 := B3.kept bb);  (try replace B6 := B6.kept bb); (try replace B7 := B7.kept bb); clear bb; skip)
      | ((with_reducible refine at_new 6 26 ?_); refine box_new (d := 6) rfl rfl 26 rfl _ zero_neg ?_; intro w' B6 bb; have n6 := b0.size;  (try have l3_6 := B3.lt); (try have l5_6 := B5.lt); (try have l7_6 := B7.lt);  replace b0 := bchain b0 bb; (try replace B3 := B3.kept bb); (try replace B5 := B5.kept bb);  (try replace B7 := B7.kept bb); clear bb; skip)
      | ((with_reducible refine at_new 7 24 ?_); refine box_new (d := 7) rfl rfl 24 rfl _ zero_cfg ?_; intro w' B7 bb; have n7 := b0.size;  (try have l3_7 := B3.lt); (try have l5_7 := B5.lt); (try have l6_7 := B6.lt);  replace b0 := bchain b0 bb; (try replace B3 := B3.kept bb); (try replace B5 := B5.kept bb); (try replace B6 := B6.kept bb);  clear bb; skip)
      | ((with_reducible refine at_load 26 ?_); refine box_load rfl 26 _ rfl _ rfl (by with_reducible assumption) Try.underlying26 rfl (by kernel_rfl) ?_)
      | ((with_reducible refine at_loadg 26 ?_); refine box_loadg (by rfl) 26 _ rfl _ rfl (by with_reducible assumption) Try.underlying26 rfl (by kernel_rfl) ?_)
      | ((with_reducible refine at_store 26 ?_); refine box_store rfl 26 _ _ rfl _ _ rfl rfl (by with_reducible exact B3) (by kernel_rfl) (by rfl) (by simp [Value.oneCell']) ?_; clear B3; intro w' B3 gg;  replace b0 := below_at b0 gg b0.size n3; (try replace B5 := B5.grown gg (Nat.ne_of_gt l3_5)); (try replace B6 := B6.grown gg (Nat.ne_of_gt l3_6)); (try replace B7 := B7.grown gg (Nat.ne_of_gt l3_7)); clear gg; skip)
      | ((with_reducible refine at_store 26 ?_); refine box_store rfl 26 _ _ rfl _ _ rfl rfl (by with_reducible exact B5) (by kernel_rfl) (by rfl) (by simp [Value.oneCell']) ?_; clear B5; intro w' B5 gg;  replace b0 := below_at b0 gg b0.size n5; (try replace B3 := B3.grown gg (Nat.ne_of_lt l3_5)); (try replace B6 := B6.grown gg (Nat.ne_of_gt l5_6)); (try replace B7 := B7.grown gg (Nat.ne_of_gt l5_7)); clear gg; skip)
      | ((with_reducible refine at_store 26 ?_); refine box_store rfl 26 _ _ rfl _ _ rfl rfl (by with_reducible exact B6) (by kernel_rfl) (by rfl) (by simp [Value.oneCell']) ?_; clear B6; intro w' B6 gg;  replace b0 := below_at b0 gg b0.size n6; (try replace B3 := B3.grown gg (Nat.ne_of_lt l3_6)); (try replace B5 := B5.grown gg (Nat.ne_of_lt l5_6)); (try replace B7 := B7.grown gg (Nat.ne_of_gt l6_7)); clear gg; skip)
      | ((with_reducible refine at_store 24 ?_); refine box_part rfl 24 _ _ rfl _ _ _ rfl rfl (by with_reducible exact B5) (by kernel_rfl) (by simp) (by simp [Value.oneCell']) ?_; clear B5; intro w' B5 gg; simp only [putAt, List.setIfInBounds_toArray, List.set, Nat.reduceAdd] at B5;  replace b0 := below_at b0 gg b0.size n5; (try replace B3 := B3.grown gg (Nat.ne_of_lt l3_5)); (try replace B6 := B6.grown gg (Nat.ne_of_gt l5_6)); (try replace B7 := B7.grown gg (Nat.ne_of_gt l5_7)); clear gg; skip)
      | ((with_reducible refine at_store 24 ?_); refine box_part rfl 24 _ _ rfl _ _ _ rfl rfl (by with_reducible exact B6) (by kernel_rfl) (by simp) (by simp [Value.oneCell']) ?_; clear B6; intro w' B6 gg; simp only [putAt, List.setIfInBounds_toArray, List.set, Nat.reduceAdd] at B6;  replace b0 := below_at b0 gg b0.size n6; (try replace B3 := B3.grown gg (Nat.ne_of_lt l3_6)); (try replace B5 := B5.grown gg (Nat.ne_of_lt l5_6)); (try replace B7 := B7.grown gg (Nat.ne_of_gt l6_7)); clear gg; skip)
      | ((with_reducible refine at_store 24 ?_); refine box_store rfl 24 _ _ rfl _ _ rfl rfl (by with_reducible exact B7) (by kernel_rfl) (by rfl) (by simp [Value.oneCell']) ?_; clear B7; intro w' B7 gg;  replace b0 := below_at b0 gg b0.size n7; (try replace B3 := B3.grown gg (Nat.ne_of_lt l3_7)); (try replace B5 := B5.grown gg (Nat.ne_of_lt l5_7)); (try replace B6 := B6.grown gg (Nat.ne_of_lt l6_7)); clear gg; skip))
    refine (impl_neg_v _ _ _ _ _ _ _ _ _ _ _ _ _ _ _ _ _ _ _ _ _ _).mono ?_
    rintro e w' ⟨rfl, bb⟩
    rw [hy]
    replace b0 := bchain b0 bb
    (try replace B3 := B3.kept bb)
    (try replace B5 := B5.kept bb)
    (try replace B6 := B6.kept bb)
    (try replace B7 := B7.kept bb)
    clear bb
    skip
    go_wp2_with (first
      | ((with_reducible refine at_new 3 26 ?_); refine box_new (d := 3) rfl rfl 26 rfl _ zero_neg ?_; intro w' B3 bb; have n3 := b0.size;  (try have l5_3 := B5.lt); (try have l6_3 := B6.lt); (try have l7_3 := B7.lt);  replace b0 := bchain b0 bb;  (try replace B5 := B5.kept bb); (try replace B6 := B6.kept bb); (try replace B7 := B7.kept bb); clear bb; skip)
      | ((with_reducible refine at_new 5 26 ?_); refine box_new (d := 5) rfl rfl 26 rfl _ zero_neg ?_; intro w' B5 bb; have n5 := b0.size;  (try have l3_5 := B3.lt); (try have l6_5 := B6.lt); (try have l7_5 := B7.lt);  replace b0 := bchain b0 bb; (try replace B3 := B3.kept bb);  (try replace B6 := B6.kept bb); (try replace B7 := B7.kept bb); clear bb; skip)
      | ((with_reducible refine at_new 6 26 ?_); refine box_new (d := 6) rfl rfl 26 rfl _ zero_neg ?_; intro w' B6 bb; have n6 := b0.size;  (try have l3_6 := B3.lt); (try have l5_6 := B5.lt); (try have l7_6 := B7.lt);  replace b0 := bchain b0 bb; (try replace B3 := B3.kept bb); (try replace B5 := B5.kept bb);  (try replace B7 := B7.kept bb); clear bb; skip)
      | ((with_reducible refine at_new 7 24 ?_); refine box_new (d := 7) rfl rfl 24 rfl _ zero_cfg ?_; intro w' B7 bb; have n7 := b0.size;  (try have l3_7 := B3.lt); (try have l5_7 := B5.lt); (try have l6_7 := B6.lt);  replace b0 := bchain b0 bb; (try replace B3 := B3.kept bb); (try replace B5 := B5.kept bb); (try replace B6 := B6.kept bb);  clear bb; skip)
      | ((with_reducible refine at_load 26 ?_); refine box_load rfl 26 _ rfl _ rfl (by with_reducible assumption) Try.underlying26 rfl (by kernel_rfl) ?_)
      | ((with_reducible refine at_loadg 26 ?_); refine box_loadg (by rfl) 26 _ rfl _ rfl (by with_reducible assumption) Try.underlying26 rfl (by kernel_rfl) ?_)
      | ((with_reducible refine at_store 26 ?_); refine box_store rfl 26 _ _ rfl _ _ rfl rfl (by with_reducible exact B3) (by kernel_rfl) (by rfl) (by simp [Value.oneCell']) ?_; clear B3; intro w' B3 gg;  replace b0 := below_at b0 gg b0.size n3; (try replace B5 := B5.grown gg (Nat.ne_of_gt l3_5)); (try replace B6 := B6.grown gg (Nat.ne_of_gt l3_6)); (try replace B7 := B7.grown gg (Nat.ne_of_gt l3_7)); clear gg; skip)
      | ((with_reducible refine at_store 26 ?_); refine box_store rfl 26 _ _ rfl _ _ rfl rfl (by with_reducible exact B5) (by kernel_rfl) (by rfl) (by simp [Value.oneCell']) ?_; clear B5; intro w' B5 gg;  replace b0 := below_at b0 gg b0.size n5; (try replace B3 := B3.grown gg (Nat.ne_of_lt l3_5)); (try replace B6 := B6.grown gg (Nat.ne_of_gt l5_6)); (try replace B7 := B7.grown gg (Nat.ne_of_gt l5_7)); clear gg; skip)
      | ((with_reducible refine at_store 26 ?_); refine box_store rfl 26 _ _ rfl _ _ rfl rfl (by with_reducible exact B6) (by kernel_rfl) (by rfl) (by simp [Value.oneCell']) ?_; clear B6; intro w' B6 gg;  replace b0 := below_at b0 gg b0.size n6; (try replace B3 := B3.grown gg (Nat.ne_of_lt l3_6)); (try replace B5 := B5.grown gg (Nat.ne_of_lt l5_6)); (try replace B7 := B7.grown gg (Nat.ne_of_gt l6_7)); clear gg; skip)
      | ((with_reducible refine at_store 24 ?_); refine box_part rfl 24 _ _ rfl _ _ _ rfl rfl (by with_reducible exact B5) (by kernel_rfl) (by simp) (by simp [Value.oneCell']) ?_; clear B5; intro w' B5 gg; simp only [putAt, List.setIfInBounds_toArray, List.set, Nat.reduceAdd] at B5;  replace b0 := below_at b0 gg b0.size n5; (try replace B3 := B3.grown gg (Nat.ne_of_lt l3_5)); (try replace B6 := B6.grown gg (Nat.ne_of_gt l5_6)); (try replace B7 := B7.grown gg (Nat.ne_of_gt l5_7)); clear gg; skip)
      | ((with_reducible refine at_store 24 ?_); refine box_part rfl 24 _ _ rfl _ _ _ rfl rfl (by with_reducible exact B6) (by kernel_rfl) (by simp) (by simp [Value.oneCell']) ?_; clear B6; intro w' B6 gg; simp only [putAt, List.setIfInBounds_toArray, List.set, Nat.reduceAdd] at B6;  replace b0 := below_at b0 gg b0.size n6; (try replace B3 := B3.grown gg (Nat.ne_of_lt l3_6)); (try replace B5 := B5.grown gg (Nat.ne_of_lt l5_6)); (try replace B7 := B7.grown gg (Nat.ne_of_gt l6_7)); clear gg; skip)
      | ((with_reducible refine at_store 24 ?_); refine box_store rfl 24 _ _ rfl _ _ rfl rfl (by with_reducible exact B7) (by kernel_rfl) (by rfl) (by simp [Value.oneCell']) ?_; clear B7; intro w' B7 gg;  replace b0 := below_at b0 gg b0.size n7; (try replace B3 := B3.grown gg (Nat.ne_of_lt l3_7)); (try replace B5 := B5.grown gg (Nat.ne_of_lt l5_7)); (try replace B6 := B6.grown gg (Nat.ne_of_lt l6_7)); clear gg; skip))
    go_ret
    exact ⟨rfl, b0⟩
theorem walk (a0 : Option Addr) (len0 cap0 : Nat) (z0 : List Int) (w : World) (w0 : IsRow .u8 w a0 len0 cap0 z0) :
    Calls Try.prog 9 #[.slice a0 len0 cap0] w fun e w' => e = .returned (.bool true) ∧ Below w.heap.size w w' := by
  by_cases hs0 : (1048576 : Int) < (len0 : Int)
  · go_enter Try.func9, Try.ntmps9
    go_wp2
    go_ret
    exact ⟨rfl, Below.refl _ _⟩
  obtain ⟨cz, hR0, _⟩ := w0.rd (by omega)
  exact small a0 len0 cap0 cz w hs0 hR0
end Go.Proofs.Ytmciofamcdekaaa.fnNegOk
