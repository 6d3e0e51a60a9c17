/- One that agrees with another one, and what that says, drawn. -/
import Derived.Test.YtaoafikkamnjlaaDrawNeg
namespace Go.Proofs.Ytaoafikkamnjlaa
open Go.RowKit
set_option maxHeartbeats 2000000 in
theorem drawHear_any (v : Value) (zs : List Nat) (w : World) (h : Rd w v zs) :
    Calls Try.prog 14 #[v] w fun e w' => ∃ (s : Neg) (m : Msg), e = .returned (.tuple #[.agg s.cs, .agg m.cs]) ∧ (s.ok = true → s.asks.mode = s.own.mode) ∧ Below w.heap.size w w' := by
  have b0 : Below w.heap.size w w := Below.refl _ _
  go_enter Try.func14, Try.ntmps14
  go_wp2_with (first
    | ((with_reducible refine at_new 2 26 ?_); refine box_new (d := 2) rfl rfl 26 rfl _ zero_neg ?_; intro w' B2 bb; have n2 := b0.size; (try have lr_2 := r.lt); (try have l3_2 := B3.lt); (try have l5_2 := B5.lt); (try have l6_2 := B6.lt); (try clear k5); replace b0 := bchain b0 bb; (try replace r := r.kept bb);  (try replace B3 := B3.kept bb); (try replace B5 := B5.kept bb); (try replace B6 := B6.kept bb); clear bb; (try have k5 := B5.k))
    | ((with_reducible refine at_new 3 28 ?_); refine box_new (d := 3) rfl rfl 28 rfl _ zero_msg ?_; intro w' B3 bb; have n3 := b0.size; (try have lr_3 := r.lt); (try have l2_3 := B2.lt); (try have l5_3 := B5.lt); (try have l6_3 := B6.lt); (try clear k5); replace b0 := bchain b0 bb; (try replace r := r.kept bb); (try replace B2 := B2.kept bb);  (try replace B5 := B5.kept bb); (try replace B6 := B6.kept bb); clear bb; (try have k5 := B5.k))
    | ((with_reducible refine at_new 5 26 ?_); refine box_new (d := 5) rfl rfl 26 rfl _ zero_neg ?_; intro w' B5 bb; have n5 := b0.size; (try have lr_5 := r.lt); (try have l2_5 := B2.lt); (try have l3_5 := B3.lt); (try have l6_5 := B6.lt); (try clear k5); replace b0 := bchain b0 bb; (try replace r := r.kept bb); (try replace B2 := B2.kept bb); (try replace B3 := B3.kept bb);  (try replace B6 := B6.kept bb); clear bb; (try have k5 := B5.k))
    | ((with_reducible refine at_new 6 28 ?_); refine box_new (d := 6) rfl rfl 28 rfl _ zero_msg ?_; intro w' B6 bb; have n6 := b0.size; (try have lr_6 := r.lt); (try have l2_6 := B2.lt); (try have l3_6 := B3.lt); (try have l5_6 := B5.lt); (try clear k5); replace b0 := bchain b0 bb; (try replace r := r.kept bb); (try replace B2 := B2.kept bb); (try replace B3 := B3.kept bb); (try replace B5 := B5.kept bb);  clear bb; (try have k5 := B5.k))
    | ((with_reducible refine at_store 26 ?_); refine box_store rfl 26 _ _ rfl _ _ rfl rfl (by with_reducible exact B5) (by kernel_rfl) (by rfl) (by simp [Value.oneCell']) ?_; clear B5; intro w' B5 gg; (try clear k5); replace b0 := below_at b0 gg b0.size n5; (try replace r := r.at gg (Nat.le_trans r.1 (Nat.le_of_lt lr_5)) (Nat.ne_of_gt lr_5)); (try replace B2 := B2.grown gg (Nat.ne_of_lt l2_5)); (try replace B3 := B3.grown gg (Nat.ne_of_lt l3_5)); (try replace B6 := B6.grown gg (Nat.ne_of_gt l5_6)); clear gg; (try have k5 := B5.k))
    | ((with_reducible refine at_store 28 ?_); refine box_store rfl 28 _ _ rfl _ _ rfl rfl (by with_reducible exact B6) (by kernel_rfl) (by rfl) (by simp [Value.oneCell']) ?_; clear B6; intro w' B6 gg; (try clear k5); replace b0 := below_at b0 gg b0.size n6; (try replace r := r.at gg (Nat.le_trans r.1 (Nat.le_of_lt lr_6)) (Nat.ne_of_gt lr_6)); (try replace B2 := B2.grown gg (Nat.ne_of_lt l2_6)); (try replace B3 := B3.grown gg (Nat.ne_of_lt l3_6)); (try replace B5 := B5.grown gg (Nat.ne_of_lt l5_6)); clear gg; (try have k5 := B5.k))
    | ((with_reducible refine at_store 3 ?_); refine box_int rfl _ _ rfl _ _ _ rfl rfl (by with_reducible exact B6) (by simp) ?_; clear B6; intro w' B6 gg; simp only [List.setIfInBounds_toArray, List.set] at B6; (try clear k5); replace b0 := below_at b0 gg b0.size n6; (try replace r := r.at gg (Nat.le_trans r.1 (Nat.le_of_lt lr_6)) (Nat.ne_of_gt lr_6)); (try replace B2 := B2.grown gg (Nat.ne_of_lt l2_6)); (try replace B3 := B3.grown gg (Nat.ne_of_lt l3_6)); (try replace B5 := B5.grown gg (Nat.ne_of_lt l5_6)); clear gg; (try have k5 := B5.k)))
  refine (open_any v zs _ (h.kept b0)).mono ?_
  have nr := b0.size
  have l2_r := B2.lt
  have l3_r := B3.lt
  rintro e w' ⟨rfl, ⟨cs, r⟩, bb⟩
  (try clear k5)
  replace b0 := bchain b0 bb
  (try replace B2 := B2.kept bb)
  (try replace B3 := B3.kept bb)
  (try replace B5 := B5.kept bb)
  (try replace B6 := B6.kept bb)
  clear bb
  (try have k5 := B5.k)
  go_wp2_with (first
    | ((with_reducible refine at_new 2 26 ?_); refine box_new (d := 2) rfl rfl 26 rfl _ zero_neg ?_; intro w' B2 bb; have n2 := b0.size; (try have lr_2 := r.lt); (try have l3_2 := B3.lt); (try have l5_2 := B5.lt); (try have l6_2 := B6.lt); (try clear k5); replace b0 := bchain b0 bb; (try replace r := r.kept bb);  (try replace B3 := B3.kept bb); (try replace B5 := B5.kept bb); (try replace B6 := B6.kept bb); clear bb; (try have k5 := B5.k))
    | ((with_reducible refine at_new 3 28 ?_); refine box_new (d := 3) rfl rfl 28 rfl _ zero_msg ?_; intro w' B3 bb; have n3 := b0.size; (try have lr_3 := r.lt); (try have l2_3 := B2.lt); (try have l5_3 := B5.lt); (try have l6_3 := B6.lt); (try clear k5); replace b0 := bchain b0 bb; (try replace r := r.kept bb); (try replace B2 := B2.kept bb);  (try replace B5 := B5.kept bb); (try replace B6 := B6.kept bb); clear bb; (try have k5 := B5.k))
    | ((with_reducible refine at_new 5 26 ?_); refine box_new (d := 5) rfl rfl 26 rfl _ zero_neg ?_; intro w' B5 bb; have n5 := b0.size; (try have lr_5 := r.lt); (try have l2_5 := B2.lt); (try have l3_5 := B3.lt); (try have l6_5 := B6.lt); (try clear k5); replace b0 := bchain b0 bb; (try replace r := r.kept bb); (try replace B2 := B2.kept bb); (try replace B3 := B3.kept bb);  (try replace B6 := B6.kept bb); clear bb; (try have k5 := B5.k))
    | ((with_reducible refine at_new 6 28 ?_); refine box_new (d := 6) rfl rfl 28 rfl _ zero_msg ?_; intro w' B6 bb; have n6 := b0.size; (try have lr_6 := r.lt); (try have l2_6 := B2.lt); (try have l3_6 := B3.lt); (try have l5_6 := B5.lt); (try clear k5); replace b0 := bchain b0 bb; (try replace r := r.kept bb); (try replace B2 := B2.kept bb); (try replace B3 := B3.kept bb); (try replace B5 := B5.kept bb);  clear bb; (try have k5 := B5.k))
    | ((with_reducible refine at_store 26 ?_); refine box_store rfl 26 _ _ rfl _ _ rfl rfl (by with_reducible exact B5) (by kernel_rfl) (by rfl) (by simp [Value.oneCell']) ?_; clear B5; intro w' B5 gg; (try clear k5); replace b0 := below_at b0 gg b0.size n5; (try replace r := r.at gg (Nat.le_trans r.1 (Nat.le_of_lt lr_5)) (Nat.ne_of_gt lr_5)); (try replace B2 := B2.grown gg (Nat.ne_of_lt l2_5)); (try replace B3 := B3.grown gg (Nat.ne_of_lt l3_5)); (try replace B6 := B6.grown gg (Nat.ne_of_gt l5_6)); clear gg; (try have k5 := B5.k))
    | ((with_reducible refine at_store 28 ?_); refine box_store rfl 28 _ _ rfl _ _ rfl rfl (by with_reducible exact B6) (by kernel_rfl) (by rfl) (by simp [Value.oneCell']) ?_; clear B6; intro w' B6 gg; (try clear k5); replace b0 := below_at b0 gg b0.size n6; (try replace r := r.at gg (Nat.le_trans r.1 (Nat.le_of_lt lr_6)) (Nat.ne_of_gt lr_6)); (try replace B2 := B2.grown gg (Nat.ne_of_lt l2_6)); (try replace B3 := B3.grown gg (Nat.ne_of_lt l3_6)); (try replace B5 := B5.grown gg (Nat.ne_of_lt l5_6)); clear gg; (try have k5 := B5.k))
    | ((with_reducible refine at_store 3 ?_); refine box_int rfl _ _ rfl _ _ _ rfl rfl (by with_reducible exact B6) (by simp) ?_; clear B6; intro w' B6 gg; simp only [List.setIfInBounds_toArray, List.set] at B6; (try clear k5); replace b0 := below_at b0 gg b0.size n6; (try replace r := r.at gg (Nat.le_trans r.1 (Nat.le_of_lt lr_6)) (Nat.ne_of_gt lr_6)); (try replace B2 := B2.grown gg (Nat.ne_of_lt l2_6)); (try replace B3 := B3.grown gg (Nat.ne_of_lt l3_6)); (try replace B5 := B5.grown gg (Nat.ne_of_lt l5_6)); clear gg; (try have k5 := B5.k)))
  refine (neg_any _ _ _ cs 12 _ r (by omega) (by omega)).mono ?_
  clear r
  rintro e w' ⟨s, p1, rfl, hJ, hp1, r, gg⟩
  (try clear k5)
  replace b0 := below_at b0 gg b0.size (by omega)
  (try replace B2 := B2.grown gg (by omega))
  (try replace B3 := B3.grown gg (by omega))
  (try replace B5 := B5.grown gg (by omega))
  (try replace B6 := B6.grown gg (by omega))
  clear gg
  (try have k5 := B5.k)
  obtain ⟨⟨o1, o2, o3, o4, o5⟩, ⟨a1, a2, a3, a4, a5⟩, ⟨m1, m2, m3, m4, m5⟩, ⟨y1, y2, y3, y4, y5⟩, f⟩ := s
  simp only [Neg.cs]
  go_wp2_with (first
    | ((with_reducible refine at_new 2 26 ?_); refine box_new (d := 2) rfl rfl 26 rfl _ zero_neg ?_; intro w' B2 bb; have n2 := b0.size; (try have lr_2 := r.lt); (try have l3_2 := B3.lt); (try have l5_2 := B5.lt); (try have l6_2 := B6.lt); (try clear k5); replace b0 := bchain b0 bb; (try replace r := r.kept bb);  (try replace B3 := B3.kept bb); (try replace B5 := B5.kept bb); (try replace B6 := B6.kept bb); clear bb; (try have k5 := B5.k))
    | ((with_reducible refine at_new 3 28 ?_); refine box_new (d := 3) rfl rfl 28 rfl _ zero_msg ?_; intro w' B3 bb; have n3 := b0.size; (try have lr_3 := r.lt); (try have l2_3 := B2.lt); (try have l5_3 := B5.lt); (try have l6_3 := B6.lt); (try clear k5); replace b0 := bchain b0 bb; (try replace r := r.kept bb); (try replace B2 := B2.kept bb);  (try replace B5 := B5.kept bb); (try replace B6 := B6.kept bb); clear bb; (try have k5 := B5.k))
    | ((with_reducible refine at_new 5 26 ?_); refine box_new (d := 5) rfl rfl 26 rfl _ zero_neg ?_; intro w' B5 bb; have n5 := b0.size; (try have lr_5 := r.lt); (try have l2_5 := B2.lt); (try have l3_5 := B3.lt); (try have l6_5 := B6.lt); (try clear k5); replace b0 := bchain b0 bb; (try replace r := r.kept bb); (try replace B2 := B2.kept bb); (try replace B3 := B3.kept bb);  (try replace B6 := B6.kept bb); clear bb; (try have k5 := B5.k))
    | ((with_reducible refine at_new 6 28 ?_); refine box_new (d := 6) rfl rfl 28 rfl _ zero_msg ?_; intro w' B6 bb; have n6 := b0.size; (try have lr_6 := r.lt); (try have l2_6 := B2.lt); (try have l3_6 := B3.lt); (try have l5_6 := B5.lt); (try clear k5); replace b0 := bchain b0 bb; (try replace r := r.kept bb); (try replace B2 := B2.kept bb); (try replace B3 := B3.kept bb); (try replace B5 := B5.kept bb);  clear bb; (try have k5 := B5.k))
    | ((with_reducible refine at_store 26 ?_); refine box_store rfl 26 _ _ rfl _ _ rfl rfl (by with_reducible exact B5) (by kernel_rfl) (by rfl) (by simp [Value.oneCell']) ?_; clear B5; intro w' B5 gg; (try clear k5); replace b0 := below_at b0 gg b0.size n5; (try replace r := r.at gg (Nat.le_trans r.1 (Nat.le_of_lt lr_5)) (Nat.ne_of_gt lr_5)); (try replace B2 := B2.grown gg (Nat.ne_of_lt l2_5)); (try replace B3 := B3.grown gg (Nat.ne_of_lt l3_5)); (try replace B6 := B6.grown gg (Nat.ne_of_gt l5_6)); clear gg; (try have k5 := B5.k))
    | ((with_reducible refine at_store 28 ?_); refine box_store rfl 28 _ _ rfl _ _ rfl rfl (by with_reducible exact B6) (by kernel_rfl) (by rfl) (by simp [Value.oneCell']) ?_; clear B6; intro w' B6 gg; (try clear k5); replace b0 := below_at b0 gg b0.size n6; (try replace r := r.at gg (Nat.le_trans r.1 (Nat.le_of_lt lr_6)) (Nat.ne_of_gt lr_6)); (try replace B2 := B2.grown gg (Nat.ne_of_lt l2_6)); (try replace B3 := B3.grown gg (Nat.ne_of_lt l3_6)); (try replace B5 := B5.grown gg (Nat.ne_of_lt l5_6)); clear gg; (try have k5 := B5.k))
    | ((with_reducible refine at_store 3 ?_); refine box_int rfl _ _ rfl _ _ _ rfl rfl (by with_reducible exact B6) (by simp) ?_; clear B6; intro w' B6 gg; simp only [List.setIfInBounds_toArray, List.set] at B6; (try clear k5); replace b0 := below_at b0 gg b0.size n6; (try replace r := r.at gg (Nat.le_trans r.1 (Nat.le_of_lt lr_6)) (Nat.ne_of_gt lr_6)); (try replace B2 := B2.grown gg (Nat.ne_of_lt l2_6)); (try replace B3 := B3.grown gg (Nat.ne_of_lt l3_6)); (try replace B5 := B5.grown gg (Nat.ne_of_lt l5_6)); clear gg; (try have k5 := B5.k)))
  refine (msg_any _ _ _ cs a1 a2 a3 a4 a5 12 _ r (by omega) (by omega)).mono ?_
  clear r
  rintro e w' ⟨k, x1, x2, x3, x4, x5, p2, rfl, hk, hp2, r, gg⟩
  (try clear k5)
  replace b0 := below_at b0 gg b0.size (by omega)
  (try replace B2 := B2.grown gg (by omega))
  (try replace B3 := B3.grown gg (by omega))
  (try replace B5 := B5.grown gg (by omega))
  (try replace B6 := B6.grown gg (by omega))
  clear gg
  (try have k5 := B5.k)
  go_wp2_with (first
    | ((with_reducible refine at_new 2 26 ?_); refine box_new (d := 2) rfl rfl 26 rfl _ zero_neg ?_; intro w' B2 bb; have n2 := b0.size; (try have lr_2 := r.lt); (try have l3_2 := B3.lt); (try have l5_2 := B5.lt); (try have l6_2 := B6.lt); (try clear k5); replace b0 := bchain b0 bb; (try replace r := r.kept bb);  (try replace B3 := B3.kept bb); (try replace B5 := B5.kept bb); (try replace B6 := B6.kept bb); clear bb; (try have k5 := B5.k))
    | ((with_reducible refine at_new 3 28 ?_); refine box_new (d := 3) rfl rfl 28 rfl _ zero_msg ?_; intro w' B3 bb; have n3 := b0.size; (try have lr_3 := r.lt); (try have l2_3 := B2.lt); (try have l5_3 := B5.lt); (try have l6_3 := B6.lt); (try clear k5); replace b0 := bchain b0 bb; (try replace r := r.kept bb); (try replace B2 := B2.kept bb);  (try replace B5 := B5.kept bb); (try replace B6 := B6.kept bb); clear bb; (try have k5 := B5.k))
    | ((with_reducible refine at_new 5 26 ?_); refine box_new (d := 5) rfl rfl 26 rfl _ zero_neg ?_; intro w' B5 bb; have n5 := b0.size; (try have lr_5 := r.lt); (try have l2_5 := B2.lt); (try have l3_5 := B3.lt); (try have l6_5 := B6.lt); (try clear k5); replace b0 := bchain b0 bb; (try replace r := r.kept bb); (try replace B2 := B2.kept bb); (try replace B3 := B3.kept bb);  (try replace B6 := B6.kept bb); clear bb; (try have k5 := B5.k))
    | ((with_reducible refine at_new 6 28 ?_); refine box_new (d := 6) rfl rfl 28 rfl _ zero_msg ?_; intro w' B6 bb; have n6 := b0.size; (try have lr_6 := r.lt); (try have l2_6 := B2.lt); (try have l3_6 := B3.lt); (try have l5_6 := B5.lt); (try clear k5); replace b0 := bchain b0 bb; (try replace r := r.kept bb); (try replace B2 := B2.kept bb); (try replace B3 := B3.kept bb); (try replace B5 := B5.kept bb);  clear bb; (try have k5 := B5.k))
    | ((with_reducible refine at_store 26 ?_); refine box_store rfl 26 _ _ rfl _ _ rfl rfl (by with_reducible exact B5) (by kernel_rfl) (by rfl) (by simp [Value.oneCell']) ?_; clear B5; intro w' B5 gg; (try clear k5); replace b0 := below_at b0 gg b0.size n5; (try replace r := r.at gg (Nat.le_trans r.1 (Nat.le_of_lt lr_5)) (Nat.ne_of_gt lr_5)); (try replace B2 := B2.grown gg (Nat.ne_of_lt l2_5)); (try replace B3 := B3.grown gg (Nat.ne_of_lt l3_5)); (try replace B6 := B6.grown gg (Nat.ne_of_gt l5_6)); clear gg; (try have k5 := B5.k))
    | ((with_reducible refine at_store 28 ?_); refine box_store rfl 28 _ _ rfl _ _ rfl rfl (by with_reducible exact B6) (by kernel_rfl) (by rfl) (by simp [Value.oneCell']) ?_; clear B6; intro w' B6 gg; (try clear k5); replace b0 := below_at b0 gg b0.size n6; (try replace r := r.at gg (Nat.le_trans r.1 (Nat.le_of_lt lr_6)) (Nat.ne_of_gt lr_6)); (try replace B2 := B2.grown gg (Nat.ne_of_lt l2_6)); (try replace B3 := B3.grown gg (Nat.ne_of_lt l3_6)); (try replace B5 := B5.grown gg (Nat.ne_of_lt l5_6)); clear gg; (try have k5 := B5.k))
    | ((with_reducible refine at_store 3 ?_); refine box_int rfl _ _ rfl _ _ _ rfl rfl (by with_reducible exact B6) (by simp) ?_; clear B6; intro w' B6 gg; simp only [List.setIfInBounds_toArray, List.set] at B6; (try clear k5); replace b0 := below_at b0 gg b0.size n6; (try replace r := r.at gg (Nat.le_trans r.1 (Nat.le_of_lt lr_6)) (Nat.ne_of_gt lr_6)); (try replace B2 := B2.grown gg (Nat.ne_of_lt l2_6)); (try replace B3 := B3.grown gg (Nat.ne_of_lt l3_6)); (try replace B5 := B5.grown gg (Nat.ne_of_lt l5_6)); clear gg; (try have k5 := B5.k)))
  refine (odd_any _ _ _ cs 16 _ r (by omega) (by omega)).mono ?_
  clear r
  rintro e w' ⟨wrong, p3, rfl, _, _, hp3, r, gg⟩
  (try clear k5)
  replace b0 := below_at b0 gg b0.size (by omega)
  (try replace B2 := B2.grown gg (by omega))
  (try replace B3 := B3.grown gg (by omega))
  (try replace B5 := B5.grown gg (by omega))
  (try replace B6 := B6.grown gg (by omega))
  clear gg
  (try have k5 := B5.k)
  cases wrong
  · go_wp2_with (first
      | ((with_reducible refine at_new 2 26 ?_); refine box_new (d := 2) rfl rfl 26 rfl _ zero_neg ?_; intro w' B2 bb; have n2 := b0.size; (try have lr_2 := r.lt); (try have l3_2 := B3.lt); (try have l5_2 := B5.lt); (try have l6_2 := B6.lt); (try clear k5); replace b0 := bchain b0 bb; (try replace r := r.kept bb);  (try replace B3 := B3.kept bb); (try replace B5 := B5.kept bb); (try replace B6 := B6.kept bb); clear bb; (try have k5 := B5.k))
      | ((with_reducible refine at_new 3 28 ?_); refine box_new (d := 3) rfl rfl 28 rfl _ zero_msg ?_; intro w' B3 bb; have n3 := b0.size; (try have lr_3 := r.lt); (try have l2_3 := B2.lt); (try have l5_3 := B5.lt); (try have l6_3 := B6.lt); (try clear k5); replace b0 := bchain b0 bb; (try replace r := r.kept bb); (try replace B2 := B2.kept bb);  (try replace B5 := B5.kept bb); (try replace B6 := B6.kept bb); clear bb; (try have k5 := B5.k))
      | ((with_reducible refine at_new 5 26 ?_); refine box_new (d := 5) rfl rfl 26 rfl _ zero_neg ?_; intro w' B5 bb; have n5 := b0.size; (try have lr_5 := r.lt); (try have l2_5 := B2.lt); (try have l3_5 := B3.lt); (try have l6_5 := B6.lt); (try clear k5); replace b0 := bchain b0 bb; (try replace r := r.kept bb); (try replace B2 := B2.kept bb); (try replace B3 := B3.kept bb);  (try replace B6 := B6.kept bb); clear bb; (try have k5 := B5.k))
      | ((with_reducible refine at_new 6 28 ?_); refine box_new (d := 6) rfl rfl 28 rfl _ zero_msg ?_; intro w' B6 bb; have n6 := b0.size; (try have lr_6 := r.lt); (try have l2_6 := B2.lt); (try have l3_6 := B3.lt); (try have l5_6 := B5.lt); (try clear k5); replace b0 := bchain b0 bb; (try replace r := r.kept bb); (try replace B2 := B2.kept bb); (try replace B3 := B3.kept bb); (try replace B5 := B5.kept bb);  clear bb; (try have k5 := B5.k))
      | ((with_reducible refine at_store 26 ?_); refine box_store rfl 26 _ _ rfl _ _ rfl rfl (by with_reducible exact B5) (by kernel_rfl) (by rfl) (by simp [Value.oneCell']) ?_; clear B5; intro w' B5 gg; (try clear k5); replace b0 := below_at b0 gg b0.size n5; (try replace r := r.at gg (Nat.le_trans r.1 (Nat.le_of_lt lr_5)) (Nat.ne_of_gt lr_5)); (try replace B2 := B2.grown gg (Nat.ne_of_lt l2_5)); (try replace B3 := B3.grown gg (Nat.ne_of_lt l3_5)); (try replace B6 := B6.grown gg (Nat.ne_of_gt l5_6)); clear gg; (try have k5 := B5.k))
      | ((with_reducible refine at_store 28 ?_); refine box_store rfl 28 _ _ rfl _ _ rfl rfl (by with_reducible exact B6) (by kernel_rfl) (by rfl) (by simp [Value.oneCell']) ?_; clear B6; intro w' B6 gg; (try clear k5); replace b0 := below_at b0 gg b0.size n6; (try replace r := r.at gg (Nat.le_trans r.1 (Nat.le_of_lt lr_6)) (Nat.ne_of_gt lr_6)); (try replace B2 := B2.grown gg (Nat.ne_of_lt l2_6)); (try replace B3 := B3.grown gg (Nat.ne_of_lt l3_6)); (try replace B5 := B5.grown gg (Nat.ne_of_lt l5_6)); clear gg; (try have k5 := B5.k))
      | ((with_reducible refine at_store 3 ?_); refine box_int rfl _ _ rfl _ _ _ rfl rfl (by with_reducible exact B6) (by simp) ?_; clear B6; intro w' B6 gg; simp only [List.setIfInBounds_toArray, List.set] at B6; (try clear k5); replace b0 := below_at b0 gg b0.size n6; (try replace r := r.at gg (Nat.le_trans r.1 (Nat.le_of_lt lr_6)) (Nat.ne_of_gt lr_6)); (try replace B2 := B2.grown gg (Nat.ne_of_lt l2_6)); (try replace B3 := B3.grown gg (Nat.ne_of_lt l3_6)); (try replace B5 := B5.grown gg (Nat.ne_of_lt l5_6)); clear gg; (try have k5 := B5.k)))
    clear r
    clear k5
    replace b0 := b0.drew
    replace B2 := B2.drew
    replace B3 := B3.drew
    replace B5 := B5.drew
    replace B6 := B6.drew
    refine region_by (fun w' => Bl w' _ #[.int .i64 o1, .int .i64 o2, .int .i64 o3, .int .i64 o4, .int .i64 o5, .int .i64 a1, .int .i64 a2, .int .i64 a3, .int .i64 a4, .int .i64 a5, .int .i64 m1, .int .i64 m2, .int .i64 m3, .int .i64 m4, .int .i64 m5, .int .i64 y1, .int .i64 y2, .int .i64 y3, .int .i64 y4, .int .i64 y5, .bool f] 26 ∧ Bl w' _ #[.int .i64 k, .int .i64 x1, .int .i64 x2, .int .i64 x3, .int .i64 x4, .int .i64 x5] 28) 4 [(0, true), (1, true), (2, false), (3, false)] ⟨none, .assign (.tmp 0), 0, "", #[], none⟩ (by kernel_rfl) (by kernel_rfl) ⟨B5, B6⟩ (fun x _ _ _ _ h => by cases x <;> exact h) ?_
    simp only [arrange, List.map_cons, List.map_nil, List.getD_cons_zero, List.getD_cons_succ]
    generalize World.drew _ = dw at b0 B2 B3 B5 B6 ⊢
    refine by_load rfl 26 _ rfl _ rfl (fun _ h => h.1) Try.underlying26 rfl (by kernel_rfl) ?_
    refine by_load rfl 28 _ rfl _ rfl (fun _ h => h.2) Try.underlying28 rfl (by kernel_rfl) ?_
    refine by_store rfl rfl 26 _ _ rfl _ _ rfl rfl B2 (by kernel_rfl) rfl (by simp [Value.oneCell']) ?_
    clear B2
    intro w' B2 gg
    replace b0 := below_at b0 gg b0.size n2
    replace B3 := B3.grown gg (Nat.ne_of_gt l2_3)
    replace B5 := B5.grown gg (Nat.ne_of_gt l2_5)
    replace B6 := B6.grown gg (Nat.ne_of_gt l2_6)
    clear gg
    refine ⟨fun _ => ⟨B5, B6⟩, ?_⟩
    refine by_store rfl rfl 28 _ _ rfl _ _ rfl rfl B3 (by kernel_rfl) rfl (by simp [Value.oneCell']) ?_
    clear B3
    intro w' B3 gg
    replace b0 := below_at b0 gg b0.size n3
    replace B2 := B2.grown gg (Nat.ne_of_lt l2_3)
    replace B5 := B5.grown gg (Nat.ne_of_gt l3_5)
    replace B6 := B6.grown gg (Nat.ne_of_gt l3_6)
    clear gg
    refine ⟨fun _ => ⟨B5, B6⟩, ?_⟩
    refine by_nil ?_
    have k5 := B5.k
    go_wp2
    refine bodyPost_ret (results_cc rfl _ _ _ _ _ rfl B2 Try.underlying26 rfl (by kernel_rfl) _ _ _ rfl B3 Try.underlying28 rfl (by kernel_rfl)) rfl ?_
    exact ⟨⟨⟨o1, o2, o3, o4, o5⟩, ⟨a1, a2, a3, a4, a5⟩, ⟨m1, m2, m3, m4, m5⟩, ⟨y1, y2, y3, y4, y5⟩, f⟩, ⟨k, ⟨x1, x2, x3, x4, x5⟩⟩, rfl, hJ, b0⟩
  · go_wp2_with fail
    have bb := bo_alloc w' (.cells #[.int .i64 0, .int .i64 4] 3)
    have hl := B6.lt
    obtain ⟨wa, ea⟩ : ∃ x, x = w' := ⟨_, rfl⟩
    have hl2 := hl
    rw [← ea] at hl2
    (try clear k5)
    replace b0 := bchain b0 bb
    (try replace r := r.kept bb)
    (try replace B2 := B2.kept bb)
    (try replace B3 := B3.kept bb)
    (try replace B5 := B5.kept bb)
    (try replace B6 := B6.kept bb)
    clear bb
    (try have k5 := B5.k)
    refine (pick_any _ _ _ cs 2 _ r (by omega) (by omega)).mono ?_
    rintro e w' ⟨i, rfl, hi, r1, gg⟩
    clear r
    have r := r1
    clear r1
    obtain ⟨y, _, cy⟩ := row_two wa 0 4 i (by omega)
    rw [← ea] at *
    have lw := b0.size
    have cy6 : w'.cell? ⟨wa.heap.size, i, none⟩ = some (.int .i64 y) := gg.cell cy (by simp; omega)
    have hi2 : (i : Int) < 2 := by omega
    (try clear k5)
    replace b0 := below_at b0 gg b0.size (by omega)
    (try replace B2 := B2.grown gg (by omega))
    (try replace B3 := B3.grown gg (by omega))
    (try replace B5 := B5.grown gg (by omega))
    (try replace B6 := B6.grown gg (by omega))
    clear gg
    (try have k5 := B5.k)
    clear cy ea
    go_wp2_with (first
      | ((with_reducible refine at_new 2 26 ?_); refine box_new (d := 2) rfl rfl 26 rfl _ zero_neg ?_; intro w' B2 bb; have n2 := b0.size; (try have lr_2 := r.lt); (try have l3_2 := B3.lt); (try have l5_2 := B5.lt); (try have l6_2 := B6.lt); (try clear k5); replace b0 := bchain b0 bb; (try replace r := r.kept bb);  (try replace B3 := B3.kept bb); (try replace B5 := B5.kept bb); (try replace B6 := B6.kept bb); clear bb; (try have k5 := B5.k))
      | ((with_reducible refine at_new 3 28 ?_); refine box_new (d := 3) rfl rfl 28 rfl _ zero_msg ?_; intro w' B3 bb; have n3 := b0.size; (try have lr_3 := r.lt); (try have l2_3 := B2.lt); (try have l5_3 := B5.lt); (try have l6_3 := B6.lt); (try clear k5); replace b0 := bchain b0 bb; (try replace r := r.kept bb); (try replace B2 := B2.kept bb);  (try replace B5 := B5.kept bb); (try replace B6 := B6.kept bb); clear bb; (try have k5 := B5.k))
      | ((with_reducible refine at_new 5 26 ?_); refine box_new (d := 5) rfl rfl 26 rfl _ zero_neg ?_; intro w' B5 bb; have n5 := b0.size; (try have lr_5 := r.lt); (try have l2_5 := B2.lt); (try have l3_5 := B3.lt); (try have l6_5 := B6.lt); (try clear k5); replace b0 := bchain b0 bb; (try replace r := r.kept bb); (try replace B2 := B2.kept bb); (try replace B3 := B3.kept bb);  (try replace B6 := B6.kept bb); clear bb; (try have k5 := B5.k))
      | ((with_reducible refine at_new 6 28 ?_); refine box_new (d := 6) rfl rfl 28 rfl _ zero_msg ?_; intro w' B6 bb; have n6 := b0.size; (try have lr_6 := r.lt); (try have l2_6 := B2.lt); (try have l3_6 := B3.lt); (try have l5_6 := B5.lt); (try clear k5); replace b0 := bchain b0 bb; (try replace r := r.kept bb); (try replace B2 := B2.kept bb); (try replace B3 := B3.kept bb); (try replace B5 := B5.kept bb);  clear bb; (try have k5 := B5.k))
      | ((with_reducible refine at_store 26 ?_); refine box_store rfl 26 _ _ rfl _ _ rfl rfl (by with_reducible exact B5) (by kernel_rfl) (by rfl) (by simp [Value.oneCell']) ?_; clear B5; intro w' B5 gg; (try clear k5); replace b0 := below_at b0 gg b0.size n5; (try replace r := r.at gg (Nat.le_trans r.1 (Nat.le_of_lt lr_5)) (Nat.ne_of_gt lr_5)); (try replace B2 := B2.grown gg (Nat.ne_of_lt l2_5)); (try replace B3 := B3.grown gg (Nat.ne_of_lt l3_5)); (try replace B6 := B6.grown gg (Nat.ne_of_gt l5_6)); clear gg; (try have k5 := B5.k))
      | ((with_reducible refine at_store 28 ?_); refine box_store rfl 28 _ _ rfl _ _ rfl rfl (by with_reducible exact B6) (by kernel_rfl) (by rfl) (by simp [Value.oneCell']) ?_; clear B6; intro w' B6 gg; (try clear k5); replace b0 := below_at b0 gg b0.size n6; (try replace r := r.at gg (Nat.le_trans r.1 (Nat.le_of_lt lr_6)) (Nat.ne_of_gt lr_6)); (try replace B2 := B2.grown gg (Nat.ne_of_lt l2_6)); (try replace B3 := B3.grown gg (Nat.ne_of_lt l3_6)); (try replace B5 := B5.grown gg (Nat.ne_of_lt l5_6)); clear gg; (try have k5 := B5.k))
      | ((with_reducible refine at_store 3 ?_); refine box_int rfl _ _ rfl _ _ _ rfl rfl (by with_reducible exact B6) (by simp) ?_; clear B6; intro w' B6 gg; simp only [List.setIfInBounds_toArray, List.set] at B6; (try clear k5); replace b0 := below_at b0 gg b0.size n6; (try replace r := r.at gg (Nat.le_trans r.1 (Nat.le_of_lt lr_6)) (Nat.ne_of_gt lr_6)); (try replace B2 := B2.grown gg (Nat.ne_of_lt l2_6)); (try replace B3 := B3.grown gg (Nat.ne_of_lt l3_6)); (try replace B5 := B5.grown gg (Nat.ne_of_lt l5_6)); clear gg; (try have k5 := B5.k)))
    clear r
    clear k5
    replace b0 := b0.drew
    replace B2 := B2.drew
    replace B3 := B3.drew
    replace B5 := B5.drew
    replace B6 := B6.drew
    refine region_by (fun w' => Bl w' _ #[.int .i64 o1, .int .i64 o2, .int .i64 o3, .int .i64 o4, .int .i64 o5, .int .i64 a1, .int .i64 a2, .int .i64 a3, .int .i64 a4, .int .i64 a5, .int .i64 m1, .int .i64 m2, .int .i64 m3, .int .i64 m4, .int .i64 m5, .int .i64 y1, .int .i64 y2, .int .i64 y3, .int .i64 y4, .int .i64 y5, .bool f] 26 ∧ Bl w' _ #[.int .i64 y, .int .i64 x1, .int .i64 x2, .int .i64 x3, .int .i64 x4, .int .i64 x5] 28) 4 [(0, true), (1, true), (2, false), (3, false)] ⟨none, .assign (.tmp 0), 0, "", #[], none⟩ (by kernel_rfl) (by kernel_rfl) ⟨B5, B6⟩ (fun x _ _ _ _ h => by cases x <;> exact h) ?_
    simp only [arrange, List.map_cons, List.map_nil, List.getD_cons_zero, List.getD_cons_succ]
    generalize World.drew _ = dw at b0 B2 B3 B5 B6 ⊢
    refine by_load rfl 26 _ rfl _ rfl (fun _ h => h.1) Try.underlying26 rfl (by kernel_rfl) ?_
    refine by_load rfl 28 _ rfl _ rfl (fun _ h => h.2) Try.underlying28 rfl (by kernel_rfl) ?_
    refine by_store rfl rfl 26 _ _ rfl _ _ rfl rfl B2 (by kernel_rfl) rfl (by simp [Value.oneCell']) ?_
    clear B2
    intro w' B2 gg
    replace b0 := below_at b0 gg b0.size n2
    replace B3 := B3.grown gg (Nat.ne_of_gt l2_3)
    replace B5 := B5.grown gg (Nat.ne_of_gt l2_5)
    replace B6 := B6.grown gg (Nat.ne_of_gt l2_6)
    clear gg
    refine ⟨fun _ => ⟨B5, B6⟩, ?_⟩
    refine by_store rfl rfl 28 _ _ rfl _ _ rfl rfl B3 (by kernel_rfl) rfl (by simp [Value.oneCell']) ?_
    clear B3
    intro w' B3 gg
    replace b0 := below_at b0 gg b0.size n3
    replace B2 := B2.grown gg (Nat.ne_of_lt l2_3)
    replace B5 := B5.grown gg (Nat.ne_of_gt l3_5)
    replace B6 := B6.grown gg (Nat.ne_of_gt l3_6)
    clear gg
    refine ⟨fun _ => ⟨B5, B6⟩, ?_⟩
    refine by_nil ?_
    have k5 := B5.k
    go_wp2
    refine bodyPost_ret (results_cc rfl _ _ _ _ _ rfl B2 Try.underlying26 rfl (by kernel_rfl) _ _ _ rfl B3 Try.underlying28 rfl (by kernel_rfl)) rfl ?_
    exact ⟨⟨⟨o1, o2, o3, o4, o5⟩, ⟨a1, a2, a3, a4, a5⟩, ⟨m1, m2, m3, m4, m5⟩, ⟨y1, y2, y3, y4, y5⟩, f⟩, ⟨y, ⟨x1, x2, x3, x4, x5⟩⟩, rfl, hJ, b0⟩
end Go.Proofs.Ytaoafikkamnjlaa
