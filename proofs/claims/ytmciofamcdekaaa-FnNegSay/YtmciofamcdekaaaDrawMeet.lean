/- What two want, drawn. -/
import Derived.Test.YtmciofamcdekaaaDrawCfg
import Derived.Test.YtmciofamcdekaaaOpenRow
import Derived.Test.YtmciofamcdekaaaNegLaw
namespace Go.Proofs.Ytmciofamcdekaaa
open Go.RowKit
theorem Rdr.kept {w w' : World} {B g p : Nat} {zs : List Nat} (h : Rdr w B g p zs) (hb : Below w.heap.size w w') : Rdr w' B g p zs := h.other (below_grown hb) (fun q e => by cases e)
theorem Rdr.at {w w' : World} {B g p b : Nat} {zs : List Nat} (h : Rdr w B g p zs) (k : w.grownBy w' (some b)) (hB : B ≤ b) (hn : b ≠ g) : Rdr w' B g p zs := h.other k (fun q e => by cases e; exact ⟨hB, hn⟩)
set_option maxHeartbeats 2000000 in
theorem drawMeet_any (v : Value) (zs : List Nat) (w : World) (h : Rd w v zs) :
    Calls Try.prog 25 #[v] w fun e w' => ∃ x1 x2 x3 x4 x5 y1 y2 y3 y4 y5 : Int, e = .returned (.tuple #[.agg #[.int .i64 x1, .int .i64 x2, .int .i64 x3, .int .i64 x4, .int .i64 x5], .agg #[.int .i64 y1, .int .i64 y2, .int .i64 y3, .int .i64 y4, .int .i64 y5]]) ∧ Drawn x1 x2 x3 x4 x5 ∧ Drawn y1 y2 y3 y4 y5 ∧ Below w.heap.size w w' := by
  have b0 : Below w.heap.size w w := Below.refl _ _
  go_enter Try.func25, Try.ntmps25
  go_wp2_with (first
    | ((with_reducible refine at_new 2 24 ?_); refine box_new (d := 2) rfl rfl 24 rfl _ zero_cfg ?_; intro w' B2 bb; have n2 := b0.size; (try have lr_2 := r.lt); (try have l3_2 := B3.lt); (try have l5_2 := B5.lt); (try have l6_2 := B6.lt); (try clear k2); (try clear k3); (try clear k5); (try clear k6); replace b0 := bchain b0 bb; (try replace r := r.kept bb);  (try replace B3 := B3.kept bb); (try replace B5 := B5.kept bb); (try replace B6 := B6.kept bb); clear bb; (try have k2 := B2.k); (try have k3 := B3.k); (try have k5 := B5.k); (try have k6 := B6.k))
    | ((with_reducible refine at_new 3 24 ?_); refine box_new (d := 3) rfl rfl 24 rfl _ zero_cfg ?_; intro w' B3 bb; have n3 := b0.size; (try have lr_3 := r.lt); (try have l2_3 := B2.lt); (try have l5_3 := B5.lt); (try have l6_3 := B6.lt); (try clear k2); (try clear k3); (try clear k5); (try clear k6); replace b0 := bchain b0 bb; (try replace r := r.kept bb); (try replace B2 := B2.kept bb);  (try replace B5 := B5.kept bb); (try replace B6 := B6.kept bb); clear bb; (try have k2 := B2.k); (try have k3 := B3.k); (try have k5 := B5.k); (try have k6 := B6.k))
    | ((with_reducible refine at_new 5 24 ?_); refine box_new (d := 5) rfl rfl 24 rfl _ zero_cfg ?_; intro w' B5 bb; have n5 := b0.size; (try have lr_5 := r.lt); (try have l2_5 := B2.lt); (try have l3_5 := B3.lt); (try have l6_5 := B6.lt); (try clear k2); (try clear k3); (try clear k5); (try clear k6); replace b0 := bchain b0 bb; (try replace r := r.kept bb); (try replace B2 := B2.kept bb); (try replace B3 := B3.kept bb);  (try replace B6 := B6.kept bb); clear bb; (try have k2 := B2.k); (try have k3 := B3.k); (try have k5 := B5.k); (try have k6 := B6.k))
    | ((with_reducible refine at_new 6 24 ?_); refine box_new (d := 6) rfl rfl 24 rfl _ zero_cfg ?_; intro w' B6 bb; have n6 := b0.size; (try have lr_6 := r.lt); (try have l2_6 := B2.lt); (try have l3_6 := B3.lt); (try have l5_6 := B5.lt); (try clear k2); (try clear k3); (try clear k5); (try clear k6); replace b0 := bchain b0 bb; (try replace r := r.kept bb); (try replace B2 := B2.kept bb); (try replace B3 := B3.kept bb); (try replace B5 := B5.kept bb);  clear bb; (try have k2 := B2.k); (try have k3 := B3.k); (try have k5 := B5.k); (try have k6 := B6.k))
    | ((with_reducible refine at_store 24 ?_); refine box_store rfl 24 _ _ rfl _ _ rfl rfl (by with_reducible exact B5) (by kernel_rfl) (by rfl) (by simp [Value.oneCell']) ?_; clear B5; intro w' B5 gg; (try clear k2); (try clear k3); (try clear k5); (try clear k6); replace b0 := below_at b0 gg b0.size n5; (try replace r := r.at gg (Nat.le_trans r.1 (Nat.le_of_lt lr_5)) (Nat.ne_of_gt lr_5)); (try replace B2 := B2.grown gg (Nat.ne_of_lt l2_5)); (try replace B3 := B3.grown gg (Nat.ne_of_lt l3_5)); (try replace B6 := B6.grown gg (Nat.ne_of_gt l5_6)); clear gg; (try have k2 := B2.k); (try have k3 := B3.k); (try have k5 := B5.k); (try have k6 := B6.k))
    | ((with_reducible refine at_store 24 ?_); refine box_store rfl 24 _ _ rfl _ _ rfl rfl (by with_reducible exact B6) (by kernel_rfl) (by rfl) (by simp [Value.oneCell']) ?_; clear B6; intro w' B6 gg; (try clear k2); (try clear k3); (try clear k5); (try clear k6); replace b0 := below_at b0 gg b0.size n6; (try replace r := r.at gg (Nat.le_trans r.1 (Nat.le_of_lt lr_6)) (Nat.ne_of_gt lr_6)); (try replace B2 := B2.grown gg (Nat.ne_of_lt l2_6)); (try replace B3 := B3.grown gg (Nat.ne_of_lt l3_6)); (try replace B5 := B5.grown gg (Nat.ne_of_lt l5_6)); clear gg; (try have k2 := B2.k); (try have k3 := B3.k); (try have k5 := B5.k); (try have k6 := B6.k))
    | ((with_reducible refine at_store 3 ?_); refine box_int rfl _ _ rfl _ _ _ rfl rfl (by with_reducible exact B6) (by simp) ?_; clear B6; intro w' B6 gg; simp only [List.setIfInBounds_toArray, List.set] at B6; (try clear k2); (try clear k3); (try clear k5); (try clear k6); replace b0 := below_at b0 gg b0.size n6; (try replace r := r.at gg (Nat.le_trans r.1 (Nat.le_of_lt lr_6)) (Nat.ne_of_gt lr_6)); (try replace B2 := B2.grown gg (Nat.ne_of_lt l2_6)); (try replace B3 := B3.grown gg (Nat.ne_of_lt l3_6)); (try replace B5 := B5.grown gg (Nat.ne_of_lt l5_6)); clear gg; (try have k2 := B2.k); (try have k3 := B3.k); (try have k5 := B5.k); (try have k6 := B6.k)))
  refine (open_any v zs _ (h.kept b0)).mono ?_
  have nr := b0.size
  have l2_r := B2.lt
  have l3_r := B3.lt
  rintro e w' ⟨rfl, ⟨cs, r⟩, bb⟩
  (try clear k2)
  (try clear k3)
  (try clear k5)
  (try clear k6)
  replace b0 := bchain b0 bb
  (try replace B2 := B2.kept bb)
  (try replace B3 := B3.kept bb)
  (try replace B5 := B5.kept bb)
  (try replace B6 := B6.kept bb)
  clear bb
  (try have k2 := B2.k)
  (try have k3 := B3.k)
  (try have k5 := B5.k)
  (try have k6 := B6.k)
  go_wp2_with (first
    | ((with_reducible refine at_new 2 24 ?_); refine box_new (d := 2) rfl rfl 24 rfl _ zero_cfg ?_; intro w' B2 bb; have n2 := b0.size; (try have lr_2 := r.lt); (try have l3_2 := B3.lt); (try have l5_2 := B5.lt); (try have l6_2 := B6.lt); (try clear k2); (try clear k3); (try clear k5); (try clear k6); replace b0 := bchain b0 bb; (try replace r := r.kept bb);  (try replace B3 := B3.kept bb); (try replace B5 := B5.kept bb); (try replace B6 := B6.kept bb); clear bb; (try have k2 := B2.k); (try have k3 := B3.k); (try have k5 := B5.k); (try have k6 := B6.k))
    | ((with_reducible refine at_new 3 24 ?_); refine box_new (d := 3) rfl rfl 24 rfl _ zero_cfg ?_; intro w' B3 bb; have n3 := b0.size; (try have lr_3 := r.lt); (try have l2_3 := B2.lt); (try have l5_3 := B5.lt); (try have l6_3 := B6.lt); (try clear k2); (try clear k3); (try clear k5); (try clear k6); replace b0 := bchain b0 bb; (try replace r := r.kept bb); (try replace B2 := B2.kept bb);  (try replace B5 := B5.kept bb); (try replace B6 := B6.kept bb); clear bb; (try have k2 := B2.k); (try have k3 := B3.k); (try have k5 := B5.k); (try have k6 := B6.k))
    | ((with_reducible refine at_new 5 24 ?_); refine box_new (d := 5) rfl rfl 24 rfl _ zero_cfg ?_; intro w' B5 bb; have n5 := b0.size; (try have lr_5 := r.lt); (try have l2_5 := B2.lt); (try have l3_5 := B3.lt); (try have l6_5 := B6.lt); (try clear k2); (try clear k3); (try clear k5); (try clear k6); replace b0 := bchain b0 bb; (try replace r := r.kept bb); (try replace B2 := B2.kept bb); (try replace B3 := B3.kept bb);  (try replace B6 := B6.kept bb); clear bb; (try have k2 := B2.k); (try have k3 := B3.k); (try have k5 := B5.k); (try have k6 := B6.k))
    | ((with_reducible refine at_new 6 24 ?_); refine box_new (d := 6) rfl rfl 24 rfl _ zero_cfg ?_; intro w' B6 bb; have n6 := b0.size; (try have lr_6 := r.lt); (try have l2_6 := B2.lt); (try have l3_6 := B3.lt); (try have l5_6 := B5.lt); (try clear k2); (try clear k3); (try clear k5); (try clear k6); replace b0 := bchain b0 bb; (try replace r := r.kept bb); (try replace B2 := B2.kept bb); (try replace B3 := B3.kept bb); (try replace B5 := B5.kept bb);  clear bb; (try have k2 := B2.k); (try have k3 := B3.k); (try have k5 := B5.k); (try have k6 := B6.k))
    | ((with_reducible refine at_store 24 ?_); refine box_store rfl 24 _ _ rfl _ _ rfl rfl (by with_reducible exact B5) (by kernel_rfl) (by rfl) (by simp [Value.oneCell']) ?_; clear B5; intro w' B5 gg; (try clear k2); (try clear k3); (try clear k5); (try clear k6); replace b0 := below_at b0 gg b0.size n5; (try replace r := r.at gg (Nat.le_trans r.1 (Nat.le_of_lt lr_5)) (Nat.ne_of_gt lr_5)); (try replace B2 := B2.grown gg (Nat.ne_of_lt l2_5)); (try replace B3 := B3.grown gg (Nat.ne_of_lt l3_5)); (try replace B6 := B6.grown gg (Nat.ne_of_gt l5_6)); clear gg; (try have k2 := B2.k); (try have k3 := B3.k); (try have k5 := B5.k); (try have k6 := B6.k))
    | ((with_reducible refine at_store 24 ?_); refine box_store rfl 24 _ _ rfl _ _ rfl rfl (by with_reducible exact B6) (by kernel_rfl) (by rfl) (by simp [Value.oneCell']) ?_; clear B6; intro w' B6 gg; (try clear k2); (try clear k3); (try clear k5); (try clear k6); replace b0 := below_at b0 gg b0.size n6; (try replace r := r.at gg (Nat.le_trans r.1 (Nat.le_of_lt lr_6)) (Nat.ne_of_gt lr_6)); (try replace B2 := B2.grown gg (Nat.ne_of_lt l2_6)); (try replace B3 := B3.grown gg (Nat.ne_of_lt l3_6)); (try replace B5 := B5.grown gg (Nat.ne_of_lt l5_6)); clear gg; (try have k2 := B2.k); (try have k3 := B3.k); (try have k5 := B5.k); (try have k6 := B6.k))
    | ((with_reducible refine at_store 3 ?_); refine box_int rfl _ _ rfl _ _ _ rfl rfl (by with_reducible exact B6) (by simp) ?_; clear B6; intro w' B6 gg; simp only [List.setIfInBounds_toArray, List.set] at B6; (try clear k2); (try clear k3); (try clear k5); (try clear k6); replace b0 := below_at b0 gg b0.size n6; (try replace r := r.at gg (Nat.le_trans r.1 (Nat.le_of_lt lr_6)) (Nat.ne_of_gt lr_6)); (try replace B2 := B2.grown gg (Nat.ne_of_lt l2_6)); (try replace B3 := B3.grown gg (Nat.ne_of_lt l3_6)); (try replace B5 := B5.grown gg (Nat.ne_of_lt l5_6)); clear gg; (try have k2 := B2.k); (try have k3 := B3.k); (try have k5 := B5.k); (try have k6 := B6.k)))
  refine (cfg_any _ _ _ cs 9 _ r (by omega) (by omega)).mono ?_
  clear r
  rintro e w' ⟨x1, x2, x3, x4, x5, p1, rfl, hx, _, _, hp1, r, gg⟩
  (try clear k2)
  (try clear k3)
  (try clear k5)
  (try clear k6)
  replace b0 := below_at b0 gg b0.size (by omega)
  (try replace B2 := B2.grown gg (by omega))
  (try replace B3 := B3.grown gg (by omega))
  (try replace B5 := B5.grown gg (by omega))
  (try replace B6 := B6.grown gg (by omega))
  clear gg
  (try have k2 := B2.k)
  (try have k3 := B3.k)
  (try have k5 := B5.k)
  (try have k6 := B6.k)
  go_wp2_with (first
    | ((with_reducible refine at_new 2 24 ?_); refine box_new (d := 2) rfl rfl 24 rfl _ zero_cfg ?_; intro w' B2 bb; have n2 := b0.size; (try have lr_2 := r.lt); (try have l3_2 := B3.lt); (try have l5_2 := B5.lt); (try have l6_2 := B6.lt); (try clear k2); (try clear k3); (try clear k5); (try clear k6); replace b0 := bchain b0 bb; (try replace r := r.kept bb);  (try replace B3 := B3.kept bb); (try replace B5 := B5.kept bb); (try replace B6 := B6.kept bb); clear bb; (try have k2 := B2.k); (try have k3 := B3.k); (try have k5 := B5.k); (try have k6 := B6.k))
    | ((with_reducible refine at_new 3 24 ?_); refine box_new (d := 3) rfl rfl 24 rfl _ zero_cfg ?_; intro w' B3 bb; have n3 := b0.size; (try have lr_3 := r.lt); (try have l2_3 := B2.lt); (try have l5_3 := B5.lt); (try have l6_3 := B6.lt); (try clear k2); (try clear k3); (try clear k5); (try clear k6); replace b0 := bchain b0 bb; (try replace r := r.kept bb); (try replace B2 := B2.kept bb);  (try replace B5 := B5.kept bb); (try replace B6 := B6.kept bb); clear bb; (try have k2 := B2.k); (try have k3 := B3.k); (try have k5 := B5.k); (try have k6 := B6.k))
    | ((with_reducible refine at_new 5 24 ?_); refine box_new (d := 5) rfl rfl 24 rfl _ zero_cfg ?_; intro w' B5 bb; have n5 := b0.size; (try have lr_5 := r.lt); (try have l2_5 := B2.lt); (try have l3_5 := B3.lt); (try have l6_5 := B6.lt); (try clear k2); (try clear k3); (try clear k5); (try clear k6); replace b0 := bchain b0 bb; (try replace r := r.kept bb); (try replace B2 := B2.kept bb); (try replace B3 := B3.kept bb);  (try replace B6 := B6.kept bb); clear bb; (try have k2 := B2.k); (try have k3 := B3.k); (try have k5 := B5.k); (try have k6 := B6.k))
    | ((with_reducible refine at_new 6 24 ?_); refine box_new (d := 6) rfl rfl 24 rfl _ zero_cfg ?_; intro w' B6 bb; have n6 := b0.size; (try have lr_6 := r.lt); (try have l2_6 := B2.lt); (try have l3_6 := B3.lt); (try have l5_6 := B5.lt); (try clear k2); (try clear k3); (try clear k5); (try clear k6); replace b0 := bchain b0 bb; (try replace r := r.kept bb); (try replace B2 := B2.kept bb); (try replace B3 := B3.kept bb); (try replace B5 := B5.kept bb);  clear bb; (try have k2 := B2.k); (try have k3 := B3.k); (try have k5 := B5.k); (try have k6 := B6.k))
    | ((with_reducible refine at_store 24 ?_); refine box_store rfl 24 _ _ rfl _ _ rfl rfl (by with_reducible exact B5) (by kernel_rfl) (by rfl) (by simp [Value.oneCell']) ?_; clear B5; intro w' B5 gg; (try clear k2); (try clear k3); (try clear k5); (try clear k6); replace b0 := below_at b0 gg b0.size n5; (try replace r := r.at gg (Nat.le_trans r.1 (Nat.le_of_lt lr_5)) (Nat.ne_of_gt lr_5)); (try replace B2 := B2.grown gg (Nat.ne_of_lt l2_5)); (try replace B3 := B3.grown gg (Nat.ne_of_lt l3_5)); (try replace B6 := B6.grown gg (Nat.ne_of_gt l5_6)); clear gg; (try have k2 := B2.k); (try have k3 := B3.k); (try have k5 := B5.k); (try have k6 := B6.k))
    | ((with_reducible refine at_store 24 ?_); refine box_store rfl 24 _ _ rfl _ _ rfl rfl (by with_reducible exact B6) (by kernel_rfl) (by rfl) (by simp [Value.oneCell']) ?_; clear B6; intro w' B6 gg; (try clear k2); (try clear k3); (try clear k5); (try clear k6); replace b0 := below_at b0 gg b0.size n6; (try replace r := r.at gg (Nat.le_trans r.1 (Nat.le_of_lt lr_6)) (Nat.ne_of_gt lr_6)); (try replace B2 := B2.grown gg (Nat.ne_of_lt l2_6)); (try replace B3 := B3.grown gg (Nat.ne_of_lt l3_6)); (try replace B5 := B5.grown gg (Nat.ne_of_lt l5_6)); clear gg; (try have k2 := B2.k); (try have k3 := B3.k); (try have k5 := B5.k); (try have k6 := B6.k))
    | ((with_reducible refine at_store 3 ?_); refine box_int rfl _ _ rfl _ _ _ rfl rfl (by with_reducible exact B6) (by simp) ?_; clear B6; intro w' B6 gg; simp only [List.setIfInBounds_toArray, List.set] at B6; (try clear k2); (try clear k3); (try clear k5); (try clear k6); replace b0 := below_at b0 gg b0.size n6; (try replace r := r.at gg (Nat.le_trans r.1 (Nat.le_of_lt lr_6)) (Nat.ne_of_gt lr_6)); (try replace B2 := B2.grown gg (Nat.ne_of_lt l2_6)); (try replace B3 := B3.grown gg (Nat.ne_of_lt l3_6)); (try replace B5 := B5.grown gg (Nat.ne_of_lt l5_6)); clear gg; (try have k2 := B2.k); (try have k3 := B3.k); (try have k5 := B5.k); (try have k6 := B6.k)))
  refine (cfg_any _ _ _ cs 9 _ r (by omega) (by omega)).mono ?_
  clear r
  rintro e w' ⟨y1, y2, y3, y4, y5, p2, rfl, hy, _, _, hp2, r, gg⟩
  (try clear k2)
  (try clear k3)
  (try clear k5)
  (try clear k6)
  replace b0 := below_at b0 gg b0.size (by omega)
  (try replace B2 := B2.grown gg (by omega))
  (try replace B3 := B3.grown gg (by omega))
  (try replace B5 := B5.grown gg (by omega))
  (try replace B6 := B6.grown gg (by omega))
  clear gg
  (try have k2 := B2.k)
  (try have k3 := B3.k)
  (try have k5 := B5.k)
  (try have k6 := B6.k)
  go_wp2_with (first
    | ((with_reducible refine at_new 2 24 ?_); refine box_new (d := 2) rfl rfl 24 rfl _ zero_cfg ?_; intro w' B2 bb; have n2 := b0.size; (try have lr_2 := r.lt); (try have l3_2 := B3.lt); (try have l5_2 := B5.lt); (try have l6_2 := B6.lt); (try clear k2); (try clear k3); (try clear k5); (try clear k6); replace b0 := bchain b0 bb; (try replace r := r.kept bb);  (try replace B3 := B3.kept bb); (try replace B5 := B5.kept bb); (try replace B6 := B6.kept bb); clear bb; (try have k2 := B2.k); (try have k3 := B3.k); (try have k5 := B5.k); (try have k6 := B6.k))
    | ((with_reducible refine at_new 3 24 ?_); refine box_new (d := 3) rfl rfl 24 rfl _ zero_cfg ?_; intro w' B3 bb; have n3 := b0.size; (try have lr_3 := r.lt); (try have l2_3 := B2.lt); (try have l5_3 := B5.lt); (try have l6_3 := B6.lt); (try clear k2); (try clear k3); (try clear k5); (try clear k6); replace b0 := bchain b0 bb; (try replace r := r.kept bb); (try replace B2 := B2.kept bb);  (try replace B5 := B5.kept bb); (try replace B6 := B6.kept bb); clear bb; (try have k2 := B2.k); (try have k3 := B3.k); (try have k5 := B5.k); (try have k6 := B6.k))
    | ((with_reducible refine at_new 5 24 ?_); refine box_new (d := 5) rfl rfl 24 rfl _ zero_cfg ?_; intro w' B5 bb; have n5 := b0.size; (try have lr_5 := r.lt); (try have l2_5 := B2.lt); (try have l3_5 := B3.lt); (try have l6_5 := B6.lt); (try clear k2); (try clear k3); (try clear k5); (try clear k6); replace b0 := bchain b0 bb; (try replace r := r.kept bb); (try replace B2 := B2.kept bb); (try replace B3 := B3.kept bb);  (try replace B6 := B6.kept bb); clear bb; (try have k2 := B2.k); (try have k3 := B3.k); (try have k5 := B5.k); (try have k6 := B6.k))
    | ((with_reducible refine at_new 6 24 ?_); refine box_new (d := 6) rfl rfl 24 rfl _ zero_cfg ?_; intro w' B6 bb; have n6 := b0.size; (try have lr_6 := r.lt); (try have l2_6 := B2.lt); (try have l3_6 := B3.lt); (try have l5_6 := B5.lt); (try clear k2); (try clear k3); (try clear k5); (try clear k6); replace b0 := bchain b0 bb; (try replace r := r.kept bb); (try replace B2 := B2.kept bb); (try replace B3 := B3.kept bb); (try replace B5 := B5.kept bb);  clear bb; (try have k2 := B2.k); (try have k3 := B3.k); (try have k5 := B5.k); (try have k6 := B6.k))
    | ((with_reducible refine at_store 24 ?_); refine box_store rfl 24 _ _ rfl _ _ rfl rfl (by with_reducible exact B5) (by kernel_rfl) (by rfl) (by simp [Value.oneCell']) ?_; clear B5; intro w' B5 gg; (try clear k2); (try clear k3); (try clear k5); (try clear k6); replace b0 := below_at b0 gg b0.size n5; (try replace r := r.at gg (Nat.le_trans r.1 (Nat.le_of_lt lr_5)) (Nat.ne_of_gt lr_5)); (try replace B2 := B2.grown gg (Nat.ne_of_lt l2_5)); (try replace B3 := B3.grown gg (Nat.ne_of_lt l3_5)); (try replace B6 := B6.grown gg (Nat.ne_of_gt l5_6)); clear gg; (try have k2 := B2.k); (try have k3 := B3.k); (try have k5 := B5.k); (try have k6 := B6.k))
    | ((with_reducible refine at_store 24 ?_); refine box_store rfl 24 _ _ rfl _ _ rfl rfl (by with_reducible exact B6) (by kernel_rfl) (by rfl) (by simp [Value.oneCell']) ?_; clear B6; intro w' B6 gg; (try clear k2); (try clear k3); (try clear k5); (try clear k6); replace b0 := below_at b0 gg b0.size n6; (try replace r := r.at gg (Nat.le_trans r.1 (Nat.le_of_lt lr_6)) (Nat.ne_of_gt lr_6)); (try replace B2 := B2.grown gg (Nat.ne_of_lt l2_6)); (try replace B3 := B3.grown gg (Nat.ne_of_lt l3_6)); (try replace B5 := B5.grown gg (Nat.ne_of_lt l5_6)); clear gg; (try have k2 := B2.k); (try have k3 := B3.k); (try have k5 := B5.k); (try have k6 := B6.k))
    | ((with_reducible refine at_store 3 ?_); refine box_int rfl _ _ rfl _ _ _ rfl rfl (by with_reducible exact B6) (by simp) ?_; clear B6; intro w' B6 gg; simp only [List.setIfInBounds_toArray, List.set] at B6; (try clear k2); (try clear k3); (try clear k5); (try clear k6); replace b0 := below_at b0 gg b0.size n6; (try replace r := r.at gg (Nat.le_trans r.1 (Nat.le_of_lt lr_6)) (Nat.ne_of_gt lr_6)); (try replace B2 := B2.grown gg (Nat.ne_of_lt l2_6)); (try replace B3 := B3.grown gg (Nat.ne_of_lt l3_6)); (try replace B5 := B5.grown gg (Nat.ne_of_lt l5_6)); clear gg; (try have k2 := B2.k); (try have k3 := B3.k); (try have k5 := B5.k); (try have k6 := B6.k)))
  refine (pick_any _ _ _ cs 3 _ r (by omega) (by omega)).mono ?_
  clear r
  rintro e w' ⟨k, rfl, hk, r, gg⟩
  (try clear k2)
  (try clear k3)
  (try clear k5)
  (try clear k6)
  replace b0 := below_at b0 gg b0.size (by omega)
  (try replace B2 := B2.grown gg (by omega))
  (try replace B3 := B3.grown gg (by omega))
  (try replace B5 := B5.grown gg (by omega))
  (try replace B6 := B6.grown gg (by omega))
  clear gg
  (try have k2 := B2.k)
  (try have k3 := B3.k)
  (try have k5 := B5.k)
  (try have k6 := B6.k)
  by_cases hk0 : (0 : Int) < (k : Int)
  · go_wp2_with (first
      | ((with_reducible refine at_new 2 24 ?_); refine box_new (d := 2) rfl rfl 24 rfl _ zero_cfg ?_; intro w' B2 bb; have n2 := b0.size; (try have lr_2 := r.lt); (try have l3_2 := B3.lt); (try have l5_2 := B5.lt); (try have l6_2 := B6.lt); (try clear k2); (try clear k3); (try clear k5); (try clear k6); replace b0 := bchain b0 bb; (try replace r := r.kept bb);  (try replace B3 := B3.kept bb); (try replace B5 := B5.kept bb); (try replace B6 := B6.kept bb); clear bb; (try have k2 := B2.k); (try have k3 := B3.k); (try have k5 := B5.k); (try have k6 := B6.k))
      | ((with_reducible refine at_new 3 24 ?_); refine box_new (d := 3) rfl rfl 24 rfl _ zero_cfg ?_; intro w' B3 bb; have n3 := b0.size; (try have lr_3 := r.lt); (try have l2_3 := B2.lt); (try have l5_3 := B5.lt); (try have l6_3 := B6.lt); (try clear k2); (try clear k3); (try clear k5); (try clear k6); replace b0 := bchain b0 bb; (try replace r := r.kept bb); (try replace B2 := B2.kept bb);  (try replace B5 := B5.kept bb); (try replace B6 := B6.kept bb); clear bb; (try have k2 := B2.k); (try have k3 := B3.k); (try have k5 := B5.k); (try have k6 := B6.k))
      | ((with_reducible refine at_new 5 24 ?_); refine box_new (d := 5) rfl rfl 24 rfl _ zero_cfg ?_; intro w' B5 bb; have n5 := b0.size; (try have lr_5 := r.lt); (try have l2_5 := B2.lt); (try have l3_5 := B3.lt); (try have l6_5 := B6.lt); (try clear k2); (try clear k3); (try clear k5); (try clear k6); replace b0 := bchain b0 bb; (try replace r := r.kept bb); (try replace B2 := B2.kept bb); (try replace B3 := B3.kept bb);  (try replace B6 := B6.kept bb); clear bb; (try have k2 := B2.k); (try have k3 := B3.k); (try have k5 := B5.k); (try have k6 := B6.k))
      | ((with_reducible refine at_new 6 24 ?_); refine box_new (d := 6) rfl rfl 24 rfl _ zero_cfg ?_; intro w' B6 bb; have n6 := b0.size; (try have lr_6 := r.lt); (try have l2_6 := B2.lt); (try have l3_6 := B3.lt); (try have l5_6 := B5.lt); (try clear k2); (try clear k3); (try clear k5); (try clear k6); replace b0 := bchain b0 bb; (try replace r := r.kept bb); (try replace B2 := B2.kept bb); (try replace B3 := B3.kept bb); (try replace B5 := B5.kept bb);  clear bb; (try have k2 := B2.k); (try have k3 := B3.k); (try have k5 := B5.k); (try have k6 := B6.k))
      | ((with_reducible refine at_store 24 ?_); refine box_store rfl 24 _ _ rfl _ _ rfl rfl (by with_reducible exact B5) (by kernel_rfl) (by rfl) (by simp [Value.oneCell']) ?_; clear B5; intro w' B5 gg; (try clear k2); (try clear k3); (try clear k5); (try clear k6); replace b0 := below_at b0 gg b0.size n5; (try replace r := r.at gg (Nat.le_trans r.1 (Nat.le_of_lt lr_5)) (Nat.ne_of_gt lr_5)); (try replace B2 := B2.grown gg (Nat.ne_of_lt l2_5)); (try replace B3 := B3.grown gg (Nat.ne_of_lt l3_5)); (try replace B6 := B6.grown gg (Nat.ne_of_gt l5_6)); clear gg; (try have k2 := B2.k); (try have k3 := B3.k); (try have k5 := B5.k); (try have k6 := B6.k))
      | ((with_reducible refine at_store 24 ?_); refine box_store rfl 24 _ _ rfl _ _ rfl rfl (by with_reducible exact B6) (by kernel_rfl) (by rfl) (by simp [Value.oneCell']) ?_; clear B6; intro w' B6 gg; (try clear k2); (try clear k3); (try clear k5); (try clear k6); replace b0 := below_at b0 gg b0.size n6; (try replace r := r.at gg (Nat.le_trans r.1 (Nat.le_of_lt lr_6)) (Nat.ne_of_gt lr_6)); (try replace B2 := B2.grown gg (Nat.ne_of_lt l2_6)); (try replace B3 := B3.grown gg (Nat.ne_of_lt l3_6)); (try replace B5 := B5.grown gg (Nat.ne_of_lt l5_6)); clear gg; (try have k2 := B2.k); (try have k3 := B3.k); (try have k5 := B5.k); (try have k6 := B6.k))
      | ((with_reducible refine at_store 3 ?_); refine box_int rfl _ _ rfl _ _ _ rfl rfl (by with_reducible exact B6) (by simp) ?_; clear B6; intro w' B6 gg; simp only [List.setIfInBounds_toArray, List.set] at B6; (try clear k2); (try clear k3); (try clear k5); (try clear k6); replace b0 := below_at b0 gg b0.size n6; (try replace r := r.at gg (Nat.le_trans r.1 (Nat.le_of_lt lr_6)) (Nat.ne_of_gt lr_6)); (try replace B2 := B2.grown gg (Nat.ne_of_lt l2_6)); (try replace B3 := B3.grown gg (Nat.ne_of_lt l3_6)); (try replace B5 := B5.grown gg (Nat.ne_of_lt l5_6)); clear gg; (try have k2 := B2.k); (try have k3 := B3.k); (try have k5 := B5.k); (try have k6 := B6.k)))
    clear r
    have b1 := b0.drew
    have D2 := B2.drew
    have D3 := B3.drew
    have D5 := B5.drew
    have D6 := B6.drew
    clear b0 B2 B3 B5 B6 k2 k3 k5 k6
    refine region_by (fun w' => Bl w' _ #[.int .i64 x1, .int .i64 x2, .int .i64 x3, .int .i64 x4, .int .i64 x5] 24 ∧ Bl w' _ #[.int .i64 x1, .int .i64 y2, .int .i64 y3, .int .i64 y4, .int .i64 y5] 24) 4 [(0, true), (1, true), (2, false), (3, false)] ⟨none, .assign (.tmp 0), 0, "", #[], none⟩ (by kernel_rfl) (by kernel_rfl) ⟨D5, D6⟩ (fun x _ _ _ _ h => by cases x <;> exact h) ?_
    simp only [arrange, List.map_cons, List.map_nil, List.getD_cons_zero, List.getD_cons_succ]
    generalize World.drew _ = dw at b1 D2 D3 D5 D6 ⊢
    refine by_load rfl 24 _ rfl _ rfl (fun _ h => h.1) Try.underlying24 rfl (by kernel_rfl) ?_
    refine by_load rfl 24 _ rfl _ rfl (fun _ h => h.2) Try.underlying24 rfl (by kernel_rfl) ?_
    refine by_store rfl rfl 24 _ _ rfl _ _ rfl rfl D2 (by kernel_rfl) rfl (by simp [Value.oneCell']) ?_
    intro w1 E2 gg
    replace D5 := D5.grown gg (by omega)
    replace D6 := D6.grown gg (by omega)
    replace D3 := D3.grown gg (by omega)
    replace b1 := below_at b1 gg b1.size (by omega)
    clear gg
    refine ⟨fun _ => ⟨D5, D6⟩, ?_⟩
    refine by_store rfl rfl 24 _ _ rfl _ _ rfl rfl D3 (by kernel_rfl) rfl (by simp [Value.oneCell']) ?_
    intro w2 E3 gg
    replace D5 := D5.grown gg (by omega)
    replace D6 := D6.grown gg (by omega)
    replace E2 := E2.grown gg (by omega)
    replace b1 := below_at b1 gg b1.size (by omega)
    clear gg
    refine ⟨fun _ => ⟨D5, D6⟩, by_nil ?_⟩
    have k2 := E2.k
    have k3 := E3.k
    go_wp2
    refine bodyPost_ret (v := .tuple #[.agg #[.int .i64 x1, .int .i64 x2, .int .i64 x3, .int .i64 x4, .int .i64 x5], .agg #[.int .i64 x1, .int .i64 y2, .int .i64 y3, .int .i64 y4, .int .i64 y5]]) (by simp [results, Try.results25, go_sem, k2, k3]) rfl ⟨_, _, _, _, _, _, _, _, _, _, rfl, hx, ?_, b1⟩
    unfold Drawn at *
    omega
  · go_wp2_with (first
      | ((with_reducible refine at_new 2 24 ?_); refine box_new (d := 2) rfl rfl 24 rfl _ zero_cfg ?_; intro w' B2 bb; have n2 := b0.size; (try have lr_2 := r.lt); (try have l3_2 := B3.lt); (try have l5_2 := B5.lt); (try have l6_2 := B6.lt); (try clear k2); (try clear k3); (try clear k5); (try clear k6); replace b0 := bchain b0 bb; (try replace r := r.kept bb);  (try replace B3 := B3.kept bb); (try replace B5 := B5.kept bb); (try replace B6 := B6.kept bb); clear bb; (try have k2 := B2.k); (try have k3 := B3.k); (try have k5 := B5.k); (try have k6 := B6.k))
      | ((with_reducible refine at_new 3 24 ?_); refine box_new (d := 3) rfl rfl 24 rfl _ zero_cfg ?_; intro w' B3 bb; have n3 := b0.size; (try have lr_3 := r.lt); (try have l2_3 := B2.lt); (try have l5_3 := B5.lt); (try have l6_3 := B6.lt); (try clear k2); (try clear k3); (try clear k5); (try clear k6); replace b0 := bchain b0 bb; (try replace r := r.kept bb); (try replace B2 := B2.kept bb);  (try replace B5 := B5.kept bb); (try replace B6 := B6.kept bb); clear bb; (try have k2 := B2.k); (try have k3 := B3.k); (try have k5 := B5.k); (try have k6 := B6.k))
      | ((with_reducible refine at_new 5 24 ?_); refine box_new (d := 5) rfl rfl 24 rfl _ zero_cfg ?_; intro w' B5 bb; have n5 := b0.size; (try have lr_5 := r.lt); (try have l2_5 := B2.lt); (try have l3_5 := B3.lt); (try have l6_5 := B6.lt); (try clear k2); (try clear k3); (try clear k5); (try clear k6); replace b0 := bchain b0 bb; (try replace r := r.kept bb); (try replace B2 := B2.kept bb); (try replace B3 := B3.kept bb);  (try replace B6 := B6.kept bb); clear bb; (try have k2 := B2.k); (try have k3 := B3.k); (try have k5 := B5.k); (try have k6 := B6.k))
      | ((with_reducible refine at_new 6 24 ?_); refine box_new (d := 6) rfl rfl 24 rfl _ zero_cfg ?_; intro w' B6 bb; have n6 := b0.size; (try have lr_6 := r.lt); (try have l2_6 := B2.lt); (try have l3_6 := B3.lt); (try have l5_6 := B5.lt); (try clear k2); (try clear k3); (try clear k5); (try clear k6); replace b0 := bchain b0 bb; (try replace r := r.kept bb); (try replace B2 := B2.kept bb); (try replace B3 := B3.kept bb); (try replace B5 := B5.kept bb);  clear bb; (try have k2 := B2.k); (try have k3 := B3.k); (try have k5 := B5.k); (try have k6 := B6.k))
      | ((with_reducible refine at_store 24 ?_); refine box_store rfl 24 _ _ rfl _ _ rfl rfl (by with_reducible exact B5) (by kernel_rfl) (by rfl) (by simp [Value.oneCell']) ?_; clear B5; intro w' B5 gg; (try clear k2); (try clear k3); (try clear k5); (try clear k6); replace b0 := below_at b0 gg b0.size n5; (try replace r := r.at gg (Nat.le_trans r.1 (Nat.le_of_lt lr_5)) (Nat.ne_of_gt lr_5)); (try replace B2 := B2.grown gg (Nat.ne_of_lt l2_5)); (try replace B3 := B3.grown gg (Nat.ne_of_lt l3_5)); (try replace B6 := B6.grown gg (Nat.ne_of_gt l5_6)); clear gg; (try have k2 := B2.k); (try have k3 := B3.k); (try have k5 := B5.k); (try have k6 := B6.k))
      | ((with_reducible refine at_store 24 ?_); refine box_store rfl 24 _ _ rfl _ _ rfl rfl (by with_reducible exact B6) (by kernel_rfl) (by rfl) (by simp [Value.oneCell']) ?_; clear B6; intro w' B6 gg; (try clear k2); (try clear k3); (try clear k5); (try clear k6); replace b0 := below_at b0 gg b0.size n6; (try replace r := r.at gg (Nat.le_trans r.1 (Nat.le_of_lt lr_6)) (Nat.ne_of_gt lr_6)); (try replace B2 := B2.grown gg (Nat.ne_of_lt l2_6)); (try replace B3 := B3.grown gg (Nat.ne_of_lt l3_6)); (try replace B5 := B5.grown gg (Nat.ne_of_lt l5_6)); clear gg; (try have k2 := B2.k); (try have k3 := B3.k); (try have k5 := B5.k); (try have k6 := B6.k))
      | ((with_reducible refine at_store 3 ?_); refine box_int rfl _ _ rfl _ _ _ rfl rfl (by with_reducible exact B6) (by simp) ?_; clear B6; intro w' B6 gg; simp only [List.setIfInBounds_toArray, List.set] at B6; (try clear k2); (try clear k3); (try clear k5); (try clear k6); replace b0 := below_at b0 gg b0.size n6; (try replace r := r.at gg (Nat.le_trans r.1 (Nat.le_of_lt lr_6)) (Nat.ne_of_gt lr_6)); (try replace B2 := B2.grown gg (Nat.ne_of_lt l2_6)); (try replace B3 := B3.grown gg (Nat.ne_of_lt l3_6)); (try replace B5 := B5.grown gg (Nat.ne_of_lt l5_6)); clear gg; (try have k2 := B2.k); (try have k3 := B3.k); (try have k5 := B5.k); (try have k6 := B6.k)))
    clear r
    have b1 := b0.drew
    have D2 := B2.drew
    have D3 := B3.drew
    have D5 := B5.drew
    have D6 := B6.drew
    clear b0 B2 B3 B5 B6 k2 k3 k5 k6
    refine region_by (fun w' => Bl w' _ #[.int .i64 x1, .int .i64 x2, .int .i64 x3, .int .i64 x4, .int .i64 x5] 24 ∧ Bl w' _ #[.int .i64 y1, .int .i64 y2, .int .i64 y3, .int .i64 y4, .int .i64 y5] 24) 4 [(0, true), (1, true), (2, false), (3, false)] ⟨none, .assign (.tmp 0), 0, "", #[], none⟩ (by kernel_rfl) (by kernel_rfl) ⟨D5, D6⟩ (fun x _ _ _ _ h => by cases x <;> exact h) ?_
    simp only [arrange, List.map_cons, List.map_nil, List.getD_cons_zero, List.getD_cons_succ]
    generalize World.drew _ = dw at b1 D2 D3 D5 D6 ⊢
    refine by_load rfl 24 _ rfl _ rfl (fun _ h => h.1) Try.underlying24 rfl (by kernel_rfl) ?_
    refine by_load rfl 24 _ rfl _ rfl (fun _ h => h.2) Try.underlying24 rfl (by kernel_rfl) ?_
    refine by_store rfl rfl 24 _ _ rfl _ _ rfl rfl D2 (by kernel_rfl) rfl (by simp [Value.oneCell']) ?_
    intro w1 E2 gg
    replace D5 := D5.grown gg (by omega)
    replace D6 := D6.grown gg (by omega)
    replace D3 := D3.grown gg (by omega)
    replace b1 := below_at b1 gg b1.size (by omega)
    clear gg
    refine ⟨fun _ => ⟨D5, D6⟩, ?_⟩
    refine by_store rfl rfl 24 _ _ rfl _ _ rfl rfl D3 (by kernel_rfl) rfl (by simp [Value.oneCell']) ?_
    intro w2 E3 gg
    replace D5 := D5.grown gg (by omega)
    replace D6 := D6.grown gg (by omega)
    replace E2 := E2.grown gg (by omega)
    replace b1 := below_at b1 gg b1.size (by omega)
    clear gg
    refine ⟨fun _ => ⟨D5, D6⟩, by_nil ?_⟩
    have k2 := E2.k
    have k3 := E3.k
    go_wp2
    refine bodyPost_ret (v := .tuple #[.agg #[.int .i64 x1, .int .i64 x2, .int .i64 x3, .int .i64 x4, .int .i64 x5], .agg #[.int .i64 y1, .int .i64 y2, .int .i64 y3, .int .i64 y4, .int .i64 y5]]) (by simp [results, Try.results25, go_sem, k2, k3]) rfl ⟨_, _, _, _, _, _, _, _, _, _, rfl, hx, ?_, b1⟩
    exact hy
end Go.Proofs.Ytmciofamcdekaaa
