/- Who grants credits, drawn. -/
import Derived.Test.YtkogmnjgpaocbaaDrawJoin
namespace Go.Proofs.Ytkogmnjgpaocbaa
open Go.RowKit
theorem zero_crx (w : World) : (zeroValue 32).run Try.prog w = .ok (.agg #[.int .i64 0, .int .i64 0, .slice none 0 0, .bool false]) w := by kernel_rfl
set_option maxRecDepth 100000 in
set_option maxHeartbeats 8000000 in
theorem crx_any (B g p : Nat) (zs : List Nat) (n : Nat) (w : World) (h : Rdr w B g p zs) (hp : p ≤ 600000000) (hn : n < 1000000) :
    Calls Try.prog 60 #[.pointer (some ⟨g, 0, none⟩), .int .i64 n] w fun e w' => ∃ (out len : Int) (a : Option Addr) (k cap : Nat) (de : Bool) (p' : Nat), e = .returned (.agg #[.int .i64 out, .int .i64 len, .slice a k cap, .bool de]) ∧ k ≤ 25 ∧ p' ≤ p + 3000 ∧ Rdr w' B g p' zs ∧ w.grownBy w' (some g) := by
  have hg := h.lt
  have hgB := h.1
  have r := h
  have gw : w.grownBy w (some g) := grown_refl _ _
  go_enter Try.func60, Try.ntmps60
  go_wp2_with (first
    | ((with_reducible refine at_new 4 32 ?_); refine box_new (d := 4) rfl rfl 32 rfl _ zero_crx ?_; intro w' B4 bb; have n4 := gw.size; (try have lr_4 := r.lt); (try have l5_4 := B5.lt); (try have lL_4 := BL.lt); (try clear k5); replace gw := grown_trans gw (grown_below bb _); (try replace r := r.kept bb);  (try replace B5 := B5.kept bb); (try replace BL := BL.kept bb); clear bb; (try have k5 := B5.k))
    | ((with_reducible refine at_new 5 32 ?_); refine box_new (d := 5) rfl rfl 32 rfl _ zero_crx ?_; intro w' B5 bb; have n5 := gw.size; (try have lr_5 := r.lt); (try have l4_5 := B4.lt); (try have lL_5 := BL.lt); (try clear k5); replace gw := grown_trans gw (grown_below bb _); (try replace r := r.kept bb); (try replace B4 := B4.kept bb);  (try replace BL := BL.kept bb); clear bb; (try have k5 := B5.k))
    | ((with_reducible refine at_load 32 ?_); refine box_load rfl 32 _ rfl _ rfl (by with_reducible assumption) Try.underlying32 rfl (by kernel_rfl) ?_)
    | ((with_reducible refine at_store 32 ?_); refine box_store rfl 32 _ _ rfl _ _ rfl rfl (by with_reducible exact B5) (by kernel_rfl) (by rfl) (by simp [Value.oneCell']) ?_; clear B5; intro w' B5 gg; (try clear k5); replace gw := grown_new gw gg (fun q e => by cases e; exact n5); (try replace r := r.at gg (by omega) (by omega)); (try replace B4 := B4.grown gg (Nat.ne_of_lt l4_5)); (try replace BL := BL.grown gg (Nat.ne_of_gt l5_L)); clear gg; (try have k5 := B5.k))
    | ((with_reducible refine at_store 32 ?_); refine box_store rfl 32 _ _ rfl _ _ rfl rfl (by with_reducible exact B4) (by kernel_rfl) (by rfl) (by simp [Value.oneCell']) ?_; clear B4; intro w' B4 gg; (try clear k5); replace gw := grown_new gw gg (fun q e => by cases e; exact n4); (try replace r := r.at gg (by omega) (by omega)); (try replace B5 := B5.grown gg (Nat.ne_of_gt l4_5)); (try replace BL := BL.grown gg (Nat.ne_of_gt l4_L)); clear gg; (try have k5 := B5.k))
    | ((with_reducible refine at_store 3 ?_); refine box_int rfl _ _ rfl _ _ _ rfl rfl (by with_reducible exact B5) (by simp) ?_; clear B5; intro w' B5 gg; simp only [List.setIfInBounds_toArray, List.set] at B5; (try clear k5); replace gw := grown_new gw gg (fun q e => by cases e; exact n5); (try replace r := r.at gg (by omega) (by omega)); (try replace B4 := B4.grown gg (Nat.ne_of_lt l4_5)); (try replace BL := BL.grown gg (Nat.ne_of_gt l5_L)); clear gg; (try have k5 := B5.k))
    | ((with_reducible refine at_store 24 ?_); refine box_part rfl 24 _ _ rfl _ _ _ rfl rfl (by with_reducible exact B5) (by kernel_rfl) (by simp) (by simp [Value.oneCell']) ?_; clear B5; intro w' B5 gg; simp only [putAt, List.setIfInBounds_toArray, List.set, Nat.reduceAdd] at B5; (try clear k5); replace gw := grown_new gw gg (fun q e => by cases e; exact n5); (try replace r := r.at gg (by omega) (by omega)); (try replace B4 := B4.grown gg (Nat.ne_of_lt l4_5)); (try replace BL := BL.grown gg (Nat.ne_of_gt l5_L)); clear gg; (try have k5 := B5.k)))
  refine (pick_any _ _ _ zs 7 _ r (by omega) (by omega)).mono ?_
  clear r
  rintro e w' ⟨out, rfl, hout, r, gg⟩
  (try clear k5)
  replace gw := grown_trans gw gg
  (try replace B4 := B4.grown gg (by omega))
  (try replace B5 := B5.grown gg (by omega))
  (try replace BL := BL.grown gg (by omega))
  clear gg
  (try have k5 := B5.k)
  go_wp2_with (first
    | ((with_reducible refine at_new 4 32 ?_); refine box_new (d := 4) rfl rfl 32 rfl _ zero_crx ?_; intro w' B4 bb; have n4 := gw.size; (try have lr_4 := r.lt); (try have l5_4 := B5.lt); (try have lL_4 := BL.lt); (try clear k5); replace gw := grown_trans gw (grown_below bb _); (try replace r := r.kept bb);  (try replace B5 := B5.kept bb); (try replace BL := BL.kept bb); clear bb; (try have k5 := B5.k))
    | ((with_reducible refine at_new 5 32 ?_); refine box_new (d := 5) rfl rfl 32 rfl _ zero_crx ?_; intro w' B5 bb; have n5 := gw.size; (try have lr_5 := r.lt); (try have l4_5 := B4.lt); (try have lL_5 := BL.lt); (try clear k5); replace gw := grown_trans gw (grown_below bb _); (try replace r := r.kept bb); (try replace B4 := B4.kept bb);  (try replace BL := BL.kept bb); clear bb; (try have k5 := B5.k))
    | ((with_reducible refine at_load 32 ?_); refine box_load rfl 32 _ rfl _ rfl (by with_reducible assumption) Try.underlying32 rfl (by kernel_rfl) ?_)
    | ((with_reducible refine at_store 32 ?_); refine box_store rfl 32 _ _ rfl _ _ rfl rfl (by with_reducible exact B5) (by kernel_rfl) (by rfl) (by simp [Value.oneCell']) ?_; clear B5; intro w' B5 gg; (try clear k5); replace gw := grown_new gw gg (fun q e => by cases e; exact n5); (try replace r := r.at gg (by omega) (by omega)); (try replace B4 := B4.grown gg (Nat.ne_of_lt l4_5)); (try replace BL := BL.grown gg (Nat.ne_of_gt l5_L)); clear gg; (try have k5 := B5.k))
    | ((with_reducible refine at_store 32 ?_); refine box_store rfl 32 _ _ rfl _ _ rfl rfl (by with_reducible exact B4) (by kernel_rfl) (by rfl) (by simp [Value.oneCell']) ?_; clear B4; intro w' B4 gg; (try clear k5); replace gw := grown_new gw gg (fun q e => by cases e; exact n4); (try replace r := r.at gg (by omega) (by omega)); (try replace B5 := B5.grown gg (Nat.ne_of_gt l4_5)); (try replace BL := BL.grown gg (Nat.ne_of_gt l4_L)); clear gg; (try have k5 := B5.k))
    | ((with_reducible refine at_store 3 ?_); refine box_int rfl _ _ rfl _ _ _ rfl rfl (by with_reducible exact B5) (by simp) ?_; clear B5; intro w' B5 gg; simp only [List.setIfInBounds_toArray, List.set] at B5; (try clear k5); replace gw := grown_new gw gg (fun q e => by cases e; exact n5); (try replace r := r.at gg (by omega) (by omega)); (try replace B4 := B4.grown gg (Nat.ne_of_lt l4_5)); (try replace BL := BL.grown gg (Nat.ne_of_gt l5_L)); clear gg; (try have k5 := B5.k))
    | ((with_reducible refine at_store 24 ?_); refine box_part rfl 24 _ _ rfl _ _ _ rfl rfl (by with_reducible exact B5) (by kernel_rfl) (by simp) (by simp [Value.oneCell']) ?_; clear B5; intro w' B5 gg; simp only [putAt, List.setIfInBounds_toArray, List.set, Nat.reduceAdd] at B5; (try clear k5); replace gw := grown_new gw gg (fun q e => by cases e; exact n5); (try replace r := r.at gg (by omega) (by omega)); (try replace B4 := B4.grown gg (Nat.ne_of_lt l4_5)); (try replace BL := BL.grown gg (Nat.ne_of_gt l5_L)); clear gg; (try have k5 := B5.k)))
  refine (join_any _ _ _ zs 0 _ r (by omega) (by omega)).mono ?_
  clear r
  rintro e w' ⟨len, a, k, cap, p1, rfl, _, _, hk, hp1, r, gg⟩
  (try clear k5)
  replace gw := grown_trans gw gg
  (try replace B4 := B4.grown gg (by omega))
  (try replace B5 := B5.grown gg (by omega))
  (try replace BL := BL.grown gg (by omega))
  clear gg
  (try have k5 := B5.k)
  go_wp2_with (first
    | ((with_reducible refine at_new 4 32 ?_); refine box_new (d := 4) rfl rfl 32 rfl _ zero_crx ?_; intro w' B4 bb; have n4 := gw.size; (try have lr_4 := r.lt); (try have l5_4 := B5.lt); (try have lL_4 := BL.lt); (try clear k5); replace gw := grown_trans gw (grown_below bb _); (try replace r := r.kept bb);  (try replace B5 := B5.kept bb); (try replace BL := BL.kept bb); clear bb; (try have k5 := B5.k))
    | ((with_reducible refine at_new 5 32 ?_); refine box_new (d := 5) rfl rfl 32 rfl _ zero_crx ?_; intro w' B5 bb; have n5 := gw.size; (try have lr_5 := r.lt); (try have l4_5 := B4.lt); (try have lL_5 := BL.lt); (try clear k5); replace gw := grown_trans gw (grown_below bb _); (try replace r := r.kept bb); (try replace B4 := B4.kept bb);  (try replace BL := BL.kept bb); clear bb; (try have k5 := B5.k))
    | ((with_reducible refine at_load 32 ?_); refine box_load rfl 32 _ rfl _ rfl (by with_reducible assumption) Try.underlying32 rfl (by kernel_rfl) ?_)
    | ((with_reducible refine at_store 32 ?_); refine box_store rfl 32 _ _ rfl _ _ rfl rfl (by with_reducible exact B5) (by kernel_rfl) (by rfl) (by simp [Value.oneCell']) ?_; clear B5; intro w' B5 gg; (try clear k5); replace gw := grown_new gw gg (fun q e => by cases e; exact n5); (try replace r := r.at gg (by omega) (by omega)); (try replace B4 := B4.grown gg (Nat.ne_of_lt l4_5)); (try replace BL := BL.grown gg (Nat.ne_of_gt l5_L)); clear gg; (try have k5 := B5.k))
    | ((with_reducible refine at_store 32 ?_); refine box_store rfl 32 _ _ rfl _ _ rfl rfl (by with_reducible exact B4) (by kernel_rfl) (by rfl) (by simp [Value.oneCell']) ?_; clear B4; intro w' B4 gg; (try clear k5); replace gw := grown_new gw gg (fun q e => by cases e; exact n4); (try replace r := r.at gg (by omega) (by omega)); (try replace B5 := B5.grown gg (Nat.ne_of_gt l4_5)); (try replace BL := BL.grown gg (Nat.ne_of_gt l4_L)); clear gg; (try have k5 := B5.k))
    | ((with_reducible refine at_store 3 ?_); refine box_int rfl _ _ rfl _ _ _ rfl rfl (by with_reducible exact B5) (by simp) ?_; clear B5; intro w' B5 gg; simp only [List.setIfInBounds_toArray, List.set] at B5; (try clear k5); replace gw := grown_new gw gg (fun q e => by cases e; exact n5); (try replace r := r.at gg (by omega) (by omega)); (try replace B4 := B4.grown gg (Nat.ne_of_lt l4_5)); (try replace BL := BL.grown gg (Nat.ne_of_gt l5_L)); clear gg; (try have k5 := B5.k))
    | ((with_reducible refine at_store 24 ?_); refine box_part rfl 24 _ _ rfl _ _ _ rfl rfl (by with_reducible exact B5) (by kernel_rfl) (by simp) (by simp [Value.oneCell']) ?_; clear B5; intro w' B5 gg; simp only [putAt, List.setIfInBounds_toArray, List.set, Nat.reduceAdd] at B5; (try clear k5); replace gw := grown_new gw gg (fun q e => by cases e; exact n5); (try replace r := r.at gg (by omega) (by omega)); (try replace B4 := B4.grown gg (Nat.ne_of_lt l4_5)); (try replace BL := BL.grown gg (Nat.ne_of_gt l5_L)); clear gg; (try have k5 := B5.k)))
  refine (pick_any _ _ _ zs 12 _ r (by omega) (by omega)).mono ?_
  clear r
  rintro e w' ⟨dq, rfl, hdq, r, gg⟩
  (try clear k5)
  replace gw := grown_trans gw gg
  (try replace B4 := B4.grown gg (by omega))
  (try replace B5 := B5.grown gg (by omega))
  (try replace BL := BL.grown gg (by omega))
  clear gg
  (try have k5 := B5.k)
  go_wp2_with (first
    | ((with_reducible refine at_new 4 32 ?_); refine box_new (d := 4) rfl rfl 32 rfl _ zero_crx ?_; intro w' B4 bb; have n4 := gw.size; (try have lr_4 := r.lt); (try have l5_4 := B5.lt); (try have lL_4 := BL.lt); (try clear k5); replace gw := grown_trans gw (grown_below bb _); (try replace r := r.kept bb);  (try replace B5 := B5.kept bb); (try replace BL := BL.kept bb); clear bb; (try have k5 := B5.k))
    | ((with_reducible refine at_new 5 32 ?_); refine box_new (d := 5) rfl rfl 32 rfl _ zero_crx ?_; intro w' B5 bb; have n5 := gw.size; (try have lr_5 := r.lt); (try have l4_5 := B4.lt); (try have lL_5 := BL.lt); (try clear k5); replace gw := grown_trans gw (grown_below bb _); (try replace r := r.kept bb); (try replace B4 := B4.kept bb);  (try replace BL := BL.kept bb); clear bb; (try have k5 := B5.k))
    | ((with_reducible refine at_load 32 ?_); refine box_load rfl 32 _ rfl _ rfl (by with_reducible assumption) Try.underlying32 rfl (by kernel_rfl) ?_)
    | ((with_reducible refine at_store 32 ?_); refine box_store rfl 32 _ _ rfl _ _ rfl rfl (by with_reducible exact B5) (by kernel_rfl) (by rfl) (by simp [Value.oneCell']) ?_; clear B5; intro w' B5 gg; (try clear k5); replace gw := grown_new gw gg (fun q e => by cases e; exact n5); (try replace r := r.at gg (by omega) (by omega)); (try replace B4 := B4.grown gg (Nat.ne_of_lt l4_5)); (try replace BL := BL.grown gg (Nat.ne_of_gt l5_L)); clear gg; (try have k5 := B5.k))
    | ((with_reducible refine at_store 32 ?_); refine box_store rfl 32 _ _ rfl _ _ rfl rfl (by with_reducible exact B4) (by kernel_rfl) (by rfl) (by simp [Value.oneCell']) ?_; clear B4; intro w' B4 gg; (try clear k5); replace gw := grown_new gw gg (fun q e => by cases e; exact n4); (try replace r := r.at gg (by omega) (by omega)); (try replace B5 := B5.grown gg (Nat.ne_of_gt l4_5)); (try replace BL := BL.grown gg (Nat.ne_of_gt l4_L)); clear gg; (try have k5 := B5.k))
    | ((with_reducible refine at_store 3 ?_); refine box_int rfl _ _ rfl _ _ _ rfl rfl (by with_reducible exact B5) (by simp) ?_; clear B5; intro w' B5 gg; simp only [List.setIfInBounds_toArray, List.set] at B5; (try clear k5); replace gw := grown_new gw gg (fun q e => by cases e; exact n5); (try replace r := r.at gg (by omega) (by omega)); (try replace B4 := B4.grown gg (Nat.ne_of_lt l4_5)); (try replace BL := BL.grown gg (Nat.ne_of_gt l5_L)); clear gg; (try have k5 := B5.k))
    | ((with_reducible refine at_store 24 ?_); refine box_part rfl 24 _ _ rfl _ _ _ rfl rfl (by with_reducible exact B5) (by kernel_rfl) (by simp) (by simp [Value.oneCell']) ?_; clear B5; intro w' B5 gg; simp only [putAt, List.setIfInBounds_toArray, List.set, Nat.reduceAdd] at B5; (try clear k5); replace gw := grown_new gw gg (fun q e => by cases e; exact n5); (try replace r := r.at gg (by omega) (by omega)); (try replace B4 := B4.grown gg (Nat.ne_of_lt l4_5)); (try replace BL := BL.grown gg (Nat.ne_of_gt l5_L)); clear gg; (try have k5 := B5.k)))
  refine (odd_any _ _ _ zs n _ r (by omega) hn).mono ?_
  clear r
  rintro e w' ⟨bad, p3, rfl, _, _, hp3, r, gg⟩
  (try clear k5)
  replace gw := grown_trans gw gg
  (try replace B4 := B4.grown gg (by omega))
  (try replace B5 := B5.grown gg (by omega))
  (try replace BL := BL.grown gg (by omega))
  clear gg
  (try have k5 := B5.k)
  cases bad
  · go_wp2_with (first
      | ((with_reducible refine at_new 4 32 ?_); refine box_new (d := 4) rfl rfl 32 rfl _ zero_crx ?_; intro w' B4 bb; have n4 := gw.size; (try have lr_4 := r.lt); (try have l5_4 := B5.lt); (try have lL_4 := BL.lt); (try clear k5); replace gw := grown_trans gw (grown_below bb _); (try replace r := r.kept bb);  (try replace B5 := B5.kept bb); (try replace BL := BL.kept bb); clear bb; (try have k5 := B5.k))
      | ((with_reducible refine at_new 5 32 ?_); refine box_new (d := 5) rfl rfl 32 rfl _ zero_crx ?_; intro w' B5 bb; have n5 := gw.size; (try have lr_5 := r.lt); (try have l4_5 := B4.lt); (try have lL_5 := BL.lt); (try clear k5); replace gw := grown_trans gw (grown_below bb _); (try replace r := r.kept bb); (try replace B4 := B4.kept bb);  (try replace BL := BL.kept bb); clear bb; (try have k5 := B5.k))
      | ((with_reducible refine at_load 32 ?_); refine box_load rfl 32 _ rfl _ rfl (by with_reducible assumption) Try.underlying32 rfl (by kernel_rfl) ?_)
      | ((with_reducible refine at_store 32 ?_); refine box_store rfl 32 _ _ rfl _ _ rfl rfl (by with_reducible exact B5) (by kernel_rfl) (by rfl) (by simp [Value.oneCell']) ?_; clear B5; intro w' B5 gg; (try clear k5); replace gw := grown_new gw gg (fun q e => by cases e; exact n5); (try replace r := r.at gg (by omega) (by omega)); (try replace B4 := B4.grown gg (Nat.ne_of_lt l4_5)); (try replace BL := BL.grown gg (Nat.ne_of_gt l5_L)); clear gg; (try have k5 := B5.k))
      | ((with_reducible refine at_store 32 ?_); refine box_store rfl 32 _ _ rfl _ _ rfl rfl (by with_reducible exact B4) (by kernel_rfl) (by rfl) (by simp [Value.oneCell']) ?_; clear B4; intro w' B4 gg; (try clear k5); replace gw := grown_new gw gg (fun q e => by cases e; exact n4); (try replace r := r.at gg (by omega) (by omega)); (try replace B5 := B5.grown gg (Nat.ne_of_gt l4_5)); (try replace BL := BL.grown gg (Nat.ne_of_gt l4_L)); clear gg; (try have k5 := B5.k))
      | ((with_reducible refine at_store 3 ?_); refine box_int rfl _ _ rfl _ _ _ rfl rfl (by with_reducible exact B5) (by simp) ?_; clear B5; intro w' B5 gg; simp only [List.setIfInBounds_toArray, List.set] at B5; (try clear k5); replace gw := grown_new gw gg (fun q e => by cases e; exact n5); (try replace r := r.at gg (by omega) (by omega)); (try replace B4 := B4.grown gg (Nat.ne_of_lt l4_5)); (try replace BL := BL.grown gg (Nat.ne_of_gt l5_L)); clear gg; (try have k5 := B5.k))
      | ((with_reducible refine at_store 24 ?_); refine box_part rfl 24 _ _ rfl _ _ _ rfl rfl (by with_reducible exact B5) (by kernel_rfl) (by simp) (by simp [Value.oneCell']) ?_; clear B5; intro w' B5 gg; simp only [putAt, List.setIfInBounds_toArray, List.set, Nat.reduceAdd] at B5; (try clear k5); replace gw := grown_new gw gg (fun q e => by cases e; exact n5); (try replace r := r.at gg (by omega) (by omega)); (try replace B4 := B4.grown gg (Nat.ne_of_lt l4_5)); (try replace BL := BL.grown gg (Nat.ne_of_gt l5_L)); clear gg; (try have k5 := B5.k)))
    refine bodyPost_ret (results_cell_row rfl _ _ _ _ _ _ _ rfl B4 Try.underlying32 rfl (by kernel_rfl)) rfl ?_
    exact ⟨_, _, _, _, _, _, _, rfl, by omega, by omega, r, gw⟩
  · go_wp2_with (first
      | ((with_reducible refine at_new 4 32 ?_); refine box_new (d := 4) rfl rfl 32 rfl _ zero_crx ?_; intro w' B4 bb; have n4 := gw.size; (try have lr_4 := r.lt); (try have l5_4 := B5.lt); (try have lL_4 := BL.lt); (try clear k5); replace gw := grown_trans gw (grown_below bb _); (try replace r := r.kept bb);  (try replace B5 := B5.kept bb); (try replace BL := BL.kept bb); clear bb; (try have k5 := B5.k))
      | ((with_reducible refine at_new 5 32 ?_); refine box_new (d := 5) rfl rfl 32 rfl _ zero_crx ?_; intro w' B5 bb; have n5 := gw.size; (try have lr_5 := r.lt); (try have l4_5 := B4.lt); (try have lL_5 := BL.lt); (try clear k5); replace gw := grown_trans gw (grown_below bb _); (try replace r := r.kept bb); (try replace B4 := B4.kept bb);  (try replace BL := BL.kept bb); clear bb; (try have k5 := B5.k))
      | ((with_reducible refine at_load 32 ?_); refine box_load rfl 32 _ rfl _ rfl (by with_reducible assumption) Try.underlying32 rfl (by kernel_rfl) ?_)
      | ((with_reducible refine at_store 32 ?_); refine box_store rfl 32 _ _ rfl _ _ rfl rfl (by with_reducible exact B5) (by kernel_rfl) (by rfl) (by simp [Value.oneCell']) ?_; clear B5; intro w' B5 gg; (try clear k5); replace gw := grown_new gw gg (fun q e => by cases e; exact n5); (try replace r := r.at gg (by omega) (by omega)); (try replace B4 := B4.grown gg (Nat.ne_of_lt l4_5)); (try replace BL := BL.grown gg (Nat.ne_of_gt l5_L)); clear gg; (try have k5 := B5.k))
      | ((with_reducible refine at_store 32 ?_); refine box_store rfl 32 _ _ rfl _ _ rfl rfl (by with_reducible exact B4) (by kernel_rfl) (by rfl) (by simp [Value.oneCell']) ?_; clear B4; intro w' B4 gg; (try clear k5); replace gw := grown_new gw gg (fun q e => by cases e; exact n4); (try replace r := r.at gg (by omega) (by omega)); (try replace B5 := B5.grown gg (Nat.ne_of_gt l4_5)); (try replace BL := BL.grown gg (Nat.ne_of_gt l4_L)); clear gg; (try have k5 := B5.k))
      | ((with_reducible refine at_store 3 ?_); refine box_int rfl _ _ rfl _ _ _ rfl rfl (by with_reducible exact B5) (by simp) ?_; clear B5; intro w' B5 gg; simp only [List.setIfInBounds_toArray, List.set] at B5; (try clear k5); replace gw := grown_new gw gg (fun q e => by cases e; exact n5); (try replace r := r.at gg (by omega) (by omega)); (try replace B4 := B4.grown gg (Nat.ne_of_lt l4_5)); (try replace BL := BL.grown gg (Nat.ne_of_gt l5_L)); clear gg; (try have k5 := B5.k))
      | ((with_reducible refine at_store 24 ?_); refine box_part rfl 24 _ _ rfl _ _ _ rfl rfl (by with_reducible exact B5) (by kernel_rfl) (by simp) (by simp [Value.oneCell']) ?_; clear B5; intro w' B5 gg; simp only [putAt, List.setIfInBounds_toArray, List.set, Nat.reduceAdd] at B5; (try clear k5); replace gw := grown_new gw gg (fun q e => by cases e; exact n5); (try replace r := r.at gg (by omega) (by omega)); (try replace B4 := B4.grown gg (Nat.ne_of_lt l4_5)); (try replace BL := BL.grown gg (Nat.ne_of_gt l5_L)); clear gg; (try have k5 := B5.k)))
    refine (pick_any _ _ _ zs 2 _ r (by omega) (by omega)).mono ?_
    clear r
    rintro e w' ⟨q, rfl, hq, r, gg⟩
    (try clear k5)
    replace gw := grown_trans gw gg
    (try replace B4 := B4.grown gg (by omega))
    (try replace B5 := B5.grown gg (by omega))
    (try replace BL := BL.grown gg (by omega))
    clear gg
    (try have k5 := B5.k)
    rcases (show q = 0 ∨ q = 1 by omega) with rfl | rfl
    · go_wp2_with (first
        | ((with_reducible refine at_new 4 32 ?_); refine box_new (d := 4) rfl rfl 32 rfl _ zero_crx ?_; intro w' B4 bb; have n4 := gw.size; (try have lr_4 := r.lt); (try have l5_4 := B5.lt); (try have lL_4 := BL.lt); (try clear k5); replace gw := grown_trans gw (grown_below bb _); (try replace r := r.kept bb);  (try replace B5 := B5.kept bb); (try replace BL := BL.kept bb); clear bb; (try have k5 := B5.k))
        | ((with_reducible refine at_new 5 32 ?_); refine box_new (d := 5) rfl rfl 32 rfl _ zero_crx ?_; intro w' B5 bb; have n5 := gw.size; (try have lr_5 := r.lt); (try have l4_5 := B4.lt); (try have lL_5 := BL.lt); (try clear k5); replace gw := grown_trans gw (grown_below bb _); (try replace r := r.kept bb); (try replace B4 := B4.kept bb);  (try replace BL := BL.kept bb); clear bb; (try have k5 := B5.k))
        | ((with_reducible refine at_load 32 ?_); refine box_load rfl 32 _ rfl _ rfl (by with_reducible assumption) Try.underlying32 rfl (by kernel_rfl) ?_)
        | ((with_reducible refine at_store 32 ?_); refine box_store rfl 32 _ _ rfl _ _ rfl rfl (by with_reducible exact B5) (by kernel_rfl) (by rfl) (by simp [Value.oneCell']) ?_; clear B5; intro w' B5 gg; (try clear k5); replace gw := grown_new gw gg (fun q e => by cases e; exact n5); (try replace r := r.at gg (by omega) (by omega)); (try replace B4 := B4.grown gg (Nat.ne_of_lt l4_5)); (try replace BL := BL.grown gg (Nat.ne_of_gt l5_L)); clear gg; (try have k5 := B5.k))
        | ((with_reducible refine at_store 32 ?_); refine box_store rfl 32 _ _ rfl _ _ rfl rfl (by with_reducible exact B4) (by kernel_rfl) (by rfl) (by simp [Value.oneCell']) ?_; clear B4; intro w' B4 gg; (try clear k5); replace gw := grown_new gw gg (fun q e => by cases e; exact n4); (try replace r := r.at gg (by omega) (by omega)); (try replace B5 := B5.grown gg (Nat.ne_of_gt l4_5)); (try replace BL := BL.grown gg (Nat.ne_of_gt l4_L)); clear gg; (try have k5 := B5.k))
        | ((with_reducible refine at_store 3 ?_); refine box_int rfl _ _ rfl _ _ _ rfl rfl (by with_reducible exact B5) (by simp) ?_; clear B5; intro w' B5 gg; simp only [List.setIfInBounds_toArray, List.set] at B5; (try clear k5); replace gw := grown_new gw gg (fun q e => by cases e; exact n5); (try replace r := r.at gg (by omega) (by omega)); (try replace B4 := B4.grown gg (Nat.ne_of_lt l4_5)); (try replace BL := BL.grown gg (Nat.ne_of_gt l5_L)); clear gg; (try have k5 := B5.k))
        | ((with_reducible refine at_store 24 ?_); refine box_part rfl 24 _ _ rfl _ _ _ rfl rfl (by with_reducible exact B5) (by kernel_rfl) (by simp) (by simp [Value.oneCell']) ?_; clear B5; intro w' B5 gg; simp only [putAt, List.setIfInBounds_toArray, List.set, Nat.reduceAdd] at B5; (try clear k5); replace gw := grown_new gw gg (fun q e => by cases e; exact n5); (try replace r := r.at gg (by omega) (by omega)); (try replace B4 := B4.grown gg (Nat.ne_of_lt l4_5)); (try replace BL := BL.grown gg (Nat.ne_of_gt l5_L)); clear gg; (try have k5 := B5.k))
        | ((with_reducible refine at_litn 102 ?_); refine lit_row rfl 3 #[.int .i64 (-1), .int .i64 256, .int .i64 255] 3 (fun _ => by simp [execOp, go_sem]) ?_; intro w' BL bb; have nL := gw.size; (try have lr_L := r.lt); (try have l4_L := B4.lt); (try have l5_L := B5.lt); (try clear k5); replace gw := grown_trans gw (grown_below bb _); (try replace r := r.kept bb); (try replace B4 := B4.kept bb); (try replace B5 := B5.kept bb);  clear bb; (try have k5 := B5.k)))
      refine (pick_any _ _ _ zs 3 _ r (by omega) (by omega)).mono ?_
      clear r
      rintro e w' ⟨k4, rfl, hk4, r, gg⟩
      (try clear k5)
      replace gw := grown_trans gw gg
      (try replace B4 := B4.grown gg (by omega))
      (try replace B5 := B5.grown gg (by omega))
      (try replace BL := BL.grown gg (by omega))
      clear gg
      (try have k5 := B5.k)
      obtain ⟨y, cy⟩ : ∃ y : Int, w'.cell? ⟨_, k4, none⟩ = some (.int .i64 y) := by
        rcases (show k4 = 0 ∨ k4 = 1 ∨ k4 = 2 by omega) with rfl | rfl | rfl
        · exact ⟨-1, (BL.k 0).trans rfl⟩
        · exact ⟨256, (BL.k 1).trans rfl⟩
        · exact ⟨255, (BL.k 2).trans rfl⟩
      have hk4i : (k4 : Int) < 3 := by omega
      go_wp2_with (first
        | ((with_reducible refine at_new 4 32 ?_); refine box_new (d := 4) rfl rfl 32 rfl _ zero_crx ?_; intro w' B4 bb; have n4 := gw.size; (try have lr_4 := r.lt); (try have l5_4 := B5.lt); (try have lL_4 := BL.lt); (try clear k5); replace gw := grown_trans gw (grown_below bb _); (try replace r := r.kept bb);  (try replace B5 := B5.kept bb); (try replace BL := BL.kept bb); clear bb; (try have k5 := B5.k))
        | ((with_reducible refine at_new 5 32 ?_); refine box_new (d := 5) rfl rfl 32 rfl _ zero_crx ?_; intro w' B5 bb; have n5 := gw.size; (try have lr_5 := r.lt); (try have l4_5 := B4.lt); (try have lL_5 := BL.lt); (try clear k5); replace gw := grown_trans gw (grown_below bb _); (try replace r := r.kept bb); (try replace B4 := B4.kept bb);  (try replace BL := BL.kept bb); clear bb; (try have k5 := B5.k))
        | ((with_reducible refine at_load 32 ?_); refine box_load rfl 32 _ rfl _ rfl (by with_reducible assumption) Try.underlying32 rfl (by kernel_rfl) ?_)
        | ((with_reducible refine at_store 32 ?_); refine box_store rfl 32 _ _ rfl _ _ rfl rfl (by with_reducible exact B5) (by kernel_rfl) (by rfl) (by simp [Value.oneCell']) ?_; clear B5; intro w' B5 gg; (try clear k5); replace gw := grown_new gw gg (fun q e => by cases e; exact n5); (try replace r := r.at gg (by omega) (by omega)); (try replace B4 := B4.grown gg (Nat.ne_of_lt l4_5)); (try replace BL := BL.grown gg (Nat.ne_of_gt l5_L)); clear gg; (try have k5 := B5.k))
        | ((with_reducible refine at_store 32 ?_); refine box_store rfl 32 _ _ rfl _ _ rfl rfl (by with_reducible exact B4) (by kernel_rfl) (by rfl) (by simp [Value.oneCell']) ?_; clear B4; intro w' B4 gg; (try clear k5); replace gw := grown_new gw gg (fun q e => by cases e; exact n4); (try replace r := r.at gg (by omega) (by omega)); (try replace B5 := B5.grown gg (Nat.ne_of_gt l4_5)); (try replace BL := BL.grown gg (Nat.ne_of_gt l4_L)); clear gg; (try have k5 := B5.k))
        | ((with_reducible refine at_store 3 ?_); refine box_int rfl _ _ rfl _ _ _ rfl rfl (by with_reducible exact B5) (by simp) ?_; clear B5; intro w' B5 gg; simp only [List.setIfInBounds_toArray, List.set] at B5; (try clear k5); replace gw := grown_new gw gg (fun q e => by cases e; exact n5); (try replace r := r.at gg (by omega) (by omega)); (try replace B4 := B4.grown gg (Nat.ne_of_lt l4_5)); (try replace BL := BL.grown gg (Nat.ne_of_gt l5_L)); clear gg; (try have k5 := B5.k))
        | ((with_reducible refine at_store 24 ?_); refine box_part rfl 24 _ _ rfl _ _ _ rfl rfl (by with_reducible exact B5) (by kernel_rfl) (by simp) (by simp [Value.oneCell']) ?_; clear B5; intro w' B5 gg; simp only [putAt, List.setIfInBounds_toArray, List.set, Nat.reduceAdd] at B5; (try clear k5); replace gw := grown_new gw gg (fun q e => by cases e; exact n5); (try replace r := r.at gg (by omega) (by omega)); (try replace B4 := B4.grown gg (Nat.ne_of_lt l4_5)); (try replace BL := BL.grown gg (Nat.ne_of_gt l5_L)); clear gg; (try have k5 := B5.k)))
      refine bodyPost_ret (results_cell_row rfl _ _ _ _ _ _ _ rfl B4 Try.underlying32 rfl (by kernel_rfl)) rfl ?_
      exact ⟨_, _, _, _, _, _, _, rfl, by omega, by omega, r, gw⟩
    · go_wp2_with (first
        | ((with_reducible refine at_new 4 32 ?_); refine box_new (d := 4) rfl rfl 32 rfl _ zero_crx ?_; intro w' B4 bb; have n4 := gw.size; (try have lr_4 := r.lt); (try have l5_4 := B5.lt); (try have lL_4 := BL.lt); (try clear k5); replace gw := grown_trans gw (grown_below bb _); (try replace r := r.kept bb);  (try replace B5 := B5.kept bb); (try replace BL := BL.kept bb); clear bb; (try have k5 := B5.k))
        | ((with_reducible refine at_new 5 32 ?_); refine box_new (d := 5) rfl rfl 32 rfl _ zero_crx ?_; intro w' B5 bb; have n5 := gw.size; (try have lr_5 := r.lt); (try have l4_5 := B4.lt); (try have lL_5 := BL.lt); (try clear k5); replace gw := grown_trans gw (grown_below bb _); (try replace r := r.kept bb); (try replace B4 := B4.kept bb);  (try replace BL := BL.kept bb); clear bb; (try have k5 := B5.k))
        | ((with_reducible refine at_load 32 ?_); refine box_load rfl 32 _ rfl _ rfl (by with_reducible assumption) Try.underlying32 rfl (by kernel_rfl) ?_)
        | ((with_reducible refine at_store 32 ?_); refine box_store rfl 32 _ _ rfl _ _ rfl rfl (by with_reducible exact B5) (by kernel_rfl) (by rfl) (by simp [Value.oneCell']) ?_; clear B5; intro w' B5 gg; (try clear k5); replace gw := grown_new gw gg (fun q e => by cases e; exact n5); (try replace r := r.at gg (by omega) (by omega)); (try replace B4 := B4.grown gg (Nat.ne_of_lt l4_5)); (try replace BL := BL.grown gg (Nat.ne_of_gt l5_L)); clear gg; (try have k5 := B5.k))
        | ((with_reducible refine at_store 32 ?_); refine box_store rfl 32 _ _ rfl _ _ rfl rfl (by with_reducible exact B4) (by kernel_rfl) (by rfl) (by simp [Value.oneCell']) ?_; clear B4; intro w' B4 gg; (try clear k5); replace gw := grown_new gw gg (fun q e => by cases e; exact n4); (try replace r := r.at gg (by omega) (by omega)); (try replace B5 := B5.grown gg (Nat.ne_of_gt l4_5)); (try replace BL := BL.grown gg (Nat.ne_of_gt l4_L)); clear gg; (try have k5 := B5.k))
        | ((with_reducible refine at_store 3 ?_); refine box_int rfl _ _ rfl _ _ _ rfl rfl (by with_reducible exact B5) (by simp) ?_; clear B5; intro w' B5 gg; simp only [List.setIfInBounds_toArray, List.set] at B5; (try clear k5); replace gw := grown_new gw gg (fun q e => by cases e; exact n5); (try replace r := r.at gg (by omega) (by omega)); (try replace B4 := B4.grown gg (Nat.ne_of_lt l4_5)); (try replace BL := BL.grown gg (Nat.ne_of_gt l5_L)); clear gg; (try have k5 := B5.k))
        | ((with_reducible refine at_store 24 ?_); refine box_part rfl 24 _ _ rfl _ _ _ rfl rfl (by with_reducible exact B5) (by kernel_rfl) (by simp) (by simp [Value.oneCell']) ?_; clear B5; intro w' B5 gg; simp only [putAt, List.setIfInBounds_toArray, List.set, Nat.reduceAdd] at B5; (try clear k5); replace gw := grown_new gw gg (fun q e => by cases e; exact n5); (try replace r := r.at gg (by omega) (by omega)); (try replace B4 := B4.grown gg (Nat.ne_of_lt l4_5)); (try replace BL := BL.grown gg (Nat.ne_of_gt l5_L)); clear gg; (try have k5 := B5.k)))
      refine (join_any _ _ _ zs 1 _ r (by omega) (by omega)).mono ?_
      clear r
      rintro e w' ⟨len2, a2, k2, cap2, p5, rfl, _, _, hk2, hp5, r, gg⟩
      (try clear k5)
      replace gw := grown_trans gw gg
      (try replace B4 := B4.grown gg (by omega))
      (try replace B5 := B5.grown gg (by omega))
      (try replace BL := BL.grown gg (by omega))
      clear gg
      (try have k5 := B5.k)
      go_wp2_with (first
        | ((with_reducible refine at_new 4 32 ?_); refine box_new (d := 4) rfl rfl 32 rfl _ zero_crx ?_; intro w' B4 bb; have n4 := gw.size; (try have lr_4 := r.lt); (try have l5_4 := B5.lt); (try have lL_4 := BL.lt); (try clear k5); replace gw := grown_trans gw (grown_below bb _); (try replace r := r.kept bb);  (try replace B5 := B5.kept bb); (try replace BL := BL.kept bb); clear bb; (try have k5 := B5.k))
        | ((with_reducible refine at_new 5 32 ?_); refine box_new (d := 5) rfl rfl 32 rfl _ zero_crx ?_; intro w' B5 bb; have n5 := gw.size; (try have lr_5 := r.lt); (try have l4_5 := B4.lt); (try have lL_5 := BL.lt); (try clear k5); replace gw := grown_trans gw (grown_below bb _); (try replace r := r.kept bb); (try replace B4 := B4.kept bb);  (try replace BL := BL.kept bb); clear bb; (try have k5 := B5.k))
        | ((with_reducible refine at_load 32 ?_); refine box_load rfl 32 _ rfl _ rfl (by with_reducible assumption) Try.underlying32 rfl (by kernel_rfl) ?_)
        | ((with_reducible refine at_store 32 ?_); refine box_store rfl 32 _ _ rfl _ _ rfl rfl (by with_reducible exact B5) (by kernel_rfl) (by rfl) (by simp [Value.oneCell']) ?_; clear B5; intro w' B5 gg; (try clear k5); replace gw := grown_new gw gg (fun q e => by cases e; exact n5); (try replace r := r.at gg (by omega) (by omega)); (try replace B4 := B4.grown gg (Nat.ne_of_lt l4_5)); (try replace BL := BL.grown gg (Nat.ne_of_gt l5_L)); clear gg; (try have k5 := B5.k))
        | ((with_reducible refine at_store 32 ?_); refine box_store rfl 32 _ _ rfl _ _ rfl rfl (by with_reducible exact B4) (by kernel_rfl) (by rfl) (by simp [Value.oneCell']) ?_; clear B4; intro w' B4 gg; (try clear k5); replace gw := grown_new gw gg (fun q e => by cases e; exact n4); (try replace r := r.at gg (by omega) (by omega)); (try replace B5 := B5.grown gg (Nat.ne_of_gt l4_5)); (try replace BL := BL.grown gg (Nat.ne_of_gt l4_L)); clear gg; (try have k5 := B5.k))
        | ((with_reducible refine at_store 3 ?_); refine box_int rfl _ _ rfl _ _ _ rfl rfl (by with_reducible exact B5) (by simp) ?_; clear B5; intro w' B5 gg; simp only [List.setIfInBounds_toArray, List.set] at B5; (try clear k5); replace gw := grown_new gw gg (fun q e => by cases e; exact n5); (try replace r := r.at gg (by omega) (by omega)); (try replace B4 := B4.grown gg (Nat.ne_of_lt l4_5)); (try replace BL := BL.grown gg (Nat.ne_of_gt l5_L)); clear gg; (try have k5 := B5.k))
        | ((with_reducible refine at_store 24 ?_); refine box_part rfl 24 _ _ rfl _ _ _ rfl rfl (by with_reducible exact B5) (by kernel_rfl) (by simp) (by simp [Value.oneCell']) ?_; clear B5; intro w' B5 gg; simp only [putAt, List.setIfInBounds_toArray, List.set, Nat.reduceAdd] at B5; (try clear k5); replace gw := grown_new gw gg (fun q e => by cases e; exact n5); (try replace r := r.at gg (by omega) (by omega)); (try replace B4 := B4.grown gg (Nat.ne_of_lt l4_5)); (try replace BL := BL.grown gg (Nat.ne_of_gt l5_L)); clear gg; (try have k5 := B5.k)))
      refine bodyPost_ret (results_cell_row rfl _ _ _ _ _ _ _ rfl B4 Try.underlying32 rfl (by kernel_rfl)) rfl ?_
      exact ⟨_, _, _, _, _, _, _, rfl, by omega, by omega, r, gw⟩
set_option maxRecDepth 100000 in
set_option maxHeartbeats 2000000 in
theorem drawCrx_any (v : Value) (zs : List Nat) (w : World) (h : Rd w v zs) :
    Calls Try.prog 17 #[v] w fun e w' => ∃ (out len : Int) (a : Option Addr) (k cap : Nat) (de : Bool), e = .returned (.agg #[.int .i64 out, .int .i64 len, .slice a k cap, .bool de]) ∧ Below w.heap.size w w' := by
  have b0 : Below w.heap.size w w := Below.refl _ _
  go_enter Try.func17, Try.ntmps17
  go_wp2_with (first
    | ((with_reducible refine at_new 2 32 ?_); refine box_new (d := 2) rfl rfl 32 rfl _ zero_crx ?_; intro w' B2 bb; have n2 := b0.size; (try have lr_2 := r.lt);   replace b0 := bchain b0 bb; (try replace r := r.kept bb);  clear bb; skip)
    | ((with_reducible refine at_store 32 ?_); refine box_store rfl 32 _ _ rfl _ _ rfl rfl (by with_reducible exact B2) (by kernel_rfl) (by rfl) (by simp [Value.oneCell']) ?_; clear B2; intro w' B2 gg;  replace b0 := below_at b0 gg b0.size n2; (try replace r := r.at gg (Nat.le_trans r.1 (Nat.le_of_lt lr_2)) (Nat.ne_of_gt lr_2));  clear gg; skip))
  refine (open_any v zs _ (h.kept b0)).mono ?_
  have nr := b0.size
  have l2_r := B2.lt
  rintro e w' ⟨rfl, ⟨cs, r⟩, bb⟩
  replace b0 := bchain b0 bb
  (try replace B2 := B2.kept bb)
  clear bb
  skip
  go_wp2_with (first
    | ((with_reducible refine at_new 2 32 ?_); refine box_new (d := 2) rfl rfl 32 rfl _ zero_crx ?_; intro w' B2 bb; have n2 := b0.size; (try have lr_2 := r.lt);   replace b0 := bchain b0 bb; (try replace r := r.kept bb);  clear bb; skip)
    | ((with_reducible refine at_store 32 ?_); refine box_store rfl 32 _ _ rfl _ _ rfl rfl (by with_reducible exact B2) (by kernel_rfl) (by rfl) (by simp [Value.oneCell']) ?_; clear B2; intro w' B2 gg;  replace b0 := below_at b0 gg b0.size n2; (try replace r := r.at gg (Nat.le_trans r.1 (Nat.le_of_lt lr_2)) (Nat.ne_of_gt lr_2));  clear gg; skip))
  refine (crx_any _ _ _ cs 2 _ r (by omega) (by omega)).mono ?_
  clear r
  rintro e w' ⟨out, len, a, k, cap, de, p1, rfl, _, _, r, gg⟩
  replace b0 := below_at b0 gg b0.size (by omega)
  (try replace B2 := B2.grown gg (by omega))
  clear gg
  skip
  go_wp2_with (first
    | ((with_reducible refine at_new 2 32 ?_); refine box_new (d := 2) rfl rfl 32 rfl _ zero_crx ?_; intro w' B2 bb; have n2 := b0.size; (try have lr_2 := r.lt);   replace b0 := bchain b0 bb; (try replace r := r.kept bb);  clear bb; skip)
    | ((with_reducible refine at_store 32 ?_); refine box_store rfl 32 _ _ rfl _ _ rfl rfl (by with_reducible exact B2) (by kernel_rfl) (by rfl) (by simp [Value.oneCell']) ?_; clear B2; intro w' B2 gg;  replace b0 := below_at b0 gg b0.size n2; (try replace r := r.at gg (Nat.le_trans r.1 (Nat.le_of_lt lr_2)) (Nat.ne_of_gt lr_2));  clear gg; skip))
  refine bodyPost_ret (results_cell_row rfl _ _ _ _ _ _ _ rfl B2 Try.underlying32 rfl (by kernel_rfl)) rfl ?_
  exact ⟨_, _, _, _, _, _, rfl, b0⟩
end Go.Proofs.Ytkogmnjgpaocbaa
