/- What has come of a message, drawn: a length and some bytes. -/
import Derived.Test.YtkogmnjgpaocbaaBoxSlice
import Derived.Test.YtkogmnjgpaocbaaDrawMsg
namespace Go.Proofs.Ytkogmnjgpaocbaa
open Go.RowKit
theorem zero_join (w : World) : (zeroValue 24).run Try.prog w = .ok (.agg #[.int .i64 0, .slice none 0 0]) w := by kernel_rfl
theorem own_slice {w : World} {B : Nat} {v : Value} {zs : List Nat} (h : Own w B v zs) : ∃ a c, v = .slice a zs.length c := by
  rcases h.2 with ⟨h, h0⟩ | ⟨g, cap, cur, h, _⟩
  · exact ⟨_, _, by rw [h, h0]⟩
  · exact ⟨_, _, h⟩
set_option maxRecDepth 100000 in
set_option maxHeartbeats 8000000 in
theorem join_any (B g p : Nat) (zs : List Nat) (n : Nat) (w : World) (h : Rdr w B g p zs) (hp : p ≤ 700000000) (hn : n < 1000000) :
    Calls Try.prog 90 #[.pointer (some ⟨g, 0, none⟩), .int .i64 n] w fun e w' => ∃ (len : Int) (a : Option Addr) (k cap p' : Nat), e = .returned (.agg #[.int .i64 len, .slice a k cap]) ∧ -1 ≤ len ∧ len ≤ 25 ∧ k ≤ 25 ∧ p' ≤ p + 1000 ∧ Rdr w' B g p' zs ∧ w.grownBy w' (some g) := by
  have hg := h.lt
  have hgB := h.1
  have r := h
  have gw : w.grownBy w (some g) := grown_refl _ _
  go_enter Try.func90, Try.ntmps90
  go_wp2_with (first
    | ((with_reducible refine at_new 4 24 ?_); refine box_new (d := 4) rfl rfl 24 rfl _ zero_join ?_; intro w' B4 bb; have n4 := gw.size; (try have lr_4 := r.lt); (try have l5_4 := B5.lt); (try clear k5); replace gw := grown_trans gw (grown_below bb _); (try replace r := r.kept bb);  (try replace B5 := B5.kept bb); clear bb; (try have k5 := B5.k))
    | ((with_reducible refine at_new 5 24 ?_); refine box_new (d := 5) rfl rfl 24 rfl _ zero_join ?_; intro w' B5 bb; have n5 := gw.size; (try have lr_5 := r.lt); (try have l4_5 := B4.lt); (try clear k5); replace gw := grown_trans gw (grown_below bb _); (try replace r := r.kept bb); (try replace B4 := B4.kept bb);  clear bb; (try have k5 := B5.k))
    | ((with_reducible refine at_load 24 ?_); refine box_load rfl 24 _ rfl _ rfl (by with_reducible assumption) Try.underlying24 rfl (by kernel_rfl) ?_)
    | ((with_reducible refine at_store 24 ?_); refine box_store rfl 24 _ _ rfl _ _ rfl rfl (by with_reducible exact B5) (by kernel_rfl) (by rfl) (by simp [Value.oneCell']) ?_; clear B5; intro w' B5 gg; (try clear k5); replace gw := grown_new gw gg (fun q e => by cases e; exact n5); (try replace r := r.at gg (by omega) (by omega)); (try replace B4 := B4.grown gg (Nat.ne_of_lt l4_5)); clear gg; (try have k5 := B5.k))
    | ((with_reducible refine at_store 24 ?_); refine box_store rfl 24 _ _ rfl _ _ rfl rfl (by with_reducible exact B4) (by kernel_rfl) (by rfl) (by simp [Value.oneCell']) ?_; clear B4; intro w' B4 gg; (try clear k5); replace gw := grown_new gw gg (fun q e => by cases e; exact n4); (try replace r := r.at gg (by omega) (by omega)); (try replace B5 := B5.grown gg (Nat.ne_of_gt l4_5)); clear gg; (try have k5 := B5.k))
    | ((with_reducible refine at_store 3 ?_); refine box_int rfl _ _ rfl _ _ _ rfl rfl (by with_reducible exact B5) (by simp) ?_; clear B5; intro w' B5 gg; simp only [List.setIfInBounds_toArray, List.set] at B5; (try clear k5); replace gw := grown_new gw gg (fun q e => by cases e; exact n5); (try replace r := r.at gg (by omega) (by omega)); (try replace B4 := B4.grown gg (Nat.ne_of_lt l4_5)); clear gg; (try have k5 := B5.k))
    | ((with_reducible refine at_store 22 ?_); refine box_bytes rfl _ _ rfl _ _ _ _ _ rfl rfl (by with_reducible exact B5) (by simp) ?_; clear B5; intro w' B5 gg; simp only [List.setIfInBounds_toArray, List.set] at B5; (try clear k5); replace gw := grown_new gw gg (fun q e => by cases e; exact n5); (try replace r := r.at gg (by omega) (by omega)); (try replace B4 := B4.grown gg (Nat.ne_of_lt l4_5)); clear gg; (try have k5 := B5.k)))
  refine (pick_any _ _ _ zs 2 _ r (by omega) (by omega)).mono ?_
  clear r
  rintro e w' ⟨q, rfl, hq, r, gg⟩
  (try clear k5)
  replace gw := grown_trans gw gg
  (try replace B4 := B4.grown gg (by omega))
  (try replace B5 := B5.grown gg (by omega))
  clear gg
  (try have k5 := B5.k)
  rcases (show q = 0 ∨ q = 1 by omega) with rfl | rfl
  · go_wp2_with (first
      | ((with_reducible refine at_new 4 24 ?_); refine box_new (d := 4) rfl rfl 24 rfl _ zero_join ?_; intro w' B4 bb; have n4 := gw.size; (try have lr_4 := r.lt); (try have l5_4 := B5.lt); (try clear k5); replace gw := grown_trans gw (grown_below bb _); (try replace r := r.kept bb);  (try replace B5 := B5.kept bb); clear bb; (try have k5 := B5.k))
      | ((with_reducible refine at_new 5 24 ?_); refine box_new (d := 5) rfl rfl 24 rfl _ zero_join ?_; intro w' B5 bb; have n5 := gw.size; (try have lr_5 := r.lt); (try have l4_5 := B4.lt); (try clear k5); replace gw := grown_trans gw (grown_below bb _); (try replace r := r.kept bb); (try replace B4 := B4.kept bb);  clear bb; (try have k5 := B5.k))
      | ((with_reducible refine at_load 24 ?_); refine box_load rfl 24 _ rfl _ rfl (by with_reducible assumption) Try.underlying24 rfl (by kernel_rfl) ?_)
      | ((with_reducible refine at_store 24 ?_); refine box_store rfl 24 _ _ rfl _ _ rfl rfl (by with_reducible exact B5) (by kernel_rfl) (by rfl) (by simp [Value.oneCell']) ?_; clear B5; intro w' B5 gg; (try clear k5); replace gw := grown_new gw gg (fun q e => by cases e; exact n5); (try replace r := r.at gg (by omega) (by omega)); (try replace B4 := B4.grown gg (Nat.ne_of_lt l4_5)); clear gg; (try have k5 := B5.k))
      | ((with_reducible refine at_store 24 ?_); refine box_store rfl 24 _ _ rfl _ _ rfl rfl (by with_reducible exact B4) (by kernel_rfl) (by rfl) (by simp [Value.oneCell']) ?_; clear B4; intro w' B4 gg; (try clear k5); replace gw := grown_new gw gg (fun q e => by cases e; exact n4); (try replace r := r.at gg (by omega) (by omega)); (try replace B5 := B5.grown gg (Nat.ne_of_gt l4_5)); clear gg; (try have k5 := B5.k))
      | ((with_reducible refine at_store 3 ?_); refine box_int rfl _ _ rfl _ _ _ rfl rfl (by with_reducible exact B5) (by simp) ?_; clear B5; intro w' B5 gg; simp only [List.setIfInBounds_toArray, List.set] at B5; (try clear k5); replace gw := grown_new gw gg (fun q e => by cases e; exact n5); (try replace r := r.at gg (by omega) (by omega)); (try replace B4 := B4.grown gg (Nat.ne_of_lt l4_5)); clear gg; (try have k5 := B5.k))
      | ((with_reducible refine at_store 22 ?_); refine box_bytes rfl _ _ rfl _ _ _ _ _ rfl rfl (by with_reducible exact B5) (by simp) ?_; clear B5; intro w' B5 gg; simp only [List.setIfInBounds_toArray, List.set] at B5; (try clear k5); replace gw := grown_new gw gg (fun q e => by cases e; exact n5); (try replace r := r.at gg (by omega) (by omega)); (try replace B4 := B4.grown gg (Nat.ne_of_lt l4_5)); clear gg; (try have k5 := B5.k)))
    refine (pick_any _ _ _ zs 23 _ r (by omega) (by omega)).mono ?_
    clear r
    rintro e w' ⟨x, rfl, hx, r, gg⟩
    (try clear k5)
    replace gw := grown_trans gw gg
    (try replace B4 := B4.grown gg (by omega))
    (try replace B5 := B5.grown gg (by omega))
    clear gg
    (try have k5 := B5.k)
    go_wp2_with (first
      | ((with_reducible refine at_new 4 24 ?_); refine box_new (d := 4) rfl rfl 24 rfl _ zero_join ?_; intro w' B4 bb; have n4 := gw.size; (try have lr_4 := r.lt); (try have l5_4 := B5.lt); (try clear k5); replace gw := grown_trans gw (grown_below bb _); (try replace r := r.kept bb);  (try replace B5 := B5.kept bb); clear bb; (try have k5 := B5.k))
      | ((with_reducible refine at_new 5 24 ?_); refine box_new (d := 5) rfl rfl 24 rfl _ zero_join ?_; intro w' B5 bb; have n5 := gw.size; (try have lr_5 := r.lt); (try have l4_5 := B4.lt); (try clear k5); replace gw := grown_trans gw (grown_below bb _); (try replace r := r.kept bb); (try replace B4 := B4.kept bb);  clear bb; (try have k5 := B5.k))
      | ((with_reducible refine at_load 24 ?_); refine box_load rfl 24 _ rfl _ rfl (by with_reducible assumption) Try.underlying24 rfl (by kernel_rfl) ?_)
      | ((with_reducible refine at_store 24 ?_); refine box_store rfl 24 _ _ rfl _ _ rfl rfl (by with_reducible exact B5) (by kernel_rfl) (by rfl) (by simp [Value.oneCell']) ?_; clear B5; intro w' B5 gg; (try clear k5); replace gw := grown_new gw gg (fun q e => by cases e; exact n5); (try replace r := r.at gg (by omega) (by omega)); (try replace B4 := B4.grown gg (Nat.ne_of_lt l4_5)); clear gg; (try have k5 := B5.k))
      | ((with_reducible refine at_store 24 ?_); refine box_store rfl 24 _ _ rfl _ _ rfl rfl (by with_reducible exact B4) (by kernel_rfl) (by rfl) (by simp [Value.oneCell']) ?_; clear B4; intro w' B4 gg; (try clear k5); replace gw := grown_new gw gg (fun q e => by cases e; exact n4); (try replace r := r.at gg (by omega) (by omega)); (try replace B5 := B5.grown gg (Nat.ne_of_gt l4_5)); clear gg; (try have k5 := B5.k))
      | ((with_reducible refine at_store 3 ?_); refine box_int rfl _ _ rfl _ _ _ rfl rfl (by with_reducible exact B5) (by simp) ?_; clear B5; intro w' B5 gg; simp only [List.setIfInBounds_toArray, List.set] at B5; (try clear k5); replace gw := grown_new gw gg (fun q e => by cases e; exact n5); (try replace r := r.at gg (by omega) (by omega)); (try replace B4 := B4.grown gg (Nat.ne_of_lt l4_5)); clear gg; (try have k5 := B5.k))
      | ((with_reducible refine at_store 22 ?_); refine box_bytes rfl _ _ rfl _ _ _ _ _ rfl rfl (by with_reducible exact B5) (by simp) ?_; clear B5; intro w' B5 gg; simp only [List.setIfInBounds_toArray, List.set] at B5; (try clear k5); replace gw := grown_new gw gg (fun q e => by cases e; exact n5); (try replace r := r.at gg (by omega) (by omega)); (try replace B4 := B4.grown gg (Nat.ne_of_lt l4_5)); clear gg; (try have k5 := B5.k)))
    have e1 : (2 + (x : Int) - 1) = ((x + 1 : Nat) : Int) := by omega
    rw [e1]
    refine (bytes_any _ _ _ zs (x + 1) _ r (by omega) (by omega)).mono ?_
    clear r
    rintro e w' ⟨v1, ys1, p1, rfl, o1, _, hy1, r, hp1, gg⟩
    (try clear k5)
    replace gw := grown_trans gw gg
    (try replace B4 := B4.grown gg (by omega))
    (try replace B5 := B5.grown gg (by omega))
    clear gg
    (try have k5 := B5.k)
    obtain ⟨a1, c1, e1⟩ := own_slice o1
    subst e1
    clear o1
    by_cases h0 : ys1.length = 0
    · rw [h0]
      go_wp2_with (first
        | ((with_reducible refine at_new 4 24 ?_); refine box_new (d := 4) rfl rfl 24 rfl _ zero_join ?_; intro w' B4 bb; have n4 := gw.size; (try have lr_4 := r.lt); (try have l5_4 := B5.lt); (try clear k5); replace gw := grown_trans gw (grown_below bb _); (try replace r := r.kept bb);  (try replace B5 := B5.kept bb); clear bb; (try have k5 := B5.k))
        | ((with_reducible refine at_new 5 24 ?_); refine box_new (d := 5) rfl rfl 24 rfl _ zero_join ?_; intro w' B5 bb; have n5 := gw.size; (try have lr_5 := r.lt); (try have l4_5 := B4.lt); (try clear k5); replace gw := grown_trans gw (grown_below bb _); (try replace r := r.kept bb); (try replace B4 := B4.kept bb);  clear bb; (try have k5 := B5.k))
        | ((with_reducible refine at_load 24 ?_); refine box_load rfl 24 _ rfl _ rfl (by with_reducible assumption) Try.underlying24 rfl (by kernel_rfl) ?_)
        | ((with_reducible refine at_store 24 ?_); refine box_store rfl 24 _ _ rfl _ _ rfl rfl (by with_reducible exact B5) (by kernel_rfl) (by rfl) (by simp [Value.oneCell']) ?_; clear B5; intro w' B5 gg; (try clear k5); replace gw := grown_new gw gg (fun q e => by cases e; exact n5); (try replace r := r.at gg (by omega) (by omega)); (try replace B4 := B4.grown gg (Nat.ne_of_lt l4_5)); clear gg; (try have k5 := B5.k))
        | ((with_reducible refine at_store 24 ?_); refine box_store rfl 24 _ _ rfl _ _ rfl rfl (by with_reducible exact B4) (by kernel_rfl) (by rfl) (by simp [Value.oneCell']) ?_; clear B4; intro w' B4 gg; (try clear k5); replace gw := grown_new gw gg (fun q e => by cases e; exact n4); (try replace r := r.at gg (by omega) (by omega)); (try replace B5 := B5.grown gg (Nat.ne_of_gt l4_5)); clear gg; (try have k5 := B5.k))
        | ((with_reducible refine at_store 3 ?_); refine box_int rfl _ _ rfl _ _ _ rfl rfl (by with_reducible exact B5) (by simp) ?_; clear B5; intro w' B5 gg; simp only [List.setIfInBounds_toArray, List.set] at B5; (try clear k5); replace gw := grown_new gw gg (fun q e => by cases e; exact n5); (try replace r := r.at gg (by omega) (by omega)); (try replace B4 := B4.grown gg (Nat.ne_of_lt l4_5)); clear gg; (try have k5 := B5.k))
        | ((with_reducible refine at_store 22 ?_); refine box_bytes rfl _ _ rfl _ _ _ _ _ rfl rfl (by with_reducible exact B5) (by simp) ?_; clear B5; intro w' B5 gg; simp only [List.setIfInBounds_toArray, List.set] at B5; (try clear k5); replace gw := grown_new gw gg (fun q e => by cases e; exact n5); (try replace r := r.at gg (by omega) (by omega)); (try replace B4 := B4.grown gg (Nat.ne_of_lt l4_5)); clear gg; (try have k5 := B5.k))
        | ((with_reducible refine at_litn 22 ?_); refine lit_row rfl 1 #[.int .u8 1] 5 (fun _ => by simp [execOp, go_sem]) ?_; intro w' BL bb; have nBL := gw.size; (try clear k5); replace gw := grown_trans gw (grown_below bb _); (try replace r := r.kept bb); (try replace B4 := B4.kept bb); (try replace B5 := B5.kept bb); clear bb; (try have k5 := B5.k)))
      clear BL
      refine (odd_any _ _ _ zs n _ r (by omega) hn).mono ?_
      clear r
      rintro e w' ⟨bad, p3, rfl, _, _, hp3, r, gg⟩
      (try clear k5)
      replace gw := grown_trans gw gg
      (try replace B4 := B4.grown gg (by omega))
      (try replace B5 := B5.grown gg (by omega))
      clear gg
      (try have k5 := B5.k)
      cases bad
      · go_wp2_with (first
          | ((with_reducible refine at_new 4 24 ?_); refine box_new (d := 4) rfl rfl 24 rfl _ zero_join ?_; intro w' B4 bb; have n4 := gw.size; (try have lr_4 := r.lt); (try have l5_4 := B5.lt); (try clear k5); replace gw := grown_trans gw (grown_below bb _); (try replace r := r.kept bb);  (try replace B5 := B5.kept bb); clear bb; (try have k5 := B5.k))
          | ((with_reducible refine at_new 5 24 ?_); refine box_new (d := 5) rfl rfl 24 rfl _ zero_join ?_; intro w' B5 bb; have n5 := gw.size; (try have lr_5 := r.lt); (try have l4_5 := B4.lt); (try clear k5); replace gw := grown_trans gw (grown_below bb _); (try replace r := r.kept bb); (try replace B4 := B4.kept bb);  clear bb; (try have k5 := B5.k))
          | ((with_reducible refine at_load 24 ?_); refine box_load rfl 24 _ rfl _ rfl (by with_reducible assumption) Try.underlying24 rfl (by kernel_rfl) ?_)
          | ((with_reducible refine at_store 24 ?_); refine box_store rfl 24 _ _ rfl _ _ rfl rfl (by with_reducible exact B5) (by kernel_rfl) (by rfl) (by simp [Value.oneCell']) ?_; clear B5; intro w' B5 gg; (try clear k5); replace gw := grown_new gw gg (fun q e => by cases e; exact n5); (try replace r := r.at gg (by omega) (by omega)); (try replace B4 := B4.grown gg (Nat.ne_of_lt l4_5)); clear gg; (try have k5 := B5.k))
          | ((with_reducible refine at_store 24 ?_); refine box_store rfl 24 _ _ rfl _ _ rfl rfl (by with_reducible exact B4) (by kernel_rfl) (by rfl) (by simp [Value.oneCell']) ?_; clear B4; intro w' B4 gg; (try clear k5); replace gw := grown_new gw gg (fun q e => by cases e; exact n4); (try replace r := r.at gg (by omega) (by omega)); (try replace B5 := B5.grown gg (Nat.ne_of_gt l4_5)); clear gg; (try have k5 := B5.k))
          | ((with_reducible refine at_store 3 ?_); refine box_int rfl _ _ rfl _ _ _ rfl rfl (by with_reducible exact B5) (by simp) ?_; clear B5; intro w' B5 gg; simp only [List.setIfInBounds_toArray, List.set] at B5; (try clear k5); replace gw := grown_new gw gg (fun q e => by cases e; exact n5); (try replace r := r.at gg (by omega) (by omega)); (try replace B4 := B4.grown gg (Nat.ne_of_lt l4_5)); clear gg; (try have k5 := B5.k))
          | ((with_reducible refine at_store 22 ?_); refine box_bytes rfl _ _ rfl _ _ _ _ _ rfl rfl (by with_reducible exact B5) (by simp) ?_; clear B5; intro w' B5 gg; simp only [List.setIfInBounds_toArray, List.set] at B5; (try clear k5); replace gw := grown_new gw gg (fun q e => by cases e; exact n5); (try replace r := r.at gg (by omega) (by omega)); (try replace B4 := B4.grown gg (Nat.ne_of_lt l4_5)); clear gg; (try have k5 := B5.k)))
        refine bodyPost_ret (results_cell_row rfl _ _ _ _ _ _ _ rfl B4 Try.underlying24 rfl (by kernel_rfl)) rfl ?_
        exact ⟨_, _, _, _, _, rfl, by omega, by omega, by omega, by omega, r, gw⟩
      · go_wp2_with (first
          | ((with_reducible refine at_new 4 24 ?_); refine box_new (d := 4) rfl rfl 24 rfl _ zero_join ?_; intro w' B4 bb; have n4 := gw.size; (try have lr_4 := r.lt); (try have l5_4 := B5.lt); (try clear k5); replace gw := grown_trans gw (grown_below bb _); (try replace r := r.kept bb);  (try replace B5 := B5.kept bb); clear bb; (try have k5 := B5.k))
          | ((with_reducible refine at_new 5 24 ?_); refine box_new (d := 5) rfl rfl 24 rfl _ zero_join ?_; intro w' B5 bb; have n5 := gw.size; (try have lr_5 := r.lt); (try have l4_5 := B4.lt); (try clear k5); replace gw := grown_trans gw (grown_below bb _); (try replace r := r.kept bb); (try replace B4 := B4.kept bb);  clear bb; (try have k5 := B5.k))
          | ((with_reducible refine at_load 24 ?_); refine box_load rfl 24 _ rfl _ rfl (by with_reducible assumption) Try.underlying24 rfl (by kernel_rfl) ?_)
          | ((with_reducible refine at_store 24 ?_); refine box_store rfl 24 _ _ rfl _ _ rfl rfl (by with_reducible exact B5) (by kernel_rfl) (by rfl) (by simp [Value.oneCell']) ?_; clear B5; intro w' B5 gg; (try clear k5); replace gw := grown_new gw gg (fun q e => by cases e; exact n5); (try replace r := r.at gg (by omega) (by omega)); (try replace B4 := B4.grown gg (Nat.ne_of_lt l4_5)); clear gg; (try have k5 := B5.k))
          | ((with_reducible refine at_store 24 ?_); refine box_store rfl 24 _ _ rfl _ _ rfl rfl (by with_reducible exact B4) (by kernel_rfl) (by rfl) (by simp [Value.oneCell']) ?_; clear B4; intro w' B4 gg; (try clear k5); replace gw := grown_new gw gg (fun q e => by cases e; exact n4); (try replace r := r.at gg (by omega) (by omega)); (try replace B5 := B5.grown gg (Nat.ne_of_gt l4_5)); clear gg; (try have k5 := B5.k))
          | ((with_reducible refine at_store 3 ?_); refine box_int rfl _ _ rfl _ _ _ rfl rfl (by with_reducible exact B5) (by simp) ?_; clear B5; intro w' B5 gg; simp only [List.setIfInBounds_toArray, List.set] at B5; (try clear k5); replace gw := grown_new gw gg (fun q e => by cases e; exact n5); (try replace r := r.at gg (by omega) (by omega)); (try replace B4 := B4.grown gg (Nat.ne_of_lt l4_5)); clear gg; (try have k5 := B5.k))
          | ((with_reducible refine at_store 22 ?_); refine box_bytes rfl _ _ rfl _ _ _ _ _ rfl rfl (by with_reducible exact B5) (by simp) ?_; clear B5; intro w' B5 gg; simp only [List.setIfInBounds_toArray, List.set] at B5; (try clear k5); replace gw := grown_new gw gg (fun q e => by cases e; exact n5); (try replace r := r.at gg (by omega) (by omega)); (try replace B4 := B4.grown gg (Nat.ne_of_lt l4_5)); clear gg; (try have k5 := B5.k)))
        refine (pick_any _ _ _ zs 3 _ r (by omega) (by omega)).mono ?_
        clear r
        rintro e w' ⟨k3, rfl, hk3, r, gg⟩
        (try clear k5)
        replace gw := grown_trans gw gg
        (try replace B4 := B4.grown gg (by omega))
        (try replace B5 := B5.grown gg (by omega))
        clear gg
        (try have k5 := B5.k)
        rcases (show k3 = 0 ∨ k3 = 1 ∨ k3 = 2 by omega) with rfl | rfl | rfl
        · go_wp2_with (first
            | ((with_reducible refine at_new 4 24 ?_); refine box_new (d := 4) rfl rfl 24 rfl _ zero_join ?_; intro w' B4 bb; have n4 := gw.size; (try have lr_4 := r.lt); (try have l5_4 := B5.lt); (try clear k5); replace gw := grown_trans gw (grown_below bb _); (try replace r := r.kept bb);  (try replace B5 := B5.kept bb); clear bb; (try have k5 := B5.k))
            | ((with_reducible refine at_new 5 24 ?_); refine box_new (d := 5) rfl rfl 24 rfl _ zero_join ?_; intro w' B5 bb; have n5 := gw.size; (try have lr_5 := r.lt); (try have l4_5 := B4.lt); (try clear k5); replace gw := grown_trans gw (grown_below bb _); (try replace r := r.kept bb); (try replace B4 := B4.kept bb);  clear bb; (try have k5 := B5.k))
            | ((with_reducible refine at_load 24 ?_); refine box_load rfl 24 _ rfl _ rfl (by with_reducible assumption) Try.underlying24 rfl (by kernel_rfl) ?_)
            | ((with_reducible refine at_store 24 ?_); refine box_store rfl 24 _ _ rfl _ _ rfl rfl (by with_reducible exact B5) (by kernel_rfl) (by rfl) (by simp [Value.oneCell']) ?_; clear B5; intro w' B5 gg; (try clear k5); replace gw := grown_new gw gg (fun q e => by cases e; exact n5); (try replace r := r.at gg (by omega) (by omega)); (try replace B4 := B4.grown gg (Nat.ne_of_lt l4_5)); clear gg; (try have k5 := B5.k))
            | ((with_reducible refine at_store 24 ?_); refine box_store rfl 24 _ _ rfl _ _ rfl rfl (by with_reducible exact B4) (by kernel_rfl) (by rfl) (by simp [Value.oneCell']) ?_; clear B4; intro w' B4 gg; (try clear k5); replace gw := grown_new gw gg (fun q e => by cases e; exact n4); (try replace r := r.at gg (by omega) (by omega)); (try replace B5 := B5.grown gg (Nat.ne_of_gt l4_5)); clear gg; (try have k5 := B5.k))
            | ((with_reducible refine at_store 3 ?_); refine box_int rfl _ _ rfl _ _ _ rfl rfl (by with_reducible exact B5) (by simp) ?_; clear B5; intro w' B5 gg; simp only [List.setIfInBounds_toArray, List.set] at B5; (try clear k5); replace gw := grown_new gw gg (fun q e => by cases e; exact n5); (try replace r := r.at gg (by omega) (by omega)); (try replace B4 := B4.grown gg (Nat.ne_of_lt l4_5)); clear gg; (try have k5 := B5.k))
            | ((with_reducible refine at_store 22 ?_); refine box_bytes rfl _ _ rfl _ _ _ _ _ rfl rfl (by with_reducible exact B5) (by simp) ?_; clear B5; intro w' B5 gg; simp only [List.setIfInBounds_toArray, List.set] at B5; (try clear k5); replace gw := grown_new gw gg (fun q e => by cases e; exact n5); (try replace r := r.at gg (by omega) (by omega)); (try replace B4 := B4.grown gg (Nat.ne_of_lt l4_5)); clear gg; (try have k5 := B5.k))
            | ((with_reducible refine at_litn 102 ?_); refine lit_row rfl 3 #[.int .i64 (-1), .int .i64 1, .int .i64 25] 3 (fun _ => by simp [execOp, go_sem]) ?_; intro w' BL bb; have nBL := gw.size; (try clear k5); replace gw := grown_trans gw (grown_below bb _); (try replace r := r.kept bb); (try replace B4 := B4.kept bb); (try replace B5 := B5.kept bb); clear bb; (try have k5 := B5.k)))
          have lBL := BL.lt
          have hBL := BL
          refine (pick_any _ _ _ zs 3 _ r (by omega) (by omega)).mono ?_
          clear r
          rintro e w' ⟨k4, rfl, hk4, r, gg⟩
          (try clear k5)
          have BM := hBL.grown gg (by omega)
          replace gw := grown_trans gw gg
          (try replace B4 := B4.grown gg (by omega))
          (try replace B5 := B5.grown gg (by omega))
          clear gg
          (try have k5 := B5.k)
          obtain ⟨y, hy, cy⟩ : ∃ y : Int, (-1 ≤ y ∧ y ≤ 25) ∧ w'.cell? ⟨_, k4, none⟩ = some (.int .i64 y) := by
            rcases (show k4 = 0 ∨ k4 = 1 ∨ k4 = 2 by omega) with rfl | rfl | rfl
            · exact ⟨-1, by omega, (BM.k 0).trans rfl⟩
            · exact ⟨1, by omega, (BM.k 1).trans rfl⟩
            · exact ⟨25, by omega, (BM.k 2).trans rfl⟩
          have hk4i : (k4 : Int) < 3 := by omega
          go_wp2_with (first
            | ((with_reducible refine at_new 4 24 ?_); refine box_new (d := 4) rfl rfl 24 rfl _ zero_join ?_; intro w' B4 bb; have n4 := gw.size; (try have lr_4 := r.lt); (try have l5_4 := B5.lt); (try clear k5); replace gw := grown_trans gw (grown_below bb _); (try replace r := r.kept bb);  (try replace B5 := B5.kept bb); clear bb; (try have k5 := B5.k))
            | ((with_reducible refine at_new 5 24 ?_); refine box_new (d := 5) rfl rfl 24 rfl _ zero_join ?_; intro w' B5 bb; have n5 := gw.size; (try have lr_5 := r.lt); (try have l4_5 := B4.lt); (try clear k5); replace gw := grown_trans gw (grown_below bb _); (try replace r := r.kept bb); (try replace B4 := B4.kept bb);  clear bb; (try have k5 := B5.k))
            | ((with_reducible refine at_load 24 ?_); refine box_load rfl 24 _ rfl _ rfl (by with_reducible assumption) Try.underlying24 rfl (by kernel_rfl) ?_)
            | ((with_reducible refine at_store 24 ?_); refine box_store rfl 24 _ _ rfl _ _ rfl rfl (by with_reducible exact B5) (by kernel_rfl) (by rfl) (by simp [Value.oneCell']) ?_; clear B5; intro w' B5 gg; (try clear k5); replace gw := grown_new gw gg (fun q e => by cases e; exact n5); (try replace r := r.at gg (by omega) (by omega)); (try replace B4 := B4.grown gg (Nat.ne_of_lt l4_5)); clear gg; (try have k5 := B5.k))
            | ((with_reducible refine at_store 24 ?_); refine box_store rfl 24 _ _ rfl _ _ rfl rfl (by with_reducible exact B4) (by kernel_rfl) (by rfl) (by simp [Value.oneCell']) ?_; clear B4; intro w' B4 gg; (try clear k5); replace gw := grown_new gw gg (fun q e => by cases e; exact n4); (try replace r := r.at gg (by omega) (by omega)); (try replace B5 := B5.grown gg (Nat.ne_of_gt l4_5)); clear gg; (try have k5 := B5.k))
            | ((with_reducible refine at_store 3 ?_); refine box_int rfl _ _ rfl _ _ _ rfl rfl (by with_reducible exact B5) (by simp) ?_; clear B5; intro w' B5 gg; simp only [List.setIfInBounds_toArray, List.set] at B5; (try clear k5); replace gw := grown_new gw gg (fun q e => by cases e; exact n5); (try replace r := r.at gg (by omega) (by omega)); (try replace B4 := B4.grown gg (Nat.ne_of_lt l4_5)); clear gg; (try have k5 := B5.k))
            | ((with_reducible refine at_store 22 ?_); refine box_bytes rfl _ _ rfl _ _ _ _ _ rfl rfl (by with_reducible exact B5) (by simp) ?_; clear B5; intro w' B5 gg; simp only [List.setIfInBounds_toArray, List.set] at B5; (try clear k5); replace gw := grown_new gw gg (fun q e => by cases e; exact n5); (try replace r := r.at gg (by omega) (by omega)); (try replace B4 := B4.grown gg (Nat.ne_of_lt l4_5)); clear gg; (try have k5 := B5.k)))
          refine bodyPost_ret (results_cell_row rfl _ _ _ _ _ _ _ rfl B4 Try.underlying24 rfl (by kernel_rfl)) rfl ?_
          exact ⟨_, _, _, _, _, rfl, by omega, by omega, by omega, by omega, r, gw⟩
        · go_wp2_with (first
            | ((with_reducible refine at_new 4 24 ?_); refine box_new (d := 4) rfl rfl 24 rfl _ zero_join ?_; intro w' B4 bb; have n4 := gw.size; (try have lr_4 := r.lt); (try have l5_4 := B5.lt); (try clear k5); replace gw := grown_trans gw (grown_below bb _); (try replace r := r.kept bb);  (try replace B5 := B5.kept bb); clear bb; (try have k5 := B5.k))
            | ((with_reducible refine at_new 5 24 ?_); refine box_new (d := 5) rfl rfl 24 rfl _ zero_join ?_; intro w' B5 bb; have n5 := gw.size; (try have lr_5 := r.lt); (try have l4_5 := B4.lt); (try clear k5); replace gw := grown_trans gw (grown_below bb _); (try replace r := r.kept bb); (try replace B4 := B4.kept bb);  clear bb; (try have k5 := B5.k))
            | ((with_reducible refine at_load 24 ?_); refine box_load rfl 24 _ rfl _ rfl (by with_reducible assumption) Try.underlying24 rfl (by kernel_rfl) ?_)
            | ((with_reducible refine at_store 24 ?_); refine box_store rfl 24 _ _ rfl _ _ rfl rfl (by with_reducible exact B5) (by kernel_rfl) (by rfl) (by simp [Value.oneCell']) ?_; clear B5; intro w' B5 gg; (try clear k5); replace gw := grown_new gw gg (fun q e => by cases e; exact n5); (try replace r := r.at gg (by omega) (by omega)); (try replace B4 := B4.grown gg (Nat.ne_of_lt l4_5)); clear gg; (try have k5 := B5.k))
            | ((with_reducible refine at_store 24 ?_); refine box_store rfl 24 _ _ rfl _ _ rfl rfl (by with_reducible exact B4) (by kernel_rfl) (by rfl) (by simp [Value.oneCell']) ?_; clear B4; intro w' B4 gg; (try clear k5); replace gw := grown_new gw gg (fun q e => by cases e; exact n4); (try replace r := r.at gg (by omega) (by omega)); (try replace B5 := B5.grown gg (Nat.ne_of_gt l4_5)); clear gg; (try have k5 := B5.k))
            | ((with_reducible refine at_store 3 ?_); refine box_int rfl _ _ rfl _ _ _ rfl rfl (by with_reducible exact B5) (by simp) ?_; clear B5; intro w' B5 gg; simp only [List.setIfInBounds_toArray, List.set] at B5; (try clear k5); replace gw := grown_new gw gg (fun q e => by cases e; exact n5); (try replace r := r.at gg (by omega) (by omega)); (try replace B4 := B4.grown gg (Nat.ne_of_lt l4_5)); clear gg; (try have k5 := B5.k))
            | ((with_reducible refine at_store 22 ?_); refine box_bytes rfl _ _ rfl _ _ _ _ _ rfl rfl (by with_reducible exact B5) (by simp) ?_; clear B5; intro w' B5 gg; simp only [List.setIfInBounds_toArray, List.set] at B5; (try clear k5); replace gw := grown_new gw gg (fun q e => by cases e; exact n5); (try replace r := r.at gg (by omega) (by omega)); (try replace B4 := B4.grown gg (Nat.ne_of_lt l4_5)); clear gg; (try have k5 := B5.k))
            | ((with_reducible refine at_litn 22 ?_); refine lit_row rfl 0 #[] 5 (fun _ => by simp [execOp, go_sem]) ?_; intro w' BL bb; have nBL := gw.size; (try clear k5); replace gw := grown_trans gw (grown_below bb _); (try replace r := r.kept bb); (try replace B4 := B4.kept bb); (try replace B5 := B5.kept bb); clear bb; (try have k5 := B5.k)))
          refine bodyPost_ret (results_cell_row rfl _ _ _ _ _ _ _ rfl B4 Try.underlying24 rfl (by kernel_rfl)) rfl ?_
          exact ⟨_, _, _, _, _, rfl, by omega, by omega, by omega, by omega, r, gw⟩
        · go_wp2_with (first
            | ((with_reducible refine at_new 4 24 ?_); refine box_new (d := 4) rfl rfl 24 rfl _ zero_join ?_; intro w' B4 bb; have n4 := gw.size; (try have lr_4 := r.lt); (try have l5_4 := B5.lt); (try clear k5); replace gw := grown_trans gw (grown_below bb _); (try replace r := r.kept bb);  (try replace B5 := B5.kept bb); clear bb; (try have k5 := B5.k))
            | ((with_reducible refine at_new 5 24 ?_); refine box_new (d := 5) rfl rfl 24 rfl _ zero_join ?_; intro w' B5 bb; have n5 := gw.size; (try have lr_5 := r.lt); (try have l4_5 := B4.lt); (try clear k5); replace gw := grown_trans gw (grown_below bb _); (try replace r := r.kept bb); (try replace B4 := B4.kept bb);  clear bb; (try have k5 := B5.k))
            | ((with_reducible refine at_load 24 ?_); refine box_load rfl 24 _ rfl _ rfl (by with_reducible assumption) Try.underlying24 rfl (by kernel_rfl) ?_)
            | ((with_reducible refine at_store 24 ?_); refine box_store rfl 24 _ _ rfl _ _ rfl rfl (by with_reducible exact B5) (by kernel_rfl) (by rfl) (by simp [Value.oneCell']) ?_; clear B5; intro w' B5 gg; (try clear k5); replace gw := grown_new gw gg (fun q e => by cases e; exact n5); (try replace r := r.at gg (by omega) (by omega)); (try replace B4 := B4.grown gg (Nat.ne_of_lt l4_5)); clear gg; (try have k5 := B5.k))
            | ((with_reducible refine at_store 24 ?_); refine box_store rfl 24 _ _ rfl _ _ rfl rfl (by with_reducible exact B4) (by kernel_rfl) (by rfl) (by simp [Value.oneCell']) ?_; clear B4; intro w' B4 gg; (try clear k5); replace gw := grown_new gw gg (fun q e => by cases e; exact n4); (try replace r := r.at gg (by omega) (by omega)); (try replace B5 := B5.grown gg (Nat.ne_of_gt l4_5)); clear gg; (try have k5 := B5.k))
            | ((with_reducible refine at_store 3 ?_); refine box_int rfl _ _ rfl _ _ _ rfl rfl (by with_reducible exact B5) (by simp) ?_; clear B5; intro w' B5 gg; simp only [List.setIfInBounds_toArray, List.set] at B5; (try clear k5); replace gw := grown_new gw gg (fun q e => by cases e; exact n5); (try replace r := r.at gg (by omega) (by omega)); (try replace B4 := B4.grown gg (Nat.ne_of_lt l4_5)); clear gg; (try have k5 := B5.k))
            | ((with_reducible refine at_store 22 ?_); refine box_bytes rfl _ _ rfl _ _ _ _ _ rfl rfl (by with_reducible exact B5) (by simp) ?_; clear B5; intro w' B5 gg; simp only [List.setIfInBounds_toArray, List.set] at B5; (try clear k5); replace gw := grown_new gw gg (fun q e => by cases e; exact n5); (try replace r := r.at gg (by omega) (by omega)); (try replace B4 := B4.grown gg (Nat.ne_of_lt l4_5)); clear gg; (try have k5 := B5.k)))
          refine (bytes_any _ _ _ zs 25 _ r (by omega) (by omega)).mono ?_
          clear r
          rintro e w' ⟨v5, ys5, p5, rfl, o5, _, hy5, r, hp5, gg⟩
          (try clear k5)
          replace gw := grown_trans gw gg
          (try replace B4 := B4.grown gg (by omega))
          (try replace B5 := B5.grown gg (by omega))
          clear gg
          (try have k5 := B5.k)
          obtain ⟨a5, c5, e5⟩ := own_slice o5
          subst e5
          clear o5
          go_wp2_with (first
            | ((with_reducible refine at_new 4 24 ?_); refine box_new (d := 4) rfl rfl 24 rfl _ zero_join ?_; intro w' B4 bb; have n4 := gw.size; (try have lr_4 := r.lt); (try have l5_4 := B5.lt); (try clear k5); replace gw := grown_trans gw (grown_below bb _); (try replace r := r.kept bb);  (try replace B5 := B5.kept bb); clear bb; (try have k5 := B5.k))
            | ((with_reducible refine at_new 5 24 ?_); refine box_new (d := 5) rfl rfl 24 rfl _ zero_join ?_; intro w' B5 bb; have n5 := gw.size; (try have lr_5 := r.lt); (try have l4_5 := B4.lt); (try clear k5); replace gw := grown_trans gw (grown_below bb _); (try replace r := r.kept bb); (try replace B4 := B4.kept bb);  clear bb; (try have k5 := B5.k))
            | ((with_reducible refine at_load 24 ?_); refine box_load rfl 24 _ rfl _ rfl (by with_reducible assumption) Try.underlying24 rfl (by kernel_rfl) ?_)
            | ((with_reducible refine at_store 24 ?_); refine box_store rfl 24 _ _ rfl _ _ rfl rfl (by with_reducible exact B5) (by kernel_rfl) (by rfl) (by simp [Value.oneCell']) ?_; clear B5; intro w' B5 gg; (try clear k5); replace gw := grown_new gw gg (fun q e => by cases e; exact n5); (try replace r := r.at gg (by omega) (by omega)); (try replace B4 := B4.grown gg (Nat.ne_of_lt l4_5)); clear gg; (try have k5 := B5.k))
            | ((with_reducible refine at_store 24 ?_); refine box_store rfl 24 _ _ rfl _ _ rfl rfl (by with_reducible exact B4) (by kernel_rfl) (by rfl) (by simp [Value.oneCell']) ?_; clear B4; intro w' B4 gg; (try clear k5); replace gw := grown_new gw gg (fun q e => by cases e; exact n4); (try replace r := r.at gg (by omega) (by omega)); (try replace B5 := B5.grown gg (Nat.ne_of_gt l4_5)); clear gg; (try have k5 := B5.k))
            | ((with_reducible refine at_store 3 ?_); refine box_int rfl _ _ rfl _ _ _ rfl rfl (by with_reducible exact B5) (by simp) ?_; clear B5; intro w' B5 gg; simp only [List.setIfInBounds_toArray, List.set] at B5; (try clear k5); replace gw := grown_new gw gg (fun q e => by cases e; exact n5); (try replace r := r.at gg (by omega) (by omega)); (try replace B4 := B4.grown gg (Nat.ne_of_lt l4_5)); clear gg; (try have k5 := B5.k))
            | ((with_reducible refine at_store 22 ?_); refine box_bytes rfl _ _ rfl _ _ _ _ _ rfl rfl (by with_reducible exact B5) (by simp) ?_; clear B5; intro w' B5 gg; simp only [List.setIfInBounds_toArray, List.set] at B5; (try clear k5); replace gw := grown_new gw gg (fun q e => by cases e; exact n5); (try replace r := r.at gg (by omega) (by omega)); (try replace B4 := B4.grown gg (Nat.ne_of_lt l4_5)); clear gg; (try have k5 := B5.k)))
          refine bodyPost_ret (results_cell_row rfl _ _ _ _ _ _ _ rfl B4 Try.underlying24 rfl (by kernel_rfl)) rfl ?_
          exact ⟨_, _, _, _, _, rfl, by omega, by omega, by omega, by omega, r, gw⟩
    · have hne : ¬ (ys1.length : Int) = 0 := by omega
      go_wp2_with (first
        | ((with_reducible refine at_new 4 24 ?_); refine box_new (d := 4) rfl rfl 24 rfl _ zero_join ?_; intro w' B4 bb; have n4 := gw.size; (try have lr_4 := r.lt); (try have l5_4 := B5.lt); (try clear k5); replace gw := grown_trans gw (grown_below bb _); (try replace r := r.kept bb);  (try replace B5 := B5.kept bb); clear bb; (try have k5 := B5.k))
        | ((with_reducible refine at_new 5 24 ?_); refine box_new (d := 5) rfl rfl 24 rfl _ zero_join ?_; intro w' B5 bb; have n5 := gw.size; (try have lr_5 := r.lt); (try have l4_5 := B4.lt); (try clear k5); replace gw := grown_trans gw (grown_below bb _); (try replace r := r.kept bb); (try replace B4 := B4.kept bb);  clear bb; (try have k5 := B5.k))
        | ((with_reducible refine at_load 24 ?_); refine box_load rfl 24 _ rfl _ rfl (by with_reducible assumption) Try.underlying24 rfl (by kernel_rfl) ?_)
        | ((with_reducible refine at_store 24 ?_); refine box_store rfl 24 _ _ rfl _ _ rfl rfl (by with_reducible exact B5) (by kernel_rfl) (by rfl) (by simp [Value.oneCell']) ?_; clear B5; intro w' B5 gg; (try clear k5); replace gw := grown_new gw gg (fun q e => by cases e; exact n5); (try replace r := r.at gg (by omega) (by omega)); (try replace B4 := B4.grown gg (Nat.ne_of_lt l4_5)); clear gg; (try have k5 := B5.k))
        | ((with_reducible refine at_store 24 ?_); refine box_store rfl 24 _ _ rfl _ _ rfl rfl (by with_reducible exact B4) (by kernel_rfl) (by rfl) (by simp [Value.oneCell']) ?_; clear B4; intro w' B4 gg; (try clear k5); replace gw := grown_new gw gg (fun q e => by cases e; exact n4); (try replace r := r.at gg (by omega) (by omega)); (try replace B5 := B5.grown gg (Nat.ne_of_gt l4_5)); clear gg; (try have k5 := B5.k))
        | ((with_reducible refine at_store 3 ?_); refine box_int rfl _ _ rfl _ _ _ rfl rfl (by with_reducible exact B5) (by simp) ?_; clear B5; intro w' B5 gg; simp only [List.setIfInBounds_toArray, List.set] at B5; (try clear k5); replace gw := grown_new gw gg (fun q e => by cases e; exact n5); (try replace r := r.at gg (by omega) (by omega)); (try replace B4 := B4.grown gg (Nat.ne_of_lt l4_5)); clear gg; (try have k5 := B5.k))
        | ((with_reducible refine at_store 22 ?_); refine box_bytes rfl _ _ rfl _ _ _ _ _ rfl rfl (by with_reducible exact B5) (by simp) ?_; clear B5; intro w' B5 gg; simp only [List.setIfInBounds_toArray, List.set] at B5; (try clear k5); replace gw := grown_new gw gg (fun q e => by cases e; exact n5); (try replace r := r.at gg (by omega) (by omega)); (try replace B4 := B4.grown gg (Nat.ne_of_lt l4_5)); clear gg; (try have k5 := B5.k)))
      refine (odd_any _ _ _ zs n _ r (by omega) hn).mono ?_
      clear r
      rintro e w' ⟨bad, p3, rfl, _, _, hp3, r, gg⟩
      (try clear k5)
      replace gw := grown_trans gw gg
      (try replace B4 := B4.grown gg (by omega))
      (try replace B5 := B5.grown gg (by omega))
      clear gg
      (try have k5 := B5.k)
      cases bad
      · go_wp2_with (first
          | ((with_reducible refine at_new 4 24 ?_); refine box_new (d := 4) rfl rfl 24 rfl _ zero_join ?_; intro w' B4 bb; have n4 := gw.size; (try have lr_4 := r.lt); (try have l5_4 := B5.lt); (try clear k5); replace gw := grown_trans gw (grown_below bb _); (try replace r := r.kept bb);  (try replace B5 := B5.kept bb); clear bb; (try have k5 := B5.k))
          | ((with_reducible refine at_new 5 24 ?_); refine box_new (d := 5) rfl rfl 24 rfl _ zero_join ?_; intro w' B5 bb; have n5 := gw.size; (try have lr_5 := r.lt); (try have l4_5 := B4.lt); (try clear k5); replace gw := grown_trans gw (grown_below bb _); (try replace r := r.kept bb); (try replace B4 := B4.kept bb);  clear bb; (try have k5 := B5.k))
          | ((with_reducible refine at_load 24 ?_); refine box_load rfl 24 _ rfl _ rfl (by with_reducible assumption) Try.underlying24 rfl (by kernel_rfl) ?_)
          | ((with_reducible refine at_store 24 ?_); refine box_store rfl 24 _ _ rfl _ _ rfl rfl (by with_reducible exact B5) (by kernel_rfl) (by rfl) (by simp [Value.oneCell']) ?_; clear B5; intro w' B5 gg; (try clear k5); replace gw := grown_new gw gg (fun q e => by cases e; exact n5); (try replace r := r.at gg (by omega) (by omega)); (try replace B4 := B4.grown gg (Nat.ne_of_lt l4_5)); clear gg; (try have k5 := B5.k))
          | ((with_reducible refine at_store 24 ?_); refine box_store rfl 24 _ _ rfl _ _ rfl rfl (by with_reducible exact B4) (by kernel_rfl) (by rfl) (by simp [Value.oneCell']) ?_; clear B4; intro w' B4 gg; (try clear k5); replace gw := grown_new gw gg (fun q e => by cases e; exact n4); (try replace r := r.at gg (by omega) (by omega)); (try replace B5 := B5.grown gg (Nat.ne_of_gt l4_5)); clear gg; (try have k5 := B5.k))
          | ((with_reducible refine at_store 3 ?_); refine box_int rfl _ _ rfl _ _ _ rfl rfl (by with_reducible exact B5) (by simp) ?_; clear B5; intro w' B5 gg; simp only [List.setIfInBounds_toArray, List.set] at B5; (try clear k5); replace gw := grown_new gw gg (fun q e => by cases e; exact n5); (try replace r := r.at gg (by omega) (by omega)); (try replace B4 := B4.grown gg (Nat.ne_of_lt l4_5)); clear gg; (try have k5 := B5.k))
          | ((with_reducible refine at_store 22 ?_); refine box_bytes rfl _ _ rfl _ _ _ _ _ rfl rfl (by with_reducible exact B5) (by simp) ?_; clear B5; intro w' B5 gg; simp only [List.setIfInBounds_toArray, List.set] at B5; (try clear k5); replace gw := grown_new gw gg (fun q e => by cases e; exact n5); (try replace r := r.at gg (by omega) (by omega)); (try replace B4 := B4.grown gg (Nat.ne_of_lt l4_5)); clear gg; (try have k5 := B5.k)))
        refine bodyPost_ret (results_cell_row rfl _ _ _ _ _ _ _ rfl B4 Try.underlying24 rfl (by kernel_rfl)) rfl ?_
        exact ⟨_, _, _, _, _, rfl, by omega, by omega, by omega, by omega, r, gw⟩
      · go_wp2_with (first
          | ((with_reducible refine at_new 4 24 ?_); refine box_new (d := 4) rfl rfl 24 rfl _ zero_join ?_; intro w' B4 bb; have n4 := gw.size; (try have lr_4 := r.lt); (try have l5_4 := B5.lt); (try clear k5); replace gw := grown_trans gw (grown_below bb _); (try replace r := r.kept bb);  (try replace B5 := B5.kept bb); clear bb; (try have k5 := B5.k))
          | ((with_reducible refine at_new 5 24 ?_); refine box_new (d := 5) rfl rfl 24 rfl _ zero_join ?_; intro w' B5 bb; have n5 := gw.size; (try have lr_5 := r.lt); (try have l4_5 := B4.lt); (try clear k5); replace gw := grown_trans gw (grown_below bb _); (try replace r := r.kept bb); (try replace B4 := B4.kept bb);  clear bb; (try have k5 := B5.k))
          | ((with_reducible refine at_load 24 ?_); refine box_load rfl 24 _ rfl _ rfl (by with_reducible assumption) Try.underlying24 rfl (by kernel_rfl) ?_)
          | ((with_reducible refine at_store 24 ?_); refine box_store rfl 24 _ _ rfl _ _ rfl rfl (by with_reducible exact B5) (by kernel_rfl) (by rfl) (by simp [Value.oneCell']) ?_; clear B5; intro w' B5 gg; (try clear k5); replace gw := grown_new gw gg (fun q e => by cases e; exact n5); (try replace r := r.at gg (by omega) (by omega)); (try replace B4 := B4.grown gg (Nat.ne_of_lt l4_5)); clear gg; (try have k5 := B5.k))
          | ((with_reducible refine at_store 24 ?_); refine box_store rfl 24 _ _ rfl _ _ rfl rfl (by with_reducible exact B4) (by kernel_rfl) (by rfl) (by simp [Value.oneCell']) ?_; clear B4; intro w' B4 gg; (try clear k5); replace gw := grown_new gw gg (fun q e => by cases e; exact n4); (try replace r := r.at gg (by omega) (by omega)); (try replace B5 := B5.grown gg (Nat.ne_of_gt l4_5)); clear gg; (try have k5 := B5.k))
          | ((with_reducible refine at_store 3 ?_); refine box_int rfl _ _ rfl _ _ _ rfl rfl (by with_reducible exact B5) (by simp) ?_; clear B5; intro w' B5 gg; simp only [List.setIfInBounds_toArray, List.set] at B5; (try clear k5); replace gw := grown_new gw gg (fun q e => by cases e; exact n5); (try replace r := r.at gg (by omega) (by omega)); (try replace B4 := B4.grown gg (Nat.ne_of_lt l4_5)); clear gg; (try have k5 := B5.k))
          | ((with_reducible refine at_store 22 ?_); refine box_bytes rfl _ _ rfl _ _ _ _ _ rfl rfl (by with_reducible exact B5) (by simp) ?_; clear B5; intro w' B5 gg; simp only [List.setIfInBounds_toArray, List.set] at B5; (try clear k5); replace gw := grown_new gw gg (fun q e => by cases e; exact n5); (try replace r := r.at gg (by omega) (by omega)); (try replace B4 := B4.grown gg (Nat.ne_of_lt l4_5)); clear gg; (try have k5 := B5.k)))
        refine (pick_any _ _ _ zs 3 _ r (by omega) (by omega)).mono ?_
        clear r
        rintro e w' ⟨k3, rfl, hk3, r, gg⟩
        (try clear k5)
        replace gw := grown_trans gw gg
        (try replace B4 := B4.grown gg (by omega))
        (try replace B5 := B5.grown gg (by omega))
        clear gg
        (try have k5 := B5.k)
        rcases (show k3 = 0 ∨ k3 = 1 ∨ k3 = 2 by omega) with rfl | rfl | rfl
        · go_wp2_with (first
            | ((with_reducible refine at_new 4 24 ?_); refine box_new (d := 4) rfl rfl 24 rfl _ zero_join ?_; intro w' B4 bb; have n4 := gw.size; (try have lr_4 := r.lt); (try have l5_4 := B5.lt); (try clear k5); replace gw := grown_trans gw (grown_below bb _); (try replace r := r.kept bb);  (try replace B5 := B5.kept bb); clear bb; (try have k5 := B5.k))
            | ((with_reducible refine at_new 5 24 ?_); refine box_new (d := 5) rfl rfl 24 rfl _ zero_join ?_; intro w' B5 bb; have n5 := gw.size; (try have lr_5 := r.lt); (try have l4_5 := B4.lt); (try clear k5); replace gw := grown_trans gw (grown_below bb _); (try replace r := r.kept bb); (try replace B4 := B4.kept bb);  clear bb; (try have k5 := B5.k))
            | ((with_reducible refine at_load 24 ?_); refine box_load rfl 24 _ rfl _ rfl (by with_reducible assumption) Try.underlying24 rfl (by kernel_rfl) ?_)
            | ((with_reducible refine at_store 24 ?_); refine box_store rfl 24 _ _ rfl _ _ rfl rfl (by with_reducible exact B5) (by kernel_rfl) (by rfl) (by simp [Value.oneCell']) ?_; clear B5; intro w' B5 gg; (try clear k5); replace gw := grown_new gw gg (fun q e => by cases e; exact n5); (try replace r := r.at gg (by omega) (by omega)); (try replace B4 := B4.grown gg (Nat.ne_of_lt l4_5)); clear gg; (try have k5 := B5.k))
            | ((with_reducible refine at_store 24 ?_); refine box_store rfl 24 _ _ rfl _ _ rfl rfl (by with_reducible exact B4) (by kernel_rfl) (by rfl) (by simp [Value.oneCell']) ?_; clear B4; intro w' B4 gg; (try clear k5); replace gw := grown_new gw gg (fun q e => by cases e; exact n4); (try replace r := r.at gg (by omega) (by omega)); (try replace B5 := B5.grown gg (Nat.ne_of_gt l4_5)); clear gg; (try have k5 := B5.k))
            | ((with_reducible refine at_store 3 ?_); refine box_int rfl _ _ rfl _ _ _ rfl rfl (by with_reducible exact B5) (by simp) ?_; clear B5; intro w' B5 gg; simp only [List.setIfInBounds_toArray, List.set] at B5; (try clear k5); replace gw := grown_new gw gg (fun q e => by cases e; exact n5); (try replace r := r.at gg (by omega) (by omega)); (try replace B4 := B4.grown gg (Nat.ne_of_lt l4_5)); clear gg; (try have k5 := B5.k))
            | ((with_reducible refine at_store 22 ?_); refine box_bytes rfl _ _ rfl _ _ _ _ _ rfl rfl (by with_reducible exact B5) (by simp) ?_; clear B5; intro w' B5 gg; simp only [List.setIfInBounds_toArray, List.set] at B5; (try clear k5); replace gw := grown_new gw gg (fun q e => by cases e; exact n5); (try replace r := r.at gg (by omega) (by omega)); (try replace B4 := B4.grown gg (Nat.ne_of_lt l4_5)); clear gg; (try have k5 := B5.k))
            | ((with_reducible refine at_litn 102 ?_); refine lit_row rfl 3 #[.int .i64 (-1), .int .i64 1, .int .i64 25] 3 (fun _ => by simp [execOp, go_sem]) ?_; intro w' BL bb; have nBL := gw.size; (try clear k5); replace gw := grown_trans gw (grown_below bb _); (try replace r := r.kept bb); (try replace B4 := B4.kept bb); (try replace B5 := B5.kept bb); clear bb; (try have k5 := B5.k)))
          have lBL := BL.lt
          have hBL := BL
          refine (pick_any _ _ _ zs 3 _ r (by omega) (by omega)).mono ?_
          clear r
          rintro e w' ⟨k4, rfl, hk4, r, gg⟩
          (try clear k5)
          have BM := hBL.grown gg (by omega)
          replace gw := grown_trans gw gg
          (try replace B4 := B4.grown gg (by omega))
          (try replace B5 := B5.grown gg (by omega))
          clear gg
          (try have k5 := B5.k)
          obtain ⟨y, hy, cy⟩ : ∃ y : Int, (-1 ≤ y ∧ y ≤ 25) ∧ w'.cell? ⟨_, k4, none⟩ = some (.int .i64 y) := by
            rcases (show k4 = 0 ∨ k4 = 1 ∨ k4 = 2 by omega) with rfl | rfl | rfl
            · exact ⟨-1, by omega, (BM.k 0).trans rfl⟩
            · exact ⟨1, by omega, (BM.k 1).trans rfl⟩
            · exact ⟨25, by omega, (BM.k 2).trans rfl⟩
          have hk4i : (k4 : Int) < 3 := by omega
          go_wp2_with (first
            | ((with_reducible refine at_new 4 24 ?_); refine box_new (d := 4) rfl rfl 24 rfl _ zero_join ?_; intro w' B4 bb; have n4 := gw.size; (try have lr_4 := r.lt); (try have l5_4 := B5.lt); (try clear k5); replace gw := grown_trans gw (grown_below bb _); (try replace r := r.kept bb);  (try replace B5 := B5.kept bb); clear bb; (try have k5 := B5.k))
            | ((with_reducible refine at_new 5 24 ?_); refine box_new (d := 5) rfl rfl 24 rfl _ zero_join ?_; intro w' B5 bb; have n5 := gw.size; (try have lr_5 := r.lt); (try have l4_5 := B4.lt); (try clear k5); replace gw := grown_trans gw (grown_below bb _); (try replace r := r.kept bb); (try replace B4 := B4.kept bb);  clear bb; (try have k5 := B5.k))
            | ((with_reducible refine at_load 24 ?_); refine box_load rfl 24 _ rfl _ rfl (by with_reducible assumption) Try.underlying24 rfl (by kernel_rfl) ?_)
            | ((with_reducible refine at_store 24 ?_); refine box_store rfl 24 _ _ rfl _ _ rfl rfl (by with_reducible exact B5) (by kernel_rfl) (by rfl) (by simp [Value.oneCell']) ?_; clear B5; intro w' B5 gg; (try clear k5); replace gw := grown_new gw gg (fun q e => by cases e; exact n5); (try replace r := r.at gg (by omega) (by omega)); (try replace B4 := B4.grown gg (Nat.ne_of_lt l4_5)); clear gg; (try have k5 := B5.k))
            | ((with_reducible refine at_store 24 ?_); refine box_store rfl 24 _ _ rfl _ _ rfl rfl (by with_reducible exact B4) (by kernel_rfl) (by rfl) (by simp [Value.oneCell']) ?_; clear B4; intro w' B4 gg; (try clear k5); replace gw := grown_new gw gg (fun q e => by cases e; exact n4); (try replace r := r.at gg (by omega) (by omega)); (try replace B5 := B5.grown gg (Nat.ne_of_gt l4_5)); clear gg; (try have k5 := B5.k))
            | ((with_reducible refine at_store 3 ?_); refine box_int rfl _ _ rfl _ _ _ rfl rfl (by with_reducible exact B5) (by simp) ?_; clear B5; intro w' B5 gg; simp only [List.setIfInBounds_toArray, List.set] at B5; (try clear k5); replace gw := grown_new gw gg (fun q e => by cases e; exact n5); (try replace r := r.at gg (by omega) (by omega)); (try replace B4 := B4.grown gg (Nat.ne_of_lt l4_5)); clear gg; (try have k5 := B5.k))
            | ((with_reducible refine at_store 22 ?_); refine box_bytes rfl _ _ rfl _ _ _ _ _ rfl rfl (by with_reducible exact B5) (by simp) ?_; clear B5; intro w' B5 gg; simp only [List.setIfInBounds_toArray, List.set] at B5; (try clear k5); replace gw := grown_new gw gg (fun q e => by cases e; exact n5); (try replace r := r.at gg (by omega) (by omega)); (try replace B4 := B4.grown gg (Nat.ne_of_lt l4_5)); clear gg; (try have k5 := B5.k)))
          refine bodyPost_ret (results_cell_row rfl _ _ _ _ _ _ _ rfl B4 Try.underlying24 rfl (by kernel_rfl)) rfl ?_
          exact ⟨_, _, _, _, _, rfl, by omega, by omega, by omega, by omega, r, gw⟩
        · go_wp2_with (first
            | ((with_reducible refine at_new 4 24 ?_); refine box_new (d := 4) rfl rfl 24 rfl _ zero_join ?_; intro w' B4 bb; have n4 := gw.size; (try have lr_4 := r.lt); (try have l5_4 := B5.lt); (try clear k5); replace gw := grown_trans gw (grown_below bb _); (try replace r := r.kept bb);  (try replace B5 := B5.kept bb); clear bb; (try have k5 := B5.k))
            | ((with_reducible refine at_new 5 24 ?_); refine box_new (d := 5) rfl rfl 24 rfl _ zero_join ?_; intro w' B5 bb; have n5 := gw.size; (try have lr_5 := r.lt); (try have l4_5 := B4.lt); (try clear k5); replace gw := grown_trans gw (grown_below bb _); (try replace r := r.kept bb); (try replace B4 := B4.kept bb);  clear bb; (try have k5 := B5.k))
            | ((with_reducible refine at_load 24 ?_); refine box_load rfl 24 _ rfl _ rfl (by with_reducible assumption) Try.underlying24 rfl (by kernel_rfl) ?_)
            | ((with_reducible refine at_store 24 ?_); refine box_store rfl 24 _ _ rfl _ _ rfl rfl (by with_reducible exact B5) (by kernel_rfl) (by rfl) (by simp [Value.oneCell']) ?_; clear B5; intro w' B5 gg; (try clear k5); replace gw := grown_new gw gg (fun q e => by cases e; exact n5); (try replace r := r.at gg (by omega) (by omega)); (try replace B4 := B4.grown gg (Nat.ne_of_lt l4_5)); clear gg; (try have k5 := B5.k))
            | ((with_reducible refine at_store 24 ?_); refine box_store rfl 24 _ _ rfl _ _ rfl rfl (by with_reducible exact B4) (by kernel_rfl) (by rfl) (by simp [Value.oneCell']) ?_; clear B4; intro w' B4 gg; (try clear k5); replace gw := grown_new gw gg (fun q e => by cases e; exact n4); (try replace r := r.at gg (by omega) (by omega)); (try replace B5 := B5.grown gg (Nat.ne_of_gt l4_5)); clear gg; (try have k5 := B5.k))
            | ((with_reducible refine at_store 3 ?_); refine box_int rfl _ _ rfl _ _ _ rfl rfl (by with_reducible exact B5) (by simp) ?_; clear B5; intro w' B5 gg; simp only [List.setIfInBounds_toArray, List.set] at B5; (try clear k5); replace gw := grown_new gw gg (fun q e => by cases e; exact n5); (try replace r := r.at gg (by omega) (by omega)); (try replace B4 := B4.grown gg (Nat.ne_of_lt l4_5)); clear gg; (try have k5 := B5.k))
            | ((with_reducible refine at_store 22 ?_); refine box_bytes rfl _ _ rfl _ _ _ _ _ rfl rfl (by with_reducible exact B5) (by simp) ?_; clear B5; intro w' B5 gg; simp only [List.setIfInBounds_toArray, List.set] at B5; (try clear k5); replace gw := grown_new gw gg (fun q e => by cases e; exact n5); (try replace r := r.at gg (by omega) (by omega)); (try replace B4 := B4.grown gg (Nat.ne_of_lt l4_5)); clear gg; (try have k5 := B5.k))
            | ((with_reducible refine at_litn 22 ?_); refine lit_row rfl 0 #[] 5 (fun _ => by simp [execOp, go_sem]) ?_; intro w' BL bb; have nBL := gw.size; (try clear k5); replace gw := grown_trans gw (grown_below bb _); (try replace r := r.kept bb); (try replace B4 := B4.kept bb); (try replace B5 := B5.kept bb); clear bb; (try have k5 := B5.k)))
          refine bodyPost_ret (results_cell_row rfl _ _ _ _ _ _ _ rfl B4 Try.underlying24 rfl (by kernel_rfl)) rfl ?_
          exact ⟨_, _, _, _, _, rfl, by omega, by omega, by omega, by omega, r, gw⟩
        · go_wp2_with (first
            | ((with_reducible refine at_new 4 24 ?_); refine box_new (d := 4) rfl rfl 24 rfl _ zero_join ?_; intro w' B4 bb; have n4 := gw.size; (try have lr_4 := r.lt); (try have l5_4 := B5.lt); (try clear k5); replace gw := grown_trans gw (grown_below bb _); (try replace r := r.kept bb);  (try replace B5 := B5.kept bb); clear bb; (try have k5 := B5.k))
            | ((with_reducible refine at_new 5 24 ?_); refine box_new (d := 5) rfl rfl 24 rfl _ zero_join ?_; intro w' B5 bb; have n5 := gw.size; (try have lr_5 := r.lt); (try have l4_5 := B4.lt); (try clear k5); replace gw := grown_trans gw (grown_below bb _); (try replace r := r.kept bb); (try replace B4 := B4.kept bb);  clear bb; (try have k5 := B5.k))
            | ((with_reducible refine at_load 24 ?_); refine box_load rfl 24 _ rfl _ rfl (by with_reducible assumption) Try.underlying24 rfl (by kernel_rfl) ?_)
            | ((with_reducible refine at_store 24 ?_); refine box_store rfl 24 _ _ rfl _ _ rfl rfl (by with_reducible exact B5) (by kernel_rfl) (by rfl) (by simp [Value.oneCell']) ?_; clear B5; intro w' B5 gg; (try clear k5); replace gw := grown_new gw gg (fun q e => by cases e; exact n5); (try replace r := r.at gg (by omega) (by omega)); (try replace B4 := B4.grown gg (Nat.ne_of_lt l4_5)); clear gg; (try have k5 := B5.k))
            | ((with_reducible refine at_store 24 ?_); refine box_store rfl 24 _ _ rfl _ _ rfl rfl (by with_reducible exact B4) (by kernel_rfl) (by rfl) (by simp [Value.oneCell']) ?_; clear B4; intro w' B4 gg; (try clear k5); replace gw := grown_new gw gg (fun q e => by cases e; exact n4); (try replace r := r.at gg (by omega) (by omega)); (try replace B5 := B5.grown gg (Nat.ne_of_gt l4_5)); clear gg; (try have k5 := B5.k))
            | ((with_reducible refine at_store 3 ?_); refine box_int rfl _ _ rfl _ _ _ rfl rfl (by with_reducible exact B5) (by simp) ?_; clear B5; intro w' B5 gg; simp only [List.setIfInBounds_toArray, List.set] at B5; (try clear k5); replace gw := grown_new gw gg (fun q e => by cases e; exact n5); (try replace r := r.at gg (by omega) (by omega)); (try replace B4 := B4.grown gg (Nat.ne_of_lt l4_5)); clear gg; (try have k5 := B5.k))
            | ((with_reducible refine at_store 22 ?_); refine box_bytes rfl _ _ rfl _ _ _ _ _ rfl rfl (by with_reducible exact B5) (by simp) ?_; clear B5; intro w' B5 gg; simp only [List.setIfInBounds_toArray, List.set] at B5; (try clear k5); replace gw := grown_new gw gg (fun q e => by cases e; exact n5); (try replace r := r.at gg (by omega) (by omega)); (try replace B4 := B4.grown gg (Nat.ne_of_lt l4_5)); clear gg; (try have k5 := B5.k)))
          refine (bytes_any _ _ _ zs 25 _ r (by omega) (by omega)).mono ?_
          clear r
          rintro e w' ⟨v5, ys5, p5, rfl, o5, _, hy5, r, hp5, gg⟩
          (try clear k5)
          replace gw := grown_trans gw gg
          (try replace B4 := B4.grown gg (by omega))
          (try replace B5 := B5.grown gg (by omega))
          clear gg
          (try have k5 := B5.k)
          obtain ⟨a5, c5, e5⟩ := own_slice o5
          subst e5
          clear o5
          go_wp2_with (first
            | ((with_reducible refine at_new 4 24 ?_); refine box_new (d := 4) rfl rfl 24 rfl _ zero_join ?_; intro w' B4 bb; have n4 := gw.size; (try have lr_4 := r.lt); (try have l5_4 := B5.lt); (try clear k5); replace gw := grown_trans gw (grown_below bb _); (try replace r := r.kept bb);  (try replace B5 := B5.kept bb); clear bb; (try have k5 := B5.k))
            | ((with_reducible refine at_new 5 24 ?_); refine box_new (d := 5) rfl rfl 24 rfl _ zero_join ?_; intro w' B5 bb; have n5 := gw.size; (try have lr_5 := r.lt); (try have l4_5 := B4.lt); (try clear k5); replace gw := grown_trans gw (grown_below bb _); (try replace r := r.kept bb); (try replace B4 := B4.kept bb);  clear bb; (try have k5 := B5.k))
            | ((with_reducible refine at_load 24 ?_); refine box_load rfl 24 _ rfl _ rfl (by with_reducible assumption) Try.underlying24 rfl (by kernel_rfl) ?_)
            | ((with_reducible refine at_store 24 ?_); refine box_store rfl 24 _ _ rfl _ _ rfl rfl (by with_reducible exact B5) (by kernel_rfl) (by rfl) (by simp [Value.oneCell']) ?_; clear B5; intro w' B5 gg; (try clear k5); replace gw := grown_new gw gg (fun q e => by cases e; exact n5); (try replace r := r.at gg (by omega) (by omega)); (try replace B4 := B4.grown gg (Nat.ne_of_lt l4_5)); clear gg; (try have k5 := B5.k))
            | ((with_reducible refine at_store 24 ?_); refine box_store rfl 24 _ _ rfl _ _ rfl rfl (by with_reducible exact B4) (by kernel_rfl) (by rfl) (by simp [Value.oneCell']) ?_; clear B4; intro w' B4 gg; (try clear k5); replace gw := grown_new gw gg (fun q e => by cases e; exact n4); (try replace r := r.at gg (by omega) (by omega)); (try replace B5 := B5.grown gg (Nat.ne_of_gt l4_5)); clear gg; (try have k5 := B5.k))
            | ((with_reducible refine at_store 3 ?_); refine box_int rfl _ _ rfl _ _ _ rfl rfl (by with_reducible exact B5) (by simp) ?_; clear B5; intro w' B5 gg; simp only [List.setIfInBounds_toArray, List.set] at B5; (try clear k5); replace gw := grown_new gw gg (fun q e => by cases e; exact n5); (try replace r := r.at gg (by omega) (by omega)); (try replace B4 := B4.grown gg (Nat.ne_of_lt l4_5)); clear gg; (try have k5 := B5.k))
            | ((with_reducible refine at_store 22 ?_); refine box_bytes rfl _ _ rfl _ _ _ _ _ rfl rfl (by with_reducible exact B5) (by simp) ?_; clear B5; intro w' B5 gg; simp only [List.setIfInBounds_toArray, List.set] at B5; (try clear k5); replace gw := grown_new gw gg (fun q e => by cases e; exact n5); (try replace r := r.at gg (by omega) (by omega)); (try replace B4 := B4.grown gg (Nat.ne_of_lt l4_5)); clear gg; (try have k5 := B5.k)))
          refine bodyPost_ret (results_cell_row rfl _ _ _ _ _ _ _ rfl B4 Try.underlying24 rfl (by kernel_rfl)) rfl ?_
          exact ⟨_, _, _, _, _, rfl, by omega, by omega, by omega, by omega, r, gw⟩
  · go_wp2_with (first
      | ((with_reducible refine at_new 4 24 ?_); refine box_new (d := 4) rfl rfl 24 rfl _ zero_join ?_; intro w' B4 bb; have n4 := gw.size; (try have lr_4 := r.lt); (try have l5_4 := B5.lt); (try clear k5); replace gw := grown_trans gw (grown_below bb _); (try replace r := r.kept bb);  (try replace B5 := B5.kept bb); clear bb; (try have k5 := B5.k))
      | ((with_reducible refine at_new 5 24 ?_); refine box_new (d := 5) rfl rfl 24 rfl _ zero_join ?_; intro w' B5 bb; have n5 := gw.size; (try have lr_5 := r.lt); (try have l4_5 := B4.lt); (try clear k5); replace gw := grown_trans gw (grown_below bb _); (try replace r := r.kept bb); (try replace B4 := B4.kept bb);  clear bb; (try have k5 := B5.k))
      | ((with_reducible refine at_load 24 ?_); refine box_load rfl 24 _ rfl _ rfl (by with_reducible assumption) Try.underlying24 rfl (by kernel_rfl) ?_)
      | ((with_reducible refine at_store 24 ?_); refine box_store rfl 24 _ _ rfl _ _ rfl rfl (by with_reducible exact B5) (by kernel_rfl) (by rfl) (by simp [Value.oneCell']) ?_; clear B5; intro w' B5 gg; (try clear k5); replace gw := grown_new gw gg (fun q e => by cases e; exact n5); (try replace r := r.at gg (by omega) (by omega)); (try replace B4 := B4.grown gg (Nat.ne_of_lt l4_5)); clear gg; (try have k5 := B5.k))
      | ((with_reducible refine at_store 24 ?_); refine box_store rfl 24 _ _ rfl _ _ rfl rfl (by with_reducible exact B4) (by kernel_rfl) (by rfl) (by simp [Value.oneCell']) ?_; clear B4; intro w' B4 gg; (try clear k5); replace gw := grown_new gw gg (fun q e => by cases e; exact n4); (try replace r := r.at gg (by omega) (by omega)); (try replace B5 := B5.grown gg (Nat.ne_of_gt l4_5)); clear gg; (try have k5 := B5.k))
      | ((with_reducible refine at_store 3 ?_); refine box_int rfl _ _ rfl _ _ _ rfl rfl (by with_reducible exact B5) (by simp) ?_; clear B5; intro w' B5 gg; simp only [List.setIfInBounds_toArray, List.set] at B5; (try clear k5); replace gw := grown_new gw gg (fun q e => by cases e; exact n5); (try replace r := r.at gg (by omega) (by omega)); (try replace B4 := B4.grown gg (Nat.ne_of_lt l4_5)); clear gg; (try have k5 := B5.k))
      | ((with_reducible refine at_store 22 ?_); refine box_bytes rfl _ _ rfl _ _ _ _ _ rfl rfl (by with_reducible exact B5) (by simp) ?_; clear B5; intro w' B5 gg; simp only [List.setIfInBounds_toArray, List.set] at B5; (try clear k5); replace gw := grown_new gw gg (fun q e => by cases e; exact n5); (try replace r := r.at gg (by omega) (by omega)); (try replace B4 := B4.grown gg (Nat.ne_of_lt l4_5)); clear gg; (try have k5 := B5.k)))
    refine (odd_any _ _ _ zs n _ r (by omega) hn).mono ?_
    clear r
    rintro e w' ⟨bad, p3, rfl, _, _, hp3, r, gg⟩
    (try clear k5)
    replace gw := grown_trans gw gg
    (try replace B4 := B4.grown gg (by omega))
    (try replace B5 := B5.grown gg (by omega))
    clear gg
    (try have k5 := B5.k)
    cases bad
    · go_wp2_with (first
        | ((with_reducible refine at_new 4 24 ?_); refine box_new (d := 4) rfl rfl 24 rfl _ zero_join ?_; intro w' B4 bb; have n4 := gw.size; (try have lr_4 := r.lt); (try have l5_4 := B5.lt); (try clear k5); replace gw := grown_trans gw (grown_below bb _); (try replace r := r.kept bb);  (try replace B5 := B5.kept bb); clear bb; (try have k5 := B5.k))
        | ((with_reducible refine at_new 5 24 ?_); refine box_new (d := 5) rfl rfl 24 rfl _ zero_join ?_; intro w' B5 bb; have n5 := gw.size; (try have lr_5 := r.lt); (try have l4_5 := B4.lt); (try clear k5); replace gw := grown_trans gw (grown_below bb _); (try replace r := r.kept bb); (try replace B4 := B4.kept bb);  clear bb; (try have k5 := B5.k))
        | ((with_reducible refine at_load 24 ?_); refine box_load rfl 24 _ rfl _ rfl (by with_reducible assumption) Try.underlying24 rfl (by kernel_rfl) ?_)
        | ((with_reducible refine at_store 24 ?_); refine box_store rfl 24 _ _ rfl _ _ rfl rfl (by with_reducible exact B5) (by kernel_rfl) (by rfl) (by simp [Value.oneCell']) ?_; clear B5; intro w' B5 gg; (try clear k5); replace gw := grown_new gw gg (fun q e => by cases e; exact n5); (try replace r := r.at gg (by omega) (by omega)); (try replace B4 := B4.grown gg (Nat.ne_of_lt l4_5)); clear gg; (try have k5 := B5.k))
        | ((with_reducible refine at_store 24 ?_); refine box_store rfl 24 _ _ rfl _ _ rfl rfl (by with_reducible exact B4) (by kernel_rfl) (by rfl) (by simp [Value.oneCell']) ?_; clear B4; intro w' B4 gg; (try clear k5); replace gw := grown_new gw gg (fun q e => by cases e; exact n4); (try replace r := r.at gg (by omega) (by omega)); (try replace B5 := B5.grown gg (Nat.ne_of_gt l4_5)); clear gg; (try have k5 := B5.k))
        | ((with_reducible refine at_store 3 ?_); refine box_int rfl _ _ rfl _ _ _ rfl rfl (by with_reducible exact B5) (by simp) ?_; clear B5; intro w' B5 gg; simp only [List.setIfInBounds_toArray, List.set] at B5; (try clear k5); replace gw := grown_new gw gg (fun q e => by cases e; exact n5); (try replace r := r.at gg (by omega) (by omega)); (try replace B4 := B4.grown gg (Nat.ne_of_lt l4_5)); clear gg; (try have k5 := B5.k))
        | ((with_reducible refine at_store 22 ?_); refine box_bytes rfl _ _ rfl _ _ _ _ _ rfl rfl (by with_reducible exact B5) (by simp) ?_; clear B5; intro w' B5 gg; simp only [List.setIfInBounds_toArray, List.set] at B5; (try clear k5); replace gw := grown_new gw gg (fun q e => by cases e; exact n5); (try replace r := r.at gg (by omega) (by omega)); (try replace B4 := B4.grown gg (Nat.ne_of_lt l4_5)); clear gg; (try have k5 := B5.k)))
      refine bodyPost_ret (results_cell_row rfl _ _ _ _ _ _ _ rfl B4 Try.underlying24 rfl (by kernel_rfl)) rfl ?_
      exact ⟨_, _, _, _, _, rfl, by omega, by omega, by omega, by omega, r, gw⟩
    · go_wp2_with (first
        | ((with_reducible refine at_new 4 24 ?_); refine box_new (d := 4) rfl rfl 24 rfl _ zero_join ?_; intro w' B4 bb; have n4 := gw.size; (try have lr_4 := r.lt); (try have l5_4 := B5.lt); (try clear k5); replace gw := grown_trans gw (grown_below bb _); (try replace r := r.kept bb);  (try replace B5 := B5.kept bb); clear bb; (try have k5 := B5.k))
        | ((with_reducible refine at_new 5 24 ?_); refine box_new (d := 5) rfl rfl 24 rfl _ zero_join ?_; intro w' B5 bb; have n5 := gw.size; (try have lr_5 := r.lt); (try have l4_5 := B4.lt); (try clear k5); replace gw := grown_trans gw (grown_below bb _); (try replace r := r.kept bb); (try replace B4 := B4.kept bb);  clear bb; (try have k5 := B5.k))
        | ((with_reducible refine at_load 24 ?_); refine box_load rfl 24 _ rfl _ rfl (by with_reducible assumption) Try.underlying24 rfl (by kernel_rfl) ?_)
        | ((with_reducible refine at_store 24 ?_); refine box_store rfl 24 _ _ rfl _ _ rfl rfl (by with_reducible exact B5) (by kernel_rfl) (by rfl) (by simp [Value.oneCell']) ?_; clear B5; intro w' B5 gg; (try clear k5); replace gw := grown_new gw gg (fun q e => by cases e; exact n5); (try replace r := r.at gg (by omega) (by omega)); (try replace B4 := B4.grown gg (Nat.ne_of_lt l4_5)); clear gg; (try have k5 := B5.k))
        | ((with_reducible refine at_store 24 ?_); refine box_store rfl 24 _ _ rfl _ _ rfl rfl (by with_reducible exact B4) (by kernel_rfl) (by rfl) (by simp [Value.oneCell']) ?_; clear B4; intro w' B4 gg; (try clear k5); replace gw := grown_new gw gg (fun q e => by cases e; exact n4); (try replace r := r.at gg (by omega) (by omega)); (try replace B5 := B5.grown gg (Nat.ne_of_gt l4_5)); clear gg; (try have k5 := B5.k))
        | ((with_reducible refine at_store 3 ?_); refine box_int rfl _ _ rfl _ _ _ rfl rfl (by with_reducible exact B5) (by simp) ?_; clear B5; intro w' B5 gg; simp only [List.setIfInBounds_toArray, List.set] at B5; (try clear k5); replace gw := grown_new gw gg (fun q e => by cases e; exact n5); (try replace r := r.at gg (by omega) (by omega)); (try replace B4 := B4.grown gg (Nat.ne_of_lt l4_5)); clear gg; (try have k5 := B5.k))
        | ((with_reducible refine at_store 22 ?_); refine box_bytes rfl _ _ rfl _ _ _ _ _ rfl rfl (by with_reducible exact B5) (by simp) ?_; clear B5; intro w' B5 gg; simp only [List.setIfInBounds_toArray, List.set] at B5; (try clear k5); replace gw := grown_new gw gg (fun q e => by cases e; exact n5); (try replace r := r.at gg (by omega) (by omega)); (try replace B4 := B4.grown gg (Nat.ne_of_lt l4_5)); clear gg; (try have k5 := B5.k)))
      refine (pick_any _ _ _ zs 3 _ r (by omega) (by omega)).mono ?_
      clear r
      rintro e w' ⟨k3, rfl, hk3, r, gg⟩
      (try clear k5)
      replace gw := grown_trans gw gg
      (try replace B4 := B4.grown gg (by omega))
      (try replace B5 := B5.grown gg (by omega))
      clear gg
      (try have k5 := B5.k)
      rcases (show k3 = 0 ∨ k3 = 1 ∨ k3 = 2 by omega) with rfl | rfl | rfl
      · go_wp2_with (first
          | ((with_reducible refine at_new 4 24 ?_); refine box_new (d := 4) rfl rfl 24 rfl _ zero_join ?_; intro w' B4 bb; have n4 := gw.size; (try have lr_4 := r.lt); (try have l5_4 := B5.lt); (try clear k5); replace gw := grown_trans gw (grown_below bb _); (try replace r := r.kept bb);  (try replace B5 := B5.kept bb); clear bb; (try have k5 := B5.k))
          | ((with_reducible refine at_new 5 24 ?_); refine box_new (d := 5) rfl rfl 24 rfl _ zero_join ?_; intro w' B5 bb; have n5 := gw.size; (try have lr_5 := r.lt); (try have l4_5 := B4.lt); (try clear k5); replace gw := grown_trans gw (grown_below bb _); (try replace r := r.kept bb); (try replace B4 := B4.kept bb);  clear bb; (try have k5 := B5.k))
          | ((with_reducible refine at_load 24 ?_); refine box_load rfl 24 _ rfl _ rfl (by with_reducible assumption) Try.underlying24 rfl (by kernel_rfl) ?_)
          | ((with_reducible refine at_store 24 ?_); refine box_store rfl 24 _ _ rfl _ _ rfl rfl (by with_reducible exact B5) (by kernel_rfl) (by rfl) (by simp [Value.oneCell']) ?_; clear B5; intro w' B5 gg; (try clear k5); replace gw := grown_new gw gg (fun q e => by cases e; exact n5); (try replace r := r.at gg (by omega) (by omega)); (try replace B4 := B4.grown gg (Nat.ne_of_lt l4_5)); clear gg; (try have k5 := B5.k))
          | ((with_reducible refine at_store 24 ?_); refine box_store rfl 24 _ _ rfl _ _ rfl rfl (by with_reducible exact B4) (by kernel_rfl) (by rfl) (by simp [Value.oneCell']) ?_; clear B4; intro w' B4 gg; (try clear k5); replace gw := grown_new gw gg (fun q e => by cases e; exact n4); (try replace r := r.at gg (by omega) (by omega)); (try replace B5 := B5.grown gg (Nat.ne_of_gt l4_5)); clear gg; (try have k5 := B5.k))
          | ((with_reducible refine at_store 3 ?_); refine box_int rfl _ _ rfl _ _ _ rfl rfl (by with_reducible exact B5) (by simp) ?_; clear B5; intro w' B5 gg; simp only [List.setIfInBounds_toArray, List.set] at B5; (try clear k5); replace gw := grown_new gw gg (fun q e => by cases e; exact n5); (try replace r := r.at gg (by omega) (by omega)); (try replace B4 := B4.grown gg (Nat.ne_of_lt l4_5)); clear gg; (try have k5 := B5.k))
          | ((with_reducible refine at_store 22 ?_); refine box_bytes rfl _ _ rfl _ _ _ _ _ rfl rfl (by with_reducible exact B5) (by simp) ?_; clear B5; intro w' B5 gg; simp only [List.setIfInBounds_toArray, List.set] at B5; (try clear k5); replace gw := grown_new gw gg (fun q e => by cases e; exact n5); (try replace r := r.at gg (by omega) (by omega)); (try replace B4 := B4.grown gg (Nat.ne_of_lt l4_5)); clear gg; (try have k5 := B5.k))
          | ((with_reducible refine at_litn 102 ?_); refine lit_row rfl 3 #[.int .i64 (-1), .int .i64 1, .int .i64 25] 3 (fun _ => by simp [execOp, go_sem]) ?_; intro w' BL bb; have nBL := gw.size; (try clear k5); replace gw := grown_trans gw (grown_below bb _); (try replace r := r.kept bb); (try replace B4 := B4.kept bb); (try replace B5 := B5.kept bb); clear bb; (try have k5 := B5.k)))
        have lBL := BL.lt
        have hBL := BL
        refine (pick_any _ _ _ zs 3 _ r (by omega) (by omega)).mono ?_
        clear r
        rintro e w' ⟨k4, rfl, hk4, r, gg⟩
        (try clear k5)
        have BM := hBL.grown gg (by omega)
        replace gw := grown_trans gw gg
        (try replace B4 := B4.grown gg (by omega))
        (try replace B5 := B5.grown gg (by omega))
        clear gg
        (try have k5 := B5.k)
        obtain ⟨y, hy, cy⟩ : ∃ y : Int, (-1 ≤ y ∧ y ≤ 25) ∧ w'.cell? ⟨_, k4, none⟩ = some (.int .i64 y) := by
          rcases (show k4 = 0 ∨ k4 = 1 ∨ k4 = 2 by omega) with rfl | rfl | rfl
          · exact ⟨-1, by omega, (BM.k 0).trans rfl⟩
          · exact ⟨1, by omega, (BM.k 1).trans rfl⟩
          · exact ⟨25, by omega, (BM.k 2).trans rfl⟩
        have hk4i : (k4 : Int) < 3 := by omega
        go_wp2_with (first
          | ((with_reducible refine at_new 4 24 ?_); refine box_new (d := 4) rfl rfl 24 rfl _ zero_join ?_; intro w' B4 bb; have n4 := gw.size; (try have lr_4 := r.lt); (try have l5_4 := B5.lt); (try clear k5); replace gw := grown_trans gw (grown_below bb _); (try replace r := r.kept bb);  (try replace B5 := B5.kept bb); clear bb; (try have k5 := B5.k))
          | ((with_reducible refine at_new 5 24 ?_); refine box_new (d := 5) rfl rfl 24 rfl _ zero_join ?_; intro w' B5 bb; have n5 := gw.size; (try have lr_5 := r.lt); (try have l4_5 := B4.lt); (try clear k5); replace gw := grown_trans gw (grown_below bb _); (try replace r := r.kept bb); (try replace B4 := B4.kept bb);  clear bb; (try have k5 := B5.k))
          | ((with_reducible refine at_load 24 ?_); refine box_load rfl 24 _ rfl _ rfl (by with_reducible assumption) Try.underlying24 rfl (by kernel_rfl) ?_)
          | ((with_reducible refine at_store 24 ?_); refine box_store rfl 24 _ _ rfl _ _ rfl rfl (by with_reducible exact B5) (by kernel_rfl) (by rfl) (by simp [Value.oneCell']) ?_; clear B5; intro w' B5 gg; (try clear k5); replace gw := grown_new gw gg (fun q e => by cases e; exact n5); (try replace r := r.at gg (by omega) (by omega)); (try replace B4 := B4.grown gg (Nat.ne_of_lt l4_5)); clear gg; (try have k5 := B5.k))
          | ((with_reducible refine at_store 24 ?_); refine box_store rfl 24 _ _ rfl _ _ rfl rfl (by with_reducible exact B4) (by kernel_rfl) (by rfl) (by simp [Value.oneCell']) ?_; clear B4; intro w' B4 gg; (try clear k5); replace gw := grown_new gw gg (fun q e => by cases e; exact n4); (try replace r := r.at gg (by omega) (by omega)); (try replace B5 := B5.grown gg (Nat.ne_of_gt l4_5)); clear gg; (try have k5 := B5.k))
          | ((with_reducible refine at_store 3 ?_); refine box_int rfl _ _ rfl _ _ _ rfl rfl (by with_reducible exact B5) (by simp) ?_; clear B5; intro w' B5 gg; simp only [List.setIfInBounds_toArray, List.set] at B5; (try clear k5); replace gw := grown_new gw gg (fun q e => by cases e; exact n5); (try replace r := r.at gg (by omega) (by omega)); (try replace B4 := B4.grown gg (Nat.ne_of_lt l4_5)); clear gg; (try have k5 := B5.k))
          | ((with_reducible refine at_store 22 ?_); refine box_bytes rfl _ _ rfl _ _ _ _ _ rfl rfl (by with_reducible exact B5) (by simp) ?_; clear B5; intro w' B5 gg; simp only [List.setIfInBounds_toArray, List.set] at B5; (try clear k5); replace gw := grown_new gw gg (fun q e => by cases e; exact n5); (try replace r := r.at gg (by omega) (by omega)); (try replace B4 := B4.grown gg (Nat.ne_of_lt l4_5)); clear gg; (try have k5 := B5.k)))
        refine bodyPost_ret (results_cell_row rfl _ _ _ _ _ _ _ rfl B4 Try.underlying24 rfl (by kernel_rfl)) rfl ?_
        exact ⟨_, _, _, _, _, rfl, by omega, by omega, by omega, by omega, r, gw⟩
      · go_wp2_with (first
          | ((with_reducible refine at_new 4 24 ?_); refine box_new (d := 4) rfl rfl 24 rfl _ zero_join ?_; intro w' B4 bb; have n4 := gw.size; (try have lr_4 := r.lt); (try have l5_4 := B5.lt); (try clear k5); replace gw := grown_trans gw (grown_below bb _); (try replace r := r.kept bb);  (try replace B5 := B5.kept bb); clear bb; (try have k5 := B5.k))
          | ((with_reducible refine at_new 5 24 ?_); refine box_new (d := 5) rfl rfl 24 rfl _ zero_join ?_; intro w' B5 bb; have n5 := gw.size; (try have lr_5 := r.lt); (try have l4_5 := B4.lt); (try clear k5); replace gw := grown_trans gw (grown_below bb _); (try replace r := r.kept bb); (try replace B4 := B4.kept bb);  clear bb; (try have k5 := B5.k))
          | ((with_reducible refine at_load 24 ?_); refine box_load rfl 24 _ rfl _ rfl (by with_reducible assumption) Try.underlying24 rfl (by kernel_rfl) ?_)
          | ((with_reducible refine at_store 24 ?_); refine box_store rfl 24 _ _ rfl _ _ rfl rfl (by with_reducible exact B5) (by kernel_rfl) (by rfl) (by simp [Value.oneCell']) ?_; clear B5; intro w' B5 gg; (try clear k5); replace gw := grown_new gw gg (fun q e => by cases e; exact n5); (try replace r := r.at gg (by omega) (by omega)); (try replace B4 := B4.grown gg (Nat.ne_of_lt l4_5)); clear gg; (try have k5 := B5.k))
          | ((with_reducible refine at_store 24 ?_); refine box_store rfl 24 _ _ rfl _ _ rfl rfl (by with_reducible exact B4) (by kernel_rfl) (by rfl) (by simp [Value.oneCell']) ?_; clear B4; intro w' B4 gg; (try clear k5); replace gw := grown_new gw gg (fun q e => by cases e; exact n4); (try replace r := r.at gg (by omega) (by omega)); (try replace B5 := B5.grown gg (Nat.ne_of_gt l4_5)); clear gg; (try have k5 := B5.k))
          | ((with_reducible refine at_store 3 ?_); refine box_int rfl _ _ rfl _ _ _ rfl rfl (by with_reducible exact B5) (by simp) ?_; clear B5; intro w' B5 gg; simp only [List.setIfInBounds_toArray, List.set] at B5; (try clear k5); replace gw := grown_new gw gg (fun q e => by cases e; exact n5); (try replace r := r.at gg (by omega) (by omega)); (try replace B4 := B4.grown gg (Nat.ne_of_lt l4_5)); clear gg; (try have k5 := B5.k))
          | ((with_reducible refine at_store 22 ?_); refine box_bytes rfl _ _ rfl _ _ _ _ _ rfl rfl (by with_reducible exact B5) (by simp) ?_; clear B5; intro w' B5 gg; simp only [List.setIfInBounds_toArray, List.set] at B5; (try clear k5); replace gw := grown_new gw gg (fun q e => by cases e; exact n5); (try replace r := r.at gg (by omega) (by omega)); (try replace B4 := B4.grown gg (Nat.ne_of_lt l4_5)); clear gg; (try have k5 := B5.k))
          | ((with_reducible refine at_litn 22 ?_); refine lit_row rfl 0 #[] 5 (fun _ => by simp [execOp, go_sem]) ?_; intro w' BL bb; have nBL := gw.size; (try clear k5); replace gw := grown_trans gw (grown_below bb _); (try replace r := r.kept bb); (try replace B4 := B4.kept bb); (try replace B5 := B5.kept bb); clear bb; (try have k5 := B5.k)))
        refine bodyPost_ret (results_cell_row rfl _ _ _ _ _ _ _ rfl B4 Try.underlying24 rfl (by kernel_rfl)) rfl ?_
        exact ⟨_, _, _, _, _, rfl, by omega, by omega, by omega, by omega, r, gw⟩
      · go_wp2_with (first
          | ((with_reducible refine at_new 4 24 ?_); refine box_new (d := 4) rfl rfl 24 rfl _ zero_join ?_; intro w' B4 bb; have n4 := gw.size; (try have lr_4 := r.lt); (try have l5_4 := B5.lt); (try clear k5); replace gw := grown_trans gw (grown_below bb _); (try replace r := r.kept bb);  (try replace B5 := B5.kept bb); clear bb; (try have k5 := B5.k))
          | ((with_reducible refine at_new 5 24 ?_); refine box_new (d := 5) rfl rfl 24 rfl _ zero_join ?_; intro w' B5 bb; have n5 := gw.size; (try have lr_5 := r.lt); (try have l4_5 := B4.lt); (try clear k5); replace gw := grown_trans gw (grown_below bb _); (try replace r := r.kept bb); (try replace B4 := B4.kept bb);  clear bb; (try have k5 := B5.k))
          | ((with_reducible refine at_load 24 ?_); refine box_load rfl 24 _ rfl _ rfl (by with_reducible assumption) Try.underlying24 rfl (by kernel_rfl) ?_)
          | ((with_reducible refine at_store 24 ?_); refine box_store rfl 24 _ _ rfl _ _ rfl rfl (by with_reducible exact B5) (by kernel_rfl) (by rfl) (by simp [Value.oneCell']) ?_; clear B5; intro w' B5 gg; (try clear k5); replace gw := grown_new gw gg (fun q e => by cases e; exact n5); (try replace r := r.at gg (by omega) (by omega)); (try replace B4 := B4.grown gg (Nat.ne_of_lt l4_5)); clear gg; (try have k5 := B5.k))
          | ((with_reducible refine at_store 24 ?_); refine box_store rfl 24 _ _ rfl _ _ rfl rfl (by with_reducible exact B4) (by kernel_rfl) (by rfl) (by simp [Value.oneCell']) ?_; clear B4; intro w' B4 gg; (try clear k5); replace gw := grown_new gw gg (fun q e => by cases e; exact n4); (try replace r := r.at gg (by omega) (by omega)); (try replace B5 := B5.grown gg (Nat.ne_of_gt l4_5)); clear gg; (try have k5 := B5.k))
          | ((with_reducible refine at_store 3 ?_); refine box_int rfl _ _ rfl _ _ _ rfl rfl (by with_reducible exact B5) (by simp) ?_; clear B5; intro w' B5 gg; simp only [List.setIfInBounds_toArray, List.set] at B5; (try clear k5); replace gw := grown_new gw gg (fun q e => by cases e; exact n5); (try replace r := r.at gg (by omega) (by omega)); (try replace B4 := B4.grown gg (Nat.ne_of_lt l4_5)); clear gg; (try have k5 := B5.k))
          | ((with_reducible refine at_store 22 ?_); refine box_bytes rfl _ _ rfl _ _ _ _ _ rfl rfl (by with_reducible exact B5) (by simp) ?_; clear B5; intro w' B5 gg; simp only [List.setIfInBounds_toArray, List.set] at B5; (try clear k5); replace gw := grown_new gw gg (fun q e => by cases e; exact n5); (try replace r := r.at gg (by omega) (by omega)); (try replace B4 := B4.grown gg (Nat.ne_of_lt l4_5)); clear gg; (try have k5 := B5.k)))
        refine (bytes_any _ _ _ zs 25 _ r (by omega) (by omega)).mono ?_
        clear r
        rintro e w' ⟨v5, ys5, p5, rfl, o5, _, hy5, r, hp5, gg⟩
        (try clear k5)
        replace gw := grown_trans gw gg
        (try replace B4 := B4.grown gg (by omega))
        (try replace B5 := B5.grown gg (by omega))
        clear gg
        (try have k5 := B5.k)
        obtain ⟨a5, c5, e5⟩ := own_slice o5
        subst e5
        clear o5
        go_wp2_with (first
          | ((with_reducible refine at_new 4 24 ?_); refine box_new (d := 4) rfl rfl 24 rfl _ zero_join ?_; intro w' B4 bb; have n4 := gw.size; (try have lr_4 := r.lt); (try have l5_4 := B5.lt); (try clear k5); replace gw := grown_trans gw (grown_below bb _); (try replace r := r.kept bb);  (try replace B5 := B5.kept bb); clear bb; (try have k5 := B5.k))
          | ((with_reducible refine at_new 5 24 ?_); refine box_new (d := 5) rfl rfl 24 rfl _ zero_join ?_; intro w' B5 bb; have n5 := gw.size; (try have lr_5 := r.lt); (try have l4_5 := B4.lt); (try clear k5); replace gw := grown_trans gw (grown_below bb _); (try replace r := r.kept bb); (try replace B4 := B4.kept bb);  clear bb; (try have k5 := B5.k))
          | ((with_reducible refine at_load 24 ?_); refine box_load rfl 24 _ rfl _ rfl (by with_reducible assumption) Try.underlying24 rfl (by kernel_rfl) ?_)
          | ((with_reducible refine at_store 24 ?_); refine box_store rfl 24 _ _ rfl _ _ rfl rfl (by with_reducible exact B5) (by kernel_rfl) (by rfl) (by simp [Value.oneCell']) ?_; clear B5; intro w' B5 gg; (try clear k5); replace gw := grown_new gw gg (fun q e => by cases e; exact n5); (try replace r := r.at gg (by omega) (by omega)); (try replace B4 := B4.grown gg (Nat.ne_of_lt l4_5)); clear gg; (try have k5 := B5.k))
          | ((with_reducible refine at_store 24 ?_); refine box_store rfl 24 _ _ rfl _ _ rfl rfl (by with_reducible exact B4) (by kernel_rfl) (by rfl) (by simp [Value.oneCell']) ?_; clear B4; intro w' B4 gg; (try clear k5); replace gw := grown_new gw gg (fun q e => by cases e; exact n4); (try replace r := r.at gg (by omega) (by omega)); (try replace B5 := B5.grown gg (Nat.ne_of_gt l4_5)); clear gg; (try have k5 := B5.k))
          | ((with_reducible refine at_store 3 ?_); refine box_int rfl _ _ rfl _ _ _ rfl rfl (by with_reducible exact B5) (by simp) ?_; clear B5; intro w' B5 gg; simp only [List.setIfInBounds_toArray, List.set] at B5; (try clear k5); replace gw := grown_new gw gg (fun q e => by cases e; exact n5); (try replace r := r.at gg (by omega) (by omega)); (try replace B4 := B4.grown gg (Nat.ne_of_lt l4_5)); clear gg; (try have k5 := B5.k))
          | ((with_reducible refine at_store 22 ?_); refine box_bytes rfl _ _ rfl _ _ _ _ _ rfl rfl (by with_reducible exact B5) (by simp) ?_; clear B5; intro w' B5 gg; simp only [List.setIfInBounds_toArray, List.set] at B5; (try clear k5); replace gw := grown_new gw gg (fun q e => by cases e; exact n5); (try replace r := r.at gg (by omega) (by omega)); (try replace B4 := B4.grown gg (Nat.ne_of_lt l4_5)); clear gg; (try have k5 := B5.k)))
        refine bodyPost_ret (results_cell_row rfl _ _ _ _ _ _ _ rfl B4 Try.underlying24 rfl (by kernel_rfl)) rfl ?_
        exact ⟨_, _, _, _, _, rfl, by omega, by omega, by omega, by omega, r, gw⟩
end Go.Proofs.Ytkogmnjgpaocbaa
