/- A piece, drawn, with something wrong where it is asked for. -/
import Derived.Test.YtaoafikkamnjlaaDrawPart
namespace Go.Proofs.Ytaoafikkamnjlaa
open Go.RowKit
theorem rd_row {w : World} {g : Nat} {cs : Array Value} {zs : List Nat} (h : Bl w g cs 5) (hc : cs = (bcells zs).toArray) (hb : Byt zs) (hm : zs.length ≤ 1000) : Rd w (.slice (some ⟨g, 0, none⟩) zs.length zs.length) zs := (own_row (B := 0) h (Nat.zero_le _) hc hm).rd hb (by omega)
set_option maxRecDepth 100000 in
set_option maxHeartbeats 8000000 in
theorem partOr_any (B g p : Nat) (zs : List Nat) (n : Nat) (w : World) (h : Rdr w B g p zs) (hp : p ≤ 600000000) (hn : n < 1000000) :
    Calls Try.prog 74 #[.pointer (some ⟨g, 0, none⟩), .int .i64 n] w fun e w' => ∃ (seg len : Int) (a : Option Addr) (k cap p' : Nat), e = .returned (.agg #[.int .i64 seg, .int .i64 len, .slice a k cap]) ∧ k ≤ 16 ∧ p' ≤ p + 200 ∧ Rdr w' B g p' zs ∧ w.grownBy w' (some g) := by
  have hg := h.lt
  have hgB := h.1
  have r := h
  have gw : w.grownBy w (some g) := grown_refl _ _
  go_enter Try.func74, Try.ntmps74
  go_wp2_with (first
    | ((with_reducible refine at_new 4 60 ?_); refine box_new (d := 4) rfl rfl 60 rfl _ zero_part ?_; intro w' B4 bb; (try have nO4 := own_new O); have n4 := gw.size; (try have lr_4 := r.lt); (try have l5_4 := B5.lt); (try have lL_4 := BL.lt); (try clear k5); replace gw := grown_trans gw (grown_below bb _); (try replace r := r.kept bb);  (try replace B5 := B5.kept bb); (try replace BL := BL.kept bb); (try replace O := O.kept bb); clear bb; (try have k5 := B5.k))
    | ((with_reducible refine at_new 5 60 ?_); refine box_new (d := 5) rfl rfl 60 rfl _ zero_part ?_; intro w' B5 bb; (try have nO5 := own_new O); have n5 := gw.size; (try have lr_5 := r.lt); (try have l4_5 := B4.lt); (try have lL_5 := BL.lt); (try clear k5); replace gw := grown_trans gw (grown_below bb _); (try replace r := r.kept bb); (try replace B4 := B4.kept bb);  (try replace BL := BL.kept bb); (try replace O := O.kept bb); clear bb; (try have k5 := B5.k))
    | ((with_reducible refine at_load 60 ?_); refine box_load rfl 60 _ rfl _ rfl (by with_reducible assumption) Try.underlying60 rfl (by kernel_rfl) ?_)
    | ((with_reducible refine at_store 60 ?_); refine box_store rfl 60 _ _ rfl _ _ rfl rfl (by with_reducible exact B5) (by kernel_rfl) (by rfl) (by simp [Value.oneCell']) ?_; clear B5; intro w' B5 gg; (try clear k5); replace gw := grown_new gw gg (fun q e => by cases e; exact n5); (try replace r := r.at gg (by omega) (by omega)); (try replace B4 := B4.grown gg (Nat.ne_of_lt l4_5)); (try replace BL := BL.grown gg (Nat.ne_of_gt l5_L)); (try replace O := O.put gg nO5); clear gg; (try have k5 := B5.k))
    | ((with_reducible refine at_store 60 ?_); refine box_store rfl 60 _ _ rfl _ _ rfl rfl (by with_reducible exact B4) (by kernel_rfl) (by rfl) (by simp [Value.oneCell']) ?_; clear B4; intro w' B4 gg; (try clear k5); replace gw := grown_new gw gg (fun q e => by cases e; exact n4); (try replace r := r.at gg (by omega) (by omega)); (try replace B5 := B5.grown gg (Nat.ne_of_gt l4_5)); (try replace BL := BL.grown gg (Nat.ne_of_gt l4_L)); (try replace O := O.put gg nO4); clear gg; (try have k5 := B5.k))
    | ((with_reducible refine at_store 3 ?_); refine box_int rfl _ _ rfl _ _ _ rfl rfl (by with_reducible exact B5) (by simp) ?_; clear B5; intro w' B5 gg; simp only [List.setIfInBounds_toArray, List.set] at B5; (try clear k5); replace gw := grown_new gw gg (fun q e => by cases e; exact n5); (try replace r := r.at gg (by omega) (by omega)); (try replace B4 := B4.grown gg (Nat.ne_of_lt l4_5)); (try replace BL := BL.grown gg (Nat.ne_of_gt l5_L)); (try replace O := O.put gg nO5); clear gg; (try have k5 := B5.k))
    | ((with_reducible refine at_store 22 ?_); refine box_bytes rfl _ _ rfl _ _ _ _ _ rfl rfl (by with_reducible exact B5) (by simp) ?_; clear B5; intro w' B5 gg; simp only [List.setIfInBounds_toArray, List.set] at B5; (try clear k5); replace gw := grown_new gw gg (fun q e => by cases e; exact n5); (try replace r := r.at gg (by omega) (by omega)); (try replace B4 := B4.grown gg (Nat.ne_of_lt l4_5)); (try replace BL := BL.grown gg (Nat.ne_of_gt l5_L)); (try replace O := O.put gg nO5); clear gg; (try have k5 := B5.k)))
  have q4 := B4.lt
  have hbs := gw.size
  refine (part_any _ _ _ zs _ r (by omega)).mono ?_
  clear r
  rintro e w' ⟨seg, len, v, ys, p1, rfl, _, _, _, _, hy, hby, O, hp1, r, gg⟩
  (try clear k5)
  replace gw := grown_trans gw gg
  (try replace B4 := B4.grown gg (by omega))
  (try replace B5 := B5.grown gg (by omega))
  (try replace BL := BL.grown gg (by omega))
  skip
  clear gg
  (try have k5 := B5.k)
  have nO4 := own_ne O q4
  have nOg : v.ownBlock ≠ some g := own_ne O (by omega)
  obtain ⟨av, cv, ev⟩ := own_form O
  subst ev
  go_wp2_with (first
    | ((with_reducible refine at_new 4 60 ?_); refine box_new (d := 4) rfl rfl 60 rfl _ zero_part ?_; intro w' B4 bb; (try have nO4 := own_new O); have n4 := gw.size; (try have lr_4 := r.lt); (try have l5_4 := B5.lt); (try have lL_4 := BL.lt); (try clear k5); replace gw := grown_trans gw (grown_below bb _); (try replace r := r.kept bb);  (try replace B5 := B5.kept bb); (try replace BL := BL.kept bb); (try replace O := O.kept bb); clear bb; (try have k5 := B5.k))
    | ((with_reducible refine at_new 5 60 ?_); refine box_new (d := 5) rfl rfl 60 rfl _ zero_part ?_; intro w' B5 bb; (try have nO5 := own_new O); have n5 := gw.size; (try have lr_5 := r.lt); (try have l4_5 := B4.lt); (try have lL_5 := BL.lt); (try clear k5); replace gw := grown_trans gw (grown_below bb _); (try replace r := r.kept bb); (try replace B4 := B4.kept bb);  (try replace BL := BL.kept bb); (try replace O := O.kept bb); clear bb; (try have k5 := B5.k))
    | ((with_reducible refine at_load 60 ?_); refine box_load rfl 60 _ rfl _ rfl (by with_reducible assumption) Try.underlying60 rfl (by kernel_rfl) ?_)
    | ((with_reducible refine at_store 60 ?_); refine box_store rfl 60 _ _ rfl _ _ rfl rfl (by with_reducible exact B5) (by kernel_rfl) (by rfl) (by simp [Value.oneCell']) ?_; clear B5; intro w' B5 gg; (try clear k5); replace gw := grown_new gw gg (fun q e => by cases e; exact n5); (try replace r := r.at gg (by omega) (by omega)); (try replace B4 := B4.grown gg (Nat.ne_of_lt l4_5)); (try replace BL := BL.grown gg (Nat.ne_of_gt l5_L)); (try replace O := O.put gg nO5); clear gg; (try have k5 := B5.k))
    | ((with_reducible refine at_store 60 ?_); refine box_store rfl 60 _ _ rfl _ _ rfl rfl (by with_reducible exact B4) (by kernel_rfl) (by rfl) (by simp [Value.oneCell']) ?_; clear B4; intro w' B4 gg; (try clear k5); replace gw := grown_new gw gg (fun q e => by cases e; exact n4); (try replace r := r.at gg (by omega) (by omega)); (try replace B5 := B5.grown gg (Nat.ne_of_gt l4_5)); (try replace BL := BL.grown gg (Nat.ne_of_gt l4_L)); (try replace O := O.put gg nO4); clear gg; (try have k5 := B5.k))
    | ((with_reducible refine at_store 3 ?_); refine box_int rfl _ _ rfl _ _ _ rfl rfl (by with_reducible exact B5) (by simp) ?_; clear B5; intro w' B5 gg; simp only [List.setIfInBounds_toArray, List.set] at B5; (try clear k5); replace gw := grown_new gw gg (fun q e => by cases e; exact n5); (try replace r := r.at gg (by omega) (by omega)); (try replace B4 := B4.grown gg (Nat.ne_of_lt l4_5)); (try replace BL := BL.grown gg (Nat.ne_of_gt l5_L)); (try replace O := O.put gg nO5); clear gg; (try have k5 := B5.k))
    | ((with_reducible refine at_store 22 ?_); refine box_bytes rfl _ _ rfl _ _ _ _ _ rfl rfl (by with_reducible exact B5) (by simp) ?_; clear B5; intro w' B5 gg; simp only [List.setIfInBounds_toArray, List.set] at B5; (try clear k5); replace gw := grown_new gw gg (fun q e => by cases e; exact n5); (try replace r := r.at gg (by omega) (by omega)); (try replace B4 := B4.grown gg (Nat.ne_of_lt l4_5)); (try replace BL := BL.grown gg (Nat.ne_of_gt l5_L)); (try replace O := O.put gg nO5); clear gg; (try have k5 := B5.k)))
  refine (odd_any _ _ _ zs n _ r (by omega) hn).mono ?_
  clear r
  rintro e w' ⟨bad, p3, rfl, _, _, hp3, r, gg⟩
  (try clear k5)
  replace gw := grown_trans gw gg
  (try replace B4 := B4.grown gg (by omega))
  (try replace B5 := B5.grown gg (by omega))
  (try replace BL := BL.grown gg (by omega))
  (try replace O := O.put gg nOg)
  clear gg
  (try have k5 := B5.k)
  cases bad
  · go_wp2_with (first
      | ((with_reducible refine at_new 4 60 ?_); refine box_new (d := 4) rfl rfl 60 rfl _ zero_part ?_; intro w' B4 bb; (try have nO4 := own_new O); have n4 := gw.size; (try have lr_4 := r.lt); (try have l5_4 := B5.lt); (try have lL_4 := BL.lt); (try clear k5); replace gw := grown_trans gw (grown_below bb _); (try replace r := r.kept bb);  (try replace B5 := B5.kept bb); (try replace BL := BL.kept bb); (try replace O := O.kept bb); clear bb; (try have k5 := B5.k))
      | ((with_reducible refine at_new 5 60 ?_); refine box_new (d := 5) rfl rfl 60 rfl _ zero_part ?_; intro w' B5 bb; (try have nO5 := own_new O); have n5 := gw.size; (try have lr_5 := r.lt); (try have l4_5 := B4.lt); (try have lL_5 := BL.lt); (try clear k5); replace gw := grown_trans gw (grown_below bb _); (try replace r := r.kept bb); (try replace B4 := B4.kept bb);  (try replace BL := BL.kept bb); (try replace O := O.kept bb); clear bb; (try have k5 := B5.k))
      | ((with_reducible refine at_load 60 ?_); refine box_load rfl 60 _ rfl _ rfl (by with_reducible assumption) Try.underlying60 rfl (by kernel_rfl) ?_)
      | ((with_reducible refine at_store 60 ?_); refine box_store rfl 60 _ _ rfl _ _ rfl rfl (by with_reducible exact B5) (by kernel_rfl) (by rfl) (by simp [Value.oneCell']) ?_; clear B5; intro w' B5 gg; (try clear k5); replace gw := grown_new gw gg (fun q e => by cases e; exact n5); (try replace r := r.at gg (by omega) (by omega)); (try replace B4 := B4.grown gg (Nat.ne_of_lt l4_5)); (try replace BL := BL.grown gg (Nat.ne_of_gt l5_L)); (try replace O := O.put gg nO5); clear gg; (try have k5 := B5.k))
      | ((with_reducible refine at_store 60 ?_); refine box_store rfl 60 _ _ rfl _ _ rfl rfl (by with_reducible exact B4) (by kernel_rfl) (by rfl) (by simp [Value.oneCell']) ?_; clear B4; intro w' B4 gg; (try clear k5); replace gw := grown_new gw gg (fun q e => by cases e; exact n4); (try replace r := r.at gg (by omega) (by omega)); (try replace B5 := B5.grown gg (Nat.ne_of_gt l4_5)); (try replace BL := BL.grown gg (Nat.ne_of_gt l4_L)); (try replace O := O.put gg nO4); clear gg; (try have k5 := B5.k))
      | ((with_reducible refine at_store 3 ?_); refine box_int rfl _ _ rfl _ _ _ rfl rfl (by with_reducible exact B5) (by simp) ?_; clear B5; intro w' B5 gg; simp only [List.setIfInBounds_toArray, List.set] at B5; (try clear k5); replace gw := grown_new gw gg (fun q e => by cases e; exact n5); (try replace r := r.at gg (by omega) (by omega)); (try replace B4 := B4.grown gg (Nat.ne_of_lt l4_5)); (try replace BL := BL.grown gg (Nat.ne_of_gt l5_L)); (try replace O := O.put gg nO5); clear gg; (try have k5 := B5.k))
      | ((with_reducible refine at_store 22 ?_); refine box_bytes rfl _ _ rfl _ _ _ _ _ rfl rfl (by with_reducible exact B5) (by simp) ?_; clear B5; intro w' B5 gg; simp only [List.setIfInBounds_toArray, List.set] at B5; (try clear k5); replace gw := grown_new gw gg (fun q e => by cases e; exact n5); (try replace r := r.at gg (by omega) (by omega)); (try replace B4 := B4.grown gg (Nat.ne_of_lt l4_5)); (try replace BL := BL.grown gg (Nat.ne_of_gt l5_L)); (try replace O := O.put gg nO5); clear gg; (try have k5 := B5.k)))
    refine bodyPost_ret (results_cell_row rfl _ _ _ _ _ _ _ rfl B4 Try.underlying60 rfl (by kernel_rfl)) rfl ?_
    exact ⟨_, _, _, _, _, _, rfl, by omega, by omega, r, gw⟩
  · go_wp2_with (first
      | ((with_reducible refine at_new 4 60 ?_); refine box_new (d := 4) rfl rfl 60 rfl _ zero_part ?_; intro w' B4 bb; (try have nO4 := own_new O); have n4 := gw.size; (try have lr_4 := r.lt); (try have l5_4 := B5.lt); (try have lL_4 := BL.lt); (try clear k5); replace gw := grown_trans gw (grown_below bb _); (try replace r := r.kept bb);  (try replace B5 := B5.kept bb); (try replace BL := BL.kept bb); (try replace O := O.kept bb); clear bb; (try have k5 := B5.k))
      | ((with_reducible refine at_new 5 60 ?_); refine box_new (d := 5) rfl rfl 60 rfl _ zero_part ?_; intro w' B5 bb; (try have nO5 := own_new O); have n5 := gw.size; (try have lr_5 := r.lt); (try have l4_5 := B4.lt); (try have lL_5 := BL.lt); (try clear k5); replace gw := grown_trans gw (grown_below bb _); (try replace r := r.kept bb); (try replace B4 := B4.kept bb);  (try replace BL := BL.kept bb); (try replace O := O.kept bb); clear bb; (try have k5 := B5.k))
      | ((with_reducible refine at_load 60 ?_); refine box_load rfl 60 _ rfl _ rfl (by with_reducible assumption) Try.underlying60 rfl (by kernel_rfl) ?_)
      | ((with_reducible refine at_store 60 ?_); refine box_store rfl 60 _ _ rfl _ _ rfl rfl (by with_reducible exact B5) (by kernel_rfl) (by rfl) (by simp [Value.oneCell']) ?_; clear B5; intro w' B5 gg; (try clear k5); replace gw := grown_new gw gg (fun q e => by cases e; exact n5); (try replace r := r.at gg (by omega) (by omega)); (try replace B4 := B4.grown gg (Nat.ne_of_lt l4_5)); (try replace BL := BL.grown gg (Nat.ne_of_gt l5_L)); (try replace O := O.put gg nO5); clear gg; (try have k5 := B5.k))
      | ((with_reducible refine at_store 60 ?_); refine box_store rfl 60 _ _ rfl _ _ rfl rfl (by with_reducible exact B4) (by kernel_rfl) (by rfl) (by simp [Value.oneCell']) ?_; clear B4; intro w' B4 gg; (try clear k5); replace gw := grown_new gw gg (fun q e => by cases e; exact n4); (try replace r := r.at gg (by omega) (by omega)); (try replace B5 := B5.grown gg (Nat.ne_of_gt l4_5)); (try replace BL := BL.grown gg (Nat.ne_of_gt l4_L)); (try replace O := O.put gg nO4); clear gg; (try have k5 := B5.k))
      | ((with_reducible refine at_store 3 ?_); refine box_int rfl _ _ rfl _ _ _ rfl rfl (by with_reducible exact B5) (by simp) ?_; clear B5; intro w' B5 gg; simp only [List.setIfInBounds_toArray, List.set] at B5; (try clear k5); replace gw := grown_new gw gg (fun q e => by cases e; exact n5); (try replace r := r.at gg (by omega) (by omega)); (try replace B4 := B4.grown gg (Nat.ne_of_lt l4_5)); (try replace BL := BL.grown gg (Nat.ne_of_gt l5_L)); (try replace O := O.put gg nO5); clear gg; (try have k5 := B5.k))
      | ((with_reducible refine at_store 22 ?_); refine box_bytes rfl _ _ rfl _ _ _ _ _ rfl rfl (by with_reducible exact B5) (by simp) ?_; clear B5; intro w' B5 gg; simp only [List.setIfInBounds_toArray, List.set] at B5; (try clear k5); replace gw := grown_new gw gg (fun q e => by cases e; exact n5); (try replace r := r.at gg (by omega) (by omega)); (try replace B4 := B4.grown gg (Nat.ne_of_lt l4_5)); (try replace BL := BL.grown gg (Nat.ne_of_gt l5_L)); (try replace O := O.put gg nO5); clear gg; (try have k5 := B5.k)))
    refine (pick_any _ _ _ zs 3 _ r (by omega) (by omega)).mono ?_
    clear r
    rintro e w' ⟨k3, rfl, hk3, r, gg⟩
    (try clear k5)
    replace gw := grown_trans gw gg
    (try replace B4 := B4.grown gg (by omega))
    (try replace B5 := B5.grown gg (by omega))
    (try replace BL := BL.grown gg (by omega))
    (try replace O := O.put gg nOg)
    clear gg
    (try have k5 := B5.k)
    rcases (show k3 = 0 ∨ k3 = 1 ∨ k3 = 2 by omega) with rfl | rfl | rfl
    · go_wp2_with (first
        | ((with_reducible refine at_new 4 60 ?_); refine box_new (d := 4) rfl rfl 60 rfl _ zero_part ?_; intro w' B4 bb; (try have nO4 := own_new O); have n4 := gw.size; (try have lr_4 := r.lt); (try have l5_4 := B5.lt); (try have lL_4 := BL.lt); (try clear k5); replace gw := grown_trans gw (grown_below bb _); (try replace r := r.kept bb);  (try replace B5 := B5.kept bb); (try replace BL := BL.kept bb); (try replace O := O.kept bb); clear bb; (try have k5 := B5.k))
        | ((with_reducible refine at_new 5 60 ?_); refine box_new (d := 5) rfl rfl 60 rfl _ zero_part ?_; intro w' B5 bb; (try have nO5 := own_new O); have n5 := gw.size; (try have lr_5 := r.lt); (try have l4_5 := B4.lt); (try have lL_5 := BL.lt); (try clear k5); replace gw := grown_trans gw (grown_below bb _); (try replace r := r.kept bb); (try replace B4 := B4.kept bb);  (try replace BL := BL.kept bb); (try replace O := O.kept bb); clear bb; (try have k5 := B5.k))
        | ((with_reducible refine at_load 60 ?_); refine box_load rfl 60 _ rfl _ rfl (by with_reducible assumption) Try.underlying60 rfl (by kernel_rfl) ?_)
        | ((with_reducible refine at_store 60 ?_); refine box_store rfl 60 _ _ rfl _ _ rfl rfl (by with_reducible exact B5) (by kernel_rfl) (by rfl) (by simp [Value.oneCell']) ?_; clear B5; intro w' B5 gg; (try clear k5); replace gw := grown_new gw gg (fun q e => by cases e; exact n5); (try replace r := r.at gg (by omega) (by omega)); (try replace B4 := B4.grown gg (Nat.ne_of_lt l4_5)); (try replace BL := BL.grown gg (Nat.ne_of_gt l5_L)); (try replace O := O.put gg nO5); clear gg; (try have k5 := B5.k))
        | ((with_reducible refine at_store 60 ?_); refine box_store rfl 60 _ _ rfl _ _ rfl rfl (by with_reducible exact B4) (by kernel_rfl) (by rfl) (by simp [Value.oneCell']) ?_; clear B4; intro w' B4 gg; (try clear k5); replace gw := grown_new gw gg (fun q e => by cases e; exact n4); (try replace r := r.at gg (by omega) (by omega)); (try replace B5 := B5.grown gg (Nat.ne_of_gt l4_5)); (try replace BL := BL.grown gg (Nat.ne_of_gt l4_L)); (try replace O := O.put gg nO4); clear gg; (try have k5 := B5.k))
        | ((with_reducible refine at_store 3 ?_); refine box_int rfl _ _ rfl _ _ _ rfl rfl (by with_reducible exact B5) (by simp) ?_; clear B5; intro w' B5 gg; simp only [List.setIfInBounds_toArray, List.set] at B5; (try clear k5); replace gw := grown_new gw gg (fun q e => by cases e; exact n5); (try replace r := r.at gg (by omega) (by omega)); (try replace B4 := B4.grown gg (Nat.ne_of_lt l4_5)); (try replace BL := BL.grown gg (Nat.ne_of_gt l5_L)); (try replace O := O.put gg nO5); clear gg; (try have k5 := B5.k))
        | ((with_reducible refine at_store 22 ?_); refine box_bytes rfl _ _ rfl _ _ _ _ _ rfl rfl (by with_reducible exact B5) (by simp) ?_; clear B5; intro w' B5 gg; simp only [List.setIfInBounds_toArray, List.set] at B5; (try clear k5); replace gw := grown_new gw gg (fun q e => by cases e; exact n5); (try replace r := r.at gg (by omega) (by omega)); (try replace B4 := B4.grown gg (Nat.ne_of_lt l4_5)); (try replace BL := BL.grown gg (Nat.ne_of_gt l5_L)); (try replace O := O.put gg nO5); clear gg; (try have k5 := B5.k))
        | ((with_reducible refine at_litn 39 ?_); refine lit_row rfl 3 #[.int .i64 (-1), .int .i64 4, .int .i64 1] 3 (fun _ => by simp [execOp, go_sem]) ?_; intro w' BL bb; (try have nOL := own_new O); have nL := gw.size; (try have lr_L := r.lt); (try have l4_L := B4.lt); (try have l5_L := B5.lt); (try clear k5); replace gw := grown_trans gw (grown_below bb _); (try replace r := r.kept bb); (try replace B4 := B4.kept bb); (try replace B5 := B5.kept bb);  (try replace O := O.kept bb); clear bb; (try have k5 := B5.k)))
      refine (pick_any _ _ _ zs 3 _ r (by omega) (by omega)).mono ?_
      clear r
      rintro e w' ⟨k4, rfl, hk4, r, gg⟩
      (try clear k5)
      replace gw := grown_trans gw gg
      (try replace B4 := B4.grown gg (by omega))
      (try replace B5 := B5.grown gg (by omega))
      (try replace BL := BL.grown gg (by omega))
      (try replace O := O.put gg nOg)
      clear gg
      (try have k5 := B5.k)
      obtain ⟨y, cy⟩ : ∃ y : Int, w'.cell? ⟨_, k4, none⟩ = some (.int .i64 y) := by
        rcases (show k4 = 0 ∨ k4 = 1 ∨ k4 = 2 by omega) with rfl | rfl | rfl
        · exact ⟨-1, (BL.k 0).trans rfl⟩
        · exact ⟨4, (BL.k 1).trans rfl⟩
        · exact ⟨1, (BL.k 2).trans rfl⟩
      have hk4i : (k4 : Int) < 3 := by omega
      go_wp2_with (first
        | ((with_reducible refine at_new 4 60 ?_); refine box_new (d := 4) rfl rfl 60 rfl _ zero_part ?_; intro w' B4 bb; (try have nO4 := own_new O); have n4 := gw.size; (try have lr_4 := r.lt); (try have l5_4 := B5.lt); (try have lL_4 := BL.lt); (try clear k5); replace gw := grown_trans gw (grown_below bb _); (try replace r := r.kept bb);  (try replace B5 := B5.kept bb); (try replace BL := BL.kept bb); (try replace O := O.kept bb); clear bb; (try have k5 := B5.k))
        | ((with_reducible refine at_new 5 60 ?_); refine box_new (d := 5) rfl rfl 60 rfl _ zero_part ?_; intro w' B5 bb; (try have nO5 := own_new O); have n5 := gw.size; (try have lr_5 := r.lt); (try have l4_5 := B4.lt); (try have lL_5 := BL.lt); (try clear k5); replace gw := grown_trans gw (grown_below bb _); (try replace r := r.kept bb); (try replace B4 := B4.kept bb);  (try replace BL := BL.kept bb); (try replace O := O.kept bb); clear bb; (try have k5 := B5.k))
        | ((with_reducible refine at_load 60 ?_); refine box_load rfl 60 _ rfl _ rfl (by with_reducible assumption) Try.underlying60 rfl (by kernel_rfl) ?_)
        | ((with_reducible refine at_store 60 ?_); refine box_store rfl 60 _ _ rfl _ _ rfl rfl (by with_reducible exact B5) (by kernel_rfl) (by rfl) (by simp [Value.oneCell']) ?_; clear B5; intro w' B5 gg; (try clear k5); replace gw := grown_new gw gg (fun q e => by cases e; exact n5); (try replace r := r.at gg (by omega) (by omega)); (try replace B4 := B4.grown gg (Nat.ne_of_lt l4_5)); (try replace BL := BL.grown gg (Nat.ne_of_gt l5_L)); (try replace O := O.put gg nO5); clear gg; (try have k5 := B5.k))
        | ((with_reducible refine at_store 60 ?_); refine box_store rfl 60 _ _ rfl _ _ rfl rfl (by with_reducible exact B4) (by kernel_rfl) (by rfl) (by simp [Value.oneCell']) ?_; clear B4; intro w' B4 gg; (try clear k5); replace gw := grown_new gw gg (fun q e => by cases e; exact n4); (try replace r := r.at gg (by omega) (by omega)); (try replace B5 := B5.grown gg (Nat.ne_of_gt l4_5)); (try replace BL := BL.grown gg (Nat.ne_of_gt l4_L)); (try replace O := O.put gg nO4); clear gg; (try have k5 := B5.k))
        | ((with_reducible refine at_store 3 ?_); refine box_int rfl _ _ rfl _ _ _ rfl rfl (by with_reducible exact B5) (by simp) ?_; clear B5; intro w' B5 gg; simp only [List.setIfInBounds_toArray, List.set] at B5; (try clear k5); replace gw := grown_new gw gg (fun q e => by cases e; exact n5); (try replace r := r.at gg (by omega) (by omega)); (try replace B4 := B4.grown gg (Nat.ne_of_lt l4_5)); (try replace BL := BL.grown gg (Nat.ne_of_gt l5_L)); (try replace O := O.put gg nO5); clear gg; (try have k5 := B5.k))
        | ((with_reducible refine at_store 22 ?_); refine box_bytes rfl _ _ rfl _ _ _ _ _ rfl rfl (by with_reducible exact B5) (by simp) ?_; clear B5; intro w' B5 gg; simp only [List.setIfInBounds_toArray, List.set] at B5; (try clear k5); replace gw := grown_new gw gg (fun q e => by cases e; exact n5); (try replace r := r.at gg (by omega) (by omega)); (try replace B4 := B4.grown gg (Nat.ne_of_lt l4_5)); (try replace BL := BL.grown gg (Nat.ne_of_gt l5_L)); (try replace O := O.put gg nO5); clear gg; (try have k5 := B5.k)))
      refine bodyPost_ret (results_cell_row rfl _ _ _ _ _ _ _ rfl B4 Try.underlying60 rfl (by kernel_rfl)) rfl ?_
      exact ⟨_, _, _, _, _, _, rfl, by omega, by omega, r, gw⟩
    · go_wp2_with (first
        | ((with_reducible refine at_new 4 60 ?_); refine box_new (d := 4) rfl rfl 60 rfl _ zero_part ?_; intro w' B4 bb; (try have nO4 := own_new O); have n4 := gw.size; (try have lr_4 := r.lt); (try have l5_4 := B5.lt); (try have lL_4 := BL.lt); (try clear k5); replace gw := grown_trans gw (grown_below bb _); (try replace r := r.kept bb);  (try replace B5 := B5.kept bb); (try replace BL := BL.kept bb); (try replace O := O.kept bb); clear bb; (try have k5 := B5.k))
        | ((with_reducible refine at_new 5 60 ?_); refine box_new (d := 5) rfl rfl 60 rfl _ zero_part ?_; intro w' B5 bb; (try have nO5 := own_new O); have n5 := gw.size; (try have lr_5 := r.lt); (try have l4_5 := B4.lt); (try have lL_5 := BL.lt); (try clear k5); replace gw := grown_trans gw (grown_below bb _); (try replace r := r.kept bb); (try replace B4 := B4.kept bb);  (try replace BL := BL.kept bb); (try replace O := O.kept bb); clear bb; (try have k5 := B5.k))
        | ((with_reducible refine at_load 60 ?_); refine box_load rfl 60 _ rfl _ rfl (by with_reducible assumption) Try.underlying60 rfl (by kernel_rfl) ?_)
        | ((with_reducible refine at_store 60 ?_); refine box_store rfl 60 _ _ rfl _ _ rfl rfl (by with_reducible exact B5) (by kernel_rfl) (by rfl) (by simp [Value.oneCell']) ?_; clear B5; intro w' B5 gg; (try clear k5); replace gw := grown_new gw gg (fun q e => by cases e; exact n5); (try replace r := r.at gg (by omega) (by omega)); (try replace B4 := B4.grown gg (Nat.ne_of_lt l4_5)); (try replace BL := BL.grown gg (Nat.ne_of_gt l5_L)); (try replace O := O.put gg nO5); clear gg; (try have k5 := B5.k))
        | ((with_reducible refine at_store 60 ?_); refine box_store rfl 60 _ _ rfl _ _ rfl rfl (by with_reducible exact B4) (by kernel_rfl) (by rfl) (by simp [Value.oneCell']) ?_; clear B4; intro w' B4 gg; (try clear k5); replace gw := grown_new gw gg (fun q e => by cases e; exact n4); (try replace r := r.at gg (by omega) (by omega)); (try replace B5 := B5.grown gg (Nat.ne_of_gt l4_5)); (try replace BL := BL.grown gg (Nat.ne_of_gt l4_L)); (try replace O := O.put gg nO4); clear gg; (try have k5 := B5.k))
        | ((with_reducible refine at_store 3 ?_); refine box_int rfl _ _ rfl _ _ _ rfl rfl (by with_reducible exact B5) (by simp) ?_; clear B5; intro w' B5 gg; simp only [List.setIfInBounds_toArray, List.set] at B5; (try clear k5); replace gw := grown_new gw gg (fun q e => by cases e; exact n5); (try replace r := r.at gg (by omega) (by omega)); (try replace B4 := B4.grown gg (Nat.ne_of_lt l4_5)); (try replace BL := BL.grown gg (Nat.ne_of_gt l5_L)); (try replace O := O.put gg nO5); clear gg; (try have k5 := B5.k))
        | ((with_reducible refine at_store 22 ?_); refine box_bytes rfl _ _ rfl _ _ _ _ _ rfl rfl (by with_reducible exact B5) (by simp) ?_; clear B5; intro w' B5 gg; simp only [List.setIfInBounds_toArray, List.set] at B5; (try clear k5); replace gw := grown_new gw gg (fun q e => by cases e; exact n5); (try replace r := r.at gg (by omega) (by omega)); (try replace B4 := B4.grown gg (Nat.ne_of_lt l4_5)); (try replace BL := BL.grown gg (Nat.ne_of_gt l5_L)); (try replace O := O.put gg nO5); clear gg; (try have k5 := B5.k))
        | ((with_reducible refine at_litn 39 ?_); refine lit_row rfl 3 #[.int .i64 (-1), .int .i64 25, .int .i64 3] 3 (fun _ => by simp [execOp, go_sem]) ?_; intro w' BL bb; (try have nOL := own_new O); have nL := gw.size; (try have lr_L := r.lt); (try have l4_L := B4.lt); (try have l5_L := B5.lt); (try clear k5); replace gw := grown_trans gw (grown_below bb _); (try replace r := r.kept bb); (try replace B4 := B4.kept bb); (try replace B5 := B5.kept bb);  (try replace O := O.kept bb); clear bb; (try have k5 := B5.k)))
      refine (pick_any _ _ _ zs 3 _ r (by omega) (by omega)).mono ?_
      clear r
      rintro e w' ⟨k4, rfl, hk4, r, gg⟩
      (try clear k5)
      replace gw := grown_trans gw gg
      (try replace B4 := B4.grown gg (by omega))
      (try replace B5 := B5.grown gg (by omega))
      (try replace BL := BL.grown gg (by omega))
      (try replace O := O.put gg nOg)
      clear gg
      (try have k5 := B5.k)
      obtain ⟨y, cy⟩ : ∃ y : Int, w'.cell? ⟨_, k4, none⟩ = some (.int .i64 y) := by
        rcases (show k4 = 0 ∨ k4 = 1 ∨ k4 = 2 by omega) with rfl | rfl | rfl
        · exact ⟨-1, (BL.k 0).trans rfl⟩
        · exact ⟨25, (BL.k 1).trans rfl⟩
        · exact ⟨3, (BL.k 2).trans rfl⟩
      have hk4i : (k4 : Int) < 3 := by omega
      go_wp2_with (first
        | ((with_reducible refine at_new 4 60 ?_); refine box_new (d := 4) rfl rfl 60 rfl _ zero_part ?_; intro w' B4 bb; (try have nO4 := own_new O); have n4 := gw.size; (try have lr_4 := r.lt); (try have l5_4 := B5.lt); (try have lL_4 := BL.lt); (try clear k5); replace gw := grown_trans gw (grown_below bb _); (try replace r := r.kept bb);  (try replace B5 := B5.kept bb); (try replace BL := BL.kept bb); (try replace O := O.kept bb); clear bb; (try have k5 := B5.k))
        | ((with_reducible refine at_new 5 60 ?_); refine box_new (d := 5) rfl rfl 60 rfl _ zero_part ?_; intro w' B5 bb; (try have nO5 := own_new O); have n5 := gw.size; (try have lr_5 := r.lt); (try have l4_5 := B4.lt); (try have lL_5 := BL.lt); (try clear k5); replace gw := grown_trans gw (grown_below bb _); (try replace r := r.kept bb); (try replace B4 := B4.kept bb);  (try replace BL := BL.kept bb); (try replace O := O.kept bb); clear bb; (try have k5 := B5.k))
        | ((with_reducible refine at_load 60 ?_); refine box_load rfl 60 _ rfl _ rfl (by with_reducible assumption) Try.underlying60 rfl (by kernel_rfl) ?_)
        | ((with_reducible refine at_store 60 ?_); refine box_store rfl 60 _ _ rfl _ _ rfl rfl (by with_reducible exact B5) (by kernel_rfl) (by rfl) (by simp [Value.oneCell']) ?_; clear B5; intro w' B5 gg; (try clear k5); replace gw := grown_new gw gg (fun q e => by cases e; exact n5); (try replace r := r.at gg (by omega) (by omega)); (try replace B4 := B4.grown gg (Nat.ne_of_lt l4_5)); (try replace BL := BL.grown gg (Nat.ne_of_gt l5_L)); (try replace O := O.put gg nO5); clear gg; (try have k5 := B5.k))
        | ((with_reducible refine at_store 60 ?_); refine box_store rfl 60 _ _ rfl _ _ rfl rfl (by with_reducible exact B4) (by kernel_rfl) (by rfl) (by simp [Value.oneCell']) ?_; clear B4; intro w' B4 gg; (try clear k5); replace gw := grown_new gw gg (fun q e => by cases e; exact n4); (try replace r := r.at gg (by omega) (by omega)); (try replace B5 := B5.grown gg (Nat.ne_of_gt l4_5)); (try replace BL := BL.grown gg (Nat.ne_of_gt l4_L)); (try replace O := O.put gg nO4); clear gg; (try have k5 := B5.k))
        | ((with_reducible refine at_store 3 ?_); refine box_int rfl _ _ rfl _ _ _ rfl rfl (by with_reducible exact B5) (by simp) ?_; clear B5; intro w' B5 gg; simp only [List.setIfInBounds_toArray, List.set] at B5; (try clear k5); replace gw := grown_new gw gg (fun q e => by cases e; exact n5); (try replace r := r.at gg (by omega) (by omega)); (try replace B4 := B4.grown gg (Nat.ne_of_lt l4_5)); (try replace BL := BL.grown gg (Nat.ne_of_gt l5_L)); (try replace O := O.put gg nO5); clear gg; (try have k5 := B5.k))
        | ((with_reducible refine at_store 22 ?_); refine box_bytes rfl _ _ rfl _ _ _ _ _ rfl rfl (by with_reducible exact B5) (by simp) ?_; clear B5; intro w' B5 gg; simp only [List.setIfInBounds_toArray, List.set] at B5; (try clear k5); replace gw := grown_new gw gg (fun q e => by cases e; exact n5); (try replace r := r.at gg (by omega) (by omega)); (try replace B4 := B4.grown gg (Nat.ne_of_lt l4_5)); (try replace BL := BL.grown gg (Nat.ne_of_gt l5_L)); (try replace O := O.put gg nO5); clear gg; (try have k5 := B5.k)))
      refine bodyPost_ret (results_cell_row rfl _ _ _ _ _ _ _ rfl B4 Try.underlying60 rfl (by kernel_rfl)) rfl ?_
      exact ⟨_, _, _, _, _, _, rfl, by omega, by omega, r, gw⟩
    · go_wp2_with (first
        | ((with_reducible refine at_new 4 60 ?_); refine box_new (d := 4) rfl rfl 60 rfl _ zero_part ?_; intro w' B4 bb; (try have nO4 := own_new O); have n4 := gw.size; (try have lr_4 := r.lt); (try have l5_4 := B5.lt); (try have lL_4 := BL.lt); (try clear k5); replace gw := grown_trans gw (grown_below bb _); (try replace r := r.kept bb);  (try replace B5 := B5.kept bb); (try replace BL := BL.kept bb); (try replace O := O.kept bb); clear bb; (try have k5 := B5.k))
        | ((with_reducible refine at_new 5 60 ?_); refine box_new (d := 5) rfl rfl 60 rfl _ zero_part ?_; intro w' B5 bb; (try have nO5 := own_new O); have n5 := gw.size; (try have lr_5 := r.lt); (try have l4_5 := B4.lt); (try have lL_5 := BL.lt); (try clear k5); replace gw := grown_trans gw (grown_below bb _); (try replace r := r.kept bb); (try replace B4 := B4.kept bb);  (try replace BL := BL.kept bb); (try replace O := O.kept bb); clear bb; (try have k5 := B5.k))
        | ((with_reducible refine at_load 60 ?_); refine box_load rfl 60 _ rfl _ rfl (by with_reducible assumption) Try.underlying60 rfl (by kernel_rfl) ?_)
        | ((with_reducible refine at_store 60 ?_); refine box_store rfl 60 _ _ rfl _ _ rfl rfl (by with_reducible exact B5) (by kernel_rfl) (by rfl) (by simp [Value.oneCell']) ?_; clear B5; intro w' B5 gg; (try clear k5); replace gw := grown_new gw gg (fun q e => by cases e; exact n5); (try replace r := r.at gg (by omega) (by omega)); (try replace B4 := B4.grown gg (Nat.ne_of_lt l4_5)); (try replace BL := BL.grown gg (Nat.ne_of_gt l5_L)); (try replace O := O.put gg nO5); clear gg; (try have k5 := B5.k))
        | ((with_reducible refine at_store 60 ?_); refine box_store rfl 60 _ _ rfl _ _ rfl rfl (by with_reducible exact B4) (by kernel_rfl) (by rfl) (by simp [Value.oneCell']) ?_; clear B4; intro w' B4 gg; (try clear k5); replace gw := grown_new gw gg (fun q e => by cases e; exact n4); (try replace r := r.at gg (by omega) (by omega)); (try replace B5 := B5.grown gg (Nat.ne_of_gt l4_5)); (try replace BL := BL.grown gg (Nat.ne_of_gt l4_L)); (try replace O := O.put gg nO4); clear gg; (try have k5 := B5.k))
        | ((with_reducible refine at_store 3 ?_); refine box_int rfl _ _ rfl _ _ _ rfl rfl (by with_reducible exact B5) (by simp) ?_; clear B5; intro w' B5 gg; simp only [List.setIfInBounds_toArray, List.set] at B5; (try clear k5); replace gw := grown_new gw gg (fun q e => by cases e; exact n5); (try replace r := r.at gg (by omega) (by omega)); (try replace B4 := B4.grown gg (Nat.ne_of_lt l4_5)); (try replace BL := BL.grown gg (Nat.ne_of_gt l5_L)); (try replace O := O.put gg nO5); clear gg; (try have k5 := B5.k))
        | ((with_reducible refine at_store 22 ?_); refine box_bytes rfl _ _ rfl _ _ _ _ _ rfl rfl (by with_reducible exact B5) (by simp) ?_; clear B5; intro w' B5 gg; simp only [List.setIfInBounds_toArray, List.set] at B5; (try clear k5); replace gw := grown_new gw gg (fun q e => by cases e; exact n5); (try replace r := r.at gg (by omega) (by omega)); (try replace B4 := B4.grown gg (Nat.ne_of_lt l4_5)); (try replace BL := BL.grown gg (Nat.ne_of_gt l5_L)); (try replace O := O.put gg nO5); clear gg; (try have k5 := B5.k))
        | ((with_reducible refine at_litn 22 ?_); refine lit_row rfl 8 #[.int .u8 1, .int .u8 2, .int .u8 3, .int .u8 4, .int .u8 5, .int .u8 6, .int .u8 7, .int .u8 8] 5 (fun _ => by simp [execOp, go_sem]) ?_; intro w' BL bb; (try have nOL := own_new O); have nL := gw.size; (try have lr_L := r.lt); (try have l4_L := B4.lt); (try have l5_L := B5.lt); (try clear k5); replace gw := grown_trans gw (grown_below bb _); (try replace r := r.kept bb); (try replace B4 := B4.kept bb); (try replace B5 := B5.kept bb);  (try replace O := O.kept bb); clear bb; (try have k5 := B5.k))
        | (at_builtin; refine Hid.out ?_))
      unfold Hid
      have hrd := rd_row (zs := [1, 2, 3, 4, 5, 6, 7, 8]) BL rfl (by intro z hz; simp at hz; omega) (by simp)
      replace O := own_down O hbs
      refine wpList_app _ rfl _ _ rfl _ _ ys rfl O _ _ rfl hrd (by simp; omega) gw.size ?_
      intro v8 w8 o8 g8
      replace g8 : World.grownBy _ w8 (Value.slice av ys.length cv).ownBlock := g8
      have hlt := World.ownsRow.lt O
      replace r := r.other g8 (fun q e => by have := hlt q e; have : q ≠ g := fun e' => nOg (by rw [e, e']); omega)
      replace B4 : Bl w8 _ _ _ := (g8.block _ B4.lt (fun e => nO4 e.symm)).trans B4
      replace B5 : Bl w8 _ _ _ := (g8.block _ B5.lt (fun e => nO5 e.symm)).trans B5
      replace gw := grown_new gw g8 (fun q e => (hlt q e).1)
      obtain ⟨a8, c8, e8⟩ := own_form o8
      subst e8
      have hl8 : (ys ++ [1, 2, 3, 4, 5, 6, 7, 8]).length ≤ 16 := by simp; omega
      generalize (ys ++ [1, 2, 3, 4, 5, 6, 7, 8]).length = m8 at hl8 ⊢
      clear O o8 g8 hrd BL nO4 nO5 nOg
      have k5 := B5.k
      go_wp2_with (first
        | ((with_reducible refine at_new 4 60 ?_); refine box_new (d := 4) rfl rfl 60 rfl _ zero_part ?_; intro w' B4 bb; (try have nO4 := own_new O); have n4 := gw.size; (try have lr_4 := r.lt); (try have l5_4 := B5.lt); (try have lL_4 := BL.lt); (try clear k5); replace gw := grown_trans gw (grown_below bb _); (try replace r := r.kept bb);  (try replace B5 := B5.kept bb); (try replace BL := BL.kept bb); (try replace O := O.kept bb); clear bb; (try have k5 := B5.k))
        | ((with_reducible refine at_new 5 60 ?_); refine box_new (d := 5) rfl rfl 60 rfl _ zero_part ?_; intro w' B5 bb; (try have nO5 := own_new O); have n5 := gw.size; (try have lr_5 := r.lt); (try have l4_5 := B4.lt); (try have lL_5 := BL.lt); (try clear k5); replace gw := grown_trans gw (grown_below bb _); (try replace r := r.kept bb); (try replace B4 := B4.kept bb);  (try replace BL := BL.kept bb); (try replace O := O.kept bb); clear bb; (try have k5 := B5.k))
        | ((with_reducible refine at_load 60 ?_); refine box_load rfl 60 _ rfl _ rfl (by with_reducible assumption) Try.underlying60 rfl (by kernel_rfl) ?_)
        | ((with_reducible refine at_store 60 ?_); refine box_store rfl 60 _ _ rfl _ _ rfl rfl (by with_reducible exact B5) (by kernel_rfl) (by rfl) (by simp [Value.oneCell']) ?_; clear B5; intro w' B5 gg; (try clear k5); replace gw := grown_new gw gg (fun q e => by cases e; exact n5); (try replace r := r.at gg (by omega) (by omega)); (try replace B4 := B4.grown gg (Nat.ne_of_lt l4_5)); (try replace BL := BL.grown gg (Nat.ne_of_gt l5_L)); (try replace O := O.put gg nO5); clear gg; (try have k5 := B5.k))
        | ((with_reducible refine at_store 60 ?_); refine box_store rfl 60 _ _ rfl _ _ rfl rfl (by with_reducible exact B4) (by kernel_rfl) (by rfl) (by simp [Value.oneCell']) ?_; clear B4; intro w' B4 gg; (try clear k5); replace gw := grown_new gw gg (fun q e => by cases e; exact n4); (try replace r := r.at gg (by omega) (by omega)); (try replace B5 := B5.grown gg (Nat.ne_of_gt l4_5)); (try replace BL := BL.grown gg (Nat.ne_of_gt l4_L)); (try replace O := O.put gg nO4); clear gg; (try have k5 := B5.k))
        | ((with_reducible refine at_store 3 ?_); refine box_int rfl _ _ rfl _ _ _ rfl rfl (by with_reducible exact B5) (by simp) ?_; clear B5; intro w' B5 gg; simp only [List.setIfInBounds_toArray, List.set] at B5; (try clear k5); replace gw := grown_new gw gg (fun q e => by cases e; exact n5); (try replace r := r.at gg (by omega) (by omega)); (try replace B4 := B4.grown gg (Nat.ne_of_lt l4_5)); (try replace BL := BL.grown gg (Nat.ne_of_gt l5_L)); (try replace O := O.put gg nO5); clear gg; (try have k5 := B5.k))
        | ((with_reducible refine at_store 22 ?_); refine box_bytes rfl _ _ rfl _ _ _ _ _ rfl rfl (by with_reducible exact B5) (by simp) ?_; clear B5; intro w' B5 gg; simp only [List.setIfInBounds_toArray, List.set] at B5; (try clear k5); replace gw := grown_new gw gg (fun q e => by cases e; exact n5); (try replace r := r.at gg (by omega) (by omega)); (try replace B4 := B4.grown gg (Nat.ne_of_lt l4_5)); (try replace BL := BL.grown gg (Nat.ne_of_gt l5_L)); (try replace O := O.put gg nO5); clear gg; (try have k5 := B5.k)))
      refine bodyPost_ret (results_cell_row rfl _ _ _ _ _ _ _ rfl B4 Try.underlying60 rfl (by kernel_rfl)) rfl ?_
      exact ⟨_, _, _, _, _, _, rfl, by omega, by omega, r, gw⟩
set_option maxRecDepth 100000 in
set_option maxHeartbeats 2000000 in
theorem drawPart_any (v : Value) (zs : List Nat) (w : World) (h : Rd w v zs) :
    Calls Try.prog 46 #[v] w fun e w' => ∃ (seg len : Int) (a : Option Addr) (k cap : Nat), e = .returned (.agg #[.int .i64 seg, .int .i64 len, .slice a k cap]) ∧ k ≤ 16 ∧ Below w.heap.size w w' := by
  have b0 : Below w.heap.size w w := Below.refl _ _
  go_enter Try.func46, Try.ntmps46
  go_wp2_with (first
    | ((with_reducible refine at_new 2 60 ?_); refine box_new (d := 2) rfl rfl 60 rfl _ zero_part ?_; intro w' B2 bb; have n2 := b0.size; (try have lr_2 := r.lt);   replace b0 := bchain b0 bb; (try replace r := r.kept bb);  clear bb; skip)
    | ((with_reducible refine at_store 60 ?_); refine box_store rfl 60 _ _ rfl _ _ rfl rfl (by with_reducible exact B2) (by kernel_rfl) (by rfl) (by simp [Value.oneCell']) ?_; clear B2; intro w' B2 gg;  replace b0 := below_at b0 gg b0.size n2; (try replace r := r.at gg (Nat.le_trans r.1 (Nat.le_of_lt lr_2)) (Nat.ne_of_gt lr_2));  clear gg; skip))
  refine (open_any v zs _ (h.kept b0)).mono ?_
  have nr := b0.size
  have l2_r := B2.lt
  rintro e w' ⟨rfl, ⟨cs, r⟩, bb⟩
  replace b0 := bchain b0 bb
  (try replace B2 := B2.kept bb)
  clear bb
  skip
  go_wp2_with (first
    | ((with_reducible refine at_new 2 60 ?_); refine box_new (d := 2) rfl rfl 60 rfl _ zero_part ?_; intro w' B2 bb; have n2 := b0.size; (try have lr_2 := r.lt);   replace b0 := bchain b0 bb; (try replace r := r.kept bb);  clear bb; skip)
    | ((with_reducible refine at_store 60 ?_); refine box_store rfl 60 _ _ rfl _ _ rfl rfl (by with_reducible exact B2) (by kernel_rfl) (by rfl) (by simp [Value.oneCell']) ?_; clear B2; intro w' B2 gg;  replace b0 := below_at b0 gg b0.size n2; (try replace r := r.at gg (Nat.le_trans r.1 (Nat.le_of_lt lr_2)) (Nat.ne_of_gt lr_2));  clear gg; skip))
  refine (partOr_any _ _ _ cs 2 _ r (by omega) (by omega)).mono ?_
  clear r
  rintro e w' ⟨seg, len, a, k, cap, p1, rfl, h1, _, r, gg⟩
  replace b0 := below_at b0 gg b0.size (by omega)
  (try replace B2 := B2.grown gg (by omega))
  clear gg
  skip
  go_wp2_with (first
    | ((with_reducible refine at_new 2 60 ?_); refine box_new (d := 2) rfl rfl 60 rfl _ zero_part ?_; intro w' B2 bb; have n2 := b0.size; (try have lr_2 := r.lt);   replace b0 := bchain b0 bb; (try replace r := r.kept bb);  clear bb; skip)
    | ((with_reducible refine at_store 60 ?_); refine box_store rfl 60 _ _ rfl _ _ rfl rfl (by with_reducible exact B2) (by kernel_rfl) (by rfl) (by simp [Value.oneCell']) ?_; clear B2; intro w' B2 gg;  replace b0 := below_at b0 gg b0.size n2; (try replace r := r.at gg (Nat.le_trans r.1 (Nat.le_of_lt lr_2)) (Nat.ne_of_gt lr_2));  clear gg; skip))
  refine bodyPost_ret (results_cell_row rfl _ _ _ _ _ _ _ rfl B2 Try.underlying60 rfl (by kernel_rfl)) rfl ?_
  exact ⟨_, _, _, _, _, rfl, h1, b0⟩
end Go.Proofs.Ytaoafikkamnjlaa
