/- A piece that is ok, drawn. -/
import Derived.Test.YtaoafikkamnjlaaOwnRun
import Derived.Test.YtaoafikkamnjlaaCfgEq
namespace Go.Proofs.Ytaoafikkamnjlaa
open Go.RowKit
theorem zero_part (w : World) : (zeroValue 60).run Try.prog w = .ok (.agg #[.int .i64 0, .int .i64 0, .slice none 0 0]) w := by kernel_rfl
set_option maxRecDepth 100000 in
set_option maxHeartbeats 8000000 in
theorem part_any (B g p : Nat) (zs : List Nat) (w : World) (h : Rdr w B g p zs) (hp : p ≤ 700000000) :
    Calls Try.prog 88 #[.pointer (some ⟨g, 0, none⟩)] w fun e w' => ∃ (seg len : Int) (v : Value) (ys : List Nat) (p' : Nat), e = .returned (.agg #[.int .i64 seg, .int .i64 len, v]) ∧ (0 ≤ seg ∧ seg ≤ 3) ∧ (seg = 0 → len = ys.length) ∧ (seg = 1 → 0 < ys.length ∧ (ys.length : Int) < len ∧ len ≤ 24) ∧ (2 ≤ seg → len = 0 ∧ 0 < ys.length) ∧ ys.length ≤ 8 ∧ Byt ys ∧ Own w' w.heap.size v ys ∧ p' ≤ p + 100 ∧ Rdr w' B g p' zs ∧ w.grownBy w' (some g) := by
  have hg := h.lt
  have hgB := h.1
  have r := h
  have gw : w.grownBy w (some g) := grown_refl _ _
  go_enter Try.func88, Try.ntmps88
  go_wp2_with (first
    | ((with_reducible refine at_new 2 60 ?_); refine box_new (d := 2) rfl rfl 60 rfl _ zero_part ?_; intro w' B2 bb; (try have nO2 := own_new O); have n2 := gw.size; (try have lr_2 := r.lt); (try have l3_2 := B3.lt); (try have lL_2 := BL.lt); (try clear k3); replace gw := grown_trans gw (grown_below bb _); (try replace r := r.kept bb);  (try replace B3 := B3.kept bb); (try replace BL := BL.kept bb); (try replace O := O.kept bb); clear bb; (try have k3 := B3.k))
    | ((with_reducible refine at_new 3 60 ?_); refine box_new (d := 3) rfl rfl 60 rfl _ zero_part ?_; intro w' B3 bb; (try have nO3 := own_new O); have n3 := gw.size; (try have lr_3 := r.lt); (try have l2_3 := B2.lt); (try have lL_3 := BL.lt); (try clear k3); replace gw := grown_trans gw (grown_below bb _); (try replace r := r.kept bb); (try replace B2 := B2.kept bb);  (try replace BL := BL.kept bb); (try replace O := O.kept bb); clear bb; (try have k3 := B3.k))
    | ((with_reducible refine at_load 60 ?_); refine box_load rfl 60 _ rfl _ rfl (by with_reducible assumption) Try.underlying60 rfl (by kernel_rfl) ?_)
    | ((with_reducible refine at_store 60 ?_); refine box_store rfl 60 _ _ rfl _ _ rfl rfl (by with_reducible exact B3) (by kernel_rfl) (by rfl) (by simp [Value.oneCell']) ?_; clear B3; intro w' B3 gg; (try clear k3); replace gw := grown_new gw gg (fun q e => by cases e; exact n3); (try replace r := r.at gg (by omega) (by omega)); (try replace B2 := B2.grown gg (Nat.ne_of_lt l2_3)); (try replace BL := BL.grown gg (Nat.ne_of_gt l3_L)); (try replace O := O.put gg nO3); clear gg; (try have k3 := B3.k))
    | ((with_reducible refine at_store 60 ?_); refine box_store rfl 60 _ _ rfl _ _ rfl rfl (by with_reducible exact B2) (by kernel_rfl) (by rfl) (by simp [Value.oneCell']) ?_; clear B2; intro w' B2 gg; (try clear k3); replace gw := grown_new gw gg (fun q e => by cases e; exact n2); (try replace r := r.at gg (by omega) (by omega)); (try replace B3 := B3.grown gg (Nat.ne_of_gt l2_3)); (try replace BL := BL.grown gg (Nat.ne_of_gt l2_L)); (try replace O := O.put gg nO2); clear gg; (try have k3 := B3.k))
    | ((with_reducible refine at_store 3 ?_); refine box_int rfl _ _ rfl _ _ _ rfl rfl (by with_reducible exact B3) (by simp) ?_; clear B3; intro w' B3 gg; simp only [List.setIfInBounds_toArray, List.set] at B3; (try clear k3); replace gw := grown_new gw gg (fun q e => by cases e; exact n3); (try replace r := r.at gg (by omega) (by omega)); (try replace B2 := B2.grown gg (Nat.ne_of_lt l2_3)); (try replace BL := BL.grown gg (Nat.ne_of_gt l3_L)); (try replace O := O.put gg nO3); clear gg; (try have k3 := B3.k))
    | ((with_reducible refine at_store 22 ?_); refine box_bytes rfl _ _ rfl _ _ _ _ _ rfl rfl (by with_reducible exact B3) (by simp) ?_; clear B3; intro w' B3 gg; simp only [List.setIfInBounds_toArray, List.set] at B3; (try clear k3); replace gw := grown_new gw gg (fun q e => by cases e; exact n3); (try replace r := r.at gg (by omega) (by omega)); (try replace B2 := B2.grown gg (Nat.ne_of_lt l2_3)); (try replace BL := BL.grown gg (Nat.ne_of_gt l3_L)); (try replace O := O.put gg nO3); clear gg; (try have k3 := B3.k))
    | ((with_reducible refine at_litn 22 ?_); refine lit_row rfl 1 #[.int .u8 7] 5 (fun _ => by simp [execOp, go_sem]) ?_; intro w' BL bb; (try have nOL := own_new O); have nL := gw.size; (try have lr_L := r.lt); (try have l2_L := B2.lt); (try have l3_L := B3.lt); (try clear k3); replace gw := grown_trans gw (grown_below bb _); (try replace r := r.kept bb); (try replace B2 := B2.kept bb); (try replace B3 := B3.kept bb);  (try replace O := O.kept bb); clear bb; (try have k3 := B3.k)))
  refine (pick_any _ _ _ zs 4 _ r (by omega) (by omega)).mono ?_
  clear r
  rintro e w' ⟨seg, rfl, hseg, r, gg⟩
  (try clear k3)
  replace gw := grown_trans gw gg
  (try replace B2 := B2.grown gg (by omega))
  (try replace B3 := B3.grown gg (by omega))
  (try replace BL := BL.grown gg (by omega))
  (try replace O := O.put gg nOg)
  clear gg
  (try have k3 := B3.k)
  go_wp2_with (first
    | ((with_reducible refine at_new 2 60 ?_); refine box_new (d := 2) rfl rfl 60 rfl _ zero_part ?_; intro w' B2 bb; (try have nO2 := own_new O); have n2 := gw.size; (try have lr_2 := r.lt); (try have l3_2 := B3.lt); (try have lL_2 := BL.lt); (try clear k3); replace gw := grown_trans gw (grown_below bb _); (try replace r := r.kept bb);  (try replace B3 := B3.kept bb); (try replace BL := BL.kept bb); (try replace O := O.kept bb); clear bb; (try have k3 := B3.k))
    | ((with_reducible refine at_new 3 60 ?_); refine box_new (d := 3) rfl rfl 60 rfl _ zero_part ?_; intro w' B3 bb; (try have nO3 := own_new O); have n3 := gw.size; (try have lr_3 := r.lt); (try have l2_3 := B2.lt); (try have lL_3 := BL.lt); (try clear k3); replace gw := grown_trans gw (grown_below bb _); (try replace r := r.kept bb); (try replace B2 := B2.kept bb);  (try replace BL := BL.kept bb); (try replace O := O.kept bb); clear bb; (try have k3 := B3.k))
    | ((with_reducible refine at_load 60 ?_); refine box_load rfl 60 _ rfl _ rfl (by with_reducible assumption) Try.underlying60 rfl (by kernel_rfl) ?_)
    | ((with_reducible refine at_store 60 ?_); refine box_store rfl 60 _ _ rfl _ _ rfl rfl (by with_reducible exact B3) (by kernel_rfl) (by rfl) (by simp [Value.oneCell']) ?_; clear B3; intro w' B3 gg; (try clear k3); replace gw := grown_new gw gg (fun q e => by cases e; exact n3); (try replace r := r.at gg (by omega) (by omega)); (try replace B2 := B2.grown gg (Nat.ne_of_lt l2_3)); (try replace BL := BL.grown gg (Nat.ne_of_gt l3_L)); (try replace O := O.put gg nO3); clear gg; (try have k3 := B3.k))
    | ((with_reducible refine at_store 60 ?_); refine box_store rfl 60 _ _ rfl _ _ rfl rfl (by with_reducible exact B2) (by kernel_rfl) (by rfl) (by simp [Value.oneCell']) ?_; clear B2; intro w' B2 gg; (try clear k3); replace gw := grown_new gw gg (fun q e => by cases e; exact n2); (try replace r := r.at gg (by omega) (by omega)); (try replace B3 := B3.grown gg (Nat.ne_of_gt l2_3)); (try replace BL := BL.grown gg (Nat.ne_of_gt l2_L)); (try replace O := O.put gg nO2); clear gg; (try have k3 := B3.k))
    | ((with_reducible refine at_store 3 ?_); refine box_int rfl _ _ rfl _ _ _ rfl rfl (by with_reducible exact B3) (by simp) ?_; clear B3; intro w' B3 gg; simp only [List.setIfInBounds_toArray, List.set] at B3; (try clear k3); replace gw := grown_new gw gg (fun q e => by cases e; exact n3); (try replace r := r.at gg (by omega) (by omega)); (try replace B2 := B2.grown gg (Nat.ne_of_lt l2_3)); (try replace BL := BL.grown gg (Nat.ne_of_gt l3_L)); (try replace O := O.put gg nO3); clear gg; (try have k3 := B3.k))
    | ((with_reducible refine at_store 22 ?_); refine box_bytes rfl _ _ rfl _ _ _ _ _ rfl rfl (by with_reducible exact B3) (by simp) ?_; clear B3; intro w' B3 gg; simp only [List.setIfInBounds_toArray, List.set] at B3; (try clear k3); replace gw := grown_new gw gg (fun q e => by cases e; exact n3); (try replace r := r.at gg (by omega) (by omega)); (try replace B2 := B2.grown gg (Nat.ne_of_lt l2_3)); (try replace BL := BL.grown gg (Nat.ne_of_gt l3_L)); (try replace O := O.put gg nO3); clear gg; (try have k3 := B3.k))
    | ((with_reducible refine at_litn 22 ?_); refine lit_row rfl 1 #[.int .u8 7] 5 (fun _ => by simp [execOp, go_sem]) ?_; intro w' BL bb; (try have nOL := own_new O); have nL := gw.size; (try have lr_L := r.lt); (try have l2_L := B2.lt); (try have l3_L := B3.lt); (try clear k3); replace gw := grown_trans gw (grown_below bb _); (try replace r := r.kept bb); (try replace B2 := B2.kept bb); (try replace B3 := B3.kept bb);  (try replace O := O.kept bb); clear bb; (try have k3 := B3.k)))
  have q2 := B2.lt
  have hbs := gw.size
  refine (bytes_any _ _ _ zs 8 _ r (by omega) (by omega)).mono ?_
  clear r
  rintro e w' ⟨v, ys, p1, rfl, O, hby, hy, r, hp1, gg⟩
  (try clear k3)
  replace gw := grown_trans gw gg
  (try replace B2 := B2.grown gg (by omega))
  (try replace B3 := B3.grown gg (by omega))
  (try replace BL := BL.grown gg (by omega))
  skip
  clear gg
  (try have k3 := B3.k)
  have nO2 := own_ne O q2
  have nOg : v.ownBlock ≠ some g := own_ne O (by omega)
  obtain ⟨av, cv, ev⟩ := own_form O
  subst ev
  by_cases h0 : ys.length = 0
  · rcases (show seg = 0 ∨ seg = 1 ∨ seg = 2 ∨ seg = 3 by omega) with rfl | rfl | rfl | rfl
    · rw [h0] at O nO2 nOg ⊢
      go_wp2_with (first
        | ((with_reducible refine at_new 2 60 ?_); refine box_new (d := 2) rfl rfl 60 rfl _ zero_part ?_; intro w' B2 bb; (try have nO2 := own_new O); have n2 := gw.size; (try have lr_2 := r.lt); (try have l3_2 := B3.lt); (try have lL_2 := BL.lt); (try clear k3); replace gw := grown_trans gw (grown_below bb _); (try replace r := r.kept bb);  (try replace B3 := B3.kept bb); (try replace BL := BL.kept bb); (try replace O := O.kept bb); clear bb; (try have k3 := B3.k))
        | ((with_reducible refine at_new 3 60 ?_); refine box_new (d := 3) rfl rfl 60 rfl _ zero_part ?_; intro w' B3 bb; (try have nO3 := own_new O); have n3 := gw.size; (try have lr_3 := r.lt); (try have l2_3 := B2.lt); (try have lL_3 := BL.lt); (try clear k3); replace gw := grown_trans gw (grown_below bb _); (try replace r := r.kept bb); (try replace B2 := B2.kept bb);  (try replace BL := BL.kept bb); (try replace O := O.kept bb); clear bb; (try have k3 := B3.k))
        | ((with_reducible refine at_load 60 ?_); refine box_load rfl 60 _ rfl _ rfl (by with_reducible assumption) Try.underlying60 rfl (by kernel_rfl) ?_)
        | ((with_reducible refine at_store 60 ?_); refine box_store rfl 60 _ _ rfl _ _ rfl rfl (by with_reducible exact B3) (by kernel_rfl) (by rfl) (by simp [Value.oneCell']) ?_; clear B3; intro w' B3 gg; (try clear k3); replace gw := grown_new gw gg (fun q e => by cases e; exact n3); (try replace r := r.at gg (by omega) (by omega)); (try replace B2 := B2.grown gg (Nat.ne_of_lt l2_3)); (try replace BL := BL.grown gg (Nat.ne_of_gt l3_L)); (try replace O := O.put gg nO3); clear gg; (try have k3 := B3.k))
        | ((with_reducible refine at_store 60 ?_); refine box_store rfl 60 _ _ rfl _ _ rfl rfl (by with_reducible exact B2) (by kernel_rfl) (by rfl) (by simp [Value.oneCell']) ?_; clear B2; intro w' B2 gg; (try clear k3); replace gw := grown_new gw gg (fun q e => by cases e; exact n2); (try replace r := r.at gg (by omega) (by omega)); (try replace B3 := B3.grown gg (Nat.ne_of_gt l2_3)); (try replace BL := BL.grown gg (Nat.ne_of_gt l2_L)); (try replace O := O.put gg nO2); clear gg; (try have k3 := B3.k))
        | ((with_reducible refine at_store 3 ?_); refine box_int rfl _ _ rfl _ _ _ rfl rfl (by with_reducible exact B3) (by simp) ?_; clear B3; intro w' B3 gg; simp only [List.setIfInBounds_toArray, List.set] at B3; (try clear k3); replace gw := grown_new gw gg (fun q e => by cases e; exact n3); (try replace r := r.at gg (by omega) (by omega)); (try replace B2 := B2.grown gg (Nat.ne_of_lt l2_3)); (try replace BL := BL.grown gg (Nat.ne_of_gt l3_L)); (try replace O := O.put gg nO3); clear gg; (try have k3 := B3.k))
        | ((with_reducible refine at_store 22 ?_); refine box_bytes rfl _ _ rfl _ _ _ _ _ rfl rfl (by with_reducible exact B3) (by simp) ?_; clear B3; intro w' B3 gg; simp only [List.setIfInBounds_toArray, List.set] at B3; (try clear k3); replace gw := grown_new gw gg (fun q e => by cases e; exact n3); (try replace r := r.at gg (by omega) (by omega)); (try replace B2 := B2.grown gg (Nat.ne_of_lt l2_3)); (try replace BL := BL.grown gg (Nat.ne_of_gt l3_L)); (try replace O := O.put gg nO3); clear gg; (try have k3 := B3.k))
        | ((with_reducible refine at_litn 22 ?_); refine lit_row rfl 1 #[.int .u8 7] 5 (fun _ => by simp [execOp, go_sem]) ?_; intro w' BL bb; (try have nOL := own_new O); have nL := gw.size; (try have lr_L := r.lt); (try have l2_L := B2.lt); (try have l3_L := B3.lt); (try clear k3); replace gw := grown_trans gw (grown_below bb _); (try replace r := r.kept bb); (try replace B2 := B2.kept bb); (try replace B3 := B3.kept bb);  (try replace O := O.kept bb); clear bb; (try have k3 := B3.k)))
      refine bodyPost_ret (results_cell_row rfl _ _ _ _ _ _ _ rfl B2 Try.underlying60 rfl (by kernel_rfl)) rfl ?_
      exact ⟨_, _, _, ys, _, rfl, by omega, by omega, by omega, by omega, hy, hby, own_down O hbs, by omega, r, gw⟩
    · rw [h0]
      go_wp2_with (first
        | ((with_reducible refine at_new 2 60 ?_); refine box_new (d := 2) rfl rfl 60 rfl _ zero_part ?_; intro w' B2 bb; (try have nO2 := own_new O); have n2 := gw.size; (try have lr_2 := r.lt); (try have l3_2 := B3.lt); (try have lL_2 := BL.lt); (try clear k3); replace gw := grown_trans gw (grown_below bb _); (try replace r := r.kept bb);  (try replace B3 := B3.kept bb); (try replace BL := BL.kept bb); (try replace O := O.kept bb); clear bb; (try have k3 := B3.k))
        | ((with_reducible refine at_new 3 60 ?_); refine box_new (d := 3) rfl rfl 60 rfl _ zero_part ?_; intro w' B3 bb; (try have nO3 := own_new O); have n3 := gw.size; (try have lr_3 := r.lt); (try have l2_3 := B2.lt); (try have lL_3 := BL.lt); (try clear k3); replace gw := grown_trans gw (grown_below bb _); (try replace r := r.kept bb); (try replace B2 := B2.kept bb);  (try replace BL := BL.kept bb); (try replace O := O.kept bb); clear bb; (try have k3 := B3.k))
        | ((with_reducible refine at_load 60 ?_); refine box_load rfl 60 _ rfl _ rfl (by with_reducible assumption) Try.underlying60 rfl (by kernel_rfl) ?_)
        | ((with_reducible refine at_store 60 ?_); refine box_store rfl 60 _ _ rfl _ _ rfl rfl (by with_reducible exact B3) (by kernel_rfl) (by rfl) (by simp [Value.oneCell']) ?_; clear B3; intro w' B3 gg; (try clear k3); replace gw := grown_new gw gg (fun q e => by cases e; exact n3); (try replace r := r.at gg (by omega) (by omega)); (try replace B2 := B2.grown gg (Nat.ne_of_lt l2_3)); (try replace BL := BL.grown gg (Nat.ne_of_gt l3_L)); (try replace O := O.put gg nO3); clear gg; (try have k3 := B3.k))
        | ((with_reducible refine at_store 60 ?_); refine box_store rfl 60 _ _ rfl _ _ rfl rfl (by with_reducible exact B2) (by kernel_rfl) (by rfl) (by simp [Value.oneCell']) ?_; clear B2; intro w' B2 gg; (try clear k3); replace gw := grown_new gw gg (fun q e => by cases e; exact n2); (try replace r := r.at gg (by omega) (by omega)); (try replace B3 := B3.grown gg (Nat.ne_of_gt l2_3)); (try replace BL := BL.grown gg (Nat.ne_of_gt l2_L)); (try replace O := O.put gg nO2); clear gg; (try have k3 := B3.k))
        | ((with_reducible refine at_store 3 ?_); refine box_int rfl _ _ rfl _ _ _ rfl rfl (by with_reducible exact B3) (by simp) ?_; clear B3; intro w' B3 gg; simp only [List.setIfInBounds_toArray, List.set] at B3; (try clear k3); replace gw := grown_new gw gg (fun q e => by cases e; exact n3); (try replace r := r.at gg (by omega) (by omega)); (try replace B2 := B2.grown gg (Nat.ne_of_lt l2_3)); (try replace BL := BL.grown gg (Nat.ne_of_gt l3_L)); (try replace O := O.put gg nO3); clear gg; (try have k3 := B3.k))
        | ((with_reducible refine at_store 22 ?_); refine box_bytes rfl _ _ rfl _ _ _ _ _ rfl rfl (by with_reducible exact B3) (by simp) ?_; clear B3; intro w' B3 gg; simp only [List.setIfInBounds_toArray, List.set] at B3; (try clear k3); replace gw := grown_new gw gg (fun q e => by cases e; exact n3); (try replace r := r.at gg (by omega) (by omega)); (try replace B2 := B2.grown gg (Nat.ne_of_lt l2_3)); (try replace BL := BL.grown gg (Nat.ne_of_gt l3_L)); (try replace O := O.put gg nO3); clear gg; (try have k3 := B3.k))
        | ((with_reducible refine at_litn 22 ?_); refine lit_row rfl 1 #[.int .u8 7] 5 (fun _ => by simp [execOp, go_sem]) ?_; intro w' BL bb; (try have nOL := own_new O); have nL := gw.size; (try have lr_L := r.lt); (try have l2_L := B2.lt); (try have l3_L := B3.lt); (try clear k3); replace gw := grown_trans gw (grown_below bb _); (try replace r := r.kept bb); (try replace B2 := B2.kept bb); (try replace B3 := B3.kept bb);  (try replace O := O.kept bb); clear bb; (try have k3 := B3.k)))
      clear k3
      replace r := r.drew
      replace gw := grown_drew gw
      replace O := O.drew
      replace B2 := B2.drew
      replace B3 := B3.drew
      replace BL := BL.drew
      refine region_by (fun wx => Bl wx _ #[.int .i64 1, .int .i64 0, .slice (some ⟨_, 0, none⟩) 1 1] 60) 12 [(0, true), (1, true), (2, true), (3, true), (4, true), (5, true), (6, true), (7, true), (8, true), (9, false), (10, true), (11, true), (12, false)] ⟨none, .assign (.tmp 0), 0, "", #[], none⟩ (by kernel_rfl) (by kernel_rfl) B3 (fun x _ _ _ _ h => by cases x <;> exact h) ?_
      simp only [arrange, List.map_cons, List.map_nil, List.getD_cons_zero, List.getD_cons_succ]
      generalize World.drew _ = dw at r gw O B2 B3 BL ⊢
      refine by_addr rfl _ _ _ rfl _ 2 rfl (fun _ _ => by simp [go_sem]) ?_
      simp only [Act.put, List.setIfInBounds_toArray, List.set]
      refine by_run rfl (.slice (some ⟨_, 0, none⟩) 1 1) (fun _ h => run_ldb rfl ((h.k 2).trans rfl)) ?_
      simp only [Act.put, List.setIfInBounds_toArray, List.set]
      refine by_run rfl (.int .i64 (1 : Int)) (fun _ _ => run_lenb rfl) ?_
      simp only [Act.put, List.setIfInBounds_toArray, List.set]
      refine by_run rfl (.int .i64 ((1 : Int) + 1)) (fun _ _ => run_add rfl rfl (by omega)) ?_
      simp only [Act.put, List.setIfInBounds_toArray, List.set]
      refine by_run rfl (.pointer (some ⟨g, 0, none⟩)) (fun _ _ => run_move rfl) ?_
      simp only [Act.put, List.setIfInBounds_toArray, List.set]
      refine by_addr rfl _ _ _ rfl _ 2 rfl (fun _ _ => by simp [go_sem]) ?_
      simp only [Act.put, List.setIfInBounds_toArray, List.set]
      refine by_run rfl (.slice (some ⟨_, 0, none⟩) 1 1) (fun _ h => run_ldb rfl ((h.k 2).trans rfl)) ?_
      simp only [Act.put, List.setIfInBounds_toArray, List.set]
      refine by_run rfl (.int .i64 (1 : Int)) (fun _ _ => run_lenb rfl) ?_
      simp only [Act.put, List.setIfInBounds_toArray, List.set]
      refine by_run rfl (.int .i64 (24 - (1 : Int))) (fun _ _ => run_sub rfl rfl (by omega)) ?_
      simp only [Act.put, List.setIfInBounds_toArray, List.set]
      refine by_wp rfl rfl ?_
      unfold Oper.wp
      rw [run_call2 rfl rfl rfl (fun _ _ => by kernel_rfl)]
      refine (pick_any _ _ _ zs (24 - (1 : Int)) _ r (by omega) (by omega)).mono ?_
      clear r
      rintro e w' ⟨x, rfl, hx, r, gg⟩
      replace gw := grown_trans gw gg
      replace O := O.put gg nOg
      replace B2 := B2.grown gg (by omega)
      replace B3 := B3.grown gg (by omega)
      replace BL := BL.grown gg (by omega)
      clear gg
      refine ⟨fun _ => B3, ?_⟩
      simp only [Act.put, List.setIfInBounds_toArray, List.set]
      refine by_run rfl (.int .i64 ((1 : Int) + 1 + (x : Int))) (fun _ _ => run_add rfl rfl (by omega)) ?_
      simp only [Act.put, List.setIfInBounds_toArray, List.set]
      refine by_addr rfl _ _ _ rfl _ 1 rfl (fun _ _ => by simp [go_sem]) ?_
      simp only [Act.put, List.setIfInBounds_toArray, List.set]
      refine by_wp rfl rfl ?_
      refine wp_box_int _ _ rfl _ _ _ rfl rfl B3 (by simp) ?_
      clear B3
      intro w' B3 gg
      simp only [List.setIfInBounds_toArray, List.set] at B3
      replace gw := grown_new gw gg (fun q e => by cases e; exact n3)
      replace r := r.at gg (by omega) (by omega)
      replace O := O.put gg nO3
      replace B2 := B2.grown gg (Nat.ne_of_lt l2_3)
      replace BL := BL.grown gg (Nat.ne_of_gt l3_L)
      clear gg
      refine ⟨fun h => absurd h (by omega), ?_⟩
      refine by_nil ?_
      have k3 := B3.k
      go_wp2_with (first
        | ((with_reducible refine at_new 2 60 ?_); refine box_new (d := 2) rfl rfl 60 rfl _ zero_part ?_; intro w' B2 bb; (try have nO2 := own_new O); have n2 := gw.size; (try have lr_2 := r.lt); (try have l3_2 := B3.lt); (try have lL_2 := BL.lt); (try clear k3); replace gw := grown_trans gw (grown_below bb _); (try replace r := r.kept bb);  (try replace B3 := B3.kept bb); (try replace BL := BL.kept bb); (try replace O := O.kept bb); clear bb; (try have k3 := B3.k))
        | ((with_reducible refine at_new 3 60 ?_); refine box_new (d := 3) rfl rfl 60 rfl _ zero_part ?_; intro w' B3 bb; (try have nO3 := own_new O); have n3 := gw.size; (try have lr_3 := r.lt); (try have l2_3 := B2.lt); (try have lL_3 := BL.lt); (try clear k3); replace gw := grown_trans gw (grown_below bb _); (try replace r := r.kept bb); (try replace B2 := B2.kept bb);  (try replace BL := BL.kept bb); (try replace O := O.kept bb); clear bb; (try have k3 := B3.k))
        | ((with_reducible refine at_load 60 ?_); refine box_load rfl 60 _ rfl _ rfl (by with_reducible assumption) Try.underlying60 rfl (by kernel_rfl) ?_)
        | ((with_reducible refine at_store 60 ?_); refine box_store rfl 60 _ _ rfl _ _ rfl rfl (by with_reducible exact B3) (by kernel_rfl) (by rfl) (by simp [Value.oneCell']) ?_; clear B3; intro w' B3 gg; (try clear k3); replace gw := grown_new gw gg (fun q e => by cases e; exact n3); (try replace r := r.at gg (by omega) (by omega)); (try replace B2 := B2.grown gg (Nat.ne_of_lt l2_3)); (try replace BL := BL.grown gg (Nat.ne_of_gt l3_L)); (try replace O := O.put gg nO3); clear gg; (try have k3 := B3.k))
        | ((with_reducible refine at_store 60 ?_); refine box_store rfl 60 _ _ rfl _ _ rfl rfl (by with_reducible exact B2) (by kernel_rfl) (by rfl) (by simp [Value.oneCell']) ?_; clear B2; intro w' B2 gg; (try clear k3); replace gw := grown_new gw gg (fun q e => by cases e; exact n2); (try replace r := r.at gg (by omega) (by omega)); (try replace B3 := B3.grown gg (Nat.ne_of_gt l2_3)); (try replace BL := BL.grown gg (Nat.ne_of_gt l2_L)); (try replace O := O.put gg nO2); clear gg; (try have k3 := B3.k))
        | ((with_reducible refine at_store 3 ?_); refine box_int rfl _ _ rfl _ _ _ rfl rfl (by with_reducible exact B3) (by simp) ?_; clear B3; intro w' B3 gg; simp only [List.setIfInBounds_toArray, List.set] at B3; (try clear k3); replace gw := grown_new gw gg (fun q e => by cases e; exact n3); (try replace r := r.at gg (by omega) (by omega)); (try replace B2 := B2.grown gg (Nat.ne_of_lt l2_3)); (try replace BL := BL.grown gg (Nat.ne_of_gt l3_L)); (try replace O := O.put gg nO3); clear gg; (try have k3 := B3.k))
        | ((with_reducible refine at_store 22 ?_); refine box_bytes rfl _ _ rfl _ _ _ _ _ rfl rfl (by with_reducible exact B3) (by simp) ?_; clear B3; intro w' B3 gg; simp only [List.setIfInBounds_toArray, List.set] at B3; (try clear k3); replace gw := grown_new gw gg (fun q e => by cases e; exact n3); (try replace r := r.at gg (by omega) (by omega)); (try replace B2 := B2.grown gg (Nat.ne_of_lt l2_3)); (try replace BL := BL.grown gg (Nat.ne_of_gt l3_L)); (try replace O := O.put gg nO3); clear gg; (try have k3 := B3.k))
        | ((with_reducible refine at_litn 22 ?_); refine lit_row rfl 1 #[.int .u8 7] 5 (fun _ => by simp [execOp, go_sem]) ?_; intro w' BL bb; (try have nOL := own_new O); have nL := gw.size; (try have lr_L := r.lt); (try have l2_L := B2.lt); (try have l3_L := B3.lt); (try clear k3); replace gw := grown_trans gw (grown_below bb _); (try replace r := r.kept bb); (try replace B2 := B2.kept bb); (try replace B3 := B3.kept bb);  (try replace O := O.kept bb); clear bb; (try have k3 := B3.k)))
      refine bodyPost_ret (results_cell_row rfl _ _ _ _ _ _ _ rfl B2 Try.underlying60 rfl (by kernel_rfl)) rfl ?_
      exact ⟨_, _, _, [7], _, rfl, by omega, by omega, by simp <;> omega, by simp <;> omega, by simp, by intro z hz; simp at hz; omega, own_row BL nL rfl (by simp), by omega, r, gw⟩
    · rw [h0]
      go_wp2_with (first
        | ((with_reducible refine at_new 2 60 ?_); refine box_new (d := 2) rfl rfl 60 rfl _ zero_part ?_; intro w' B2 bb; (try have nO2 := own_new O); have n2 := gw.size; (try have lr_2 := r.lt); (try have l3_2 := B3.lt); (try have lL_2 := BL.lt); (try clear k3); replace gw := grown_trans gw (grown_below bb _); (try replace r := r.kept bb);  (try replace B3 := B3.kept bb); (try replace BL := BL.kept bb); (try replace O := O.kept bb); clear bb; (try have k3 := B3.k))
        | ((with_reducible refine at_new 3 60 ?_); refine box_new (d := 3) rfl rfl 60 rfl _ zero_part ?_; intro w' B3 bb; (try have nO3 := own_new O); have n3 := gw.size; (try have lr_3 := r.lt); (try have l2_3 := B2.lt); (try have lL_3 := BL.lt); (try clear k3); replace gw := grown_trans gw (grown_below bb _); (try replace r := r.kept bb); (try replace B2 := B2.kept bb);  (try replace BL := BL.kept bb); (try replace O := O.kept bb); clear bb; (try have k3 := B3.k))
        | ((with_reducible refine at_load 60 ?_); refine box_load rfl 60 _ rfl _ rfl (by with_reducible assumption) Try.underlying60 rfl (by kernel_rfl) ?_)
        | ((with_reducible refine at_store 60 ?_); refine box_store rfl 60 _ _ rfl _ _ rfl rfl (by with_reducible exact B3) (by kernel_rfl) (by rfl) (by simp [Value.oneCell']) ?_; clear B3; intro w' B3 gg; (try clear k3); replace gw := grown_new gw gg (fun q e => by cases e; exact n3); (try replace r := r.at gg (by omega) (by omega)); (try replace B2 := B2.grown gg (Nat.ne_of_lt l2_3)); (try replace BL := BL.grown gg (Nat.ne_of_gt l3_L)); (try replace O := O.put gg nO3); clear gg; (try have k3 := B3.k))
        | ((with_reducible refine at_store 60 ?_); refine box_store rfl 60 _ _ rfl _ _ rfl rfl (by with_reducible exact B2) (by kernel_rfl) (by rfl) (by simp [Value.oneCell']) ?_; clear B2; intro w' B2 gg; (try clear k3); replace gw := grown_new gw gg (fun q e => by cases e; exact n2); (try replace r := r.at gg (by omega) (by omega)); (try replace B3 := B3.grown gg (Nat.ne_of_gt l2_3)); (try replace BL := BL.grown gg (Nat.ne_of_gt l2_L)); (try replace O := O.put gg nO2); clear gg; (try have k3 := B3.k))
        | ((with_reducible refine at_store 3 ?_); refine box_int rfl _ _ rfl _ _ _ rfl rfl (by with_reducible exact B3) (by simp) ?_; clear B3; intro w' B3 gg; simp only [List.setIfInBounds_toArray, List.set] at B3; (try clear k3); replace gw := grown_new gw gg (fun q e => by cases e; exact n3); (try replace r := r.at gg (by omega) (by omega)); (try replace B2 := B2.grown gg (Nat.ne_of_lt l2_3)); (try replace BL := BL.grown gg (Nat.ne_of_gt l3_L)); (try replace O := O.put gg nO3); clear gg; (try have k3 := B3.k))
        | ((with_reducible refine at_store 22 ?_); refine box_bytes rfl _ _ rfl _ _ _ _ _ rfl rfl (by with_reducible exact B3) (by simp) ?_; clear B3; intro w' B3 gg; simp only [List.setIfInBounds_toArray, List.set] at B3; (try clear k3); replace gw := grown_new gw gg (fun q e => by cases e; exact n3); (try replace r := r.at gg (by omega) (by omega)); (try replace B2 := B2.grown gg (Nat.ne_of_lt l2_3)); (try replace BL := BL.grown gg (Nat.ne_of_gt l3_L)); (try replace O := O.put gg nO3); clear gg; (try have k3 := B3.k))
        | ((with_reducible refine at_litn 22 ?_); refine lit_row rfl 1 #[.int .u8 7] 5 (fun _ => by simp [execOp, go_sem]) ?_; intro w' BL bb; (try have nOL := own_new O); have nL := gw.size; (try have lr_L := r.lt); (try have l2_L := B2.lt); (try have l3_L := B3.lt); (try clear k3); replace gw := grown_trans gw (grown_below bb _); (try replace r := r.kept bb); (try replace B2 := B2.kept bb); (try replace B3 := B3.kept bb);  (try replace O := O.kept bb); clear bb; (try have k3 := B3.k)))
      refine bodyPost_ret (results_cell_row rfl _ _ _ _ _ _ _ rfl B2 Try.underlying60 rfl (by kernel_rfl)) rfl ?_
      exact ⟨_, _, _, [7], _, rfl, by omega, by omega, by simp <;> omega, by simp <;> omega, by simp, by intro z hz; simp at hz; omega, own_row BL nL rfl (by simp), by omega, r, gw⟩
    · rw [h0]
      go_wp2_with (first
        | ((with_reducible refine at_new 2 60 ?_); refine box_new (d := 2) rfl rfl 60 rfl _ zero_part ?_; intro w' B2 bb; (try have nO2 := own_new O); have n2 := gw.size; (try have lr_2 := r.lt); (try have l3_2 := B3.lt); (try have lL_2 := BL.lt); (try clear k3); replace gw := grown_trans gw (grown_below bb _); (try replace r := r.kept bb);  (try replace B3 := B3.kept bb); (try replace BL := BL.kept bb); (try replace O := O.kept bb); clear bb; (try have k3 := B3.k))
        | ((with_reducible refine at_new 3 60 ?_); refine box_new (d := 3) rfl rfl 60 rfl _ zero_part ?_; intro w' B3 bb; (try have nO3 := own_new O); have n3 := gw.size; (try have lr_3 := r.lt); (try have l2_3 := B2.lt); (try have lL_3 := BL.lt); (try clear k3); replace gw := grown_trans gw (grown_below bb _); (try replace r := r.kept bb); (try replace B2 := B2.kept bb);  (try replace BL := BL.kept bb); (try replace O := O.kept bb); clear bb; (try have k3 := B3.k))
        | ((with_reducible refine at_load 60 ?_); refine box_load rfl 60 _ rfl _ rfl (by with_reducible assumption) Try.underlying60 rfl (by kernel_rfl) ?_)
        | ((with_reducible refine at_store 60 ?_); refine box_store rfl 60 _ _ rfl _ _ rfl rfl (by with_reducible exact B3) (by kernel_rfl) (by rfl) (by simp [Value.oneCell']) ?_; clear B3; intro w' B3 gg; (try clear k3); replace gw := grown_new gw gg (fun q e => by cases e; exact n3); (try replace r := r.at gg (by omega) (by omega)); (try replace B2 := B2.grown gg (Nat.ne_of_lt l2_3)); (try replace BL := BL.grown gg (Nat.ne_of_gt l3_L)); (try replace O := O.put gg nO3); clear gg; (try have k3 := B3.k))
        | ((with_reducible refine at_store 60 ?_); refine box_store rfl 60 _ _ rfl _ _ rfl rfl (by with_reducible exact B2) (by kernel_rfl) (by rfl) (by simp [Value.oneCell']) ?_; clear B2; intro w' B2 gg; (try clear k3); replace gw := grown_new gw gg (fun q e => by cases e; exact n2); (try replace r := r.at gg (by omega) (by omega)); (try replace B3 := B3.grown gg (Nat.ne_of_gt l2_3)); (try replace BL := BL.grown gg (Nat.ne_of_gt l2_L)); (try replace O := O.put gg nO2); clear gg; (try have k3 := B3.k))
        | ((with_reducible refine at_store 3 ?_); refine box_int rfl _ _ rfl _ _ _ rfl rfl (by with_reducible exact B3) (by simp) ?_; clear B3; intro w' B3 gg; simp only [List.setIfInBounds_toArray, List.set] at B3; (try clear k3); replace gw := grown_new gw gg (fun q e => by cases e; exact n3); (try replace r := r.at gg (by omega) (by omega)); (try replace B2 := B2.grown gg (Nat.ne_of_lt l2_3)); (try replace BL := BL.grown gg (Nat.ne_of_gt l3_L)); (try replace O := O.put gg nO3); clear gg; (try have k3 := B3.k))
        | ((with_reducible refine at_store 22 ?_); refine box_bytes rfl _ _ rfl _ _ _ _ _ rfl rfl (by with_reducible exact B3) (by simp) ?_; clear B3; intro w' B3 gg; simp only [List.setIfInBounds_toArray, List.set] at B3; (try clear k3); replace gw := grown_new gw gg (fun q e => by cases e; exact n3); (try replace r := r.at gg (by omega) (by omega)); (try replace B2 := B2.grown gg (Nat.ne_of_lt l2_3)); (try replace BL := BL.grown gg (Nat.ne_of_gt l3_L)); (try replace O := O.put gg nO3); clear gg; (try have k3 := B3.k))
        | ((with_reducible refine at_litn 22 ?_); refine lit_row rfl 1 #[.int .u8 7] 5 (fun _ => by simp [execOp, go_sem]) ?_; intro w' BL bb; (try have nOL := own_new O); have nL := gw.size; (try have lr_L := r.lt); (try have l2_L := B2.lt); (try have l3_L := B3.lt); (try clear k3); replace gw := grown_trans gw (grown_below bb _); (try replace r := r.kept bb); (try replace B2 := B2.kept bb); (try replace B3 := B3.kept bb);  (try replace O := O.kept bb); clear bb; (try have k3 := B3.k)))
      refine bodyPost_ret (results_cell_row rfl _ _ _ _ _ _ _ rfl B2 Try.underlying60 rfl (by kernel_rfl)) rfl ?_
      exact ⟨_, _, _, [7], _, rfl, by omega, by omega, by simp <;> omega, by simp <;> omega, by simp, by intro z hz; simp at hz; omega, own_row BL nL rfl (by simp), by omega, r, gw⟩
  · have hne : ¬ (ys.length : Int) = 0 := by omega
    rcases (show seg = 0 ∨ seg = 1 ∨ seg = 2 ∨ seg = 3 by omega) with rfl | rfl | rfl | rfl
    · go_wp2_with (first
        | ((with_reducible refine at_new 2 60 ?_); refine box_new (d := 2) rfl rfl 60 rfl _ zero_part ?_; intro w' B2 bb; (try have nO2 := own_new O); have n2 := gw.size; (try have lr_2 := r.lt); (try have l3_2 := B3.lt); (try have lL_2 := BL.lt); (try clear k3); replace gw := grown_trans gw (grown_below bb _); (try replace r := r.kept bb);  (try replace B3 := B3.kept bb); (try replace BL := BL.kept bb); (try replace O := O.kept bb); clear bb; (try have k3 := B3.k))
        | ((with_reducible refine at_new 3 60 ?_); refine box_new (d := 3) rfl rfl 60 rfl _ zero_part ?_; intro w' B3 bb; (try have nO3 := own_new O); have n3 := gw.size; (try have lr_3 := r.lt); (try have l2_3 := B2.lt); (try have lL_3 := BL.lt); (try clear k3); replace gw := grown_trans gw (grown_below bb _); (try replace r := r.kept bb); (try replace B2 := B2.kept bb);  (try replace BL := BL.kept bb); (try replace O := O.kept bb); clear bb; (try have k3 := B3.k))
        | ((with_reducible refine at_load 60 ?_); refine box_load rfl 60 _ rfl _ rfl (by with_reducible assumption) Try.underlying60 rfl (by kernel_rfl) ?_)
        | ((with_reducible refine at_store 60 ?_); refine box_store rfl 60 _ _ rfl _ _ rfl rfl (by with_reducible exact B3) (by kernel_rfl) (by rfl) (by simp [Value.oneCell']) ?_; clear B3; intro w' B3 gg; (try clear k3); replace gw := grown_new gw gg (fun q e => by cases e; exact n3); (try replace r := r.at gg (by omega) (by omega)); (try replace B2 := B2.grown gg (Nat.ne_of_lt l2_3)); (try replace BL := BL.grown gg (Nat.ne_of_gt l3_L)); (try replace O := O.put gg nO3); clear gg; (try have k3 := B3.k))
        | ((with_reducible refine at_store 60 ?_); refine box_store rfl 60 _ _ rfl _ _ rfl rfl (by with_reducible exact B2) (by kernel_rfl) (by rfl) (by simp [Value.oneCell']) ?_; clear B2; intro w' B2 gg; (try clear k3); replace gw := grown_new gw gg (fun q e => by cases e; exact n2); (try replace r := r.at gg (by omega) (by omega)); (try replace B3 := B3.grown gg (Nat.ne_of_gt l2_3)); (try replace BL := BL.grown gg (Nat.ne_of_gt l2_L)); (try replace O := O.put gg nO2); clear gg; (try have k3 := B3.k))
        | ((with_reducible refine at_store 3 ?_); refine box_int rfl _ _ rfl _ _ _ rfl rfl (by with_reducible exact B3) (by simp) ?_; clear B3; intro w' B3 gg; simp only [List.setIfInBounds_toArray, List.set] at B3; (try clear k3); replace gw := grown_new gw gg (fun q e => by cases e; exact n3); (try replace r := r.at gg (by omega) (by omega)); (try replace B2 := B2.grown gg (Nat.ne_of_lt l2_3)); (try replace BL := BL.grown gg (Nat.ne_of_gt l3_L)); (try replace O := O.put gg nO3); clear gg; (try have k3 := B3.k))
        | ((with_reducible refine at_store 22 ?_); refine box_bytes rfl _ _ rfl _ _ _ _ _ rfl rfl (by with_reducible exact B3) (by simp) ?_; clear B3; intro w' B3 gg; simp only [List.setIfInBounds_toArray, List.set] at B3; (try clear k3); replace gw := grown_new gw gg (fun q e => by cases e; exact n3); (try replace r := r.at gg (by omega) (by omega)); (try replace B2 := B2.grown gg (Nat.ne_of_lt l2_3)); (try replace BL := BL.grown gg (Nat.ne_of_gt l3_L)); (try replace O := O.put gg nO3); clear gg; (try have k3 := B3.k))
        | ((with_reducible refine at_litn 22 ?_); refine lit_row rfl 1 #[.int .u8 7] 5 (fun _ => by simp [execOp, go_sem]) ?_; intro w' BL bb; (try have nOL := own_new O); have nL := gw.size; (try have lr_L := r.lt); (try have l2_L := B2.lt); (try have l3_L := B3.lt); (try clear k3); replace gw := grown_trans gw (grown_below bb _); (try replace r := r.kept bb); (try replace B2 := B2.kept bb); (try replace B3 := B3.kept bb);  (try replace O := O.kept bb); clear bb; (try have k3 := B3.k)))
      refine bodyPost_ret (results_cell_row rfl _ _ _ _ _ _ _ rfl B2 Try.underlying60 rfl (by kernel_rfl)) rfl ?_
      exact ⟨_, _, _, ys, _, rfl, by omega, by omega, by omega, by omega, hy, hby, own_down O hbs, by omega, r, gw⟩
    · go_wp2_with (first
        | ((with_reducible refine at_new 2 60 ?_); refine box_new (d := 2) rfl rfl 60 rfl _ zero_part ?_; intro w' B2 bb; (try have nO2 := own_new O); have n2 := gw.size; (try have lr_2 := r.lt); (try have l3_2 := B3.lt); (try have lL_2 := BL.lt); (try clear k3); replace gw := grown_trans gw (grown_below bb _); (try replace r := r.kept bb);  (try replace B3 := B3.kept bb); (try replace BL := BL.kept bb); (try replace O := O.kept bb); clear bb; (try have k3 := B3.k))
        | ((with_reducible refine at_new 3 60 ?_); refine box_new (d := 3) rfl rfl 60 rfl _ zero_part ?_; intro w' B3 bb; (try have nO3 := own_new O); have n3 := gw.size; (try have lr_3 := r.lt); (try have l2_3 := B2.lt); (try have lL_3 := BL.lt); (try clear k3); replace gw := grown_trans gw (grown_below bb _); (try replace r := r.kept bb); (try replace B2 := B2.kept bb);  (try replace BL := BL.kept bb); (try replace O := O.kept bb); clear bb; (try have k3 := B3.k))
        | ((with_reducible refine at_load 60 ?_); refine box_load rfl 60 _ rfl _ rfl (by with_reducible assumption) Try.underlying60 rfl (by kernel_rfl) ?_)
        | ((with_reducible refine at_store 60 ?_); refine box_store rfl 60 _ _ rfl _ _ rfl rfl (by with_reducible exact B3) (by kernel_rfl) (by rfl) (by simp [Value.oneCell']) ?_; clear B3; intro w' B3 gg; (try clear k3); replace gw := grown_new gw gg (fun q e => by cases e; exact n3); (try replace r := r.at gg (by omega) (by omega)); (try replace B2 := B2.grown gg (Nat.ne_of_lt l2_3)); (try replace BL := BL.grown gg (Nat.ne_of_gt l3_L)); (try replace O := O.put gg nO3); clear gg; (try have k3 := B3.k))
        | ((with_reducible refine at_store 60 ?_); refine box_store rfl 60 _ _ rfl _ _ rfl rfl (by with_reducible exact B2) (by kernel_rfl) (by rfl) (by simp [Value.oneCell']) ?_; clear B2; intro w' B2 gg; (try clear k3); replace gw := grown_new gw gg (fun q e => by cases e; exact n2); (try replace r := r.at gg (by omega) (by omega)); (try replace B3 := B3.grown gg (Nat.ne_of_gt l2_3)); (try replace BL := BL.grown gg (Nat.ne_of_gt l2_L)); (try replace O := O.put gg nO2); clear gg; (try have k3 := B3.k))
        | ((with_reducible refine at_store 3 ?_); refine box_int rfl _ _ rfl _ _ _ rfl rfl (by with_reducible exact B3) (by simp) ?_; clear B3; intro w' B3 gg; simp only [List.setIfInBounds_toArray, List.set] at B3; (try clear k3); replace gw := grown_new gw gg (fun q e => by cases e; exact n3); (try replace r := r.at gg (by omega) (by omega)); (try replace B2 := B2.grown gg (Nat.ne_of_lt l2_3)); (try replace BL := BL.grown gg (Nat.ne_of_gt l3_L)); (try replace O := O.put gg nO3); clear gg; (try have k3 := B3.k))
        | ((with_reducible refine at_store 22 ?_); refine box_bytes rfl _ _ rfl _ _ _ _ _ rfl rfl (by with_reducible exact B3) (by simp) ?_; clear B3; intro w' B3 gg; simp only [List.setIfInBounds_toArray, List.set] at B3; (try clear k3); replace gw := grown_new gw gg (fun q e => by cases e; exact n3); (try replace r := r.at gg (by omega) (by omega)); (try replace B2 := B2.grown gg (Nat.ne_of_lt l2_3)); (try replace BL := BL.grown gg (Nat.ne_of_gt l3_L)); (try replace O := O.put gg nO3); clear gg; (try have k3 := B3.k))
        | ((with_reducible refine at_litn 22 ?_); refine lit_row rfl 1 #[.int .u8 7] 5 (fun _ => by simp [execOp, go_sem]) ?_; intro w' BL bb; (try have nOL := own_new O); have nL := gw.size; (try have lr_L := r.lt); (try have l2_L := B2.lt); (try have l3_L := B3.lt); (try clear k3); replace gw := grown_trans gw (grown_below bb _); (try replace r := r.kept bb); (try replace B2 := B2.kept bb); (try replace B3 := B3.kept bb);  (try replace O := O.kept bb); clear bb; (try have k3 := B3.k)))
      clear k3
      replace r := r.drew
      replace gw := grown_drew gw
      replace O := O.drew
      replace B2 := B2.drew
      replace B3 := B3.drew
      refine region_by (fun wx => Bl wx _ #[.int .i64 1, .int .i64 0, .slice av ys.length cv] 60) 12 [(0, true), (1, true), (2, true), (3, true), (4, true), (5, true), (6, true), (7, true), (8, true), (9, false), (10, true), (11, true), (12, false)] ⟨none, .assign (.tmp 0), 0, "", #[], none⟩ (by kernel_rfl) (by kernel_rfl) B3 (fun x _ _ _ _ h => by cases x <;> exact h) ?_
      simp only [arrange, List.map_cons, List.map_nil, List.getD_cons_zero, List.getD_cons_succ]
      generalize World.drew _ = dw at r gw O B2 B3 ⊢
      refine by_addr rfl _ _ _ rfl _ 2 rfl (fun _ _ => by simp [go_sem]) ?_
      simp only [Act.put, List.setIfInBounds_toArray, List.set]
      refine by_run rfl (.slice av ys.length cv) (fun _ h => run_ldb rfl ((h.k 2).trans rfl)) ?_
      simp only [Act.put, List.setIfInBounds_toArray, List.set]
      refine by_run rfl (.int .i64 (ys.length : Int)) (fun _ _ => run_lenb rfl) ?_
      simp only [Act.put, List.setIfInBounds_toArray, List.set]
      refine by_run rfl (.int .i64 ((ys.length : Int) + 1)) (fun _ _ => run_add rfl rfl (by omega)) ?_
      simp only [Act.put, List.setIfInBounds_toArray, List.set]
      refine by_run rfl (.pointer (some ⟨g, 0, none⟩)) (fun _ _ => run_move rfl) ?_
      simp only [Act.put, List.setIfInBounds_toArray, List.set]
      refine by_addr rfl _ _ _ rfl _ 2 rfl (fun _ _ => by simp [go_sem]) ?_
      simp only [Act.put, List.setIfInBounds_toArray, List.set]
      refine by_run rfl (.slice av ys.length cv) (fun _ h => run_ldb rfl ((h.k 2).trans rfl)) ?_
      simp only [Act.put, List.setIfInBounds_toArray, List.set]
      refine by_run rfl (.int .i64 (ys.length : Int)) (fun _ _ => run_lenb rfl) ?_
      simp only [Act.put, List.setIfInBounds_toArray, List.set]
      refine by_run rfl (.int .i64 (24 - (ys.length : Int))) (fun _ _ => run_sub rfl rfl (by omega)) ?_
      simp only [Act.put, List.setIfInBounds_toArray, List.set]
      refine by_wp rfl rfl ?_
      unfold Oper.wp
      rw [run_call2 rfl rfl rfl (fun _ _ => by kernel_rfl)]
      refine (pick_any _ _ _ zs (24 - (ys.length : Int)) _ r (by omega) (by omega)).mono ?_
      clear r
      rintro e w' ⟨x, rfl, hx, r, gg⟩
      replace gw := grown_trans gw gg
      replace O := O.put gg nOg
      replace B2 := B2.grown gg (by omega)
      replace B3 := B3.grown gg (by omega)
      clear gg
      refine ⟨fun _ => B3, ?_⟩
      simp only [Act.put, List.setIfInBounds_toArray, List.set]
      refine by_run rfl (.int .i64 ((ys.length : Int) + 1 + (x : Int))) (fun _ _ => run_add rfl rfl (by omega)) ?_
      simp only [Act.put, List.setIfInBounds_toArray, List.set]
      refine by_addr rfl _ _ _ rfl _ 1 rfl (fun _ _ => by simp [go_sem]) ?_
      simp only [Act.put, List.setIfInBounds_toArray, List.set]
      refine by_wp rfl rfl ?_
      refine wp_box_int _ _ rfl _ _ _ rfl rfl B3 (by simp) ?_
      clear B3
      intro w' B3 gg
      simp only [List.setIfInBounds_toArray, List.set] at B3
      replace gw := grown_new gw gg (fun q e => by cases e; exact n3)
      replace r := r.at gg (by omega) (by omega)
      replace O := O.put gg nO3
      replace B2 := B2.grown gg (Nat.ne_of_lt l2_3)
      clear gg
      refine ⟨fun h => absurd h (by omega), ?_⟩
      refine by_nil ?_
      have k3 := B3.k
      go_wp2_with (first
        | ((with_reducible refine at_new 2 60 ?_); refine box_new (d := 2) rfl rfl 60 rfl _ zero_part ?_; intro w' B2 bb; (try have nO2 := own_new O); have n2 := gw.size; (try have lr_2 := r.lt); (try have l3_2 := B3.lt); (try have lL_2 := BL.lt); (try clear k3); replace gw := grown_trans gw (grown_below bb _); (try replace r := r.kept bb);  (try replace B3 := B3.kept bb); (try replace BL := BL.kept bb); (try replace O := O.kept bb); clear bb; (try have k3 := B3.k))
        | ((with_reducible refine at_new 3 60 ?_); refine box_new (d := 3) rfl rfl 60 rfl _ zero_part ?_; intro w' B3 bb; (try have nO3 := own_new O); have n3 := gw.size; (try have lr_3 := r.lt); (try have l2_3 := B2.lt); (try have lL_3 := BL.lt); (try clear k3); replace gw := grown_trans gw (grown_below bb _); (try replace r := r.kept bb); (try replace B2 := B2.kept bb);  (try replace BL := BL.kept bb); (try replace O := O.kept bb); clear bb; (try have k3 := B3.k))
        | ((with_reducible refine at_load 60 ?_); refine box_load rfl 60 _ rfl _ rfl (by with_reducible assumption) Try.underlying60 rfl (by kernel_rfl) ?_)
        | ((with_reducible refine at_store 60 ?_); refine box_store rfl 60 _ _ rfl _ _ rfl rfl (by with_reducible exact B3) (by kernel_rfl) (by rfl) (by simp [Value.oneCell']) ?_; clear B3; intro w' B3 gg; (try clear k3); replace gw := grown_new gw gg (fun q e => by cases e; exact n3); (try replace r := r.at gg (by omega) (by omega)); (try replace B2 := B2.grown gg (Nat.ne_of_lt l2_3)); (try replace BL := BL.grown gg (Nat.ne_of_gt l3_L)); (try replace O := O.put gg nO3); clear gg; (try have k3 := B3.k))
        | ((with_reducible refine at_store 60 ?_); refine box_store rfl 60 _ _ rfl _ _ rfl rfl (by with_reducible exact B2) (by kernel_rfl) (by rfl) (by simp [Value.oneCell']) ?_; clear B2; intro w' B2 gg; (try clear k3); replace gw := grown_new gw gg (fun q e => by cases e; exact n2); (try replace r := r.at gg (by omega) (by omega)); (try replace B3 := B3.grown gg (Nat.ne_of_gt l2_3)); (try replace BL := BL.grown gg (Nat.ne_of_gt l2_L)); (try replace O := O.put gg nO2); clear gg; (try have k3 := B3.k))
        | ((with_reducible refine at_store 3 ?_); refine box_int rfl _ _ rfl _ _ _ rfl rfl (by with_reducible exact B3) (by simp) ?_; clear B3; intro w' B3 gg; simp only [List.setIfInBounds_toArray, List.set] at B3; (try clear k3); replace gw := grown_new gw gg (fun q e => by cases e; exact n3); (try replace r := r.at gg (by omega) (by omega)); (try replace B2 := B2.grown gg (Nat.ne_of_lt l2_3)); (try replace BL := BL.grown gg (Nat.ne_of_gt l3_L)); (try replace O := O.put gg nO3); clear gg; (try have k3 := B3.k))
        | ((with_reducible refine at_store 22 ?_); refine box_bytes rfl _ _ rfl _ _ _ _ _ rfl rfl (by with_reducible exact B3) (by simp) ?_; clear B3; intro w' B3 gg; simp only [List.setIfInBounds_toArray, List.set] at B3; (try clear k3); replace gw := grown_new gw gg (fun q e => by cases e; exact n3); (try replace r := r.at gg (by omega) (by omega)); (try replace B2 := B2.grown gg (Nat.ne_of_lt l2_3)); (try replace BL := BL.grown gg (Nat.ne_of_gt l3_L)); (try replace O := O.put gg nO3); clear gg; (try have k3 := B3.k))
        | ((with_reducible refine at_litn 22 ?_); refine lit_row rfl 1 #[.int .u8 7] 5 (fun _ => by simp [execOp, go_sem]) ?_; intro w' BL bb; (try have nOL := own_new O); have nL := gw.size; (try have lr_L := r.lt); (try have l2_L := B2.lt); (try have l3_L := B3.lt); (try clear k3); replace gw := grown_trans gw (grown_below bb _); (try replace r := r.kept bb); (try replace B2 := B2.kept bb); (try replace B3 := B3.kept bb);  (try replace O := O.kept bb); clear bb; (try have k3 := B3.k)))
      refine bodyPost_ret (results_cell_row rfl _ _ _ _ _ _ _ rfl B2 Try.underlying60 rfl (by kernel_rfl)) rfl ?_
      exact ⟨_, _, _, ys, _, rfl, by omega, by omega, by omega, by omega, hy, hby, own_down O hbs, by omega, r, gw⟩
    · go_wp2_with (first
        | ((with_reducible refine at_new 2 60 ?_); refine box_new (d := 2) rfl rfl 60 rfl _ zero_part ?_; intro w' B2 bb; (try have nO2 := own_new O); have n2 := gw.size; (try have lr_2 := r.lt); (try have l3_2 := B3.lt); (try have lL_2 := BL.lt); (try clear k3); replace gw := grown_trans gw (grown_below bb _); (try replace r := r.kept bb);  (try replace B3 := B3.kept bb); (try replace BL := BL.kept bb); (try replace O := O.kept bb); clear bb; (try have k3 := B3.k))
        | ((with_reducible refine at_new 3 60 ?_); refine box_new (d := 3) rfl rfl 60 rfl _ zero_part ?_; intro w' B3 bb; (try have nO3 := own_new O); have n3 := gw.size; (try have lr_3 := r.lt); (try have l2_3 := B2.lt); (try have lL_3 := BL.lt); (try clear k3); replace gw := grown_trans gw (grown_below bb _); (try replace r := r.kept bb); (try replace B2 := B2.kept bb);  (try replace BL := BL.kept bb); (try replace O := O.kept bb); clear bb; (try have k3 := B3.k))
        | ((with_reducible refine at_load 60 ?_); refine box_load rfl 60 _ rfl _ rfl (by with_reducible assumption) Try.underlying60 rfl (by kernel_rfl) ?_)
        | ((with_reducible refine at_store 60 ?_); refine box_store rfl 60 _ _ rfl _ _ rfl rfl (by with_reducible exact B3) (by kernel_rfl) (by rfl) (by simp [Value.oneCell']) ?_; clear B3; intro w' B3 gg; (try clear k3); replace gw := grown_new gw gg (fun q e => by cases e; exact n3); (try replace r := r.at gg (by omega) (by omega)); (try replace B2 := B2.grown gg (Nat.ne_of_lt l2_3)); (try replace BL := BL.grown gg (Nat.ne_of_gt l3_L)); (try replace O := O.put gg nO3); clear gg; (try have k3 := B3.k))
        | ((with_reducible refine at_store 60 ?_); refine box_store rfl 60 _ _ rfl _ _ rfl rfl (by with_reducible exact B2) (by kernel_rfl) (by rfl) (by simp [Value.oneCell']) ?_; clear B2; intro w' B2 gg; (try clear k3); replace gw := grown_new gw gg (fun q e => by cases e; exact n2); (try replace r := r.at gg (by omega) (by omega)); (try replace B3 := B3.grown gg (Nat.ne_of_gt l2_3)); (try replace BL := BL.grown gg (Nat.ne_of_gt l2_L)); (try replace O := O.put gg nO2); clear gg; (try have k3 := B3.k))
        | ((with_reducible refine at_store 3 ?_); refine box_int rfl _ _ rfl _ _ _ rfl rfl (by with_reducible exact B3) (by simp) ?_; clear B3; intro w' B3 gg; simp only [List.setIfInBounds_toArray, List.set] at B3; (try clear k3); replace gw := grown_new gw gg (fun q e => by cases e; exact n3); (try replace r := r.at gg (by omega) (by omega)); (try replace B2 := B2.grown gg (Nat.ne_of_lt l2_3)); (try replace BL := BL.grown gg (Nat.ne_of_gt l3_L)); (try replace O := O.put gg nO3); clear gg; (try have k3 := B3.k))
        | ((with_reducible refine at_store 22 ?_); refine box_bytes rfl _ _ rfl _ _ _ _ _ rfl rfl (by with_reducible exact B3) (by simp) ?_; clear B3; intro w' B3 gg; simp only [List.setIfInBounds_toArray, List.set] at B3; (try clear k3); replace gw := grown_new gw gg (fun q e => by cases e; exact n3); (try replace r := r.at gg (by omega) (by omega)); (try replace B2 := B2.grown gg (Nat.ne_of_lt l2_3)); (try replace BL := BL.grown gg (Nat.ne_of_gt l3_L)); (try replace O := O.put gg nO3); clear gg; (try have k3 := B3.k))
        | ((with_reducible refine at_litn 22 ?_); refine lit_row rfl 1 #[.int .u8 7] 5 (fun _ => by simp [execOp, go_sem]) ?_; intro w' BL bb; (try have nOL := own_new O); have nL := gw.size; (try have lr_L := r.lt); (try have l2_L := B2.lt); (try have l3_L := B3.lt); (try clear k3); replace gw := grown_trans gw (grown_below bb _); (try replace r := r.kept bb); (try replace B2 := B2.kept bb); (try replace B3 := B3.kept bb);  (try replace O := O.kept bb); clear bb; (try have k3 := B3.k)))
      refine bodyPost_ret (results_cell_row rfl _ _ _ _ _ _ _ rfl B2 Try.underlying60 rfl (by kernel_rfl)) rfl ?_
      exact ⟨_, _, _, ys, _, rfl, by omega, by omega, by omega, by omega, hy, hby, own_down O hbs, by omega, r, gw⟩
    · go_wp2_with (first
        | ((with_reducible refine at_new 2 60 ?_); refine box_new (d := 2) rfl rfl 60 rfl _ zero_part ?_; intro w' B2 bb; (try have nO2 := own_new O); have n2 := gw.size; (try have lr_2 := r.lt); (try have l3_2 := B3.lt); (try have lL_2 := BL.lt); (try clear k3); replace gw := grown_trans gw (grown_below bb _); (try replace r := r.kept bb);  (try replace B3 := B3.kept bb); (try replace BL := BL.kept bb); (try replace O := O.kept bb); clear bb; (try have k3 := B3.k))
        | ((with_reducible refine at_new 3 60 ?_); refine box_new (d := 3) rfl rfl 60 rfl _ zero_part ?_; intro w' B3 bb; (try have nO3 := own_new O); have n3 := gw.size; (try have lr_3 := r.lt); (try have l2_3 := B2.lt); (try have lL_3 := BL.lt); (try clear k3); replace gw := grown_trans gw (grown_below bb _); (try replace r := r.kept bb); (try replace B2 := B2.kept bb);  (try replace BL := BL.kept bb); (try replace O := O.kept bb); clear bb; (try have k3 := B3.k))
        | ((with_reducible refine at_load 60 ?_); refine box_load rfl 60 _ rfl _ rfl (by with_reducible assumption) Try.underlying60 rfl (by kernel_rfl) ?_)
        | ((with_reducible refine at_store 60 ?_); refine box_store rfl 60 _ _ rfl _ _ rfl rfl (by with_reducible exact B3) (by kernel_rfl) (by rfl) (by simp [Value.oneCell']) ?_; clear B3; intro w' B3 gg; (try clear k3); replace gw := grown_new gw gg (fun q e => by cases e; exact n3); (try replace r := r.at gg (by omega) (by omega)); (try replace B2 := B2.grown gg (Nat.ne_of_lt l2_3)); (try replace BL := BL.grown gg (Nat.ne_of_gt l3_L)); (try replace O := O.put gg nO3); clear gg; (try have k3 := B3.k))
        | ((with_reducible refine at_store 60 ?_); refine box_store rfl 60 _ _ rfl _ _ rfl rfl (by with_reducible exact B2) (by kernel_rfl) (by rfl) (by simp [Value.oneCell']) ?_; clear B2; intro w' B2 gg; (try clear k3); replace gw := grown_new gw gg (fun q e => by cases e; exact n2); (try replace r := r.at gg (by omega) (by omega)); (try replace B3 := B3.grown gg (Nat.ne_of_gt l2_3)); (try replace BL := BL.grown gg (Nat.ne_of_gt l2_L)); (try replace O := O.put gg nO2); clear gg; (try have k3 := B3.k))
        | ((with_reducible refine at_store 3 ?_); refine box_int rfl _ _ rfl _ _ _ rfl rfl (by with_reducible exact B3) (by simp) ?_; clear B3; intro w' B3 gg; simp only [List.setIfInBounds_toArray, List.set] at B3; (try clear k3); replace gw := grown_new gw gg (fun q e => by cases e; exact n3); (try replace r := r.at gg (by omega) (by omega)); (try replace B2 := B2.grown gg (Nat.ne_of_lt l2_3)); (try replace BL := BL.grown gg (Nat.ne_of_gt l3_L)); (try replace O := O.put gg nO3); clear gg; (try have k3 := B3.k))
        | ((with_reducible refine at_store 22 ?_); refine box_bytes rfl _ _ rfl _ _ _ _ _ rfl rfl (by with_reducible exact B3) (by simp) ?_; clear B3; intro w' B3 gg; simp only [List.setIfInBounds_toArray, List.set] at B3; (try clear k3); replace gw := grown_new gw gg (fun q e => by cases e; exact n3); (try replace r := r.at gg (by omega) (by omega)); (try replace B2 := B2.grown gg (Nat.ne_of_lt l2_3)); (try replace BL := BL.grown gg (Nat.ne_of_gt l3_L)); (try replace O := O.put gg nO3); clear gg; (try have k3 := B3.k))
        | ((with_reducible refine at_litn 22 ?_); refine lit_row rfl 1 #[.int .u8 7] 5 (fun _ => by simp [execOp, go_sem]) ?_; intro w' BL bb; (try have nOL := own_new O); have nL := gw.size; (try have lr_L := r.lt); (try have l2_L := B2.lt); (try have l3_L := B3.lt); (try clear k3); replace gw := grown_trans gw (grown_below bb _); (try replace r := r.kept bb); (try replace B2 := B2.kept bb); (try replace B3 := B3.kept bb);  (try replace O := O.kept bb); clear bb; (try have k3 := B3.k)))
      refine bodyPost_ret (results_cell_row rfl _ _ _ _ _ _ _ rfl B2 Try.underlying60 rfl (by kernel_rfl)) rfl ?_
      exact ⟨_, _, _, ys, _, rfl, by omega, by omega, by omega, by omega, hy, hby, own_down O hbs, by omega, r, gw⟩
end Go.Proofs.Ytaoafikkamnjlaa
