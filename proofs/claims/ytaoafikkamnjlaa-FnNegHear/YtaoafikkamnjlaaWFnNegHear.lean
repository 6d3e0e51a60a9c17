/- The law of NegHear, promise 24, returns true at every code. -/
import Derived.Test.YtaoafikkamnjlaaDrawHear
import Derived.Test.YtaoafikkamnjlaaNegEq
import Derived.Test.YtaoafikkamnjlaaOpenGuard
import Derived.Test.YtaoafikkamnjlaaLiOk
import Derived.RowKit3
namespace Go.Proofs.Ytaoafikkamnjlaa.fnNegHear
open Go.RowKit
theorem spec_negs (s : Neg) (w : World) : Calls Try.prog 18 #[.agg s.cs] w fun e w' => e = .returned (.bool s.ok) ∧ Below w.heap.size w w' := by
  obtain ⟨⟨o1, o2, o3, o4, o5⟩, ⟨a1, a2, a3, a4, a5⟩, ⟨m1, m2, m3, m4, m5⟩, ⟨y1, y2, y3, y4, y5⟩, f⟩ := s
  exact spec_neg_v o1 o2 o3 o4 o5 a1 a2 a3 a4 a5 m1 m2 m3 m4 m5 y1 y2 y3 y4 y5 f w
theorem impl_negs (s : Neg) (w : World) : Calls Try.prog 17 #[.agg s.cs] w fun e w' => e = .returned (.bool s.ok) ∧ Below w.heap.size w w' := by
  obtain ⟨⟨o1, o2, o3, o4, o5⟩, ⟨a1, a2, a3, a4, a5⟩, ⟨m1, m2, m3, m4, m5⟩, ⟨y1, y2, y3, y4, y5⟩, f⟩ := s
  exact impl_neg_v o1 o2 o3 o4 o5 a1 a2 a3 a4 a5 m1 m2 m3 m4 m5 y1 y2 y3 y4 y5 f w
set_option maxRecDepth 100000 in
set_option maxHeartbeats 4000000 in
theorem small (a0 : Option Addr) (len0 cap0 : Nat) (cz : List Nat) (w : World) (hs0 : ¬ (1048576 : Int) < (len0 : Int)) (hR0 : Rd w (.slice a0 len0 cap0) cz) :
    Calls Try.prog 3 #[.slice a0 len0 cap0] w fun e w' => e = .returned (.bool true) ∧ Below w.heap.size w w' := by
  have b0 : Below w.heap.size w w := Below.refl _ _
  have hu := Try.underlying24
  have hg : Try.prog.eqGuardType Try.prog.depth 24 = false := by kernel_rfl
  have hp : Try.prog.stoodInHeld 24 = false := by kernel_rfl
  go_enter Try.func3, Try.ntmps3
  go_wp2_with fail
  refine (drawHear_any _ cz _ hR0).mono ?_
  rintro e w1 ⟨s, m, rfl, hJ, bb⟩
  replace b0 := bchain b0 bb
  clear bb hR0
  have hsame := hear_same s m hJ
  obtain ⟨H, hH⟩ : ∃ H, sHear s m = H := ⟨_, rfl⟩
  obtain ⟨x, back, says⟩ := H
  rw [hH] at hsame
  go_wp2_with (first
    | ((with_reducible refine at_new 3 26 ?_); refine box_new (d := 3) rfl rfl 26 rfl _ zero_neg ?_; intro w' B3 bb; have n3 := b0.size;  (try have l4_3 := B4.lt); (try have l5_3 := B5.lt); (try have l6_3 := B6.lt); (try have l8_3 := B8.lt); (try have l9_3 := B9.lt);  replace b0 := bchain b0 bb;  (try replace B4 := B4.kept bb); (try replace B5 := B5.kept bb); (try replace B6 := B6.kept bb); (try replace B8 := B8.kept bb); (try replace B9 := B9.kept bb); clear bb; skip)
    | ((with_reducible refine at_new 4 28 ?_); refine box_new (d := 4) rfl rfl 28 rfl _ zero_msg ?_; intro w' B4 bb; have n4 := b0.size;  (try have l3_4 := B3.lt); (try have l5_4 := B5.lt); (try have l6_4 := B6.lt); (try have l8_4 := B8.lt); (try have l9_4 := B9.lt);  replace b0 := bchain b0 bb; (try replace B3 := B3.kept bb);  (try replace B5 := B5.kept bb); (try replace B6 := B6.kept bb); (try replace B8 := B8.kept bb); (try replace B9 := B9.kept bb); clear bb; skip)
    | ((with_reducible refine at_load 26 ?_); refine box_load rfl 26 _ rfl _ rfl (by with_reducible assumption) Try.underlying26 rfl (by kernel_rfl) ?_)
    | ((with_reducible refine at_load 28 ?_); refine box_load rfl 28 _ rfl _ rfl (by with_reducible assumption) Try.underlying28 rfl (by kernel_rfl) ?_)
    | ((with_reducible refine at_store 26 ?_); refine box_store rfl 26 _ _ rfl _ _ rfl rfl (by with_reducible exact B3) (by kernel_rfl) (by rfl) (by simp [Neg.cs, Value.oneCell']) ?_; clear B3; intro w' B3 gg;  replace b0 := below_at b0 gg b0.size n3; (try replace B4 := B4.grown gg (Nat.ne_of_gt l3_4)); (try replace B5 := B5.grown gg (Nat.ne_of_gt l3_5)); (try replace B6 := B6.grown gg (Nat.ne_of_gt l3_6)); (try replace B8 := B8.grown gg (Nat.ne_of_gt l3_8)); (try replace B9 := B9.grown gg (Nat.ne_of_gt l3_9)); clear gg; skip)
    | ((with_reducible refine at_store 28 ?_); refine box_store rfl 28 _ _ rfl _ _ rfl rfl (by with_reducible exact B4) (by kernel_rfl) (by rfl) (by simp [Msg.cs, Value.oneCell']) ?_; clear B4; intro w' B4 gg;  replace b0 := below_at b0 gg b0.size n4; (try replace B3 := B3.grown gg (Nat.ne_of_lt l3_4)); (try replace B5 := B5.grown gg (Nat.ne_of_gt l4_5)); (try replace B6 := B6.grown gg (Nat.ne_of_gt l4_6)); (try replace B8 := B8.grown gg (Nat.ne_of_gt l4_8)); (try replace B9 := B9.grown gg (Nat.ne_of_gt l4_9)); clear gg; skip))
  refine (impl_hear s m _).mono ?_
  rintro e w' ⟨rfl, bb⟩
  rw [hsame]
  replace b0 := bchain b0 bb
  (try replace B3 := B3.kept bb)
  (try replace B4 := B4.kept bb)
  (try replace B5 := B5.kept bb)
  (try replace B6 := B6.kept bb)
  (try replace B8 := B8.kept bb)
  (try replace B9 := B9.kept bb)
  clear bb
  skip
  go_wp2_with (first
    | ((with_reducible refine at_new 5 26 ?_); refine box_new (d := 5) rfl rfl 26 rfl _ zero_neg ?_; intro w' B5 bb; have n5 := b0.size;  (try have l3_5 := B3.lt); (try have l4_5 := B4.lt); (try have l6_5 := B6.lt); (try have l8_5 := B8.lt); (try have l9_5 := B9.lt);  replace b0 := bchain b0 bb; (try replace B3 := B3.kept bb); (try replace B4 := B4.kept bb);  (try replace B6 := B6.kept bb); (try replace B8 := B8.kept bb); (try replace B9 := B9.kept bb); clear bb; skip)
    | ((with_reducible refine at_new 6 28 ?_); refine box_new (d := 6) rfl rfl 28 rfl _ zero_msg ?_; intro w' B6 bb; have n6 := b0.size;  (try have l3_6 := B3.lt); (try have l4_6 := B4.lt); (try have l5_6 := B5.lt); (try have l8_6 := B8.lt); (try have l9_6 := B9.lt);  replace b0 := bchain b0 bb; (try replace B3 := B3.kept bb); (try replace B4 := B4.kept bb); (try replace B5 := B5.kept bb);  (try replace B8 := B8.kept bb); (try replace B9 := B9.kept bb); clear bb; skip)
    | ((with_reducible refine at_load 26 ?_); refine box_load rfl 26 _ rfl _ rfl (by with_reducible assumption) Try.underlying26 rfl (by kernel_rfl) ?_)
    | ((with_reducible refine at_load 28 ?_); refine box_load rfl 28 _ rfl _ rfl (by with_reducible assumption) Try.underlying28 rfl (by kernel_rfl) ?_)
    | ((with_reducible refine at_store 26 ?_); refine box_store rfl 26 _ _ rfl _ _ rfl rfl (by with_reducible exact B5) (by kernel_rfl) (by rfl) (by simp [Neg.cs, Value.oneCell']) ?_; clear B5; intro w' B5 gg;  replace b0 := below_at b0 gg b0.size n5; (try replace B3 := B3.grown gg (Nat.ne_of_lt l3_5)); (try replace B4 := B4.grown gg (Nat.ne_of_lt l4_5)); (try replace B6 := B6.grown gg (Nat.ne_of_gt l5_6)); (try replace B8 := B8.grown gg (Nat.ne_of_gt l5_8)); (try replace B9 := B9.grown gg (Nat.ne_of_gt l5_9)); clear gg; skip)
    | ((with_reducible refine at_store 28 ?_); refine box_store rfl 28 _ _ rfl _ _ rfl rfl (by with_reducible exact B6) (by kernel_rfl) (by rfl) (by simp [Msg.cs, Value.oneCell']) ?_; clear B6; intro w' B6 gg;  replace b0 := below_at b0 gg b0.size n6; (try replace B3 := B3.grown gg (Nat.ne_of_lt l3_6)); (try replace B4 := B4.grown gg (Nat.ne_of_lt l4_6)); (try replace B5 := B5.grown gg (Nat.ne_of_lt l5_6)); (try replace B8 := B8.grown gg (Nat.ne_of_gt l6_8)); (try replace B9 := B9.grown gg (Nat.ne_of_gt l6_9)); clear gg; skip))
  refine (spec_hear s m _).mono ?_
  rintro e w' ⟨rfl, bb⟩
  rw [hH]
  replace b0 := bchain b0 bb
  (try replace B3 := B3.kept bb)
  (try replace B4 := B4.kept bb)
  (try replace B5 := B5.kept bb)
  (try replace B6 := B6.kept bb)
  (try replace B8 := B8.kept bb)
  (try replace B9 := B9.kept bb)
  clear bb
  skip
  go_wp2_with (first
    | ((with_reducible refine at_new 8 26 ?_); refine box_new (d := 8) rfl rfl 26 rfl _ zero_neg ?_; intro w' B8 bb; have n8 := b0.size;  (try have l3_8 := B3.lt); (try have l4_8 := B4.lt); (try have l5_8 := B5.lt); (try have l6_8 := B6.lt); (try have l9_8 := B9.lt);  replace b0 := bchain b0 bb; (try replace B3 := B3.kept bb); (try replace B4 := B4.kept bb); (try replace B5 := B5.kept bb); (try replace B6 := B6.kept bb);  (try replace B9 := B9.kept bb); clear bb; skip)
    | ((with_reducible refine at_new 9 28 ?_); refine box_new (d := 9) rfl rfl 28 rfl _ zero_msg ?_; intro w' B9 bb; have n9 := b0.size;  (try have l3_9 := B3.lt); (try have l4_9 := B4.lt); (try have l5_9 := B5.lt); (try have l6_9 := B6.lt); (try have l8_9 := B8.lt);  replace b0 := bchain b0 bb; (try replace B3 := B3.kept bb); (try replace B4 := B4.kept bb); (try replace B5 := B5.kept bb); (try replace B6 := B6.kept bb); (try replace B8 := B8.kept bb);  clear bb; skip)
    | ((with_reducible refine at_load 26 ?_); refine box_load rfl 26 _ rfl _ rfl (by with_reducible assumption) Try.underlying26 rfl (by kernel_rfl) ?_)
    | ((with_reducible refine at_load 28 ?_); refine box_load rfl 28 _ rfl _ rfl (by with_reducible assumption) Try.underlying28 rfl (by kernel_rfl) ?_)
    | ((with_reducible refine at_store 26 ?_); refine box_store rfl 26 _ _ rfl _ _ rfl rfl (by with_reducible exact B8) (by kernel_rfl) (by rfl) (by simp [Neg.cs, Value.oneCell']) ?_; clear B8; intro w' B8 gg;  replace b0 := below_at b0 gg b0.size n8; (try replace B3 := B3.grown gg (Nat.ne_of_lt l3_8)); (try replace B4 := B4.grown gg (Nat.ne_of_lt l4_8)); (try replace B5 := B5.grown gg (Nat.ne_of_lt l5_8)); (try replace B6 := B6.grown gg (Nat.ne_of_lt l6_8)); (try replace B9 := B9.grown gg (Nat.ne_of_gt l8_9)); clear gg; skip)
    | ((with_reducible refine at_store 28 ?_); refine box_store rfl 28 _ _ rfl _ _ rfl rfl (by with_reducible exact B9) (by kernel_rfl) (by rfl) (by simp [Msg.cs, Value.oneCell']) ?_; clear B9; intro w' B9 gg;  replace b0 := below_at b0 gg b0.size n9; (try replace B3 := B3.grown gg (Nat.ne_of_lt l3_9)); (try replace B4 := B4.grown gg (Nat.ne_of_lt l4_9)); (try replace B5 := B5.grown gg (Nat.ne_of_lt l5_9)); (try replace B6 := B6.grown gg (Nat.ne_of_lt l6_9)); (try replace B8 := B8.grown gg (Nat.ne_of_lt l8_9)); clear gg; skip))
  replace b0 := b0.drew
  replace B3 := B3.drew
  replace B4 := B4.drew
  replace B5 := B5.drew
  replace B6 := B6.drew
  replace B8 := B8.drew
  replace B9 := B9.drew
  refine region_by (fun w' => Bl w' _ (Neg.cs s) 26 ∧ Bl w' _ (Neg.cs x) 26 ∧ Bl w' _ (Msg.cs back) 28 ∧ Bl w' _ (Neg.cs x) 26 ∧ Bl w' _ (Msg.cs back) 28) 20 [(0, true), (1, true), (2, true), (3, true), (4, true), (5, true), (6, true), (7, true), (8, true), (9, true), (10, true), (11, true), (12, true), (13, true), (14, true), (16, true), (15, false), (17, false), (18, true), (19, true)] ⟨none, .assign (.tmp 0), 0, "", #[], none⟩ (by kernel_rfl) (by kernel_rfl) ⟨B3, B5, B6, B8, B9⟩ (fun x _ _ _ _ h => by cases x <;> exact h) ?_
  simp only [arrange, List.map_cons, List.map_nil, List.getD_cons_zero, List.getD_cons_succ]
  generalize World.drew _ = dw at b0 B3 B4 B5 B6 B8 B9 ⊢
  refine by_load rfl 26 _ rfl _ rfl (fun _ h => h.2.1) Try.underlying26 rfl (by kernel_rfl) ?_
  simp only [Act.put, List.setIfInBounds_toArray, List.set]
  refine by_load rfl 26 _ rfl _ rfl (fun _ h => h.2.2.2.1) Try.underlying26 rfl (by kernel_rfl) ?_
  simp only [Act.put, List.setIfInBounds_toArray, List.set]
  refine by_rung (by rfl) (.bool false) (fun _ _ => run_neg_neq _ _ rfl x rfl rfl _) ?_
  simp only [Act.put, List.setIfInBounds_toArray, List.set]
  refine by_rung (by rfl) (.bool false) (fun _ _ => run_move rfl) ?_
  simp only [Act.put, List.setIfInBounds_toArray, List.set]
  refine by_rung (by rfl) _ (fun _ h => run_load_row 28 _ rfl _ rfl h.2.2.1 Try.underlying28 rfl (by kernel_rfl)) ?_
  simp only [Act.put, List.setIfInBounds_toArray, List.set]
  refine by_rung (by rfl) _ (fun _ h => run_load_row 28 _ rfl _ rfl h.2.2.2.2 Try.underlying28 rfl (by kernel_rfl)) ?_
  simp only [Act.put, List.setIfInBounds_toArray, List.set]
  refine by_rung (by rfl) (.bool false) (fun _ _ => run_msg_neq _ _ rfl back rfl rfl _) ?_
  simp only [Act.put, List.setIfInBounds_toArray, List.set]
  refine by_rung (by rfl) (.bool false) (fun _ _ => by simp [execOp, go_sem]) ?_
  simp only [Act.put, List.setIfInBounds_toArray, List.set]
  refine by_rung (by rfl) (.bool false) (fun _ _ => run_move rfl) ?_
  simp only [Act.put, List.setIfInBounds_toArray, List.set]
  refine by_rung (by rfl) (.bool says) (fun _ _ => run_move rfl) ?_
  simp only [Act.put, List.setIfInBounds_toArray, List.set]
  refine by_rung (by rfl) (.bool says) (fun _ _ => run_move rfl) ?_
  simp only [Act.put, List.setIfInBounds_toArray, List.set]
  refine by_rung (by rfl) (.bool false) (fun _ _ => by simp [execOp, go_sem]) ?_
  simp only [Act.put, List.setIfInBounds_toArray, List.set]
  refine by_rung (by rfl) (.bool false) (fun _ _ => by simp [execOp, go_sem]) ?_
  simp only [Act.put, List.setIfInBounds_toArray, List.set]
  refine by_rung (by rfl) (.bool false) (fun _ _ => run_move rfl) ?_
  simp only [Act.put, List.setIfInBounds_toArray, List.set]
  refine by_rung (by rfl) _ (fun _ h => run_load_row 26 _ rfl _ rfl h.1 Try.underlying26 rfl (by kernel_rfl)) ?_
  simp only [Act.put, List.setIfInBounds_toArray, List.set]
  refine by_rung (by rfl) _ (fun _ h => run_load_row 26 _ rfl _ rfl h.1 Try.underlying26 rfl (by kernel_rfl)) ?_
  simp only [Act.put, List.setIfInBounds_toArray, List.set]
  refine by_wpg rfl (by rfl) ?_
  unfold Oper.wp
  rw [run_call1 rfl rfl (fun _ _ => by kernel_rfl)]
  refine (impl_negs s _).mono ?_
  rintro e w' ⟨rfl, bb⟩
  replace b0 := bchain b0 bb
  replace B3 := B3.kept bb
  replace B4 := B4.kept bb
  replace B5 := B5.kept bb
  replace B6 := B6.kept bb
  replace B8 := B8.kept bb
  replace B9 := B9.kept bb
  clear bb
  refine ⟨fun _ => ⟨B3, B5, B6, B8, B9⟩, ?_⟩
  (try simp only [Act.put, List.setIfInBounds_toArray, List.set])
  refine by_wpg rfl (by rfl) ?_
  unfold Oper.wp
  rw [run_call1 rfl rfl (fun _ _ => by kernel_rfl)]
  refine (spec_negs s _).mono ?_
  rintro e w' ⟨rfl, bb⟩
  replace b0 := bchain b0 bb
  replace B3 := B3.kept bb
  replace B4 := B4.kept bb
  replace B5 := B5.kept bb
  replace B6 := B6.kept bb
  replace B8 := B8.kept bb
  replace B9 := B9.kept bb
  clear bb
  refine ⟨fun _ => ⟨B3, B5, B6, B8, B9⟩, ?_⟩
  (try simp only [Act.put, List.setIfInBounds_toArray, List.set])
  refine by_rung (by rfl) (.bool false) (fun _ _ => by simp [execOp, go_sem]) ?_
  simp only [Act.put, List.setIfInBounds_toArray, List.set]
  refine by_rung (by rfl) (.bool false) (fun _ _ => by simp [execOp, go_sem]) ?_
  simp only [Act.put, List.setIfInBounds_toArray, List.set]
  refine by_nil ?_
  clear B8 B9 hsame
  obtain ⟨⟨o1, o2, o3, o4, o5⟩, ⟨a1, a2, a3, a4, a5⟩, ⟨m1, m2, m3, m4, m5⟩, ⟨y1, y2, y3, y4, y5⟩, f⟩ := s
  obtain ⟨n, ⟨x1, x2, x3, x4, x5⟩⟩ := m
  cases hok : Neg.ok ⟨⟨o1, o2, o3, o4, o5⟩, ⟨a1, a2, a3, a4, a5⟩, ⟨m1, m2, m3, m4, m5⟩, ⟨y1, y2, y3, y4, y5⟩, f⟩
  · obtain ⟨rfl, rfl, rfl⟩ : x = Neg.zero ∧ back = Msg.zero ∧ says = false := by
      have e : (Neg.zero, Msg.zero, false) = (x, back, says) := by
        rw [← hH]
        unfold sHear
        rw [if_pos (by simp [hok])]
      simp only [Prod.mk.injEq] at e
      exact ⟨e.1.symm, e.2.1.symm, e.2.2.symm⟩
    clear hH
    simp only [Neg.cs] at B3
    simp only [Msg.cs] at B4
    simp only [Neg.cs, Neg.zero, Opt.zero] at B5
    simp only [Msg.cs, Msg.zero, Opt.zero] at B6
    have k3 := B3.k
    have k4 := B4.k
    have k5 := B5.k
    have k6 := B6.k
    go_wp2_with (first
      | ((with_reducible refine at_new 11 24 ?_); refine box_new (d := 11) rfl rfl 24 rfl _ zero_cfg ?_; intro w' B11 bb; have n11 := b0.size;  (try have l3_11 := B3.lt); (try have l4_11 := B4.lt); (try have l5_11 := B5.lt); (try have l6_11 := B6.lt); (try clear k3); (try clear k4); (try clear k5); (try clear k6); (try clear k11); replace b0 := bchain b0 bb; (try replace B3 := B3.kept bb); (try replace B4 := B4.kept bb); (try replace B5 := B5.kept bb); (try replace B6 := B6.kept bb);  clear bb; (try have k3 := B3.k); (try have k4 := B4.k); (try have k5 := B5.k); (try have k6 := B6.k); (try have k11 := B11.k))
      | ((with_reducible refine at_load 26 ?_); refine box_load rfl 26 _ rfl _ rfl (by with_reducible assumption) Try.underlying26 rfl (by kernel_rfl) ?_)
      | ((with_reducible refine at_load 28 ?_); refine box_load rfl 28 _ rfl _ rfl (by with_reducible assumption) Try.underlying28 rfl (by kernel_rfl) ?_)
      | ((with_reducible refine at_load 24 ?_); refine box_load rfl 24 _ rfl _ rfl (by with_reducible assumption) Try.underlying24 rfl (by kernel_rfl) ?_)
      | ((with_reducible refine at_loadg 26 ?_); refine box_loadg (by rfl) 26 _ rfl _ rfl (by with_reducible assumption) Try.underlying26 rfl (by kernel_rfl) ?_)
      | ((with_reducible refine at_loadg 28 ?_); refine box_loadg (by rfl) 28 _ rfl _ rfl (by with_reducible assumption) Try.underlying28 rfl (by kernel_rfl) ?_)
      | ((with_reducible refine at_loadg 24 ?_); refine box_loadg (by rfl) 24 _ rfl _ rfl (by with_reducible assumption) Try.underlying24 rfl (by kernel_rfl) ?_)
      | ((with_reducible refine at_store 24 ?_); refine box_store rfl 24 _ _ rfl _ _ rfl rfl (by with_reducible exact B11) (by kernel_rfl) (by rfl) (by simp [Value.oneCell']) ?_; clear B11; intro w' B11 gg; (try clear k3); (try clear k4); (try clear k5); (try clear k6); (try clear k11); replace b0 := below_at b0 gg b0.size n11; (try replace B3 := B3.grown gg (Nat.ne_of_lt l3_11)); (try replace B4 := B4.grown gg (Nat.ne_of_lt l4_11)); (try replace B5 := B5.grown gg (Nat.ne_of_lt l5_11)); (try replace B6 := B6.grown gg (Nat.ne_of_lt l6_11)); clear gg; (try have k3 := B3.k); (try have k4 := B4.k); (try have k5 := B5.k); (try have k6 := B6.k); (try have k11 := B11.k)))
    refine (spec_neg_v _ _ _ _ _ _ _ _ _ _ _ _ _ _ _ _ _ _ _ _ _ _).mono ?_
    rintro e w' ⟨rfl, bb⟩
    rw [hok]
    (try clear k3)
    (try clear k4)
    (try clear k5)
    (try clear k6)
    (try clear k11)
    replace b0 := bchain b0 bb
    (try replace B3 := B3.kept bb)
    (try replace B4 := B4.kept bb)
    (try replace B5 := B5.kept bb)
    (try replace B6 := B6.kept bb)
    (try replace B11 := B11.kept bb)
    clear bb
    (try have k3 := B3.k)
    (try have k4 := B4.k)
    (try have k5 := B5.k)
    (try have k6 := B6.k)
    (try have k11 := B11.k)
    go_wp2_with (first
      | ((with_reducible refine at_new 11 24 ?_); refine box_new (d := 11) rfl rfl 24 rfl _ zero_cfg ?_; intro w' B11 bb; have n11 := b0.size;  (try have l3_11 := B3.lt); (try have l4_11 := B4.lt); (try have l5_11 := B5.lt); (try have l6_11 := B6.lt); (try clear k3); (try clear k4); (try clear k5); (try clear k6); (try clear k11); replace b0 := bchain b0 bb; (try replace B3 := B3.kept bb); (try replace B4 := B4.kept bb); (try replace B5 := B5.kept bb); (try replace B6 := B6.kept bb);  clear bb; (try have k3 := B3.k); (try have k4 := B4.k); (try have k5 := B5.k); (try have k6 := B6.k); (try have k11 := B11.k))
      | ((with_reducible refine at_load 26 ?_); refine box_load rfl 26 _ rfl _ rfl (by with_reducible assumption) Try.underlying26 rfl (by kernel_rfl) ?_)
      | ((with_reducible refine at_load 28 ?_); refine box_load rfl 28 _ rfl _ rfl (by with_reducible assumption) Try.underlying28 rfl (by kernel_rfl) ?_)
      | ((with_reducible refine at_load 24 ?_); refine box_load rfl 24 _ rfl _ rfl (by with_reducible assumption) Try.underlying24 rfl (by kernel_rfl) ?_)
      | ((with_reducible refine at_loadg 26 ?_); refine box_loadg (by rfl) 26 _ rfl _ rfl (by with_reducible assumption) Try.underlying26 rfl (by kernel_rfl) ?_)
      | ((with_reducible refine at_loadg 28 ?_); refine box_loadg (by rfl) 28 _ rfl _ rfl (by with_reducible assumption) Try.underlying28 rfl (by kernel_rfl) ?_)
      | ((with_reducible refine at_loadg 24 ?_); refine box_loadg (by rfl) 24 _ rfl _ rfl (by with_reducible assumption) Try.underlying24 rfl (by kernel_rfl) ?_)
      | ((with_reducible refine at_store 24 ?_); refine box_store rfl 24 _ _ rfl _ _ rfl rfl (by with_reducible exact B11) (by kernel_rfl) (by rfl) (by simp [Value.oneCell']) ?_; clear B11; intro w' B11 gg; (try clear k3); (try clear k4); (try clear k5); (try clear k6); (try clear k11); replace b0 := below_at b0 gg b0.size n11; (try replace B3 := B3.grown gg (Nat.ne_of_lt l3_11)); (try replace B4 := B4.grown gg (Nat.ne_of_lt l4_11)); (try replace B5 := B5.grown gg (Nat.ne_of_lt l5_11)); (try replace B6 := B6.grown gg (Nat.ne_of_lt l6_11)); clear gg; (try have k3 := B3.k); (try have k4 := B4.k); (try have k5 := B5.k); (try have k6 := B6.k); (try have k11 := B11.k))
      | ((with_reducible refine at_any .eql 26 ?_); refine neg_eql (by rfl) _ _ rfl Neg.zero rfl rfl ?_))
    all_goals
      refine (li_ok _).mono ?_
      rintro e w' ⟨rfl, bb⟩
      (try clear k3)
      (try clear k4)
      (try clear k5)
      (try clear k6)
      (try clear k11)
      replace b0 := bchain b0 bb
      (try replace B3 := B3.kept bb)
      (try replace B4 := B4.kept bb)
      (try replace B5 := B5.kept bb)
      (try replace B6 := B6.kept bb)
      (try replace B11 := B11.kept bb)
      clear bb
      (try have k3 := B3.k)
      (try have k4 := B4.k)
      (try have k5 := B5.k)
      (try have k6 := B6.k)
      (try have k11 := B11.k)
      go_wp2
      go_ret
      exact ⟨rfl, b0⟩
  cases hk : inB n 1 3
  · obtain ⟨rfl, rfl, rfl⟩ : x = Neg.zero ∧ back = Msg.zero ∧ says = false := by
      have e : (Neg.zero, Msg.zero, false) = (x, back, says) := by
        rw [← hH]
        unfold sHear
        rw [if_pos (by simp [hok, hk])]
      simp only [Prod.mk.injEq] at e
      exact ⟨e.1.symm, e.2.1.symm, e.2.2.symm⟩
    clear hH
    simp only [Neg.cs] at B3
    simp only [Msg.cs] at B4
    simp only [Neg.cs, Neg.zero, Opt.zero] at B5
    simp only [Msg.cs, Msg.zero, Opt.zero] at B6
    have k3 := B3.k
    have k4 := B4.k
    have k5 := B5.k
    have k6 := B6.k
    go_wp2_with (first
      | ((with_reducible refine at_new 11 24 ?_); refine box_new (d := 11) rfl rfl 24 rfl _ zero_cfg ?_; intro w' B11 bb; have n11 := b0.size;  (try have l3_11 := B3.lt); (try have l4_11 := B4.lt); (try have l5_11 := B5.lt); (try have l6_11 := B6.lt); (try clear k3); (try clear k4); (try clear k5); (try clear k6); (try clear k11); replace b0 := bchain b0 bb; (try replace B3 := B3.kept bb); (try replace B4 := B4.kept bb); (try replace B5 := B5.kept bb); (try replace B6 := B6.kept bb);  clear bb; (try have k3 := B3.k); (try have k4 := B4.k); (try have k5 := B5.k); (try have k6 := B6.k); (try have k11 := B11.k))
      | ((with_reducible refine at_load 26 ?_); refine box_load rfl 26 _ rfl _ rfl (by with_reducible assumption) Try.underlying26 rfl (by kernel_rfl) ?_)
      | ((with_reducible refine at_load 28 ?_); refine box_load rfl 28 _ rfl _ rfl (by with_reducible assumption) Try.underlying28 rfl (by kernel_rfl) ?_)
      | ((with_reducible refine at_load 24 ?_); refine box_load rfl 24 _ rfl _ rfl (by with_reducible assumption) Try.underlying24 rfl (by kernel_rfl) ?_)
      | ((with_reducible refine at_loadg 26 ?_); refine box_loadg (by rfl) 26 _ rfl _ rfl (by with_reducible assumption) Try.underlying26 rfl (by kernel_rfl) ?_)
      | ((with_reducible refine at_loadg 28 ?_); refine box_loadg (by rfl) 28 _ rfl _ rfl (by with_reducible assumption) Try.underlying28 rfl (by kernel_rfl) ?_)
      | ((with_reducible refine at_loadg 24 ?_); refine box_loadg (by rfl) 24 _ rfl _ rfl (by with_reducible assumption) Try.underlying24 rfl (by kernel_rfl) ?_)
      | ((with_reducible refine at_store 24 ?_); refine box_store rfl 24 _ _ rfl _ _ rfl rfl (by with_reducible exact B11) (by kernel_rfl) (by rfl) (by simp [Value.oneCell']) ?_; clear B11; intro w' B11 gg; (try clear k3); (try clear k4); (try clear k5); (try clear k6); (try clear k11); replace b0 := below_at b0 gg b0.size n11; (try replace B3 := B3.grown gg (Nat.ne_of_lt l3_11)); (try replace B4 := B4.grown gg (Nat.ne_of_lt l4_11)); (try replace B5 := B5.grown gg (Nat.ne_of_lt l5_11)); (try replace B6 := B6.grown gg (Nat.ne_of_lt l6_11)); clear gg; (try have k3 := B3.k); (try have k4 := B4.k); (try have k5 := B5.k); (try have k6 := B6.k); (try have k11 := B11.k)))
    refine (spec_neg_v _ _ _ _ _ _ _ _ _ _ _ _ _ _ _ _ _ _ _ _ _ _).mono ?_
    rintro e w' ⟨rfl, bb⟩
    rw [hok]
    (try clear k3)
    (try clear k4)
    (try clear k5)
    (try clear k6)
    (try clear k11)
    replace b0 := bchain b0 bb
    (try replace B3 := B3.kept bb)
    (try replace B4 := B4.kept bb)
    (try replace B5 := B5.kept bb)
    (try replace B6 := B6.kept bb)
    (try replace B11 := B11.kept bb)
    clear bb
    (try have k3 := B3.k)
    (try have k4 := B4.k)
    (try have k5 := B5.k)
    (try have k6 := B6.k)
    (try have k11 := B11.k)
    go_wp2_with (first
      | ((with_reducible refine at_new 11 24 ?_); refine box_new (d := 11) rfl rfl 24 rfl _ zero_cfg ?_; intro w' B11 bb; have n11 := b0.size;  (try have l3_11 := B3.lt); (try have l4_11 := B4.lt); (try have l5_11 := B5.lt); (try have l6_11 := B6.lt); (try clear k3); (try clear k4); (try clear k5); (try clear k6); (try clear k11); replace b0 := bchain b0 bb; (try replace B3 := B3.kept bb); (try replace B4 := B4.kept bb); (try replace B5 := B5.kept bb); (try replace B6 := B6.kept bb);  clear bb; (try have k3 := B3.k); (try have k4 := B4.k); (try have k5 := B5.k); (try have k6 := B6.k); (try have k11 := B11.k))
      | ((with_reducible refine at_load 26 ?_); refine box_load rfl 26 _ rfl _ rfl (by with_reducible assumption) Try.underlying26 rfl (by kernel_rfl) ?_)
      | ((with_reducible refine at_load 28 ?_); refine box_load rfl 28 _ rfl _ rfl (by with_reducible assumption) Try.underlying28 rfl (by kernel_rfl) ?_)
      | ((with_reducible refine at_load 24 ?_); refine box_load rfl 24 _ rfl _ rfl (by with_reducible assumption) Try.underlying24 rfl (by kernel_rfl) ?_)
      | ((with_reducible refine at_loadg 26 ?_); refine box_loadg (by rfl) 26 _ rfl _ rfl (by with_reducible assumption) Try.underlying26 rfl (by kernel_rfl) ?_)
      | ((with_reducible refine at_loadg 28 ?_); refine box_loadg (by rfl) 28 _ rfl _ rfl (by with_reducible assumption) Try.underlying28 rfl (by kernel_rfl) ?_)
      | ((with_reducible refine at_loadg 24 ?_); refine box_loadg (by rfl) 24 _ rfl _ rfl (by with_reducible assumption) Try.underlying24 rfl (by kernel_rfl) ?_)
      | ((with_reducible refine at_store 24 ?_); refine box_store rfl 24 _ _ rfl _ _ rfl rfl (by with_reducible exact B11) (by kernel_rfl) (by rfl) (by simp [Value.oneCell']) ?_; clear B11; intro w' B11 gg; (try clear k3); (try clear k4); (try clear k5); (try clear k6); (try clear k11); replace b0 := below_at b0 gg b0.size n11; (try replace B3 := B3.grown gg (Nat.ne_of_lt l3_11)); (try replace B4 := B4.grown gg (Nat.ne_of_lt l4_11)); (try replace B5 := B5.grown gg (Nat.ne_of_lt l5_11)); (try replace B6 := B6.grown gg (Nat.ne_of_lt l6_11)); clear gg; (try have k3 := B3.k); (try have k4 := B4.k); (try have k5 := B5.k); (try have k6 := B6.k); (try have k11 := B11.k))
      | ((with_reducible refine at_any .eql 26 ?_); refine neg_eql (by rfl) _ _ rfl Neg.zero rfl rfl ?_)
      | (go_at_call 19; exfalso; revert hk; simp [inB]; omega))
    all_goals
      refine (li_ok _).mono ?_
      rintro e w' ⟨rfl, bb⟩
      (try clear k3)
      (try clear k4)
      (try clear k5)
      (try clear k6)
      (try clear k11)
      replace b0 := bchain b0 bb
      (try replace B3 := B3.kept bb)
      (try replace B4 := B4.kept bb)
      (try replace B5 := B5.kept bb)
      (try replace B6 := B6.kept bb)
      (try replace B11 := B11.kept bb)
      clear bb
      (try have k3 := B3.k)
      (try have k4 := B4.k)
      (try have k5 := B5.k)
      (try have k6 := B6.k)
      (try have k11 := B11.k)
      go_wp2
      go_ret
      exact ⟨rfl, b0⟩
  cases hx : Opt.ok ⟨x1, x2, x3, x4, x5⟩
  · obtain ⟨rfl, rfl, rfl⟩ : x = Neg.zero ∧ back = Msg.zero ∧ says = false := by
      have e : (Neg.zero, Msg.zero, false) = (x, back, says) := by
        rw [← hH]
        unfold sHear
        rw [if_pos (by simp [hok, hk, hx])]
      simp only [Prod.mk.injEq] at e
      exact ⟨e.1.symm, e.2.1.symm, e.2.2.symm⟩
    clear hH
    simp only [Neg.cs] at B3
    simp only [Msg.cs] at B4
    simp only [Neg.cs, Neg.zero, Opt.zero] at B5
    simp only [Msg.cs, Msg.zero, Opt.zero] at B6
    have k3 := B3.k
    have k4 := B4.k
    have k5 := B5.k
    have k6 := B6.k
    go_wp2_with (first
      | ((with_reducible refine at_new 11 24 ?_); refine box_new (d := 11) rfl rfl 24 rfl _ zero_cfg ?_; intro w' B11 bb; have n11 := b0.size;  (try have l3_11 := B3.lt); (try have l4_11 := B4.lt); (try have l5_11 := B5.lt); (try have l6_11 := B6.lt); (try clear k3); (try clear k4); (try clear k5); (try clear k6); (try clear k11); replace b0 := bchain b0 bb; (try replace B3 := B3.kept bb); (try replace B4 := B4.kept bb); (try replace B5 := B5.kept bb); (try replace B6 := B6.kept bb);  clear bb; (try have k3 := B3.k); (try have k4 := B4.k); (try have k5 := B5.k); (try have k6 := B6.k); (try have k11 := B11.k))
      | ((with_reducible refine at_load 26 ?_); refine box_load rfl 26 _ rfl _ rfl (by with_reducible assumption) Try.underlying26 rfl (by kernel_rfl) ?_)
      | ((with_reducible refine at_load 28 ?_); refine box_load rfl 28 _ rfl _ rfl (by with_reducible assumption) Try.underlying28 rfl (by kernel_rfl) ?_)
      | ((with_reducible refine at_load 24 ?_); refine box_load rfl 24 _ rfl _ rfl (by with_reducible assumption) Try.underlying24 rfl (by kernel_rfl) ?_)
      | ((with_reducible refine at_loadg 26 ?_); refine box_loadg (by rfl) 26 _ rfl _ rfl (by with_reducible assumption) Try.underlying26 rfl (by kernel_rfl) ?_)
      | ((with_reducible refine at_loadg 28 ?_); refine box_loadg (by rfl) 28 _ rfl _ rfl (by with_reducible assumption) Try.underlying28 rfl (by kernel_rfl) ?_)
      | ((with_reducible refine at_loadg 24 ?_); refine box_loadg (by rfl) 24 _ rfl _ rfl (by with_reducible assumption) Try.underlying24 rfl (by kernel_rfl) ?_)
      | ((with_reducible refine at_store 24 ?_); refine box_store rfl 24 _ _ rfl _ _ rfl rfl (by with_reducible exact B11) (by kernel_rfl) (by rfl) (by simp [Value.oneCell']) ?_; clear B11; intro w' B11 gg; (try clear k3); (try clear k4); (try clear k5); (try clear k6); (try clear k11); replace b0 := below_at b0 gg b0.size n11; (try replace B3 := B3.grown gg (Nat.ne_of_lt l3_11)); (try replace B4 := B4.grown gg (Nat.ne_of_lt l4_11)); (try replace B5 := B5.grown gg (Nat.ne_of_lt l5_11)); (try replace B6 := B6.grown gg (Nat.ne_of_lt l6_11)); clear gg; (try have k3 := B3.k); (try have k4 := B4.k); (try have k5 := B5.k); (try have k6 := B6.k); (try have k11 := B11.k)))
    refine (spec_neg_v _ _ _ _ _ _ _ _ _ _ _ _ _ _ _ _ _ _ _ _ _ _).mono ?_
    rintro e w' ⟨rfl, bb⟩
    rw [hok]
    (try clear k3)
    (try clear k4)
    (try clear k5)
    (try clear k6)
    (try clear k11)
    replace b0 := bchain b0 bb
    (try replace B3 := B3.kept bb)
    (try replace B4 := B4.kept bb)
    (try replace B5 := B5.kept bb)
    (try replace B6 := B6.kept bb)
    (try replace B11 := B11.kept bb)
    clear bb
    (try have k3 := B3.k)
    (try have k4 := B4.k)
    (try have k5 := B5.k)
    (try have k6 := B6.k)
    (try have k11 := B11.k)
    rcases (show n = 1 ∨ n = 2 ∨ n = 3 by rw [inB_iff] at hk; omega) with rfl | rfl | rfl
    all_goals
      go_wp2_with (first
        | ((with_reducible refine at_new 11 24 ?_); refine box_new (d := 11) rfl rfl 24 rfl _ zero_cfg ?_; intro w' B11 bb; have n11 := b0.size;  (try have l3_11 := B3.lt); (try have l4_11 := B4.lt); (try have l5_11 := B5.lt); (try have l6_11 := B6.lt); (try clear k3); (try clear k4); (try clear k5); (try clear k6); (try clear k11); replace b0 := bchain b0 bb; (try replace B3 := B3.kept bb); (try replace B4 := B4.kept bb); (try replace B5 := B5.kept bb); (try replace B6 := B6.kept bb);  clear bb; (try have k3 := B3.k); (try have k4 := B4.k); (try have k5 := B5.k); (try have k6 := B6.k); (try have k11 := B11.k))
        | ((with_reducible refine at_load 26 ?_); refine box_load rfl 26 _ rfl _ rfl (by with_reducible assumption) Try.underlying26 rfl (by kernel_rfl) ?_)
        | ((with_reducible refine at_load 28 ?_); refine box_load rfl 28 _ rfl _ rfl (by with_reducible assumption) Try.underlying28 rfl (by kernel_rfl) ?_)
        | ((with_reducible refine at_load 24 ?_); refine box_load rfl 24 _ rfl _ rfl (by with_reducible assumption) Try.underlying24 rfl (by kernel_rfl) ?_)
        | ((with_reducible refine at_loadg 26 ?_); refine box_loadg (by rfl) 26 _ rfl _ rfl (by with_reducible assumption) Try.underlying26 rfl (by kernel_rfl) ?_)
        | ((with_reducible refine at_loadg 28 ?_); refine box_loadg (by rfl) 28 _ rfl _ rfl (by with_reducible assumption) Try.underlying28 rfl (by kernel_rfl) ?_)
        | ((with_reducible refine at_loadg 24 ?_); refine box_loadg (by rfl) 24 _ rfl _ rfl (by with_reducible assumption) Try.underlying24 rfl (by kernel_rfl) ?_)
        | ((with_reducible refine at_store 24 ?_); refine box_store rfl 24 _ _ rfl _ _ rfl rfl (by with_reducible exact B11) (by kernel_rfl) (by rfl) (by simp [Value.oneCell']) ?_; clear B11; intro w' B11 gg; (try clear k3); (try clear k4); (try clear k5); (try clear k6); (try clear k11); replace b0 := below_at b0 gg b0.size n11; (try replace B3 := B3.grown gg (Nat.ne_of_lt l3_11)); (try replace B4 := B4.grown gg (Nat.ne_of_lt l4_11)); (try replace B5 := B5.grown gg (Nat.ne_of_lt l5_11)); (try replace B6 := B6.grown gg (Nat.ne_of_lt l6_11)); clear gg; (try have k3 := B3.k); (try have k4 := B4.k); (try have k5 := B5.k); (try have k6 := B6.k); (try have k11 := B11.k)))
      refine (spec_cfg_v _ _ _ _ _ _).mono ?_
      rintro e w' ⟨rfl, bb⟩
      rw [hx]
      (try clear k3)
      (try clear k4)
      (try clear k5)
      (try clear k6)
      (try clear k11)
      replace b0 := bchain b0 bb
      (try replace B3 := B3.kept bb)
      (try replace B4 := B4.kept bb)
      (try replace B5 := B5.kept bb)
      (try replace B6 := B6.kept bb)
      (try replace B11 := B11.kept bb)
      clear bb
      (try have k3 := B3.k)
      (try have k4 := B4.k)
      (try have k5 := B5.k)
      (try have k6 := B6.k)
      (try have k11 := B11.k)
      go_wp2_with (first
        | ((with_reducible refine at_new 11 24 ?_); refine box_new (d := 11) rfl rfl 24 rfl _ zero_cfg ?_; intro w' B11 bb; have n11 := b0.size;  (try have l3_11 := B3.lt); (try have l4_11 := B4.lt); (try have l5_11 := B5.lt); (try have l6_11 := B6.lt); (try clear k3); (try clear k4); (try clear k5); (try clear k6); (try clear k11); replace b0 := bchain b0 bb; (try replace B3 := B3.kept bb); (try replace B4 := B4.kept bb); (try replace B5 := B5.kept bb); (try replace B6 := B6.kept bb);  clear bb; (try have k3 := B3.k); (try have k4 := B4.k); (try have k5 := B5.k); (try have k6 := B6.k); (try have k11 := B11.k))
        | ((with_reducible refine at_load 26 ?_); refine box_load rfl 26 _ rfl _ rfl (by with_reducible assumption) Try.underlying26 rfl (by kernel_rfl) ?_)
        | ((with_reducible refine at_load 28 ?_); refine box_load rfl 28 _ rfl _ rfl (by with_reducible assumption) Try.underlying28 rfl (by kernel_rfl) ?_)
        | ((with_reducible refine at_load 24 ?_); refine box_load rfl 24 _ rfl _ rfl (by with_reducible assumption) Try.underlying24 rfl (by kernel_rfl) ?_)
        | ((with_reducible refine at_loadg 26 ?_); refine box_loadg (by rfl) 26 _ rfl _ rfl (by with_reducible assumption) Try.underlying26 rfl (by kernel_rfl) ?_)
        | ((with_reducible refine at_loadg 28 ?_); refine box_loadg (by rfl) 28 _ rfl _ rfl (by with_reducible assumption) Try.underlying28 rfl (by kernel_rfl) ?_)
        | ((with_reducible refine at_loadg 24 ?_); refine box_loadg (by rfl) 24 _ rfl _ rfl (by with_reducible assumption) Try.underlying24 rfl (by kernel_rfl) ?_)
        | ((with_reducible refine at_store 24 ?_); refine box_store rfl 24 _ _ rfl _ _ rfl rfl (by with_reducible exact B11) (by kernel_rfl) (by rfl) (by simp [Value.oneCell']) ?_; clear B11; intro w' B11 gg; (try clear k3); (try clear k4); (try clear k5); (try clear k6); (try clear k11); replace b0 := below_at b0 gg b0.size n11; (try replace B3 := B3.grown gg (Nat.ne_of_lt l3_11)); (try replace B4 := B4.grown gg (Nat.ne_of_lt l4_11)); (try replace B5 := B5.grown gg (Nat.ne_of_lt l5_11)); (try replace B6 := B6.grown gg (Nat.ne_of_lt l6_11)); clear gg; (try have k3 := B3.k); (try have k4 := B4.k); (try have k5 := B5.k); (try have k6 := B6.k); (try have k11 := B11.k))
        | ((with_reducible refine at_any .eql 26 ?_); refine neg_eql (by rfl) _ _ rfl Neg.zero rfl rfl ?_))
    all_goals
      refine (li_ok _).mono ?_
      rintro e w' ⟨rfl, bb⟩
      (try clear k3)
      (try clear k4)
      (try clear k5)
      (try clear k6)
      (try clear k11)
      replace b0 := bchain b0 bb
      (try replace B3 := B3.kept bb)
      (try replace B4 := B4.kept bb)
      (try replace B5 := B5.kept bb)
      (try replace B6 := B6.kept bb)
      (try replace B11 := B11.kept bb)
      clear bb
      (try have k3 := B3.k)
      (try have k4 := B4.k)
      (try have k5 := B5.k)
      (try have k6 := B6.k)
      (try have k11 := B11.k)
      go_wp2
      go_ret
      exact ⟨rfl, b0⟩
  have hoo : Opt.ok ⟨o1, o2, o3, o4, o5⟩ = true := by simp only [Neg.ok, Bool.and_eq_true] at hok; exact hok.1.1.1
  by_cases hd : x1 = o1
  case neg =>
    have hm : meets ⟨o1, o2, o3, o4, o5⟩ ⟨x1, x2, x3, x4, x5⟩ = false := by rw [← Bool.not_eq_true]; exact fun h => hd (meets_mode h).symm
    rcases (show n = 1 ∨ n = 2 ∨ n = 3 by rw [inB_iff] at hk; omega) with rfl | rfl | rfl
    all_goals
      obtain ⟨rfl, rfl, rfl⟩ : x = ⟨⟨o1, o2, o3, o4, o5⟩, ⟨a1, a2, a3, a4, a5⟩, ⟨m1, m2, m3, m4, m5⟩, ⟨y1, y2, y3, y4, y5⟩, true⟩ ∧ back = Msg.zero ∧ says = false := by
        have e : (⟨⟨o1, o2, o3, o4, o5⟩, ⟨a1, a2, a3, a4, a5⟩, ⟨m1, m2, m3, m4, m5⟩, ⟨y1, y2, y3, y4, y5⟩, true⟩, Msg.zero, false) = (x, back, says) := by
          rw [← hH]
          unfold sHear
          rw [if_neg (by simp [hok, hk, hx]), if_pos hd]
        simp only [Prod.mk.injEq] at e
        exact ⟨e.1.symm, e.2.1.symm, e.2.2.symm⟩
      clear hH
      simp only [Neg.cs] at B3
      simp only [Msg.cs] at B4
      simp only [Neg.cs] at B5
      simp only [Msg.cs, Msg.zero, Opt.zero] at B6
      have k3 := B3.k
      have k4 := B4.k
      have k5 := B5.k
      have k6 := B6.k
      have hxo : Neg.ok ⟨⟨o1, o2, o3, o4, o5⟩, ⟨a1, a2, a3, a4, a5⟩, ⟨m1, m2, m3, m4, m5⟩, ⟨y1, y2, y3, y4, y5⟩, true⟩ = true := by
        simp only [Neg.ok, Bool.and_eq_true] at hok ⊢
        exact hok
      go_wp2_with (first
        | ((with_reducible refine at_new 11 24 ?_); refine box_new (d := 11) rfl rfl 24 rfl _ zero_cfg ?_; intro w' B11 bb; have n11 := b0.size;  (try have l3_11 := B3.lt); (try have l4_11 := B4.lt); (try have l5_11 := B5.lt); (try have l6_11 := B6.lt); (try clear k3); (try clear k4); (try clear k5); (try clear k6); (try clear k11); replace b0 := bchain b0 bb; (try replace B3 := B3.kept bb); (try replace B4 := B4.kept bb); (try replace B5 := B5.kept bb); (try replace B6 := B6.kept bb);  clear bb; (try have k3 := B3.k); (try have k4 := B4.k); (try have k5 := B5.k); (try have k6 := B6.k); (try have k11 := B11.k))
        | ((with_reducible refine at_load 26 ?_); refine box_load rfl 26 _ rfl _ rfl (by with_reducible assumption) Try.underlying26 rfl (by kernel_rfl) ?_)
        | ((with_reducible refine at_load 28 ?_); refine box_load rfl 28 _ rfl _ rfl (by with_reducible assumption) Try.underlying28 rfl (by kernel_rfl) ?_)
        | ((with_reducible refine at_load 24 ?_); refine box_load rfl 24 _ rfl _ rfl (by with_reducible assumption) Try.underlying24 rfl (by kernel_rfl) ?_)
        | ((with_reducible refine at_loadg 26 ?_); refine box_loadg (by rfl) 26 _ rfl _ rfl (by with_reducible assumption) Try.underlying26 rfl (by kernel_rfl) ?_)
        | ((with_reducible refine at_loadg 28 ?_); refine box_loadg (by rfl) 28 _ rfl _ rfl (by with_reducible assumption) Try.underlying28 rfl (by kernel_rfl) ?_)
        | ((with_reducible refine at_loadg 24 ?_); refine box_loadg (by rfl) 24 _ rfl _ rfl (by with_reducible assumption) Try.underlying24 rfl (by kernel_rfl) ?_)
        | ((with_reducible refine at_store 24 ?_); refine box_store rfl 24 _ _ rfl _ _ rfl rfl (by with_reducible exact B11) (by kernel_rfl) (by rfl) (by simp [Value.oneCell']) ?_; clear B11; intro w' B11 gg; (try clear k3); (try clear k4); (try clear k5); (try clear k6); (try clear k11); replace b0 := below_at b0 gg b0.size n11; (try replace B3 := B3.grown gg (Nat.ne_of_lt l3_11)); (try replace B4 := B4.grown gg (Nat.ne_of_lt l4_11)); (try replace B5 := B5.grown gg (Nat.ne_of_lt l5_11)); (try replace B6 := B6.grown gg (Nat.ne_of_lt l6_11)); clear gg; (try have k3 := B3.k); (try have k4 := B4.k); (try have k5 := B5.k); (try have k6 := B6.k); (try have k11 := B11.k)))
      refine (spec_neg_v _ _ _ _ _ _ _ _ _ _ _ _ _ _ _ _ _ _ _ _ _ _).mono ?_
      rintro e w' ⟨rfl, bb⟩
      rw [hok]
      (try clear k3)
      (try clear k4)
      (try clear k5)
      (try clear k6)
      (try clear k11)
      replace b0 := bchain b0 bb
      (try replace B3 := B3.kept bb)
      (try replace B4 := B4.kept bb)
      (try replace B5 := B5.kept bb)
      (try replace B6 := B6.kept bb)
      (try replace B11 := B11.kept bb)
      clear bb
      (try have k3 := B3.k)
      (try have k4 := B4.k)
      (try have k5 := B5.k)
      (try have k6 := B6.k)
      (try have k11 := B11.k)
      go_wp2_with (first
        | ((with_reducible refine at_new 11 24 ?_); refine box_new (d := 11) rfl rfl 24 rfl _ zero_cfg ?_; intro w' B11 bb; have n11 := b0.size;  (try have l3_11 := B3.lt); (try have l4_11 := B4.lt); (try have l5_11 := B5.lt); (try have l6_11 := B6.lt); (try clear k3); (try clear k4); (try clear k5); (try clear k6); (try clear k11); replace b0 := bchain b0 bb; (try replace B3 := B3.kept bb); (try replace B4 := B4.kept bb); (try replace B5 := B5.kept bb); (try replace B6 := B6.kept bb);  clear bb; (try have k3 := B3.k); (try have k4 := B4.k); (try have k5 := B5.k); (try have k6 := B6.k); (try have k11 := B11.k))
        | ((with_reducible refine at_load 26 ?_); refine box_load rfl 26 _ rfl _ rfl (by with_reducible assumption) Try.underlying26 rfl (by kernel_rfl) ?_)
        | ((with_reducible refine at_load 28 ?_); refine box_load rfl 28 _ rfl _ rfl (by with_reducible assumption) Try.underlying28 rfl (by kernel_rfl) ?_)
        | ((with_reducible refine at_load 24 ?_); refine box_load rfl 24 _ rfl _ rfl (by with_reducible assumption) Try.underlying24 rfl (by kernel_rfl) ?_)
        | ((with_reducible refine at_loadg 26 ?_); refine box_loadg (by rfl) 26 _ rfl _ rfl (by with_reducible assumption) Try.underlying26 rfl (by kernel_rfl) ?_)
        | ((with_reducible refine at_loadg 28 ?_); refine box_loadg (by rfl) 28 _ rfl _ rfl (by with_reducible assumption) Try.underlying28 rfl (by kernel_rfl) ?_)
        | ((with_reducible refine at_loadg 24 ?_); refine box_loadg (by rfl) 24 _ rfl _ rfl (by with_reducible assumption) Try.underlying24 rfl (by kernel_rfl) ?_)
        | ((with_reducible refine at_store 24 ?_); refine box_store rfl 24 _ _ rfl _ _ rfl rfl (by with_reducible exact B11) (by kernel_rfl) (by rfl) (by simp [Value.oneCell']) ?_; clear B11; intro w' B11 gg; (try clear k3); (try clear k4); (try clear k5); (try clear k6); (try clear k11); replace b0 := below_at b0 gg b0.size n11; (try replace B3 := B3.grown gg (Nat.ne_of_lt l3_11)); (try replace B4 := B4.grown gg (Nat.ne_of_lt l4_11)); (try replace B5 := B5.grown gg (Nat.ne_of_lt l5_11)); (try replace B6 := B6.grown gg (Nat.ne_of_lt l6_11)); clear gg; (try have k3 := B3.k); (try have k4 := B4.k); (try have k5 := B5.k); (try have k6 := B6.k); (try have k11 := B11.k)))
      refine (spec_cfg_v _ _ _ _ _ _).mono ?_
      rintro e w' ⟨rfl, bb⟩
      rw [hx]
      (try clear k3)
      (try clear k4)
      (try clear k5)
      (try clear k6)
      (try clear k11)
      replace b0 := bchain b0 bb
      (try replace B3 := B3.kept bb)
      (try replace B4 := B4.kept bb)
      (try replace B5 := B5.kept bb)
      (try replace B6 := B6.kept bb)
      (try replace B11 := B11.kept bb)
      clear bb
      (try have k3 := B3.k)
      (try have k4 := B4.k)
      (try have k5 := B5.k)
      (try have k6 := B6.k)
      (try have k11 := B11.k)
      go_wp2_with (first
        | ((with_reducible refine at_new 11 24 ?_); refine box_new (d := 11) rfl rfl 24 rfl _ zero_cfg ?_; intro w' B11 bb; have n11 := b0.size;  (try have l3_11 := B3.lt); (try have l4_11 := B4.lt); (try have l5_11 := B5.lt); (try have l6_11 := B6.lt); (try clear k3); (try clear k4); (try clear k5); (try clear k6); (try clear k11); replace b0 := bchain b0 bb; (try replace B3 := B3.kept bb); (try replace B4 := B4.kept bb); (try replace B5 := B5.kept bb); (try replace B6 := B6.kept bb);  clear bb; (try have k3 := B3.k); (try have k4 := B4.k); (try have k5 := B5.k); (try have k6 := B6.k); (try have k11 := B11.k))
        | ((with_reducible refine at_load 26 ?_); refine box_load rfl 26 _ rfl _ rfl (by with_reducible assumption) Try.underlying26 rfl (by kernel_rfl) ?_)
        | ((with_reducible refine at_load 28 ?_); refine box_load rfl 28 _ rfl _ rfl (by with_reducible assumption) Try.underlying28 rfl (by kernel_rfl) ?_)
        | ((with_reducible refine at_load 24 ?_); refine box_load rfl 24 _ rfl _ rfl (by with_reducible assumption) Try.underlying24 rfl (by kernel_rfl) ?_)
        | ((with_reducible refine at_loadg 26 ?_); refine box_loadg (by rfl) 26 _ rfl _ rfl (by with_reducible assumption) Try.underlying26 rfl (by kernel_rfl) ?_)
        | ((with_reducible refine at_loadg 28 ?_); refine box_loadg (by rfl) 28 _ rfl _ rfl (by with_reducible assumption) Try.underlying28 rfl (by kernel_rfl) ?_)
        | ((with_reducible refine at_loadg 24 ?_); refine box_loadg (by rfl) 24 _ rfl _ rfl (by with_reducible assumption) Try.underlying24 rfl (by kernel_rfl) ?_)
        | ((with_reducible refine at_store 24 ?_); refine box_store rfl 24 _ _ rfl _ _ rfl rfl (by with_reducible exact B11) (by kernel_rfl) (by rfl) (by simp [Value.oneCell']) ?_; clear B11; intro w' B11 gg; (try clear k3); (try clear k4); (try clear k5); (try clear k6); (try clear k11); replace b0 := below_at b0 gg b0.size n11; (try replace B3 := B3.grown gg (Nat.ne_of_lt l3_11)); (try replace B4 := B4.grown gg (Nat.ne_of_lt l4_11)); (try replace B5 := B5.grown gg (Nat.ne_of_lt l5_11)); (try replace B6 := B6.grown gg (Nat.ne_of_lt l6_11)); clear gg; (try have k3 := B3.k); (try have k4 := B4.k); (try have k5 := B5.k); (try have k6 := B6.k); (try have k11 := B11.k)))
      refine (impl_neg_v _ _ _ _ _ _ _ _ _ _ _ _ _ _ _ _ _ _ _ _ _ _).mono ?_
      rintro e w' ⟨rfl, bb⟩
      rw [hxo]
      (try clear k3)
      (try clear k4)
      (try clear k5)
      (try clear k6)
      (try clear k11)
      replace b0 := bchain b0 bb
      (try replace B3 := B3.kept bb)
      (try replace B4 := B4.kept bb)
      (try replace B5 := B5.kept bb)
      (try replace B6 := B6.kept bb)
      (try replace B11 := B11.kept bb)
      clear bb
      (try have k3 := B3.k)
      (try have k4 := B4.k)
      (try have k5 := B5.k)
      (try have k6 := B6.k)
      (try have k11 := B11.k)
      go_wp2_with (first
        | ((with_reducible refine at_new 11 24 ?_); refine box_new (d := 11) rfl rfl 24 rfl _ zero_cfg ?_; intro w' B11 bb; have n11 := b0.size;  (try have l3_11 := B3.lt); (try have l4_11 := B4.lt); (try have l5_11 := B5.lt); (try have l6_11 := B6.lt); (try clear k3); (try clear k4); (try clear k5); (try clear k6); (try clear k11); replace b0 := bchain b0 bb; (try replace B3 := B3.kept bb); (try replace B4 := B4.kept bb); (try replace B5 := B5.kept bb); (try replace B6 := B6.kept bb);  clear bb; (try have k3 := B3.k); (try have k4 := B4.k); (try have k5 := B5.k); (try have k6 := B6.k); (try have k11 := B11.k))
        | ((with_reducible refine at_load 26 ?_); refine box_load rfl 26 _ rfl _ rfl (by with_reducible assumption) Try.underlying26 rfl (by kernel_rfl) ?_)
        | ((with_reducible refine at_load 28 ?_); refine box_load rfl 28 _ rfl _ rfl (by with_reducible assumption) Try.underlying28 rfl (by kernel_rfl) ?_)
        | ((with_reducible refine at_load 24 ?_); refine box_load rfl 24 _ rfl _ rfl (by with_reducible assumption) Try.underlying24 rfl (by kernel_rfl) ?_)
        | ((with_reducible refine at_loadg 26 ?_); refine box_loadg (by rfl) 26 _ rfl _ rfl (by with_reducible assumption) Try.underlying26 rfl (by kernel_rfl) ?_)
        | ((with_reducible refine at_loadg 28 ?_); refine box_loadg (by rfl) 28 _ rfl _ rfl (by with_reducible assumption) Try.underlying28 rfl (by kernel_rfl) ?_)
        | ((with_reducible refine at_loadg 24 ?_); refine box_loadg (by rfl) 24 _ rfl _ rfl (by with_reducible assumption) Try.underlying24 rfl (by kernel_rfl) ?_)
        | ((with_reducible refine at_store 24 ?_); refine box_store rfl 24 _ _ rfl _ _ rfl rfl (by with_reducible exact B11) (by kernel_rfl) (by rfl) (by simp [Value.oneCell']) ?_; clear B11; intro w' B11 gg; (try clear k3); (try clear k4); (try clear k5); (try clear k6); (try clear k11); replace b0 := below_at b0 gg b0.size n11; (try replace B3 := B3.grown gg (Nat.ne_of_lt l3_11)); (try replace B4 := B4.grown gg (Nat.ne_of_lt l4_11)); (try replace B5 := B5.grown gg (Nat.ne_of_lt l5_11)); (try replace B6 := B6.grown gg (Nat.ne_of_lt l6_11)); clear gg; (try have k3 := B3.k); (try have k4 := B4.k); (try have k5 := B5.k); (try have k6 := B6.k); (try have k11 := B11.k)))
      refine (impl_meet_no _ _ _ _ _ _ _ _ _ _ hm _).mono ?_
      rintro e w' ⟨rfl, bb⟩
      (try clear k3)
      (try clear k4)
      (try clear k5)
      (try clear k6)
      (try clear k11)
      replace b0 := bchain b0 bb
      (try replace B3 := B3.kept bb)
      (try replace B4 := B4.kept bb)
      (try replace B5 := B5.kept bb)
      (try replace B6 := B6.kept bb)
      (try replace B11 := B11.kept bb)
      clear bb
      (try have k3 := B3.k)
      (try have k4 := B4.k)
      (try have k5 := B5.k)
      (try have k6 := B6.k)
      (try have k11 := B11.k)
      go_wp2_with (first
        | ((with_reducible refine at_new 11 24 ?_); refine box_new (d := 11) rfl rfl 24 rfl _ zero_cfg ?_; intro w' B11 bb; have n11 := b0.size;  (try have l3_11 := B3.lt); (try have l4_11 := B4.lt); (try have l5_11 := B5.lt); (try have l6_11 := B6.lt); (try clear k3); (try clear k4); (try clear k5); (try clear k6); (try clear k11); replace b0 := bchain b0 bb; (try replace B3 := B3.kept bb); (try replace B4 := B4.kept bb); (try replace B5 := B5.kept bb); (try replace B6 := B6.kept bb);  clear bb; (try have k3 := B3.k); (try have k4 := B4.k); (try have k5 := B5.k); (try have k6 := B6.k); (try have k11 := B11.k))
        | ((with_reducible refine at_load 26 ?_); refine box_load rfl 26 _ rfl _ rfl (by with_reducible assumption) Try.underlying26 rfl (by kernel_rfl) ?_)
        | ((with_reducible refine at_load 28 ?_); refine box_load rfl 28 _ rfl _ rfl (by with_reducible assumption) Try.underlying28 rfl (by kernel_rfl) ?_)
        | ((with_reducible refine at_load 24 ?_); refine box_load rfl 24 _ rfl _ rfl (by with_reducible assumption) Try.underlying24 rfl (by kernel_rfl) ?_)
        | ((with_reducible refine at_loadg 26 ?_); refine box_loadg (by rfl) 26 _ rfl _ rfl (by with_reducible assumption) Try.underlying26 rfl (by kernel_rfl) ?_)
        | ((with_reducible refine at_loadg 28 ?_); refine box_loadg (by rfl) 28 _ rfl _ rfl (by with_reducible assumption) Try.underlying28 rfl (by kernel_rfl) ?_)
        | ((with_reducible refine at_loadg 24 ?_); refine box_loadg (by rfl) 24 _ rfl _ rfl (by with_reducible assumption) Try.underlying24 rfl (by kernel_rfl) ?_)
        | ((with_reducible refine at_store 24 ?_); refine box_store rfl 24 _ _ rfl _ _ rfl rfl (by with_reducible exact B11) (by kernel_rfl) (by rfl) (by simp [Value.oneCell']) ?_; clear B11; intro w' B11 gg; (try clear k3); (try clear k4); (try clear k5); (try clear k6); (try clear k11); replace b0 := below_at b0 gg b0.size n11; (try replace B3 := B3.grown gg (Nat.ne_of_lt l3_11)); (try replace B4 := B4.grown gg (Nat.ne_of_lt l4_11)); (try replace B5 := B5.grown gg (Nat.ne_of_lt l5_11)); (try replace B6 := B6.grown gg (Nat.ne_of_lt l6_11)); clear gg; (try have k3 := B3.k); (try have k4 := B4.k); (try have k5 := B5.k); (try have k6 := B6.k); (try have k11 := B11.k)))
      all_goals
        go_ret
        refine ⟨ret_bool ?_, b0⟩
        simp
  subst hd
  have hE : ∀ a b : Opt, a.same b = false ↔ a ≠ b := fun a b => by rw [← Bool.not_eq_true, Opt.same_iff]
  have hm : meets ⟨x1, o2, o3, o4, o5⟩ ⟨x1, x2, x3, x4, x5⟩ = true := meets_mk hoo hx rfl
  obtain ⟨c2, h2⟩ : ∃ c, min o2 x2 = c := ⟨_, rfl⟩
  obtain ⟨c3, h3⟩ : ∃ c, min o3 x3 = c := ⟨_, rfl⟩
  obtain ⟨c4, h4⟩ : ∃ c, min o4 x4 = c := ⟨_, rfl⟩
  obtain ⟨c5, h5⟩ : ∃ c, min o5 x5 = c := ⟨_, rfl⟩
  rcases (show n = 1 ∨ n = 2 ∨ n = 3 by rw [inB_iff] at hk; omega) with rfl | rfl | rfl
  · by_cases he : Opt.least ⟨x1, o2, o3, o4, o5⟩ ⟨x1, x2, x3, x4, x5⟩ = ⟨x1, x2, x3, x4, x5⟩
    · obtain ⟨rfl, rfl, rfl, rfl⟩ : c2 = x2 ∧ c3 = x3 ∧ c4 = x4 ∧ c5 = x5 := by
        simp only [Opt.least, Opt.mk.injEq] at he
        omega
      obtain ⟨rfl, rfl, rfl⟩ : x = ⟨⟨x1, o2, o3, o4, o5⟩, ⟨a1, a2, a3, a4, a5⟩, ⟨m1, m2, m3, m4, m5⟩, ⟨x1, c2, c3, c4, c5⟩, f⟩ ∧ back = ⟨2, ⟨x1, c2, c3, c4, c5⟩⟩ ∧ says = true := by
        have e : (⟨⟨x1, o2, o3, o4, o5⟩, ⟨a1, a2, a3, a4, a5⟩, ⟨m1, m2, m3, m4, m5⟩, ⟨x1, c2, c3, c4, c5⟩, f⟩, ⟨2, ⟨x1, c2, c3, c4, c5⟩⟩, true) = (x, back, says) := by
          rw [← hH]
          unfold sHear
          rw [if_neg (by simp [hok, hk, hx]), if_neg (by simp), if_pos rfl, if_pos he]
        simp only [Prod.mk.injEq] at e
        exact ⟨e.1.symm, e.2.1.symm, e.2.2.symm⟩
      clear hH
      simp only [Neg.cs] at B3
      simp only [Msg.cs] at B4
      simp only [Neg.cs] at B5
      simp only [Msg.cs] at B6
      have k3 := B3.k
      have k4 := B4.k
      have k5 := B5.k
      have k6 := B6.k
      have hxo : Neg.ok ⟨⟨x1, o2, o3, o4, o5⟩, ⟨a1, a2, a3, a4, a5⟩, ⟨m1, m2, m3, m4, m5⟩, ⟨x1, c2, c3, c4, c5⟩, f⟩ = true := by
        simp only [Neg.ok, Bool.and_eq_true] at hok ⊢
        exact ⟨hok.1, by simp [Opt.yes, hx]⟩
      have H2 : Hid (_ = _) := h2
      clear h2
      have H3 : Hid (_ = _) := h3
      clear h3
      have H4 : Hid (_ = _) := h4
      clear h4
      have H5 : Hid (_ = _) := h5
      clear h5
      go_wp2_with (first
        | ((with_reducible refine at_new 11 24 ?_); refine box_new (d := 11) rfl rfl 24 rfl _ zero_cfg ?_; intro w' B11 bb; have n11 := b0.size;  (try have l3_11 := B3.lt); (try have l4_11 := B4.lt); (try have l5_11 := B5.lt); (try have l6_11 := B6.lt); (try clear k3); (try clear k4); (try clear k5); (try clear k6); (try clear k11); replace b0 := bchain b0 bb; (try replace B3 := B3.kept bb); (try replace B4 := B4.kept bb); (try replace B5 := B5.kept bb); (try replace B6 := B6.kept bb);  clear bb; (try have k3 := B3.k); (try have k4 := B4.k); (try have k5 := B5.k); (try have k6 := B6.k); (try have k11 := B11.k))
        | ((with_reducible refine at_load 26 ?_); refine box_load rfl 26 _ rfl _ rfl (by with_reducible assumption) Try.underlying26 rfl (by kernel_rfl) ?_)
        | ((with_reducible refine at_load 28 ?_); refine box_load rfl 28 _ rfl _ rfl (by with_reducible assumption) Try.underlying28 rfl (by kernel_rfl) ?_)
        | ((with_reducible refine at_load 24 ?_); refine box_load rfl 24 _ rfl _ rfl (by with_reducible assumption) Try.underlying24 rfl (by kernel_rfl) ?_)
        | ((with_reducible refine at_loadg 26 ?_); refine box_loadg (by rfl) 26 _ rfl _ rfl (by with_reducible assumption) Try.underlying26 rfl (by kernel_rfl) ?_)
        | ((with_reducible refine at_loadg 28 ?_); refine box_loadg (by rfl) 28 _ rfl _ rfl (by with_reducible assumption) Try.underlying28 rfl (by kernel_rfl) ?_)
        | ((with_reducible refine at_loadg 24 ?_); refine box_loadg (by rfl) 24 _ rfl _ rfl (by with_reducible assumption) Try.underlying24 rfl (by kernel_rfl) ?_)
        | ((with_reducible refine at_store 24 ?_); refine box_store rfl 24 _ _ rfl _ _ rfl rfl (by with_reducible exact B11) (by kernel_rfl) (by rfl) (by simp [Value.oneCell']) ?_; clear B11; intro w' B11 gg; (try clear k3); (try clear k4); (try clear k5); (try clear k6); (try clear k11); replace b0 := below_at b0 gg b0.size n11; (try replace B3 := B3.grown gg (Nat.ne_of_lt l3_11)); (try replace B4 := B4.grown gg (Nat.ne_of_lt l4_11)); (try replace B5 := B5.grown gg (Nat.ne_of_lt l5_11)); (try replace B6 := B6.grown gg (Nat.ne_of_lt l6_11)); clear gg; (try have k3 := B3.k); (try have k4 := B4.k); (try have k5 := B5.k); (try have k6 := B6.k); (try have k11 := B11.k)))
      refine (spec_neg_v _ _ _ _ _ _ _ _ _ _ _ _ _ _ _ _ _ _ _ _ _ _).mono ?_
      rintro e w' ⟨rfl, bb⟩
      rw [hok]
      (try clear k3)
      (try clear k4)
      (try clear k5)
      (try clear k6)
      (try clear k11)
      replace b0 := bchain b0 bb
      (try replace B3 := B3.kept bb)
      (try replace B4 := B4.kept bb)
      (try replace B5 := B5.kept bb)
      (try replace B6 := B6.kept bb)
      (try replace B11 := B11.kept bb)
      clear bb
      (try have k3 := B3.k)
      (try have k4 := B4.k)
      (try have k5 := B5.k)
      (try have k6 := B6.k)
      (try have k11 := B11.k)
      go_wp2_with (first
        | ((with_reducible refine at_new 11 24 ?_); refine box_new (d := 11) rfl rfl 24 rfl _ zero_cfg ?_; intro w' B11 bb; have n11 := b0.size;  (try have l3_11 := B3.lt); (try have l4_11 := B4.lt); (try have l5_11 := B5.lt); (try have l6_11 := B6.lt); (try clear k3); (try clear k4); (try clear k5); (try clear k6); (try clear k11); replace b0 := bchain b0 bb; (try replace B3 := B3.kept bb); (try replace B4 := B4.kept bb); (try replace B5 := B5.kept bb); (try replace B6 := B6.kept bb);  clear bb; (try have k3 := B3.k); (try have k4 := B4.k); (try have k5 := B5.k); (try have k6 := B6.k); (try have k11 := B11.k))
        | ((with_reducible refine at_load 26 ?_); refine box_load rfl 26 _ rfl _ rfl (by with_reducible assumption) Try.underlying26 rfl (by kernel_rfl) ?_)
        | ((with_reducible refine at_load 28 ?_); refine box_load rfl 28 _ rfl _ rfl (by with_reducible assumption) Try.underlying28 rfl (by kernel_rfl) ?_)
        | ((with_reducible refine at_load 24 ?_); refine box_load rfl 24 _ rfl _ rfl (by with_reducible assumption) Try.underlying24 rfl (by kernel_rfl) ?_)
        | ((with_reducible refine at_loadg 26 ?_); refine box_loadg (by rfl) 26 _ rfl _ rfl (by with_reducible assumption) Try.underlying26 rfl (by kernel_rfl) ?_)
        | ((with_reducible refine at_loadg 28 ?_); refine box_loadg (by rfl) 28 _ rfl _ rfl (by with_reducible assumption) Try.underlying28 rfl (by kernel_rfl) ?_)
        | ((with_reducible refine at_loadg 24 ?_); refine box_loadg (by rfl) 24 _ rfl _ rfl (by with_reducible assumption) Try.underlying24 rfl (by kernel_rfl) ?_)
        | ((with_reducible refine at_store 24 ?_); refine box_store rfl 24 _ _ rfl _ _ rfl rfl (by with_reducible exact B11) (by kernel_rfl) (by rfl) (by simp [Value.oneCell']) ?_; clear B11; intro w' B11 gg; (try clear k3); (try clear k4); (try clear k5); (try clear k6); (try clear k11); replace b0 := below_at b0 gg b0.size n11; (try replace B3 := B3.grown gg (Nat.ne_of_lt l3_11)); (try replace B4 := B4.grown gg (Nat.ne_of_lt l4_11)); (try replace B5 := B5.grown gg (Nat.ne_of_lt l5_11)); (try replace B6 := B6.grown gg (Nat.ne_of_lt l6_11)); clear gg; (try have k3 := B3.k); (try have k4 := B4.k); (try have k5 := B5.k); (try have k6 := B6.k); (try have k11 := B11.k)))
      refine (spec_cfg_v _ _ _ _ _ _).mono ?_
      rintro e w' ⟨rfl, bb⟩
      rw [hx]
      (try clear k3)
      (try clear k4)
      (try clear k5)
      (try clear k6)
      (try clear k11)
      replace b0 := bchain b0 bb
      (try replace B3 := B3.kept bb)
      (try replace B4 := B4.kept bb)
      (try replace B5 := B5.kept bb)
      (try replace B6 := B6.kept bb)
      (try replace B11 := B11.kept bb)
      clear bb
      (try have k3 := B3.k)
      (try have k4 := B4.k)
      (try have k5 := B5.k)
      (try have k6 := B6.k)
      (try have k11 := B11.k)
      go_wp2_with (first
        | ((with_reducible refine at_new 11 24 ?_); refine box_new (d := 11) rfl rfl 24 rfl _ zero_cfg ?_; intro w' B11 bb; have n11 := b0.size;  (try have l3_11 := B3.lt); (try have l4_11 := B4.lt); (try have l5_11 := B5.lt); (try have l6_11 := B6.lt); (try clear k3); (try clear k4); (try clear k5); (try clear k6); (try clear k11); replace b0 := bchain b0 bb; (try replace B3 := B3.kept bb); (try replace B4 := B4.kept bb); (try replace B5 := B5.kept bb); (try replace B6 := B6.kept bb);  clear bb; (try have k3 := B3.k); (try have k4 := B4.k); (try have k5 := B5.k); (try have k6 := B6.k); (try have k11 := B11.k))
        | ((with_reducible refine at_load 26 ?_); refine box_load rfl 26 _ rfl _ rfl (by with_reducible assumption) Try.underlying26 rfl (by kernel_rfl) ?_)
        | ((with_reducible refine at_load 28 ?_); refine box_load rfl 28 _ rfl _ rfl (by with_reducible assumption) Try.underlying28 rfl (by kernel_rfl) ?_)
        | ((with_reducible refine at_load 24 ?_); refine box_load rfl 24 _ rfl _ rfl (by with_reducible assumption) Try.underlying24 rfl (by kernel_rfl) ?_)
        | ((with_reducible refine at_loadg 26 ?_); refine box_loadg (by rfl) 26 _ rfl _ rfl (by with_reducible assumption) Try.underlying26 rfl (by kernel_rfl) ?_)
        | ((with_reducible refine at_loadg 28 ?_); refine box_loadg (by rfl) 28 _ rfl _ rfl (by with_reducible assumption) Try.underlying28 rfl (by kernel_rfl) ?_)
        | ((with_reducible refine at_loadg 24 ?_); refine box_loadg (by rfl) 24 _ rfl _ rfl (by with_reducible assumption) Try.underlying24 rfl (by kernel_rfl) ?_)
        | ((with_reducible refine at_store 24 ?_); refine box_store rfl 24 _ _ rfl _ _ rfl rfl (by with_reducible exact B11) (by kernel_rfl) (by rfl) (by simp [Value.oneCell']) ?_; clear B11; intro w' B11 gg; (try clear k3); (try clear k4); (try clear k5); (try clear k6); (try clear k11); replace b0 := below_at b0 gg b0.size n11; (try replace B3 := B3.grown gg (Nat.ne_of_lt l3_11)); (try replace B4 := B4.grown gg (Nat.ne_of_lt l4_11)); (try replace B5 := B5.grown gg (Nat.ne_of_lt l5_11)); (try replace B6 := B6.grown gg (Nat.ne_of_lt l6_11)); clear gg; (try have k3 := B3.k); (try have k4 := B4.k); (try have k5 := B5.k); (try have k6 := B6.k); (try have k11 := B11.k)))
      refine (impl_neg_v _ _ _ _ _ _ _ _ _ _ _ _ _ _ _ _ _ _ _ _ _ _).mono ?_
      rintro e w' ⟨rfl, bb⟩
      rw [hxo]
      (try clear k3)
      (try clear k4)
      (try clear k5)
      (try clear k6)
      (try clear k11)
      replace b0 := bchain b0 bb
      (try replace B3 := B3.kept bb)
      (try replace B4 := B4.kept bb)
      (try replace B5 := B5.kept bb)
      (try replace B6 := B6.kept bb)
      (try replace B11 := B11.kept bb)
      clear bb
      (try have k3 := B3.k)
      (try have k4 := B4.k)
      (try have k5 := B5.k)
      (try have k6 := B6.k)
      (try have k11 := B11.k)
      go_wp2_with (first
        | ((with_reducible refine at_new 11 24 ?_); refine box_new (d := 11) rfl rfl 24 rfl _ zero_cfg ?_; intro w' B11 bb; have n11 := b0.size;  (try have l3_11 := B3.lt); (try have l4_11 := B4.lt); (try have l5_11 := B5.lt); (try have l6_11 := B6.lt); (try clear k3); (try clear k4); (try clear k5); (try clear k6); (try clear k11); replace b0 := bchain b0 bb; (try replace B3 := B3.kept bb); (try replace B4 := B4.kept bb); (try replace B5 := B5.kept bb); (try replace B6 := B6.kept bb);  clear bb; (try have k3 := B3.k); (try have k4 := B4.k); (try have k5 := B5.k); (try have k6 := B6.k); (try have k11 := B11.k))
        | ((with_reducible refine at_load 26 ?_); refine box_load rfl 26 _ rfl _ rfl (by with_reducible assumption) Try.underlying26 rfl (by kernel_rfl) ?_)
        | ((with_reducible refine at_load 28 ?_); refine box_load rfl 28 _ rfl _ rfl (by with_reducible assumption) Try.underlying28 rfl (by kernel_rfl) ?_)
        | ((with_reducible refine at_load 24 ?_); refine box_load rfl 24 _ rfl _ rfl (by with_reducible assumption) Try.underlying24 rfl (by kernel_rfl) ?_)
        | ((with_reducible refine at_loadg 26 ?_); refine box_loadg (by rfl) 26 _ rfl _ rfl (by with_reducible assumption) Try.underlying26 rfl (by kernel_rfl) ?_)
        | ((with_reducible refine at_loadg 28 ?_); refine box_loadg (by rfl) 28 _ rfl _ rfl (by with_reducible assumption) Try.underlying28 rfl (by kernel_rfl) ?_)
        | ((with_reducible refine at_loadg 24 ?_); refine box_loadg (by rfl) 24 _ rfl _ rfl (by with_reducible assumption) Try.underlying24 rfl (by kernel_rfl) ?_)
        | ((with_reducible refine at_store 24 ?_); refine box_store rfl 24 _ _ rfl _ _ rfl rfl (by with_reducible exact B11) (by kernel_rfl) (by rfl) (by simp [Value.oneCell']) ?_; clear B11; intro w' B11 gg; (try clear k3); (try clear k4); (try clear k5); (try clear k6); (try clear k11); replace b0 := below_at b0 gg b0.size n11; (try replace B3 := B3.grown gg (Nat.ne_of_lt l3_11)); (try replace B4 := B4.grown gg (Nat.ne_of_lt l4_11)); (try replace B5 := B5.grown gg (Nat.ne_of_lt l5_11)); (try replace B6 := B6.grown gg (Nat.ne_of_lt l6_11)); clear gg; (try have k3 := B3.k); (try have k4 := B4.k); (try have k5 := B5.k); (try have k6 := B6.k); (try have k11 := B11.k)))
      refine (impl_meet_yes _ _ _ _ _ _ _ _ _ _ c2 c3 c4 c5 hm H2.out H3.out H4.out H5.out _).mono ?_
      rintro e w' ⟨rfl, bb⟩
      (try clear k3)
      (try clear k4)
      (try clear k5)
      (try clear k6)
      (try clear k11)
      replace b0 := bchain b0 bb
      (try replace B3 := B3.kept bb)
      (try replace B4 := B4.kept bb)
      (try replace B5 := B5.kept bb)
      (try replace B6 := B6.kept bb)
      (try replace B11 := B11.kept bb)
      clear bb
      (try have k3 := B3.k)
      (try have k4 := B4.k)
      (try have k5 := B5.k)
      (try have k6 := B6.k)
      (try have k11 := B11.k)
      go_wp2_with (first
        | ((with_reducible refine at_new 11 24 ?_); refine box_new (d := 11) rfl rfl 24 rfl _ zero_cfg ?_; intro w' B11 bb; have n11 := b0.size;  (try have l3_11 := B3.lt); (try have l4_11 := B4.lt); (try have l5_11 := B5.lt); (try have l6_11 := B6.lt); (try clear k3); (try clear k4); (try clear k5); (try clear k6); (try clear k11); replace b0 := bchain b0 bb; (try replace B3 := B3.kept bb); (try replace B4 := B4.kept bb); (try replace B5 := B5.kept bb); (try replace B6 := B6.kept bb);  clear bb; (try have k3 := B3.k); (try have k4 := B4.k); (try have k5 := B5.k); (try have k6 := B6.k); (try have k11 := B11.k))
        | ((with_reducible refine at_load 26 ?_); refine box_load rfl 26 _ rfl _ rfl (by with_reducible assumption) Try.underlying26 rfl (by kernel_rfl) ?_)
        | ((with_reducible refine at_load 28 ?_); refine box_load rfl 28 _ rfl _ rfl (by with_reducible assumption) Try.underlying28 rfl (by kernel_rfl) ?_)
        | ((with_reducible refine at_load 24 ?_); refine box_load rfl 24 _ rfl _ rfl (by with_reducible assumption) Try.underlying24 rfl (by kernel_rfl) ?_)
        | ((with_reducible refine at_loadg 26 ?_); refine box_loadg (by rfl) 26 _ rfl _ rfl (by with_reducible assumption) Try.underlying26 rfl (by kernel_rfl) ?_)
        | ((with_reducible refine at_loadg 28 ?_); refine box_loadg (by rfl) 28 _ rfl _ rfl (by with_reducible assumption) Try.underlying28 rfl (by kernel_rfl) ?_)
        | ((with_reducible refine at_loadg 24 ?_); refine box_loadg (by rfl) 24 _ rfl _ rfl (by with_reducible assumption) Try.underlying24 rfl (by kernel_rfl) ?_)
        | ((with_reducible refine at_store 24 ?_); refine box_store rfl 24 _ _ rfl _ _ rfl rfl (by with_reducible exact B11) (by kernel_rfl) (by rfl) (by simp [Value.oneCell']) ?_; clear B11; intro w' B11 gg; (try clear k3); (try clear k4); (try clear k5); (try clear k6); (try clear k11); replace b0 := below_at b0 gg b0.size n11; (try replace B3 := B3.grown gg (Nat.ne_of_lt l3_11)); (try replace B4 := B4.grown gg (Nat.ne_of_lt l4_11)); (try replace B5 := B5.grown gg (Nat.ne_of_lt l5_11)); (try replace B6 := B6.grown gg (Nat.ne_of_lt l6_11)); clear gg; (try have k3 := B3.k); (try have k4 := B4.k); (try have k5 := B5.k); (try have k6 := B6.k); (try have k11 := B11.k))
        | ((with_reducible refine at_any .eql 28 ?_); refine msg_eql (by rfl) _ _ rfl ⟨2, ⟨x1, c2, c3, c4, c5⟩⟩ rfl rfl ?_)
        | ((with_reducible refine at_cmp .eql 24 ?_); refine cfg_eq rfl _ _ rfl _ _ _ _ _ _ _ _ _ _ rfl rfl _ (Opt.same_self _) ?_))
      all_goals
        go_ret
        refine ⟨ret_bool ?_, b0⟩
        simp
    · have hne : Opt.same ⟨x1, c2, c3, c4, c5⟩ ⟨x1, x2, x3, x4, x5⟩ = false := by
        rw [hE]
        simpa [Opt.least, h2, h3, h4, h5] using he
      obtain ⟨rfl, rfl, rfl⟩ : x = ⟨⟨x1, o2, o3, o4, o5⟩, ⟨a1, a2, a3, a4, a5⟩, ⟨m1, m2, m3, m4, m5⟩, ⟨y1, y2, y3, y4, y5⟩, f⟩ ∧ back = ⟨3, ⟨x1, c2, c3, c4, c5⟩⟩ ∧ says = true := by
        have e : (⟨⟨x1, o2, o3, o4, o5⟩, ⟨a1, a2, a3, a4, a5⟩, ⟨m1, m2, m3, m4, m5⟩, ⟨y1, y2, y3, y4, y5⟩, f⟩, ⟨3, ⟨x1, c2, c3, c4, c5⟩⟩, true) = (x, back, says) := by
          rw [← hH]
          unfold sHear
          rw [if_neg (by simp [hok, hk, hx]), if_neg (by simp), if_pos rfl, if_neg he, ← h2, ← h3, ← h4, ← h5]
          rfl
        simp only [Prod.mk.injEq] at e
        exact ⟨e.1.symm, e.2.1.symm, e.2.2.symm⟩
      clear hH
      simp only [Neg.cs] at B3
      simp only [Msg.cs] at B4
      simp only [Neg.cs] at B5
      simp only [Msg.cs] at B6
      have k3 := B3.k
      have k4 := B4.k
      have k5 := B5.k
      have k6 := B6.k
      have hxo : Neg.ok ⟨⟨x1, o2, o3, o4, o5⟩, ⟨a1, a2, a3, a4, a5⟩, ⟨m1, m2, m3, m4, m5⟩, ⟨y1, y2, y3, y4, y5⟩, f⟩ = true := by
        simp only [Neg.ok, Bool.and_eq_true] at hok ⊢
        exact hok
      have H2 : Hid (_ = _) := h2
      clear h2
      have H3 : Hid (_ = _) := h3
      clear h3
      have H4 : Hid (_ = _) := h4
      clear h4
      have H5 : Hid (_ = _) := h5
      clear h5
      go_wp2_with (first
        | ((with_reducible refine at_new 11 24 ?_); refine box_new (d := 11) rfl rfl 24 rfl _ zero_cfg ?_; intro w' B11 bb; have n11 := b0.size;  (try have l3_11 := B3.lt); (try have l4_11 := B4.lt); (try have l5_11 := B5.lt); (try have l6_11 := B6.lt); (try clear k3); (try clear k4); (try clear k5); (try clear k6); (try clear k11); replace b0 := bchain b0 bb; (try replace B3 := B3.kept bb); (try replace B4 := B4.kept bb); (try replace B5 := B5.kept bb); (try replace B6 := B6.kept bb);  clear bb; (try have k3 := B3.k); (try have k4 := B4.k); (try have k5 := B5.k); (try have k6 := B6.k); (try have k11 := B11.k))
        | ((with_reducible refine at_load 26 ?_); refine box_load rfl 26 _ rfl _ rfl (by with_reducible assumption) Try.underlying26 rfl (by kernel_rfl) ?_)
        | ((with_reducible refine at_load 28 ?_); refine box_load rfl 28 _ rfl _ rfl (by with_reducible assumption) Try.underlying28 rfl (by kernel_rfl) ?_)
        | ((with_reducible refine at_load 24 ?_); refine box_load rfl 24 _ rfl _ rfl (by with_reducible assumption) Try.underlying24 rfl (by kernel_rfl) ?_)
        | ((with_reducible refine at_loadg 26 ?_); refine box_loadg (by rfl) 26 _ rfl _ rfl (by with_reducible assumption) Try.underlying26 rfl (by kernel_rfl) ?_)
        | ((with_reducible refine at_loadg 28 ?_); refine box_loadg (by rfl) 28 _ rfl _ rfl (by with_reducible assumption) Try.underlying28 rfl (by kernel_rfl) ?_)
        | ((with_reducible refine at_loadg 24 ?_); refine box_loadg (by rfl) 24 _ rfl _ rfl (by with_reducible assumption) Try.underlying24 rfl (by kernel_rfl) ?_)
        | ((with_reducible refine at_store 24 ?_); refine box_store rfl 24 _ _ rfl _ _ rfl rfl (by with_reducible exact B11) (by kernel_rfl) (by rfl) (by simp [Value.oneCell']) ?_; clear B11; intro w' B11 gg; (try clear k3); (try clear k4); (try clear k5); (try clear k6); (try clear k11); replace b0 := below_at b0 gg b0.size n11; (try replace B3 := B3.grown gg (Nat.ne_of_lt l3_11)); (try replace B4 := B4.grown gg (Nat.ne_of_lt l4_11)); (try replace B5 := B5.grown gg (Nat.ne_of_lt l5_11)); (try replace B6 := B6.grown gg (Nat.ne_of_lt l6_11)); clear gg; (try have k3 := B3.k); (try have k4 := B4.k); (try have k5 := B5.k); (try have k6 := B6.k); (try have k11 := B11.k)))
      refine (spec_neg_v _ _ _ _ _ _ _ _ _ _ _ _ _ _ _ _ _ _ _ _ _ _).mono ?_
      rintro e w' ⟨rfl, bb⟩
      rw [hok]
      (try clear k3)
      (try clear k4)
      (try clear k5)
      (try clear k6)
      (try clear k11)
      replace b0 := bchain b0 bb
      (try replace B3 := B3.kept bb)
      (try replace B4 := B4.kept bb)
      (try replace B5 := B5.kept bb)
      (try replace B6 := B6.kept bb)
      (try replace B11 := B11.kept bb)
      clear bb
      (try have k3 := B3.k)
      (try have k4 := B4.k)
      (try have k5 := B5.k)
      (try have k6 := B6.k)
      (try have k11 := B11.k)
      go_wp2_with (first
        | ((with_reducible refine at_new 11 24 ?_); refine box_new (d := 11) rfl rfl 24 rfl _ zero_cfg ?_; intro w' B11 bb; have n11 := b0.size;  (try have l3_11 := B3.lt); (try have l4_11 := B4.lt); (try have l5_11 := B5.lt); (try have l6_11 := B6.lt); (try clear k3); (try clear k4); (try clear k5); (try clear k6); (try clear k11); replace b0 := bchain b0 bb; (try replace B3 := B3.kept bb); (try replace B4 := B4.kept bb); (try replace B5 := B5.kept bb); (try replace B6 := B6.kept bb);  clear bb; (try have k3 := B3.k); (try have k4 := B4.k); (try have k5 := B5.k); (try have k6 := B6.k); (try have k11 := B11.k))
        | ((with_reducible refine at_load 26 ?_); refine box_load rfl 26 _ rfl _ rfl (by with_reducible assumption) Try.underlying26 rfl (by kernel_rfl) ?_)
        | ((with_reducible refine at_load 28 ?_); refine box_load rfl 28 _ rfl _ rfl (by with_reducible assumption) Try.underlying28 rfl (by kernel_rfl) ?_)
        | ((with_reducible refine at_load 24 ?_); refine box_load rfl 24 _ rfl _ rfl (by with_reducible assumption) Try.underlying24 rfl (by kernel_rfl) ?_)
        | ((with_reducible refine at_loadg 26 ?_); refine box_loadg (by rfl) 26 _ rfl _ rfl (by with_reducible assumption) Try.underlying26 rfl (by kernel_rfl) ?_)
        | ((with_reducible refine at_loadg 28 ?_); refine box_loadg (by rfl) 28 _ rfl _ rfl (by with_reducible assumption) Try.underlying28 rfl (by kernel_rfl) ?_)
        | ((with_reducible refine at_loadg 24 ?_); refine box_loadg (by rfl) 24 _ rfl _ rfl (by with_reducible assumption) Try.underlying24 rfl (by kernel_rfl) ?_)
        | ((with_reducible refine at_store 24 ?_); refine box_store rfl 24 _ _ rfl _ _ rfl rfl (by with_reducible exact B11) (by kernel_rfl) (by rfl) (by simp [Value.oneCell']) ?_; clear B11; intro w' B11 gg; (try clear k3); (try clear k4); (try clear k5); (try clear k6); (try clear k11); replace b0 := below_at b0 gg b0.size n11; (try replace B3 := B3.grown gg (Nat.ne_of_lt l3_11)); (try replace B4 := B4.grown gg (Nat.ne_of_lt l4_11)); (try replace B5 := B5.grown gg (Nat.ne_of_lt l5_11)); (try replace B6 := B6.grown gg (Nat.ne_of_lt l6_11)); clear gg; (try have k3 := B3.k); (try have k4 := B4.k); (try have k5 := B5.k); (try have k6 := B6.k); (try have k11 := B11.k)))
      refine (spec_cfg_v _ _ _ _ _ _).mono ?_
      rintro e w' ⟨rfl, bb⟩
      rw [hx]
      (try clear k3)
      (try clear k4)
      (try clear k5)
      (try clear k6)
      (try clear k11)
      replace b0 := bchain b0 bb
      (try replace B3 := B3.kept bb)
      (try replace B4 := B4.kept bb)
      (try replace B5 := B5.kept bb)
      (try replace B6 := B6.kept bb)
      (try replace B11 := B11.kept bb)
      clear bb
      (try have k3 := B3.k)
      (try have k4 := B4.k)
      (try have k5 := B5.k)
      (try have k6 := B6.k)
      (try have k11 := B11.k)
      go_wp2_with (first
        | ((with_reducible refine at_new 11 24 ?_); refine box_new (d := 11) rfl rfl 24 rfl _ zero_cfg ?_; intro w' B11 bb; have n11 := b0.size;  (try have l3_11 := B3.lt); (try have l4_11 := B4.lt); (try have l5_11 := B5.lt); (try have l6_11 := B6.lt); (try clear k3); (try clear k4); (try clear k5); (try clear k6); (try clear k11); replace b0 := bchain b0 bb; (try replace B3 := B3.kept bb); (try replace B4 := B4.kept bb); (try replace B5 := B5.kept bb); (try replace B6 := B6.kept bb);  clear bb; (try have k3 := B3.k); (try have k4 := B4.k); (try have k5 := B5.k); (try have k6 := B6.k); (try have k11 := B11.k))
        | ((with_reducible refine at_load 26 ?_); refine box_load rfl 26 _ rfl _ rfl (by with_reducible assumption) Try.underlying26 rfl (by kernel_rfl) ?_)
        | ((with_reducible refine at_load 28 ?_); refine box_load rfl 28 _ rfl _ rfl (by with_reducible assumption) Try.underlying28 rfl (by kernel_rfl) ?_)
        | ((with_reducible refine at_load 24 ?_); refine box_load rfl 24 _ rfl _ rfl (by with_reducible assumption) Try.underlying24 rfl (by kernel_rfl) ?_)
        | ((with_reducible refine at_loadg 26 ?_); refine box_loadg (by rfl) 26 _ rfl _ rfl (by with_reducible assumption) Try.underlying26 rfl (by kernel_rfl) ?_)
        | ((with_reducible refine at_loadg 28 ?_); refine box_loadg (by rfl) 28 _ rfl _ rfl (by with_reducible assumption) Try.underlying28 rfl (by kernel_rfl) ?_)
        | ((with_reducible refine at_loadg 24 ?_); refine box_loadg (by rfl) 24 _ rfl _ rfl (by with_reducible assumption) Try.underlying24 rfl (by kernel_rfl) ?_)
        | ((with_reducible refine at_store 24 ?_); refine box_store rfl 24 _ _ rfl _ _ rfl rfl (by with_reducible exact B11) (by kernel_rfl) (by rfl) (by simp [Value.oneCell']) ?_; clear B11; intro w' B11 gg; (try clear k3); (try clear k4); (try clear k5); (try clear k6); (try clear k11); replace b0 := below_at b0 gg b0.size n11; (try replace B3 := B3.grown gg (Nat.ne_of_lt l3_11)); (try replace B4 := B4.grown gg (Nat.ne_of_lt l4_11)); (try replace B5 := B5.grown gg (Nat.ne_of_lt l5_11)); (try replace B6 := B6.grown gg (Nat.ne_of_lt l6_11)); clear gg; (try have k3 := B3.k); (try have k4 := B4.k); (try have k5 := B5.k); (try have k6 := B6.k); (try have k11 := B11.k)))
      refine (impl_neg_v _ _ _ _ _ _ _ _ _ _ _ _ _ _ _ _ _ _ _ _ _ _).mono ?_
      rintro e w' ⟨rfl, bb⟩
      rw [hxo]
      (try clear k3)
      (try clear k4)
      (try clear k5)
      (try clear k6)
      (try clear k11)
      replace b0 := bchain b0 bb
      (try replace B3 := B3.kept bb)
      (try replace B4 := B4.kept bb)
      (try replace B5 := B5.kept bb)
      (try replace B6 := B6.kept bb)
      (try replace B11 := B11.kept bb)
      clear bb
      (try have k3 := B3.k)
      (try have k4 := B4.k)
      (try have k5 := B5.k)
      (try have k6 := B6.k)
      (try have k11 := B11.k)
      go_wp2_with (first
        | ((with_reducible refine at_new 11 24 ?_); refine box_new (d := 11) rfl rfl 24 rfl _ zero_cfg ?_; intro w' B11 bb; have n11 := b0.size;  (try have l3_11 := B3.lt); (try have l4_11 := B4.lt); (try have l5_11 := B5.lt); (try have l6_11 := B6.lt); (try clear k3); (try clear k4); (try clear k5); (try clear k6); (try clear k11); replace b0 := bchain b0 bb; (try replace B3 := B3.kept bb); (try replace B4 := B4.kept bb); (try replace B5 := B5.kept bb); (try replace B6 := B6.kept bb);  clear bb; (try have k3 := B3.k); (try have k4 := B4.k); (try have k5 := B5.k); (try have k6 := B6.k); (try have k11 := B11.k))
        | ((with_reducible refine at_load 26 ?_); refine box_load rfl 26 _ rfl _ rfl (by with_reducible assumption) Try.underlying26 rfl (by kernel_rfl) ?_)
        | ((with_reducible refine at_load 28 ?_); refine box_load rfl 28 _ rfl _ rfl (by with_reducible assumption) Try.underlying28 rfl (by kernel_rfl) ?_)
        | ((with_reducible refine at_load 24 ?_); refine box_load rfl 24 _ rfl _ rfl (by with_reducible assumption) Try.underlying24 rfl (by kernel_rfl) ?_)
        | ((with_reducible refine at_loadg 26 ?_); refine box_loadg (by rfl) 26 _ rfl _ rfl (by with_reducible assumption) Try.underlying26 rfl (by kernel_rfl) ?_)
        | ((with_reducible refine at_loadg 28 ?_); refine box_loadg (by rfl) 28 _ rfl _ rfl (by with_reducible assumption) Try.underlying28 rfl (by kernel_rfl) ?_)
        | ((with_reducible refine at_loadg 24 ?_); refine box_loadg (by rfl) 24 _ rfl _ rfl (by with_reducible assumption) Try.underlying24 rfl (by kernel_rfl) ?_)
        | ((with_reducible refine at_store 24 ?_); refine box_store rfl 24 _ _ rfl _ _ rfl rfl (by with_reducible exact B11) (by kernel_rfl) (by rfl) (by simp [Value.oneCell']) ?_; clear B11; intro w' B11 gg; (try clear k3); (try clear k4); (try clear k5); (try clear k6); (try clear k11); replace b0 := below_at b0 gg b0.size n11; (try replace B3 := B3.grown gg (Nat.ne_of_lt l3_11)); (try replace B4 := B4.grown gg (Nat.ne_of_lt l4_11)); (try replace B5 := B5.grown gg (Nat.ne_of_lt l5_11)); (try replace B6 := B6.grown gg (Nat.ne_of_lt l6_11)); clear gg; (try have k3 := B3.k); (try have k4 := B4.k); (try have k5 := B5.k); (try have k6 := B6.k); (try have k11 := B11.k)))
      refine (impl_meet_yes _ _ _ _ _ _ _ _ _ _ c2 c3 c4 c5 hm H2.out H3.out H4.out H5.out _).mono ?_
      rintro e w' ⟨rfl, bb⟩
      (try clear k3)
      (try clear k4)
      (try clear k5)
      (try clear k6)
      (try clear k11)
      replace b0 := bchain b0 bb
      (try replace B3 := B3.kept bb)
      (try replace B4 := B4.kept bb)
      (try replace B5 := B5.kept bb)
      (try replace B6 := B6.kept bb)
      (try replace B11 := B11.kept bb)
      clear bb
      (try have k3 := B3.k)
      (try have k4 := B4.k)
      (try have k5 := B5.k)
      (try have k6 := B6.k)
      (try have k11 := B11.k)
      go_wp2_with (first
        | ((with_reducible refine at_new 11 24 ?_); refine box_new (d := 11) rfl rfl 24 rfl _ zero_cfg ?_; intro w' B11 bb; have n11 := b0.size;  (try have l3_11 := B3.lt); (try have l4_11 := B4.lt); (try have l5_11 := B5.lt); (try have l6_11 := B6.lt); (try clear k3); (try clear k4); (try clear k5); (try clear k6); (try clear k11); replace b0 := bchain b0 bb; (try replace B3 := B3.kept bb); (try replace B4 := B4.kept bb); (try replace B5 := B5.kept bb); (try replace B6 := B6.kept bb);  clear bb; (try have k3 := B3.k); (try have k4 := B4.k); (try have k5 := B5.k); (try have k6 := B6.k); (try have k11 := B11.k))
        | ((with_reducible refine at_load 26 ?_); refine box_load rfl 26 _ rfl _ rfl (by with_reducible assumption) Try.underlying26 rfl (by kernel_rfl) ?_)
        | ((with_reducible refine at_load 28 ?_); refine box_load rfl 28 _ rfl _ rfl (by with_reducible assumption) Try.underlying28 rfl (by kernel_rfl) ?_)
        | ((with_reducible refine at_load 24 ?_); refine box_load rfl 24 _ rfl _ rfl (by with_reducible assumption) Try.underlying24 rfl (by kernel_rfl) ?_)
        | ((with_reducible refine at_loadg 26 ?_); refine box_loadg (by rfl) 26 _ rfl _ rfl (by with_reducible assumption) Try.underlying26 rfl (by kernel_rfl) ?_)
        | ((with_reducible refine at_loadg 28 ?_); refine box_loadg (by rfl) 28 _ rfl _ rfl (by with_reducible assumption) Try.underlying28 rfl (by kernel_rfl) ?_)
        | ((with_reducible refine at_loadg 24 ?_); refine box_loadg (by rfl) 24 _ rfl _ rfl (by with_reducible assumption) Try.underlying24 rfl (by kernel_rfl) ?_)
        | ((with_reducible refine at_store 24 ?_); refine box_store rfl 24 _ _ rfl _ _ rfl rfl (by with_reducible exact B11) (by kernel_rfl) (by rfl) (by simp [Value.oneCell']) ?_; clear B11; intro w' B11 gg; (try clear k3); (try clear k4); (try clear k5); (try clear k6); (try clear k11); replace b0 := below_at b0 gg b0.size n11; (try replace B3 := B3.grown gg (Nat.ne_of_lt l3_11)); (try replace B4 := B4.grown gg (Nat.ne_of_lt l4_11)); (try replace B5 := B5.grown gg (Nat.ne_of_lt l5_11)); (try replace B6 := B6.grown gg (Nat.ne_of_lt l6_11)); clear gg; (try have k3 := B3.k); (try have k4 := B4.k); (try have k5 := B5.k); (try have k6 := B6.k); (try have k11 := B11.k))
        | ((with_reducible refine at_any .eql 28 ?_); refine msg_eql (by rfl) _ _ rfl ⟨3, ⟨x1, c2, c3, c4, c5⟩⟩ rfl rfl ?_)
        | ((with_reducible refine at_cmp .eql 24 ?_); refine cfg_eq rfl _ _ rfl _ _ _ _ _ _ _ _ _ _ rfl rfl _ hne ?_))
      all_goals
        go_ret
        refine ⟨ret_bool ?_, b0⟩
        simp
  · by_cases he : ⟨x1, x2, x3, x4, x5⟩ = (⟨a1, a2, a3, a4, a5⟩ : Opt)
    · obtain ⟨rfl, rfl, rfl⟩ : x = ⟨⟨x1, o2, o3, o4, o5⟩, ⟨a1, a2, a3, a4, a5⟩, ⟨x1, x2, x3, x4, x5⟩, ⟨y1, y2, y3, y4, y5⟩, f⟩ ∧ back = Msg.zero ∧ says = false := by
        have e : (⟨⟨x1, o2, o3, o4, o5⟩, ⟨a1, a2, a3, a4, a5⟩, ⟨x1, x2, x3, x4, x5⟩, ⟨y1, y2, y3, y4, y5⟩, f⟩, Msg.zero, false) = (x, back, says) := by
          rw [← hH]
          unfold sHear
          rw [if_neg (by simp [hok, hk, hx]), if_neg (by simp), if_neg (by simp), if_pos rfl, if_pos he]
        simp only [Prod.mk.injEq] at e
        exact ⟨e.1.symm, e.2.1.symm, e.2.2.symm⟩
      clear hH
      simp only [Neg.cs] at B3
      simp only [Msg.cs] at B4
      simp only [Neg.cs] at B5
      simp only [Msg.cs, Msg.zero, Opt.zero] at B6
      have k3 := B3.k
      have k4 := B4.k
      have k5 := B5.k
      have k6 := B6.k
      have hxo : Neg.ok ⟨⟨x1, o2, o3, o4, o5⟩, ⟨a1, a2, a3, a4, a5⟩, ⟨x1, x2, x3, x4, x5⟩, ⟨y1, y2, y3, y4, y5⟩, f⟩ = true := by
        simp only [Neg.ok, Bool.and_eq_true] at hok ⊢
        exact ⟨⟨hok.1.1, by simp [Opt.yes, hx]⟩, hok.2⟩
      have H2 : Hid (_ = _) := h2
      clear h2
      have H3 : Hid (_ = _) := h3
      clear h3
      have H4 : Hid (_ = _) := h4
      clear h4
      have H5 : Hid (_ = _) := h5
      clear h5
      go_wp2_with (first
        | ((with_reducible refine at_new 11 24 ?_); refine box_new (d := 11) rfl rfl 24 rfl _ zero_cfg ?_; intro w' B11 bb; have n11 := b0.size;  (try have l3_11 := B3.lt); (try have l4_11 := B4.lt); (try have l5_11 := B5.lt); (try have l6_11 := B6.lt); (try clear k3); (try clear k4); (try clear k5); (try clear k6); (try clear k11); replace b0 := bchain b0 bb; (try replace B3 := B3.kept bb); (try replace B4 := B4.kept bb); (try replace B5 := B5.kept bb); (try replace B6 := B6.kept bb);  clear bb; (try have k3 := B3.k); (try have k4 := B4.k); (try have k5 := B5.k); (try have k6 := B6.k); (try have k11 := B11.k))
        | ((with_reducible refine at_load 26 ?_); refine box_load rfl 26 _ rfl _ rfl (by with_reducible assumption) Try.underlying26 rfl (by kernel_rfl) ?_)
        | ((with_reducible refine at_load 28 ?_); refine box_load rfl 28 _ rfl _ rfl (by with_reducible assumption) Try.underlying28 rfl (by kernel_rfl) ?_)
        | ((with_reducible refine at_load 24 ?_); refine box_load rfl 24 _ rfl _ rfl (by with_reducible assumption) Try.underlying24 rfl (by kernel_rfl) ?_)
        | ((with_reducible refine at_loadg 26 ?_); refine box_loadg (by rfl) 26 _ rfl _ rfl (by with_reducible assumption) Try.underlying26 rfl (by kernel_rfl) ?_)
        | ((with_reducible refine at_loadg 28 ?_); refine box_loadg (by rfl) 28 _ rfl _ rfl (by with_reducible assumption) Try.underlying28 rfl (by kernel_rfl) ?_)
        | ((with_reducible refine at_loadg 24 ?_); refine box_loadg (by rfl) 24 _ rfl _ rfl (by with_reducible assumption) Try.underlying24 rfl (by kernel_rfl) ?_)
        | ((with_reducible refine at_store 24 ?_); refine box_store rfl 24 _ _ rfl _ _ rfl rfl (by with_reducible exact B11) (by kernel_rfl) (by rfl) (by simp [Value.oneCell']) ?_; clear B11; intro w' B11 gg; (try clear k3); (try clear k4); (try clear k5); (try clear k6); (try clear k11); replace b0 := below_at b0 gg b0.size n11; (try replace B3 := B3.grown gg (Nat.ne_of_lt l3_11)); (try replace B4 := B4.grown gg (Nat.ne_of_lt l4_11)); (try replace B5 := B5.grown gg (Nat.ne_of_lt l5_11)); (try replace B6 := B6.grown gg (Nat.ne_of_lt l6_11)); clear gg; (try have k3 := B3.k); (try have k4 := B4.k); (try have k5 := B5.k); (try have k6 := B6.k); (try have k11 := B11.k)))
      refine (spec_neg_v _ _ _ _ _ _ _ _ _ _ _ _ _ _ _ _ _ _ _ _ _ _).mono ?_
      rintro e w' ⟨rfl, bb⟩
      rw [hok]
      (try clear k3)
      (try clear k4)
      (try clear k5)
      (try clear k6)
      (try clear k11)
      replace b0 := bchain b0 bb
      (try replace B3 := B3.kept bb)
      (try replace B4 := B4.kept bb)
      (try replace B5 := B5.kept bb)
      (try replace B6 := B6.kept bb)
      (try replace B11 := B11.kept bb)
      clear bb
      (try have k3 := B3.k)
      (try have k4 := B4.k)
      (try have k5 := B5.k)
      (try have k6 := B6.k)
      (try have k11 := B11.k)
      go_wp2_with (first
        | ((with_reducible refine at_new 11 24 ?_); refine box_new (d := 11) rfl rfl 24 rfl _ zero_cfg ?_; intro w' B11 bb; have n11 := b0.size;  (try have l3_11 := B3.lt); (try have l4_11 := B4.lt); (try have l5_11 := B5.lt); (try have l6_11 := B6.lt); (try clear k3); (try clear k4); (try clear k5); (try clear k6); (try clear k11); replace b0 := bchain b0 bb; (try replace B3 := B3.kept bb); (try replace B4 := B4.kept bb); (try replace B5 := B5.kept bb); (try replace B6 := B6.kept bb);  clear bb; (try have k3 := B3.k); (try have k4 := B4.k); (try have k5 := B5.k); (try have k6 := B6.k); (try have k11 := B11.k))
        | ((with_reducible refine at_load 26 ?_); refine box_load rfl 26 _ rfl _ rfl (by with_reducible assumption) Try.underlying26 rfl (by kernel_rfl) ?_)
        | ((with_reducible refine at_load 28 ?_); refine box_load rfl 28 _ rfl _ rfl (by with_reducible assumption) Try.underlying28 rfl (by kernel_rfl) ?_)
        | ((with_reducible refine at_load 24 ?_); refine box_load rfl 24 _ rfl _ rfl (by with_reducible assumption) Try.underlying24 rfl (by kernel_rfl) ?_)
        | ((with_reducible refine at_loadg 26 ?_); refine box_loadg (by rfl) 26 _ rfl _ rfl (by with_reducible assumption) Try.underlying26 rfl (by kernel_rfl) ?_)
        | ((with_reducible refine at_loadg 28 ?_); refine box_loadg (by rfl) 28 _ rfl _ rfl (by with_reducible assumption) Try.underlying28 rfl (by kernel_rfl) ?_)
        | ((with_reducible refine at_loadg 24 ?_); refine box_loadg (by rfl) 24 _ rfl _ rfl (by with_reducible assumption) Try.underlying24 rfl (by kernel_rfl) ?_)
        | ((with_reducible refine at_store 24 ?_); refine box_store rfl 24 _ _ rfl _ _ rfl rfl (by with_reducible exact B11) (by kernel_rfl) (by rfl) (by simp [Value.oneCell']) ?_; clear B11; intro w' B11 gg; (try clear k3); (try clear k4); (try clear k5); (try clear k6); (try clear k11); replace b0 := below_at b0 gg b0.size n11; (try replace B3 := B3.grown gg (Nat.ne_of_lt l3_11)); (try replace B4 := B4.grown gg (Nat.ne_of_lt l4_11)); (try replace B5 := B5.grown gg (Nat.ne_of_lt l5_11)); (try replace B6 := B6.grown gg (Nat.ne_of_lt l6_11)); clear gg; (try have k3 := B3.k); (try have k4 := B4.k); (try have k5 := B5.k); (try have k6 := B6.k); (try have k11 := B11.k)))
      refine (spec_cfg_v _ _ _ _ _ _).mono ?_
      rintro e w' ⟨rfl, bb⟩
      rw [hx]
      (try clear k3)
      (try clear k4)
      (try clear k5)
      (try clear k6)
      (try clear k11)
      replace b0 := bchain b0 bb
      (try replace B3 := B3.kept bb)
      (try replace B4 := B4.kept bb)
      (try replace B5 := B5.kept bb)
      (try replace B6 := B6.kept bb)
      (try replace B11 := B11.kept bb)
      clear bb
      (try have k3 := B3.k)
      (try have k4 := B4.k)
      (try have k5 := B5.k)
      (try have k6 := B6.k)
      (try have k11 := B11.k)
      go_wp2_with (first
        | ((with_reducible refine at_new 11 24 ?_); refine box_new (d := 11) rfl rfl 24 rfl _ zero_cfg ?_; intro w' B11 bb; have n11 := b0.size;  (try have l3_11 := B3.lt); (try have l4_11 := B4.lt); (try have l5_11 := B5.lt); (try have l6_11 := B6.lt); (try clear k3); (try clear k4); (try clear k5); (try clear k6); (try clear k11); replace b0 := bchain b0 bb; (try replace B3 := B3.kept bb); (try replace B4 := B4.kept bb); (try replace B5 := B5.kept bb); (try replace B6 := B6.kept bb);  clear bb; (try have k3 := B3.k); (try have k4 := B4.k); (try have k5 := B5.k); (try have k6 := B6.k); (try have k11 := B11.k))
        | ((with_reducible refine at_load 26 ?_); refine box_load rfl 26 _ rfl _ rfl (by with_reducible assumption) Try.underlying26 rfl (by kernel_rfl) ?_)
        | ((with_reducible refine at_load 28 ?_); refine box_load rfl 28 _ rfl _ rfl (by with_reducible assumption) Try.underlying28 rfl (by kernel_rfl) ?_)
        | ((with_reducible refine at_load 24 ?_); refine box_load rfl 24 _ rfl _ rfl (by with_reducible assumption) Try.underlying24 rfl (by kernel_rfl) ?_)
        | ((with_reducible refine at_loadg 26 ?_); refine box_loadg (by rfl) 26 _ rfl _ rfl (by with_reducible assumption) Try.underlying26 rfl (by kernel_rfl) ?_)
        | ((with_reducible refine at_loadg 28 ?_); refine box_loadg (by rfl) 28 _ rfl _ rfl (by with_reducible assumption) Try.underlying28 rfl (by kernel_rfl) ?_)
        | ((with_reducible refine at_loadg 24 ?_); refine box_loadg (by rfl) 24 _ rfl _ rfl (by with_reducible assumption) Try.underlying24 rfl (by kernel_rfl) ?_)
        | ((with_reducible refine at_store 24 ?_); refine box_store rfl 24 _ _ rfl _ _ rfl rfl (by with_reducible exact B11) (by kernel_rfl) (by rfl) (by simp [Value.oneCell']) ?_; clear B11; intro w' B11 gg; (try clear k3); (try clear k4); (try clear k5); (try clear k6); (try clear k11); replace b0 := below_at b0 gg b0.size n11; (try replace B3 := B3.grown gg (Nat.ne_of_lt l3_11)); (try replace B4 := B4.grown gg (Nat.ne_of_lt l4_11)); (try replace B5 := B5.grown gg (Nat.ne_of_lt l5_11)); (try replace B6 := B6.grown gg (Nat.ne_of_lt l6_11)); clear gg; (try have k3 := B3.k); (try have k4 := B4.k); (try have k5 := B5.k); (try have k6 := B6.k); (try have k11 := B11.k)))
      refine (impl_neg_v _ _ _ _ _ _ _ _ _ _ _ _ _ _ _ _ _ _ _ _ _ _).mono ?_
      rintro e w' ⟨rfl, bb⟩
      rw [hxo]
      (try clear k3)
      (try clear k4)
      (try clear k5)
      (try clear k6)
      (try clear k11)
      replace b0 := bchain b0 bb
      (try replace B3 := B3.kept bb)
      (try replace B4 := B4.kept bb)
      (try replace B5 := B5.kept bb)
      (try replace B6 := B6.kept bb)
      (try replace B11 := B11.kept bb)
      clear bb
      (try have k3 := B3.k)
      (try have k4 := B4.k)
      (try have k5 := B5.k)
      (try have k6 := B6.k)
      (try have k11 := B11.k)
      go_wp2_with (first
        | ((with_reducible refine at_new 11 24 ?_); refine box_new (d := 11) rfl rfl 24 rfl _ zero_cfg ?_; intro w' B11 bb; have n11 := b0.size;  (try have l3_11 := B3.lt); (try have l4_11 := B4.lt); (try have l5_11 := B5.lt); (try have l6_11 := B6.lt); (try clear k3); (try clear k4); (try clear k5); (try clear k6); (try clear k11); replace b0 := bchain b0 bb; (try replace B3 := B3.kept bb); (try replace B4 := B4.kept bb); (try replace B5 := B5.kept bb); (try replace B6 := B6.kept bb);  clear bb; (try have k3 := B3.k); (try have k4 := B4.k); (try have k5 := B5.k); (try have k6 := B6.k); (try have k11 := B11.k))
        | ((with_reducible refine at_load 26 ?_); refine box_load rfl 26 _ rfl _ rfl (by with_reducible assumption) Try.underlying26 rfl (by kernel_rfl) ?_)
        | ((with_reducible refine at_load 28 ?_); refine box_load rfl 28 _ rfl _ rfl (by with_reducible assumption) Try.underlying28 rfl (by kernel_rfl) ?_)
        | ((with_reducible refine at_load 24 ?_); refine box_load rfl 24 _ rfl _ rfl (by with_reducible assumption) Try.underlying24 rfl (by kernel_rfl) ?_)
        | ((with_reducible refine at_loadg 26 ?_); refine box_loadg (by rfl) 26 _ rfl _ rfl (by with_reducible assumption) Try.underlying26 rfl (by kernel_rfl) ?_)
        | ((with_reducible refine at_loadg 28 ?_); refine box_loadg (by rfl) 28 _ rfl _ rfl (by with_reducible assumption) Try.underlying28 rfl (by kernel_rfl) ?_)
        | ((with_reducible refine at_loadg 24 ?_); refine box_loadg (by rfl) 24 _ rfl _ rfl (by with_reducible assumption) Try.underlying24 rfl (by kernel_rfl) ?_)
        | ((with_reducible refine at_store 24 ?_); refine box_store rfl 24 _ _ rfl _ _ rfl rfl (by with_reducible exact B11) (by kernel_rfl) (by rfl) (by simp [Value.oneCell']) ?_; clear B11; intro w' B11 gg; (try clear k3); (try clear k4); (try clear k5); (try clear k6); (try clear k11); replace b0 := below_at b0 gg b0.size n11; (try replace B3 := B3.grown gg (Nat.ne_of_lt l3_11)); (try replace B4 := B4.grown gg (Nat.ne_of_lt l4_11)); (try replace B5 := B5.grown gg (Nat.ne_of_lt l5_11)); (try replace B6 := B6.grown gg (Nat.ne_of_lt l6_11)); clear gg; (try have k3 := B3.k); (try have k4 := B4.k); (try have k5 := B5.k); (try have k6 := B6.k); (try have k11 := B11.k)))
      refine (impl_meet_yes _ _ _ _ _ _ _ _ _ _ c2 c3 c4 c5 hm H2.out H3.out H4.out H5.out _).mono ?_
      rintro e w' ⟨rfl, bb⟩
      (try clear k3)
      (try clear k4)
      (try clear k5)
      (try clear k6)
      (try clear k11)
      replace b0 := bchain b0 bb
      (try replace B3 := B3.kept bb)
      (try replace B4 := B4.kept bb)
      (try replace B5 := B5.kept bb)
      (try replace B6 := B6.kept bb)
      (try replace B11 := B11.kept bb)
      clear bb
      (try have k3 := B3.k)
      (try have k4 := B4.k)
      (try have k5 := B5.k)
      (try have k6 := B6.k)
      (try have k11 := B11.k)
      go_wp2_with (first
        | ((with_reducible refine at_new 11 24 ?_); refine box_new (d := 11) rfl rfl 24 rfl _ zero_cfg ?_; intro w' B11 bb; have n11 := b0.size;  (try have l3_11 := B3.lt); (try have l4_11 := B4.lt); (try have l5_11 := B5.lt); (try have l6_11 := B6.lt); (try clear k3); (try clear k4); (try clear k5); (try clear k6); (try clear k11); replace b0 := bchain b0 bb; (try replace B3 := B3.kept bb); (try replace B4 := B4.kept bb); (try replace B5 := B5.kept bb); (try replace B6 := B6.kept bb);  clear bb; (try have k3 := B3.k); (try have k4 := B4.k); (try have k5 := B5.k); (try have k6 := B6.k); (try have k11 := B11.k))
        | ((with_reducible refine at_load 26 ?_); refine box_load rfl 26 _ rfl _ rfl (by with_reducible assumption) Try.underlying26 rfl (by kernel_rfl) ?_)
        | ((with_reducible refine at_load 28 ?_); refine box_load rfl 28 _ rfl _ rfl (by with_reducible assumption) Try.underlying28 rfl (by kernel_rfl) ?_)
        | ((with_reducible refine at_load 24 ?_); refine box_load rfl 24 _ rfl _ rfl (by with_reducible assumption) Try.underlying24 rfl (by kernel_rfl) ?_)
        | ((with_reducible refine at_loadg 26 ?_); refine box_loadg (by rfl) 26 _ rfl _ rfl (by with_reducible assumption) Try.underlying26 rfl (by kernel_rfl) ?_)
        | ((with_reducible refine at_loadg 28 ?_); refine box_loadg (by rfl) 28 _ rfl _ rfl (by with_reducible assumption) Try.underlying28 rfl (by kernel_rfl) ?_)
        | ((with_reducible refine at_loadg 24 ?_); refine box_loadg (by rfl) 24 _ rfl _ rfl (by with_reducible assumption) Try.underlying24 rfl (by kernel_rfl) ?_)
        | ((with_reducible refine at_store 24 ?_); refine box_store rfl 24 _ _ rfl _ _ rfl rfl (by with_reducible exact B11) (by kernel_rfl) (by rfl) (by simp [Value.oneCell']) ?_; clear B11; intro w' B11 gg; (try clear k3); (try clear k4); (try clear k5); (try clear k6); (try clear k11); replace b0 := below_at b0 gg b0.size n11; (try replace B3 := B3.grown gg (Nat.ne_of_lt l3_11)); (try replace B4 := B4.grown gg (Nat.ne_of_lt l4_11)); (try replace B5 := B5.grown gg (Nat.ne_of_lt l5_11)); (try replace B6 := B6.grown gg (Nat.ne_of_lt l6_11)); clear gg; (try have k3 := B3.k); (try have k4 := B4.k); (try have k5 := B5.k); (try have k6 := B6.k); (try have k11 := B11.k)))
      all_goals
        go_ret
        refine ⟨ret_bool ?_, b0⟩
        simp
    · obtain ⟨rfl, rfl, rfl⟩ : x = ⟨⟨x1, o2, o3, o4, o5⟩, ⟨a1, a2, a3, a4, a5⟩, ⟨m1, m2, m3, m4, m5⟩, ⟨y1, y2, y3, y4, y5⟩, f⟩ ∧ back = Msg.zero ∧ says = false := by
        have e : (⟨⟨x1, o2, o3, o4, o5⟩, ⟨a1, a2, a3, a4, a5⟩, ⟨m1, m2, m3, m4, m5⟩, ⟨y1, y2, y3, y4, y5⟩, f⟩, Msg.zero, false) = (x, back, says) := by
          rw [← hH]
          unfold sHear
          rw [if_neg (by simp [hok, hk, hx]), if_neg (by simp), if_neg (by simp), if_pos rfl, if_neg he]
        simp only [Prod.mk.injEq] at e
        exact ⟨e.1.symm, e.2.1.symm, e.2.2.symm⟩
      clear hH
      simp only [Neg.cs] at B3
      simp only [Msg.cs] at B4
      simp only [Neg.cs] at B5
      simp only [Msg.cs, Msg.zero, Opt.zero] at B6
      have k3 := B3.k
      have k4 := B4.k
      have k5 := B5.k
      have k6 := B6.k
      have hxo : Neg.ok ⟨⟨x1, o2, o3, o4, o5⟩, ⟨a1, a2, a3, a4, a5⟩, ⟨m1, m2, m3, m4, m5⟩, ⟨y1, y2, y3, y4, y5⟩, f⟩ = true := by
        simp only [Neg.ok, Bool.and_eq_true] at hok ⊢
        exact hok
      have H2 : Hid (_ = _) := h2
      clear h2
      have H3 : Hid (_ = _) := h3
      clear h3
      have H4 : Hid (_ = _) := h4
      clear h4
      have H5 : Hid (_ = _) := h5
      clear h5
      go_wp2_with (first
        | ((with_reducible refine at_new 11 24 ?_); refine box_new (d := 11) rfl rfl 24 rfl _ zero_cfg ?_; intro w' B11 bb; have n11 := b0.size;  (try have l3_11 := B3.lt); (try have l4_11 := B4.lt); (try have l5_11 := B5.lt); (try have l6_11 := B6.lt); (try clear k3); (try clear k4); (try clear k5); (try clear k6); (try clear k11); replace b0 := bchain b0 bb; (try replace B3 := B3.kept bb); (try replace B4 := B4.kept bb); (try replace B5 := B5.kept bb); (try replace B6 := B6.kept bb);  clear bb; (try have k3 := B3.k); (try have k4 := B4.k); (try have k5 := B5.k); (try have k6 := B6.k); (try have k11 := B11.k))
        | ((with_reducible refine at_load 26 ?_); refine box_load rfl 26 _ rfl _ rfl (by with_reducible assumption) Try.underlying26 rfl (by kernel_rfl) ?_)
        | ((with_reducible refine at_load 28 ?_); refine box_load rfl 28 _ rfl _ rfl (by with_reducible assumption) Try.underlying28 rfl (by kernel_rfl) ?_)
        | ((with_reducible refine at_load 24 ?_); refine box_load rfl 24 _ rfl _ rfl (by with_reducible assumption) Try.underlying24 rfl (by kernel_rfl) ?_)
        | ((with_reducible refine at_loadg 26 ?_); refine box_loadg (by rfl) 26 _ rfl _ rfl (by with_reducible assumption) Try.underlying26 rfl (by kernel_rfl) ?_)
        | ((with_reducible refine at_loadg 28 ?_); refine box_loadg (by rfl) 28 _ rfl _ rfl (by with_reducible assumption) Try.underlying28 rfl (by kernel_rfl) ?_)
        | ((with_reducible refine at_loadg 24 ?_); refine box_loadg (by rfl) 24 _ rfl _ rfl (by with_reducible assumption) Try.underlying24 rfl (by kernel_rfl) ?_)
        | ((with_reducible refine at_store 24 ?_); refine box_store rfl 24 _ _ rfl _ _ rfl rfl (by with_reducible exact B11) (by kernel_rfl) (by rfl) (by simp [Value.oneCell']) ?_; clear B11; intro w' B11 gg; (try clear k3); (try clear k4); (try clear k5); (try clear k6); (try clear k11); replace b0 := below_at b0 gg b0.size n11; (try replace B3 := B3.grown gg (Nat.ne_of_lt l3_11)); (try replace B4 := B4.grown gg (Nat.ne_of_lt l4_11)); (try replace B5 := B5.grown gg (Nat.ne_of_lt l5_11)); (try replace B6 := B6.grown gg (Nat.ne_of_lt l6_11)); clear gg; (try have k3 := B3.k); (try have k4 := B4.k); (try have k5 := B5.k); (try have k6 := B6.k); (try have k11 := B11.k)))
      refine (spec_neg_v _ _ _ _ _ _ _ _ _ _ _ _ _ _ _ _ _ _ _ _ _ _).mono ?_
      rintro e w' ⟨rfl, bb⟩
      rw [hok]
      (try clear k3)
      (try clear k4)
      (try clear k5)
      (try clear k6)
      (try clear k11)
      replace b0 := bchain b0 bb
      (try replace B3 := B3.kept bb)
      (try replace B4 := B4.kept bb)
      (try replace B5 := B5.kept bb)
      (try replace B6 := B6.kept bb)
      (try replace B11 := B11.kept bb)
      clear bb
      (try have k3 := B3.k)
      (try have k4 := B4.k)
      (try have k5 := B5.k)
      (try have k6 := B6.k)
      (try have k11 := B11.k)
      go_wp2_with (first
        | ((with_reducible refine at_new 11 24 ?_); refine box_new (d := 11) rfl rfl 24 rfl _ zero_cfg ?_; intro w' B11 bb; have n11 := b0.size;  (try have l3_11 := B3.lt); (try have l4_11 := B4.lt); (try have l5_11 := B5.lt); (try have l6_11 := B6.lt); (try clear k3); (try clear k4); (try clear k5); (try clear k6); (try clear k11); replace b0 := bchain b0 bb; (try replace B3 := B3.kept bb); (try replace B4 := B4.kept bb); (try replace B5 := B5.kept bb); (try replace B6 := B6.kept bb);  clear bb; (try have k3 := B3.k); (try have k4 := B4.k); (try have k5 := B5.k); (try have k6 := B6.k); (try have k11 := B11.k))
        | ((with_reducible refine at_load 26 ?_); refine box_load rfl 26 _ rfl _ rfl (by with_reducible assumption) Try.underlying26 rfl (by kernel_rfl) ?_)
        | ((with_reducible refine at_load 28 ?_); refine box_load rfl 28 _ rfl _ rfl (by with_reducible assumption) Try.underlying28 rfl (by kernel_rfl) ?_)
        | ((with_reducible refine at_load 24 ?_); refine box_load rfl 24 _ rfl _ rfl (by with_reducible assumption) Try.underlying24 rfl (by kernel_rfl) ?_)
        | ((with_reducible refine at_loadg 26 ?_); refine box_loadg (by rfl) 26 _ rfl _ rfl (by with_reducible assumption) Try.underlying26 rfl (by kernel_rfl) ?_)
        | ((with_reducible refine at_loadg 28 ?_); refine box_loadg (by rfl) 28 _ rfl _ rfl (by with_reducible assumption) Try.underlying28 rfl (by kernel_rfl) ?_)
        | ((with_reducible refine at_loadg 24 ?_); refine box_loadg (by rfl) 24 _ rfl _ rfl (by with_reducible assumption) Try.underlying24 rfl (by kernel_rfl) ?_)
        | ((with_reducible refine at_store 24 ?_); refine box_store rfl 24 _ _ rfl _ _ rfl rfl (by with_reducible exact B11) (by kernel_rfl) (by rfl) (by simp [Value.oneCell']) ?_; clear B11; intro w' B11 gg; (try clear k3); (try clear k4); (try clear k5); (try clear k6); (try clear k11); replace b0 := below_at b0 gg b0.size n11; (try replace B3 := B3.grown gg (Nat.ne_of_lt l3_11)); (try replace B4 := B4.grown gg (Nat.ne_of_lt l4_11)); (try replace B5 := B5.grown gg (Nat.ne_of_lt l5_11)); (try replace B6 := B6.grown gg (Nat.ne_of_lt l6_11)); clear gg; (try have k3 := B3.k); (try have k4 := B4.k); (try have k5 := B5.k); (try have k6 := B6.k); (try have k11 := B11.k)))
      refine (spec_cfg_v _ _ _ _ _ _).mono ?_
      rintro e w' ⟨rfl, bb⟩
      rw [hx]
      (try clear k3)
      (try clear k4)
      (try clear k5)
      (try clear k6)
      (try clear k11)
      replace b0 := bchain b0 bb
      (try replace B3 := B3.kept bb)
      (try replace B4 := B4.kept bb)
      (try replace B5 := B5.kept bb)
      (try replace B6 := B6.kept bb)
      (try replace B11 := B11.kept bb)
      clear bb
      (try have k3 := B3.k)
      (try have k4 := B4.k)
      (try have k5 := B5.k)
      (try have k6 := B6.k)
      (try have k11 := B11.k)
      go_wp2_with (first
        | ((with_reducible refine at_new 11 24 ?_); refine box_new (d := 11) rfl rfl 24 rfl _ zero_cfg ?_; intro w' B11 bb; have n11 := b0.size;  (try have l3_11 := B3.lt); (try have l4_11 := B4.lt); (try have l5_11 := B5.lt); (try have l6_11 := B6.lt); (try clear k3); (try clear k4); (try clear k5); (try clear k6); (try clear k11); replace b0 := bchain b0 bb; (try replace B3 := B3.kept bb); (try replace B4 := B4.kept bb); (try replace B5 := B5.kept bb); (try replace B6 := B6.kept bb);  clear bb; (try have k3 := B3.k); (try have k4 := B4.k); (try have k5 := B5.k); (try have k6 := B6.k); (try have k11 := B11.k))
        | ((with_reducible refine at_load 26 ?_); refine box_load rfl 26 _ rfl _ rfl (by with_reducible assumption) Try.underlying26 rfl (by kernel_rfl) ?_)
        | ((with_reducible refine at_load 28 ?_); refine box_load rfl 28 _ rfl _ rfl (by with_reducible assumption) Try.underlying28 rfl (by kernel_rfl) ?_)
        | ((with_reducible refine at_load 24 ?_); refine box_load rfl 24 _ rfl _ rfl (by with_reducible assumption) Try.underlying24 rfl (by kernel_rfl) ?_)
        | ((with_reducible refine at_loadg 26 ?_); refine box_loadg (by rfl) 26 _ rfl _ rfl (by with_reducible assumption) Try.underlying26 rfl (by kernel_rfl) ?_)
        | ((with_reducible refine at_loadg 28 ?_); refine box_loadg (by rfl) 28 _ rfl _ rfl (by with_reducible assumption) Try.underlying28 rfl (by kernel_rfl) ?_)
        | ((with_reducible refine at_loadg 24 ?_); refine box_loadg (by rfl) 24 _ rfl _ rfl (by with_reducible assumption) Try.underlying24 rfl (by kernel_rfl) ?_)
        | ((with_reducible refine at_store 24 ?_); refine box_store rfl 24 _ _ rfl _ _ rfl rfl (by with_reducible exact B11) (by kernel_rfl) (by rfl) (by simp [Value.oneCell']) ?_; clear B11; intro w' B11 gg; (try clear k3); (try clear k4); (try clear k5); (try clear k6); (try clear k11); replace b0 := below_at b0 gg b0.size n11; (try replace B3 := B3.grown gg (Nat.ne_of_lt l3_11)); (try replace B4 := B4.grown gg (Nat.ne_of_lt l4_11)); (try replace B5 := B5.grown gg (Nat.ne_of_lt l5_11)); (try replace B6 := B6.grown gg (Nat.ne_of_lt l6_11)); clear gg; (try have k3 := B3.k); (try have k4 := B4.k); (try have k5 := B5.k); (try have k6 := B6.k); (try have k11 := B11.k)))
      refine (impl_neg_v _ _ _ _ _ _ _ _ _ _ _ _ _ _ _ _ _ _ _ _ _ _).mono ?_
      rintro e w' ⟨rfl, bb⟩
      rw [hxo]
      (try clear k3)
      (try clear k4)
      (try clear k5)
      (try clear k6)
      (try clear k11)
      replace b0 := bchain b0 bb
      (try replace B3 := B3.kept bb)
      (try replace B4 := B4.kept bb)
      (try replace B5 := B5.kept bb)
      (try replace B6 := B6.kept bb)
      (try replace B11 := B11.kept bb)
      clear bb
      (try have k3 := B3.k)
      (try have k4 := B4.k)
      (try have k5 := B5.k)
      (try have k6 := B6.k)
      (try have k11 := B11.k)
      go_wp2_with (first
        | ((with_reducible refine at_new 11 24 ?_); refine box_new (d := 11) rfl rfl 24 rfl _ zero_cfg ?_; intro w' B11 bb; have n11 := b0.size;  (try have l3_11 := B3.lt); (try have l4_11 := B4.lt); (try have l5_11 := B5.lt); (try have l6_11 := B6.lt); (try clear k3); (try clear k4); (try clear k5); (try clear k6); (try clear k11); replace b0 := bchain b0 bb; (try replace B3 := B3.kept bb); (try replace B4 := B4.kept bb); (try replace B5 := B5.kept bb); (try replace B6 := B6.kept bb);  clear bb; (try have k3 := B3.k); (try have k4 := B4.k); (try have k5 := B5.k); (try have k6 := B6.k); (try have k11 := B11.k))
        | ((with_reducible refine at_load 26 ?_); refine box_load rfl 26 _ rfl _ rfl (by with_reducible assumption) Try.underlying26 rfl (by kernel_rfl) ?_)
        | ((with_reducible refine at_load 28 ?_); refine box_load rfl 28 _ rfl _ rfl (by with_reducible assumption) Try.underlying28 rfl (by kernel_rfl) ?_)
        | ((with_reducible refine at_load 24 ?_); refine box_load rfl 24 _ rfl _ rfl (by with_reducible assumption) Try.underlying24 rfl (by kernel_rfl) ?_)
        | ((with_reducible refine at_loadg 26 ?_); refine box_loadg (by rfl) 26 _ rfl _ rfl (by with_reducible assumption) Try.underlying26 rfl (by kernel_rfl) ?_)
        | ((with_reducible refine at_loadg 28 ?_); refine box_loadg (by rfl) 28 _ rfl _ rfl (by with_reducible assumption) Try.underlying28 rfl (by kernel_rfl) ?_)
        | ((with_reducible refine at_loadg 24 ?_); refine box_loadg (by rfl) 24 _ rfl _ rfl (by with_reducible assumption) Try.underlying24 rfl (by kernel_rfl) ?_)
        | ((with_reducible refine at_store 24 ?_); refine box_store rfl 24 _ _ rfl _ _ rfl rfl (by with_reducible exact B11) (by kernel_rfl) (by rfl) (by simp [Value.oneCell']) ?_; clear B11; intro w' B11 gg; (try clear k3); (try clear k4); (try clear k5); (try clear k6); (try clear k11); replace b0 := below_at b0 gg b0.size n11; (try replace B3 := B3.grown gg (Nat.ne_of_lt l3_11)); (try replace B4 := B4.grown gg (Nat.ne_of_lt l4_11)); (try replace B5 := B5.grown gg (Nat.ne_of_lt l5_11)); (try replace B6 := B6.grown gg (Nat.ne_of_lt l6_11)); clear gg; (try have k3 := B3.k); (try have k4 := B4.k); (try have k5 := B5.k); (try have k6 := B6.k); (try have k11 := B11.k)))
      refine (impl_meet_yes _ _ _ _ _ _ _ _ _ _ c2 c3 c4 c5 hm H2.out H3.out H4.out H5.out _).mono ?_
      rintro e w' ⟨rfl, bb⟩
      (try clear k3)
      (try clear k4)
      (try clear k5)
      (try clear k6)
      (try clear k11)
      replace b0 := bchain b0 bb
      (try replace B3 := B3.kept bb)
      (try replace B4 := B4.kept bb)
      (try replace B5 := B5.kept bb)
      (try replace B6 := B6.kept bb)
      (try replace B11 := B11.kept bb)
      clear bb
      (try have k3 := B3.k)
      (try have k4 := B4.k)
      (try have k5 := B5.k)
      (try have k6 := B6.k)
      (try have k11 := B11.k)
      go_wp2_with (first
        | ((with_reducible refine at_new 11 24 ?_); refine box_new (d := 11) rfl rfl 24 rfl _ zero_cfg ?_; intro w' B11 bb; have n11 := b0.size;  (try have l3_11 := B3.lt); (try have l4_11 := B4.lt); (try have l5_11 := B5.lt); (try have l6_11 := B6.lt); (try clear k3); (try clear k4); (try clear k5); (try clear k6); (try clear k11); replace b0 := bchain b0 bb; (try replace B3 := B3.kept bb); (try replace B4 := B4.kept bb); (try replace B5 := B5.kept bb); (try replace B6 := B6.kept bb);  clear bb; (try have k3 := B3.k); (try have k4 := B4.k); (try have k5 := B5.k); (try have k6 := B6.k); (try have k11 := B11.k))
        | ((with_reducible refine at_load 26 ?_); refine box_load rfl 26 _ rfl _ rfl (by with_reducible assumption) Try.underlying26 rfl (by kernel_rfl) ?_)
        | ((with_reducible refine at_load 28 ?_); refine box_load rfl 28 _ rfl _ rfl (by with_reducible assumption) Try.underlying28 rfl (by kernel_rfl) ?_)
        | ((with_reducible refine at_load 24 ?_); refine box_load rfl 24 _ rfl _ rfl (by with_reducible assumption) Try.underlying24 rfl (by kernel_rfl) ?_)
        | ((with_reducible refine at_loadg 26 ?_); refine box_loadg (by rfl) 26 _ rfl _ rfl (by with_reducible assumption) Try.underlying26 rfl (by kernel_rfl) ?_)
        | ((with_reducible refine at_loadg 28 ?_); refine box_loadg (by rfl) 28 _ rfl _ rfl (by with_reducible assumption) Try.underlying28 rfl (by kernel_rfl) ?_)
        | ((with_reducible refine at_loadg 24 ?_); refine box_loadg (by rfl) 24 _ rfl _ rfl (by with_reducible assumption) Try.underlying24 rfl (by kernel_rfl) ?_)
        | ((with_reducible refine at_store 24 ?_); refine box_store rfl 24 _ _ rfl _ _ rfl rfl (by with_reducible exact B11) (by kernel_rfl) (by rfl) (by simp [Value.oneCell']) ?_; clear B11; intro w' B11 gg; (try clear k3); (try clear k4); (try clear k5); (try clear k6); (try clear k11); replace b0 := below_at b0 gg b0.size n11; (try replace B3 := B3.grown gg (Nat.ne_of_lt l3_11)); (try replace B4 := B4.grown gg (Nat.ne_of_lt l4_11)); (try replace B5 := B5.grown gg (Nat.ne_of_lt l5_11)); (try replace B6 := B6.grown gg (Nat.ne_of_lt l6_11)); clear gg; (try have k3 := B3.k); (try have k4 := B4.k); (try have k5 := B5.k); (try have k6 := B6.k); (try have k11 := B11.k)))
      all_goals
        go_ret
        refine ⟨ret_bool ?_, b0⟩
        simp
  · by_cases he : (⟨m1, m2, m3, m4, m5⟩ : Opt) = Opt.zero
    · obtain ⟨d2, g2⟩ : ∃ c, min a2 x2 = c := ⟨_, rfl⟩
      obtain ⟨d3, g3⟩ : ∃ c, min a3 x3 = c := ⟨_, rfl⟩
      obtain ⟨d4, g4⟩ : ∃ c, min a4 x4 = c := ⟨_, rfl⟩
      obtain ⟨d5, g5⟩ : ∃ c, min a5 x5 = c := ⟨_, rfl⟩
      have hc : Opt.ok ⟨a1, d2, d3, d4, d5⟩ = true := by
        have := least_ok (a := ⟨a1, a2, a3, a4, a5⟩) (by simp only [Neg.ok, Bool.and_eq_true] at hok; exact hok.1.1.2) hx
        simpa [Opt.least, g2, g3, g4, g5] using this
      obtain ⟨rfl, rfl, rfl⟩ : x = ⟨⟨x1, o2, o3, o4, o5⟩, ⟨a1, d2, d3, d4, d5⟩, ⟨m1, m2, m3, m4, m5⟩, ⟨y1, y2, y3, y4, y5⟩, f⟩ ∧ back = Msg.zero ∧ says = false := by
        have e : (⟨⟨x1, o2, o3, o4, o5⟩, ⟨a1, d2, d3, d4, d5⟩, ⟨m1, m2, m3, m4, m5⟩, ⟨y1, y2, y3, y4, y5⟩, f⟩, Msg.zero, false) = (x, back, says) := by
          rw [← hH]
          unfold sHear
          rw [if_neg (by simp [hok, hk, hx]), if_neg (by simp), if_neg (by simp), if_neg (by simp), if_pos he, ← g2, ← g3, ← g4, ← g5]
          rfl
        simp only [Prod.mk.injEq] at e
        exact ⟨e.1.symm, e.2.1.symm, e.2.2.symm⟩
      clear hH
      simp only [Neg.cs] at B3
      simp only [Msg.cs] at B4
      simp only [Neg.cs] at B5
      simp only [Msg.cs, Msg.zero, Opt.zero] at B6
      have k3 := B3.k
      have k4 := B4.k
      have k5 := B5.k
      have k6 := B6.k
      have hxo : Neg.ok ⟨⟨x1, o2, o3, o4, o5⟩, ⟨a1, d2, d3, d4, d5⟩, ⟨m1, m2, m3, m4, m5⟩, ⟨y1, y2, y3, y4, y5⟩, f⟩ = true := by
        simp only [Neg.ok, Bool.and_eq_true] at hok ⊢
        exact ⟨⟨⟨hok.1.1.1, hc⟩, hok.1.2⟩, hok.2⟩
      have H2 : Hid (_ = _) := h2
      clear h2
      have H3 : Hid (_ = _) := h3
      clear h3
      have H4 : Hid (_ = _) := h4
      clear h4
      have H5 : Hid (_ = _) := h5
      clear h5
      have l2 : ¬ (a2 < d2) := by omega
      have l4 : ¬ (a4 < d4) := by omega
      have G2 : Hid (_ = _) := g2
      clear g2
      have G3 : Hid (_ = _) := g3
      clear g3
      have G4 : Hid (_ = _) := g4
      clear g4
      have G5 : Hid (_ = _) := g5
      clear g5
      go_wp2_with (first
        | ((with_reducible refine at_new 11 24 ?_); refine box_new (d := 11) rfl rfl 24 rfl _ zero_cfg ?_; intro w' B11 bb; have n11 := b0.size;  (try have l3_11 := B3.lt); (try have l4_11 := B4.lt); (try have l5_11 := B5.lt); (try have l6_11 := B6.lt); (try clear k3); (try clear k4); (try clear k5); (try clear k6); (try clear k11); replace b0 := bchain b0 bb; (try replace B3 := B3.kept bb); (try replace B4 := B4.kept bb); (try replace B5 := B5.kept bb); (try replace B6 := B6.kept bb);  clear bb; (try have k3 := B3.k); (try have k4 := B4.k); (try have k5 := B5.k); (try have k6 := B6.k); (try have k11 := B11.k))
        | ((with_reducible refine at_load 26 ?_); refine box_load rfl 26 _ rfl _ rfl (by with_reducible assumption) Try.underlying26 rfl (by kernel_rfl) ?_)
        | ((with_reducible refine at_load 28 ?_); refine box_load rfl 28 _ rfl _ rfl (by with_reducible assumption) Try.underlying28 rfl (by kernel_rfl) ?_)
        | ((with_reducible refine at_load 24 ?_); refine box_load rfl 24 _ rfl _ rfl (by with_reducible assumption) Try.underlying24 rfl (by kernel_rfl) ?_)
        | ((with_reducible refine at_loadg 26 ?_); refine box_loadg (by rfl) 26 _ rfl _ rfl (by with_reducible assumption) Try.underlying26 rfl (by kernel_rfl) ?_)
        | ((with_reducible refine at_loadg 28 ?_); refine box_loadg (by rfl) 28 _ rfl _ rfl (by with_reducible assumption) Try.underlying28 rfl (by kernel_rfl) ?_)
        | ((with_reducible refine at_loadg 24 ?_); refine box_loadg (by rfl) 24 _ rfl _ rfl (by with_reducible assumption) Try.underlying24 rfl (by kernel_rfl) ?_)
        | ((with_reducible refine at_store 24 ?_); refine box_store rfl 24 _ _ rfl _ _ rfl rfl (by with_reducible exact B11) (by kernel_rfl) (by rfl) (by simp [Value.oneCell']) ?_; clear B11; intro w' B11 gg; (try clear k3); (try clear k4); (try clear k5); (try clear k6); (try clear k11); replace b0 := below_at b0 gg b0.size n11; (try replace B3 := B3.grown gg (Nat.ne_of_lt l3_11)); (try replace B4 := B4.grown gg (Nat.ne_of_lt l4_11)); (try replace B5 := B5.grown gg (Nat.ne_of_lt l5_11)); (try replace B6 := B6.grown gg (Nat.ne_of_lt l6_11)); clear gg; (try have k3 := B3.k); (try have k4 := B4.k); (try have k5 := B5.k); (try have k6 := B6.k); (try have k11 := B11.k)))
      refine (spec_neg_v _ _ _ _ _ _ _ _ _ _ _ _ _ _ _ _ _ _ _ _ _ _).mono ?_
      rintro e w' ⟨rfl, bb⟩
      rw [hok]
      (try clear k3)
      (try clear k4)
      (try clear k5)
      (try clear k6)
      (try clear k11)
      replace b0 := bchain b0 bb
      (try replace B3 := B3.kept bb)
      (try replace B4 := B4.kept bb)
      (try replace B5 := B5.kept bb)
      (try replace B6 := B6.kept bb)
      (try replace B11 := B11.kept bb)
      clear bb
      (try have k3 := B3.k)
      (try have k4 := B4.k)
      (try have k5 := B5.k)
      (try have k6 := B6.k)
      (try have k11 := B11.k)
      go_wp2_with (first
        | ((with_reducible refine at_new 11 24 ?_); refine box_new (d := 11) rfl rfl 24 rfl _ zero_cfg ?_; intro w' B11 bb; have n11 := b0.size;  (try have l3_11 := B3.lt); (try have l4_11 := B4.lt); (try have l5_11 := B5.lt); (try have l6_11 := B6.lt); (try clear k3); (try clear k4); (try clear k5); (try clear k6); (try clear k11); replace b0 := bchain b0 bb; (try replace B3 := B3.kept bb); (try replace B4 := B4.kept bb); (try replace B5 := B5.kept bb); (try replace B6 := B6.kept bb);  clear bb; (try have k3 := B3.k); (try have k4 := B4.k); (try have k5 := B5.k); (try have k6 := B6.k); (try have k11 := B11.k))
        | ((with_reducible refine at_load 26 ?_); refine box_load rfl 26 _ rfl _ rfl (by with_reducible assumption) Try.underlying26 rfl (by kernel_rfl) ?_)
        | ((with_reducible refine at_load 28 ?_); refine box_load rfl 28 _ rfl _ rfl (by with_reducible assumption) Try.underlying28 rfl (by kernel_rfl) ?_)
        | ((with_reducible refine at_load 24 ?_); refine box_load rfl 24 _ rfl _ rfl (by with_reducible assumption) Try.underlying24 rfl (by kernel_rfl) ?_)
        | ((with_reducible refine at_loadg 26 ?_); refine box_loadg (by rfl) 26 _ rfl _ rfl (by with_reducible assumption) Try.underlying26 rfl (by kernel_rfl) ?_)
        | ((with_reducible refine at_loadg 28 ?_); refine box_loadg (by rfl) 28 _ rfl _ rfl (by with_reducible assumption) Try.underlying28 rfl (by kernel_rfl) ?_)
        | ((with_reducible refine at_loadg 24 ?_); refine box_loadg (by rfl) 24 _ rfl _ rfl (by with_reducible assumption) Try.underlying24 rfl (by kernel_rfl) ?_)
        | ((with_reducible refine at_store 24 ?_); refine box_store rfl 24 _ _ rfl _ _ rfl rfl (by with_reducible exact B11) (by kernel_rfl) (by rfl) (by simp [Value.oneCell']) ?_; clear B11; intro w' B11 gg; (try clear k3); (try clear k4); (try clear k5); (try clear k6); (try clear k11); replace b0 := below_at b0 gg b0.size n11; (try replace B3 := B3.grown gg (Nat.ne_of_lt l3_11)); (try replace B4 := B4.grown gg (Nat.ne_of_lt l4_11)); (try replace B5 := B5.grown gg (Nat.ne_of_lt l5_11)); (try replace B6 := B6.grown gg (Nat.ne_of_lt l6_11)); clear gg; (try have k3 := B3.k); (try have k4 := B4.k); (try have k5 := B5.k); (try have k6 := B6.k); (try have k11 := B11.k)))
      refine (spec_cfg_v _ _ _ _ _ _).mono ?_
      rintro e w' ⟨rfl, bb⟩
      rw [hx]
      (try clear k3)
      (try clear k4)
      (try clear k5)
      (try clear k6)
      (try clear k11)
      replace b0 := bchain b0 bb
      (try replace B3 := B3.kept bb)
      (try replace B4 := B4.kept bb)
      (try replace B5 := B5.kept bb)
      (try replace B6 := B6.kept bb)
      (try replace B11 := B11.kept bb)
      clear bb
      (try have k3 := B3.k)
      (try have k4 := B4.k)
      (try have k5 := B5.k)
      (try have k6 := B6.k)
      (try have k11 := B11.k)
      go_wp2_with (first
        | ((with_reducible refine at_new 11 24 ?_); refine box_new (d := 11) rfl rfl 24 rfl _ zero_cfg ?_; intro w' B11 bb; have n11 := b0.size;  (try have l3_11 := B3.lt); (try have l4_11 := B4.lt); (try have l5_11 := B5.lt); (try have l6_11 := B6.lt); (try clear k3); (try clear k4); (try clear k5); (try clear k6); (try clear k11); replace b0 := bchain b0 bb; (try replace B3 := B3.kept bb); (try replace B4 := B4.kept bb); (try replace B5 := B5.kept bb); (try replace B6 := B6.kept bb);  clear bb; (try have k3 := B3.k); (try have k4 := B4.k); (try have k5 := B5.k); (try have k6 := B6.k); (try have k11 := B11.k))
        | ((with_reducible refine at_load 26 ?_); refine box_load rfl 26 _ rfl _ rfl (by with_reducible assumption) Try.underlying26 rfl (by kernel_rfl) ?_)
        | ((with_reducible refine at_load 28 ?_); refine box_load rfl 28 _ rfl _ rfl (by with_reducible assumption) Try.underlying28 rfl (by kernel_rfl) ?_)
        | ((with_reducible refine at_load 24 ?_); refine box_load rfl 24 _ rfl _ rfl (by with_reducible assumption) Try.underlying24 rfl (by kernel_rfl) ?_)
        | ((with_reducible refine at_loadg 26 ?_); refine box_loadg (by rfl) 26 _ rfl _ rfl (by with_reducible assumption) Try.underlying26 rfl (by kernel_rfl) ?_)
        | ((with_reducible refine at_loadg 28 ?_); refine box_loadg (by rfl) 28 _ rfl _ rfl (by with_reducible assumption) Try.underlying28 rfl (by kernel_rfl) ?_)
        | ((with_reducible refine at_loadg 24 ?_); refine box_loadg (by rfl) 24 _ rfl _ rfl (by with_reducible assumption) Try.underlying24 rfl (by kernel_rfl) ?_)
        | ((with_reducible refine at_store 24 ?_); refine box_store rfl 24 _ _ rfl _ _ rfl rfl (by with_reducible exact B11) (by kernel_rfl) (by rfl) (by simp [Value.oneCell']) ?_; clear B11; intro w' B11 gg; (try clear k3); (try clear k4); (try clear k5); (try clear k6); (try clear k11); replace b0 := below_at b0 gg b0.size n11; (try replace B3 := B3.grown gg (Nat.ne_of_lt l3_11)); (try replace B4 := B4.grown gg (Nat.ne_of_lt l4_11)); (try replace B5 := B5.grown gg (Nat.ne_of_lt l5_11)); (try replace B6 := B6.grown gg (Nat.ne_of_lt l6_11)); clear gg; (try have k3 := B3.k); (try have k4 := B4.k); (try have k5 := B5.k); (try have k6 := B6.k); (try have k11 := B11.k)))
      refine (impl_neg_v _ _ _ _ _ _ _ _ _ _ _ _ _ _ _ _ _ _ _ _ _ _).mono ?_
      rintro e w' ⟨rfl, bb⟩
      rw [hxo]
      (try clear k3)
      (try clear k4)
      (try clear k5)
      (try clear k6)
      (try clear k11)
      replace b0 := bchain b0 bb
      (try replace B3 := B3.kept bb)
      (try replace B4 := B4.kept bb)
      (try replace B5 := B5.kept bb)
      (try replace B6 := B6.kept bb)
      (try replace B11 := B11.kept bb)
      clear bb
      (try have k3 := B3.k)
      (try have k4 := B4.k)
      (try have k5 := B5.k)
      (try have k6 := B6.k)
      (try have k11 := B11.k)
      go_wp2_with (first
        | ((with_reducible refine at_new 11 24 ?_); refine box_new (d := 11) rfl rfl 24 rfl _ zero_cfg ?_; intro w' B11 bb; have n11 := b0.size;  (try have l3_11 := B3.lt); (try have l4_11 := B4.lt); (try have l5_11 := B5.lt); (try have l6_11 := B6.lt); (try clear k3); (try clear k4); (try clear k5); (try clear k6); (try clear k11); replace b0 := bchain b0 bb; (try replace B3 := B3.kept bb); (try replace B4 := B4.kept bb); (try replace B5 := B5.kept bb); (try replace B6 := B6.kept bb);  clear bb; (try have k3 := B3.k); (try have k4 := B4.k); (try have k5 := B5.k); (try have k6 := B6.k); (try have k11 := B11.k))
        | ((with_reducible refine at_load 26 ?_); refine box_load rfl 26 _ rfl _ rfl (by with_reducible assumption) Try.underlying26 rfl (by kernel_rfl) ?_)
        | ((with_reducible refine at_load 28 ?_); refine box_load rfl 28 _ rfl _ rfl (by with_reducible assumption) Try.underlying28 rfl (by kernel_rfl) ?_)
        | ((with_reducible refine at_load 24 ?_); refine box_load rfl 24 _ rfl _ rfl (by with_reducible assumption) Try.underlying24 rfl (by kernel_rfl) ?_)
        | ((with_reducible refine at_loadg 26 ?_); refine box_loadg (by rfl) 26 _ rfl _ rfl (by with_reducible assumption) Try.underlying26 rfl (by kernel_rfl) ?_)
        | ((with_reducible refine at_loadg 28 ?_); refine box_loadg (by rfl) 28 _ rfl _ rfl (by with_reducible assumption) Try.underlying28 rfl (by kernel_rfl) ?_)
        | ((with_reducible refine at_loadg 24 ?_); refine box_loadg (by rfl) 24 _ rfl _ rfl (by with_reducible assumption) Try.underlying24 rfl (by kernel_rfl) ?_)
        | ((with_reducible refine at_store 24 ?_); refine box_store rfl 24 _ _ rfl _ _ rfl rfl (by with_reducible exact B11) (by kernel_rfl) (by rfl) (by simp [Value.oneCell']) ?_; clear B11; intro w' B11 gg; (try clear k3); (try clear k4); (try clear k5); (try clear k6); (try clear k11); replace b0 := below_at b0 gg b0.size n11; (try replace B3 := B3.grown gg (Nat.ne_of_lt l3_11)); (try replace B4 := B4.grown gg (Nat.ne_of_lt l4_11)); (try replace B5 := B5.grown gg (Nat.ne_of_lt l5_11)); (try replace B6 := B6.grown gg (Nat.ne_of_lt l6_11)); clear gg; (try have k3 := B3.k); (try have k4 := B4.k); (try have k5 := B5.k); (try have k6 := B6.k); (try have k11 := B11.k)))
      refine (impl_meet_yes _ _ _ _ _ _ _ _ _ _ c2 c3 c4 c5 hm H2.out H3.out H4.out H5.out _).mono ?_
      rintro e w' ⟨rfl, bb⟩
      (try clear k3)
      (try clear k4)
      (try clear k5)
      (try clear k6)
      (try clear k11)
      replace b0 := bchain b0 bb
      (try replace B3 := B3.kept bb)
      (try replace B4 := B4.kept bb)
      (try replace B5 := B5.kept bb)
      (try replace B6 := B6.kept bb)
      (try replace B11 := B11.kept bb)
      clear bb
      (try have k3 := B3.k)
      (try have k4 := B4.k)
      (try have k5 := B5.k)
      (try have k6 := B6.k)
      (try have k11 := B11.k)
      go_wp2_with (first
        | ((with_reducible refine at_new 11 24 ?_); refine box_new (d := 11) rfl rfl 24 rfl _ zero_cfg ?_; intro w' B11 bb; have n11 := b0.size;  (try have l3_11 := B3.lt); (try have l4_11 := B4.lt); (try have l5_11 := B5.lt); (try have l6_11 := B6.lt); (try clear k3); (try clear k4); (try clear k5); (try clear k6); (try clear k11); replace b0 := bchain b0 bb; (try replace B3 := B3.kept bb); (try replace B4 := B4.kept bb); (try replace B5 := B5.kept bb); (try replace B6 := B6.kept bb);  clear bb; (try have k3 := B3.k); (try have k4 := B4.k); (try have k5 := B5.k); (try have k6 := B6.k); (try have k11 := B11.k))
        | ((with_reducible refine at_load 26 ?_); refine box_load rfl 26 _ rfl _ rfl (by with_reducible assumption) Try.underlying26 rfl (by kernel_rfl) ?_)
        | ((with_reducible refine at_load 28 ?_); refine box_load rfl 28 _ rfl _ rfl (by with_reducible assumption) Try.underlying28 rfl (by kernel_rfl) ?_)
        | ((with_reducible refine at_load 24 ?_); refine box_load rfl 24 _ rfl _ rfl (by with_reducible assumption) Try.underlying24 rfl (by kernel_rfl) ?_)
        | ((with_reducible refine at_loadg 26 ?_); refine box_loadg (by rfl) 26 _ rfl _ rfl (by with_reducible assumption) Try.underlying26 rfl (by kernel_rfl) ?_)
        | ((with_reducible refine at_loadg 28 ?_); refine box_loadg (by rfl) 28 _ rfl _ rfl (by with_reducible assumption) Try.underlying28 rfl (by kernel_rfl) ?_)
        | ((with_reducible refine at_loadg 24 ?_); refine box_loadg (by rfl) 24 _ rfl _ rfl (by with_reducible assumption) Try.underlying24 rfl (by kernel_rfl) ?_)
        | ((with_reducible refine at_store 24 ?_); refine box_store rfl 24 _ _ rfl _ _ rfl rfl (by with_reducible exact B11) (by kernel_rfl) (by rfl) (by simp [Value.oneCell']) ?_; clear B11; intro w' B11 gg; (try clear k3); (try clear k4); (try clear k5); (try clear k6); (try clear k11); replace b0 := below_at b0 gg b0.size n11; (try replace B3 := B3.grown gg (Nat.ne_of_lt l3_11)); (try replace B4 := B4.grown gg (Nat.ne_of_lt l4_11)); (try replace B5 := B5.grown gg (Nat.ne_of_lt l5_11)); (try replace B6 := B6.grown gg (Nat.ne_of_lt l6_11)); clear gg; (try have k3 := B3.k); (try have k4 := B4.k); (try have k5 := B5.k); (try have k6 := B6.k); (try have k11 := B11.k)))
      all_goals
        go_ret
        refine ⟨ret_bool ?_, b0⟩
        simp
    · obtain ⟨rfl, rfl, rfl⟩ : x = ⟨⟨x1, o2, o3, o4, o5⟩, ⟨a1, a2, a3, a4, a5⟩, ⟨m1, m2, m3, m4, m5⟩, ⟨y1, y2, y3, y4, y5⟩, f⟩ ∧ back = Msg.zero ∧ says = false := by
        have e : (⟨⟨x1, o2, o3, o4, o5⟩, ⟨a1, a2, a3, a4, a5⟩, ⟨m1, m2, m3, m4, m5⟩, ⟨y1, y2, y3, y4, y5⟩, f⟩, Msg.zero, false) = (x, back, says) := by
          rw [← hH]
          unfold sHear
          rw [if_neg (by simp [hok, hk, hx]), if_neg (by simp), if_neg (by simp), if_neg (by simp), if_neg he]
        simp only [Prod.mk.injEq] at e
        exact ⟨e.1.symm, e.2.1.symm, e.2.2.symm⟩
      clear hH
      simp only [Neg.cs] at B3
      simp only [Msg.cs] at B4
      simp only [Neg.cs] at B5
      simp only [Msg.cs, Msg.zero, Opt.zero] at B6
      have k3 := B3.k
      have k4 := B4.k
      have k5 := B5.k
      have k6 := B6.k
      have hxo : Neg.ok ⟨⟨x1, o2, o3, o4, o5⟩, ⟨a1, a2, a3, a4, a5⟩, ⟨m1, m2, m3, m4, m5⟩, ⟨y1, y2, y3, y4, y5⟩, f⟩ = true := by
        simp only [Neg.ok, Bool.and_eq_true] at hok ⊢
        exact hok
      have H2 : Hid (_ = _) := h2
      clear h2
      have H3 : Hid (_ = _) := h3
      clear h3
      have H4 : Hid (_ = _) := h4
      clear h4
      have H5 : Hid (_ = _) := h5
      clear h5
      go_wp2_with (first
        | ((with_reducible refine at_new 11 24 ?_); refine box_new (d := 11) rfl rfl 24 rfl _ zero_cfg ?_; intro w' B11 bb; have n11 := b0.size;  (try have l3_11 := B3.lt); (try have l4_11 := B4.lt); (try have l5_11 := B5.lt); (try have l6_11 := B6.lt); (try clear k3); (try clear k4); (try clear k5); (try clear k6); (try clear k11); replace b0 := bchain b0 bb; (try replace B3 := B3.kept bb); (try replace B4 := B4.kept bb); (try replace B5 := B5.kept bb); (try replace B6 := B6.kept bb);  clear bb; (try have k3 := B3.k); (try have k4 := B4.k); (try have k5 := B5.k); (try have k6 := B6.k); (try have k11 := B11.k))
        | ((with_reducible refine at_load 26 ?_); refine box_load rfl 26 _ rfl _ rfl (by with_reducible assumption) Try.underlying26 rfl (by kernel_rfl) ?_)
        | ((with_reducible refine at_load 28 ?_); refine box_load rfl 28 _ rfl _ rfl (by with_reducible assumption) Try.underlying28 rfl (by kernel_rfl) ?_)
        | ((with_reducible refine at_load 24 ?_); refine box_load rfl 24 _ rfl _ rfl (by with_reducible assumption) Try.underlying24 rfl (by kernel_rfl) ?_)
        | ((with_reducible refine at_loadg 26 ?_); refine box_loadg (by rfl) 26 _ rfl _ rfl (by with_reducible assumption) Try.underlying26 rfl (by kernel_rfl) ?_)
        | ((with_reducible refine at_loadg 28 ?_); refine box_loadg (by rfl) 28 _ rfl _ rfl (by with_reducible assumption) Try.underlying28 rfl (by kernel_rfl) ?_)
        | ((with_reducible refine at_loadg 24 ?_); refine box_loadg (by rfl) 24 _ rfl _ rfl (by with_reducible assumption) Try.underlying24 rfl (by kernel_rfl) ?_)
        | ((with_reducible refine at_store 24 ?_); refine box_store rfl 24 _ _ rfl _ _ rfl rfl (by with_reducible exact B11) (by kernel_rfl) (by rfl) (by simp [Value.oneCell']) ?_; clear B11; intro w' B11 gg; (try clear k3); (try clear k4); (try clear k5); (try clear k6); (try clear k11); replace b0 := below_at b0 gg b0.size n11; (try replace B3 := B3.grown gg (Nat.ne_of_lt l3_11)); (try replace B4 := B4.grown gg (Nat.ne_of_lt l4_11)); (try replace B5 := B5.grown gg (Nat.ne_of_lt l5_11)); (try replace B6 := B6.grown gg (Nat.ne_of_lt l6_11)); clear gg; (try have k3 := B3.k); (try have k4 := B4.k); (try have k5 := B5.k); (try have k6 := B6.k); (try have k11 := B11.k)))
      refine (spec_neg_v _ _ _ _ _ _ _ _ _ _ _ _ _ _ _ _ _ _ _ _ _ _).mono ?_
      rintro e w' ⟨rfl, bb⟩
      rw [hok]
      (try clear k3)
      (try clear k4)
      (try clear k5)
      (try clear k6)
      (try clear k11)
      replace b0 := bchain b0 bb
      (try replace B3 := B3.kept bb)
      (try replace B4 := B4.kept bb)
      (try replace B5 := B5.kept bb)
      (try replace B6 := B6.kept bb)
      (try replace B11 := B11.kept bb)
      clear bb
      (try have k3 := B3.k)
      (try have k4 := B4.k)
      (try have k5 := B5.k)
      (try have k6 := B6.k)
      (try have k11 := B11.k)
      go_wp2_with (first
        | ((with_reducible refine at_new 11 24 ?_); refine box_new (d := 11) rfl rfl 24 rfl _ zero_cfg ?_; intro w' B11 bb; have n11 := b0.size;  (try have l3_11 := B3.lt); (try have l4_11 := B4.lt); (try have l5_11 := B5.lt); (try have l6_11 := B6.lt); (try clear k3); (try clear k4); (try clear k5); (try clear k6); (try clear k11); replace b0 := bchain b0 bb; (try replace B3 := B3.kept bb); (try replace B4 := B4.kept bb); (try replace B5 := B5.kept bb); (try replace B6 := B6.kept bb);  clear bb; (try have k3 := B3.k); (try have k4 := B4.k); (try have k5 := B5.k); (try have k6 := B6.k); (try have k11 := B11.k))
        | ((with_reducible refine at_load 26 ?_); refine box_load rfl 26 _ rfl _ rfl (by with_reducible assumption) Try.underlying26 rfl (by kernel_rfl) ?_)
        | ((with_reducible refine at_load 28 ?_); refine box_load rfl 28 _ rfl _ rfl (by with_reducible assumption) Try.underlying28 rfl (by kernel_rfl) ?_)
        | ((with_reducible refine at_load 24 ?_); refine box_load rfl 24 _ rfl _ rfl (by with_reducible assumption) Try.underlying24 rfl (by kernel_rfl) ?_)
        | ((with_reducible refine at_loadg 26 ?_); refine box_loadg (by rfl) 26 _ rfl _ rfl (by with_reducible assumption) Try.underlying26 rfl (by kernel_rfl) ?_)
        | ((with_reducible refine at_loadg 28 ?_); refine box_loadg (by rfl) 28 _ rfl _ rfl (by with_reducible assumption) Try.underlying28 rfl (by kernel_rfl) ?_)
        | ((with_reducible refine at_loadg 24 ?_); refine box_loadg (by rfl) 24 _ rfl _ rfl (by with_reducible assumption) Try.underlying24 rfl (by kernel_rfl) ?_)
        | ((with_reducible refine at_store 24 ?_); refine box_store rfl 24 _ _ rfl _ _ rfl rfl (by with_reducible exact B11) (by kernel_rfl) (by rfl) (by simp [Value.oneCell']) ?_; clear B11; intro w' B11 gg; (try clear k3); (try clear k4); (try clear k5); (try clear k6); (try clear k11); replace b0 := below_at b0 gg b0.size n11; (try replace B3 := B3.grown gg (Nat.ne_of_lt l3_11)); (try replace B4 := B4.grown gg (Nat.ne_of_lt l4_11)); (try replace B5 := B5.grown gg (Nat.ne_of_lt l5_11)); (try replace B6 := B6.grown gg (Nat.ne_of_lt l6_11)); clear gg; (try have k3 := B3.k); (try have k4 := B4.k); (try have k5 := B5.k); (try have k6 := B6.k); (try have k11 := B11.k)))
      refine (spec_cfg_v _ _ _ _ _ _).mono ?_
      rintro e w' ⟨rfl, bb⟩
      rw [hx]
      (try clear k3)
      (try clear k4)
      (try clear k5)
      (try clear k6)
      (try clear k11)
      replace b0 := bchain b0 bb
      (try replace B3 := B3.kept bb)
      (try replace B4 := B4.kept bb)
      (try replace B5 := B5.kept bb)
      (try replace B6 := B6.kept bb)
      (try replace B11 := B11.kept bb)
      clear bb
      (try have k3 := B3.k)
      (try have k4 := B4.k)
      (try have k5 := B5.k)
      (try have k6 := B6.k)
      (try have k11 := B11.k)
      go_wp2_with (first
        | ((with_reducible refine at_new 11 24 ?_); refine box_new (d := 11) rfl rfl 24 rfl _ zero_cfg ?_; intro w' B11 bb; have n11 := b0.size;  (try have l3_11 := B3.lt); (try have l4_11 := B4.lt); (try have l5_11 := B5.lt); (try have l6_11 := B6.lt); (try clear k3); (try clear k4); (try clear k5); (try clear k6); (try clear k11); replace b0 := bchain b0 bb; (try replace B3 := B3.kept bb); (try replace B4 := B4.kept bb); (try replace B5 := B5.kept bb); (try replace B6 := B6.kept bb);  clear bb; (try have k3 := B3.k); (try have k4 := B4.k); (try have k5 := B5.k); (try have k6 := B6.k); (try have k11 := B11.k))
        | ((with_reducible refine at_load 26 ?_); refine box_load rfl 26 _ rfl _ rfl (by with_reducible assumption) Try.underlying26 rfl (by kernel_rfl) ?_)
        | ((with_reducible refine at_load 28 ?_); refine box_load rfl 28 _ rfl _ rfl (by with_reducible assumption) Try.underlying28 rfl (by kernel_rfl) ?_)
        | ((with_reducible refine at_load 24 ?_); refine box_load rfl 24 _ rfl _ rfl (by with_reducible assumption) Try.underlying24 rfl (by kernel_rfl) ?_)
        | ((with_reducible refine at_loadg 26 ?_); refine box_loadg (by rfl) 26 _ rfl _ rfl (by with_reducible assumption) Try.underlying26 rfl (by kernel_rfl) ?_)
        | ((with_reducible refine at_loadg 28 ?_); refine box_loadg (by rfl) 28 _ rfl _ rfl (by with_reducible assumption) Try.underlying28 rfl (by kernel_rfl) ?_)
        | ((with_reducible refine at_loadg 24 ?_); refine box_loadg (by rfl) 24 _ rfl _ rfl (by with_reducible assumption) Try.underlying24 rfl (by kernel_rfl) ?_)
        | ((with_reducible refine at_store 24 ?_); refine box_store rfl 24 _ _ rfl _ _ rfl rfl (by with_reducible exact B11) (by kernel_rfl) (by rfl) (by simp [Value.oneCell']) ?_; clear B11; intro w' B11 gg; (try clear k3); (try clear k4); (try clear k5); (try clear k6); (try clear k11); replace b0 := below_at b0 gg b0.size n11; (try replace B3 := B3.grown gg (Nat.ne_of_lt l3_11)); (try replace B4 := B4.grown gg (Nat.ne_of_lt l4_11)); (try replace B5 := B5.grown gg (Nat.ne_of_lt l5_11)); (try replace B6 := B6.grown gg (Nat.ne_of_lt l6_11)); clear gg; (try have k3 := B3.k); (try have k4 := B4.k); (try have k5 := B5.k); (try have k6 := B6.k); (try have k11 := B11.k)))
      refine (impl_neg_v _ _ _ _ _ _ _ _ _ _ _ _ _ _ _ _ _ _ _ _ _ _).mono ?_
      rintro e w' ⟨rfl, bb⟩
      rw [hxo]
      (try clear k3)
      (try clear k4)
      (try clear k5)
      (try clear k6)
      (try clear k11)
      replace b0 := bchain b0 bb
      (try replace B3 := B3.kept bb)
      (try replace B4 := B4.kept bb)
      (try replace B5 := B5.kept bb)
      (try replace B6 := B6.kept bb)
      (try replace B11 := B11.kept bb)
      clear bb
      (try have k3 := B3.k)
      (try have k4 := B4.k)
      (try have k5 := B5.k)
      (try have k6 := B6.k)
      (try have k11 := B11.k)
      go_wp2_with (first
        | ((with_reducible refine at_new 11 24 ?_); refine box_new (d := 11) rfl rfl 24 rfl _ zero_cfg ?_; intro w' B11 bb; have n11 := b0.size;  (try have l3_11 := B3.lt); (try have l4_11 := B4.lt); (try have l5_11 := B5.lt); (try have l6_11 := B6.lt); (try clear k3); (try clear k4); (try clear k5); (try clear k6); (try clear k11); replace b0 := bchain b0 bb; (try replace B3 := B3.kept bb); (try replace B4 := B4.kept bb); (try replace B5 := B5.kept bb); (try replace B6 := B6.kept bb);  clear bb; (try have k3 := B3.k); (try have k4 := B4.k); (try have k5 := B5.k); (try have k6 := B6.k); (try have k11 := B11.k))
        | ((with_reducible refine at_load 26 ?_); refine box_load rfl 26 _ rfl _ rfl (by with_reducible assumption) Try.underlying26 rfl (by kernel_rfl) ?_)
        | ((with_reducible refine at_load 28 ?_); refine box_load rfl 28 _ rfl _ rfl (by with_reducible assumption) Try.underlying28 rfl (by kernel_rfl) ?_)
        | ((with_reducible refine at_load 24 ?_); refine box_load rfl 24 _ rfl _ rfl (by with_reducible assumption) Try.underlying24 rfl (by kernel_rfl) ?_)
        | ((with_reducible refine at_loadg 26 ?_); refine box_loadg (by rfl) 26 _ rfl _ rfl (by with_reducible assumption) Try.underlying26 rfl (by kernel_rfl) ?_)
        | ((with_reducible refine at_loadg 28 ?_); refine box_loadg (by rfl) 28 _ rfl _ rfl (by with_reducible assumption) Try.underlying28 rfl (by kernel_rfl) ?_)
        | ((with_reducible refine at_loadg 24 ?_); refine box_loadg (by rfl) 24 _ rfl _ rfl (by with_reducible assumption) Try.underlying24 rfl (by kernel_rfl) ?_)
        | ((with_reducible refine at_store 24 ?_); refine box_store rfl 24 _ _ rfl _ _ rfl rfl (by with_reducible exact B11) (by kernel_rfl) (by rfl) (by simp [Value.oneCell']) ?_; clear B11; intro w' B11 gg; (try clear k3); (try clear k4); (try clear k5); (try clear k6); (try clear k11); replace b0 := below_at b0 gg b0.size n11; (try replace B3 := B3.grown gg (Nat.ne_of_lt l3_11)); (try replace B4 := B4.grown gg (Nat.ne_of_lt l4_11)); (try replace B5 := B5.grown gg (Nat.ne_of_lt l5_11)); (try replace B6 := B6.grown gg (Nat.ne_of_lt l6_11)); clear gg; (try have k3 := B3.k); (try have k4 := B4.k); (try have k5 := B5.k); (try have k6 := B6.k); (try have k11 := B11.k)))
      refine (impl_meet_yes _ _ _ _ _ _ _ _ _ _ c2 c3 c4 c5 hm H2.out H3.out H4.out H5.out _).mono ?_
      rintro e w' ⟨rfl, bb⟩
      (try clear k3)
      (try clear k4)
      (try clear k5)
      (try clear k6)
      (try clear k11)
      replace b0 := bchain b0 bb
      (try replace B3 := B3.kept bb)
      (try replace B4 := B4.kept bb)
      (try replace B5 := B5.kept bb)
      (try replace B6 := B6.kept bb)
      (try replace B11 := B11.kept bb)
      clear bb
      (try have k3 := B3.k)
      (try have k4 := B4.k)
      (try have k5 := B5.k)
      (try have k6 := B6.k)
      (try have k11 := B11.k)
      go_wp2_with (first
        | ((with_reducible refine at_new 11 24 ?_); refine box_new (d := 11) rfl rfl 24 rfl _ zero_cfg ?_; intro w' B11 bb; have n11 := b0.size;  (try have l3_11 := B3.lt); (try have l4_11 := B4.lt); (try have l5_11 := B5.lt); (try have l6_11 := B6.lt); (try clear k3); (try clear k4); (try clear k5); (try clear k6); (try clear k11); replace b0 := bchain b0 bb; (try replace B3 := B3.kept bb); (try replace B4 := B4.kept bb); (try replace B5 := B5.kept bb); (try replace B6 := B6.kept bb);  clear bb; (try have k3 := B3.k); (try have k4 := B4.k); (try have k5 := B5.k); (try have k6 := B6.k); (try have k11 := B11.k))
        | ((with_reducible refine at_load 26 ?_); refine box_load rfl 26 _ rfl _ rfl (by with_reducible assumption) Try.underlying26 rfl (by kernel_rfl) ?_)
        | ((with_reducible refine at_load 28 ?_); refine box_load rfl 28 _ rfl _ rfl (by with_reducible assumption) Try.underlying28 rfl (by kernel_rfl) ?_)
        | ((with_reducible refine at_load 24 ?_); refine box_load rfl 24 _ rfl _ rfl (by with_reducible assumption) Try.underlying24 rfl (by kernel_rfl) ?_)
        | ((with_reducible refine at_loadg 26 ?_); refine box_loadg (by rfl) 26 _ rfl _ rfl (by with_reducible assumption) Try.underlying26 rfl (by kernel_rfl) ?_)
        | ((with_reducible refine at_loadg 28 ?_); refine box_loadg (by rfl) 28 _ rfl _ rfl (by with_reducible assumption) Try.underlying28 rfl (by kernel_rfl) ?_)
        | ((with_reducible refine at_loadg 24 ?_); refine box_loadg (by rfl) 24 _ rfl _ rfl (by with_reducible assumption) Try.underlying24 rfl (by kernel_rfl) ?_)
        | ((with_reducible refine at_store 24 ?_); refine box_store rfl 24 _ _ rfl _ _ rfl rfl (by with_reducible exact B11) (by kernel_rfl) (by rfl) (by simp [Value.oneCell']) ?_; clear B11; intro w' B11 gg; (try clear k3); (try clear k4); (try clear k5); (try clear k6); (try clear k11); replace b0 := below_at b0 gg b0.size n11; (try replace B3 := B3.grown gg (Nat.ne_of_lt l3_11)); (try replace B4 := B4.grown gg (Nat.ne_of_lt l4_11)); (try replace B5 := B5.grown gg (Nat.ne_of_lt l5_11)); (try replace B6 := B6.grown gg (Nat.ne_of_lt l6_11)); clear gg; (try have k3 := B3.k); (try have k4 := B4.k); (try have k5 := B5.k); (try have k6 := B6.k); (try have k11 := B11.k)))
      all_goals
        go_ret
        refine ⟨ret_bool ?_, b0⟩
        simp
set_option maxRecDepth 100000 in
theorem walk (a0 : Option Addr) (len0 cap0 : Nat) (z0 : List Int) (w : World) (w0 : IsRow .u8 w a0 len0 cap0 z0) :
    Calls Try.prog 3 #[.slice a0 len0 cap0] w fun e w' => e = .returned (.bool true) ∧ Below w.heap.size w w' := by
  by_cases hs0 : (1048576 : Int) < (len0 : Int)
  · go_enter Try.func3, Try.ntmps3
    go_wp2
    go_ret
    exact ⟨rfl, Below.refl _ _⟩
  obtain ⟨cz, hR0, _⟩ := w0.rd (by omega)
  exact small a0 len0 cap0 cz w hs0 hR0
end Go.Proofs.Ytaoafikkamnjlaa.fnNegHear
