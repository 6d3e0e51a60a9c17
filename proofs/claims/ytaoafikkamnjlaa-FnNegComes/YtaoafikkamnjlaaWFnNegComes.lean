/- The law of NegComes, promise 2, returns true at every code. -/
import Derived.Test.YtaoafikkamnjlaaNegDone
import Derived.Test.YtaoafikkamnjlaaComesLaw
import Derived.Test.YtaoafikkamnjlaaNegEq
import Derived.Test.YtaoafikkamnjlaaOpenGuard
import Derived.Test.YtaoafikkamnjlaaLiOk
import Derived.RowKit3
namespace Go.Proofs.Ytaoafikkamnjlaa.fnNegComes
open Go.RowKit
set_option maxRecDepth 100000 in
set_option maxHeartbeats 8000000 in
theorem small (a0 : Option Addr) (len0 cap0 : Nat) (cz : List Nat) (w : World) (hs0 : ¬ (1048576 : Int) < (len0 : Int)) (hR0 : Rd w (.slice a0 len0 cap0) cz) :
    Calls Try.prog 5 #[.slice a0 len0 cap0] w fun e w' => e = .returned (.bool true) ∧ Below w.heap.size w w' := by
  go_enter Try.func5, Try.ntmps5
  go_wp2_with fail
  refine (play_any _ cz _ hR0).mono ?_
  rintro e w1 ⟨a1, a2, a3, a4, a5, b1, b2, b3, b4, b5, v', ks, rfl, hA, hB, hks, hkl, O, bq⟩
  clear hR0
  have b0 : Below w1.heap.size w1 w1 := Below.refl _ _
  go_wp2_with (first
    | ((with_reducible refine at_new 3 24 ?_); refine box_new (d := 3) rfl rfl 24 rfl _ zero_cfg ?_; intro w' B3 bb; have n3 := b0.size;  (try have l4_3 := B4.lt);  replace b0 := bchain b0 bb;  (try replace B4 := B4.kept bb); clear bb; skip)
    | ((with_reducible refine at_new 4 24 ?_); refine box_new (d := 4) rfl rfl 24 rfl _ zero_cfg ?_; intro w' B4 bb; have n4 := b0.size;  (try have l3_4 := B3.lt);  replace b0 := bchain b0 bb; (try replace B3 := B3.kept bb);  clear bb; skip)
    | ((with_reducible refine at_load 24 ?_); refine box_load rfl 24 _ rfl _ rfl (by with_reducible assumption) Try.underlying24 rfl (by kernel_rfl) ?_)
    | ((with_reducible refine at_store 24 ?_); refine box_store rfl 24 _ _ rfl _ _ rfl rfl (by with_reducible exact B3) (by kernel_rfl) (by rfl) (by simp [Value.oneCell']) ?_; clear B3; intro w' B3 gg;  replace b0 := below_at b0 gg b0.size n3; (try replace B4 := B4.grown gg (Nat.ne_of_gt l3_4)); clear gg; skip)
    | ((with_reducible refine at_store 24 ?_); refine box_store rfl 24 _ _ rfl _ _ rfl rfl (by with_reducible exact B4) (by kernel_rfl) (by rfl) (by simp [Value.oneCell']) ?_; clear B4; intro w' B4 gg;  replace b0 := below_at b0 gg b0.size n4; (try replace B3 := B3.grown gg (Nat.ne_of_lt l3_4)); clear gg; skip))
  refine (run_any a1 a2 a3 a4 a5 b1 b2 b3 b4 b5 _ ks _ _ hA hB (O.kept b0) hks hkl).mono ?_
  rintro e w2 ⟨p, gs0, gn, v0, v1, rfl, hh, hsz, H, bz⟩
  clear O hks hkl
  have bw := b0
  clear b0
  have b0 : Below w2.heap.size w2 w2 := Below.refl _ _
  go_wp2_with (first
    | ((with_reducible refine at_new 6 26 ?_); refine box_new (d := 6) rfl rfl 26 rfl _ zero_neg ?_; intro wv B6 bb; have n6 := b0.size;  (try have l7_6 := B7.lt);  replace b0 := bchain b0 bb;  (try replace B7 := B7.kept bb); clear bb; skip)
    | ((with_reducible refine at_new 7 26 ?_); refine box_new (d := 7) rfl rfl 26 rfl _ zero_neg ?_; intro wv B7 bb; have n7 := b0.size;  (try have l6_7 := B6.lt);  replace b0 := bchain b0 bb; (try replace B6 := B6.kept bb);  clear bb; skip)
    | ((with_reducible refine at_load 26 ?_); refine box_load rfl 26 _ rfl _ rfl (by with_reducible assumption) Try.underlying26 rfl (by kernel_rfl) ?_)
    | ((with_reducible refine at_store 26 ?_); refine box_store rfl 26 _ _ rfl _ _ rfl rfl (by with_reducible exact B6) (by kernel_rfl) (by rfl) (by simp [Neg.cs, Value.oneCell']) ?_; clear B6; intro wv B6 gg;  replace b0 := below_at b0 gg b0.size n6; (try replace B7 := B7.grown gg (Nat.ne_of_gt l6_7)); clear gg; skip)
    | ((with_reducible refine at_store 26 ?_); refine box_store rfl 26 _ _ rfl _ _ rfl rfl (by with_reducible exact B7) (by kernel_rfl) (by rfl) (by simp [Neg.cs, Value.oneCell']) ?_; clear B7; intro wv B7 gg;  replace b0 := below_at b0 gg b0.size n7; (try replace B6 := B6.grown gg (Nat.ne_of_lt l6_7)); clear gg; skip)
    | ((with_reducible refine at_lit 46 ?_); refine wpList_lit2 _ _ rfl rfl ?_; refine Hid.out ?_))
  unfold Hid
  have H5 := at_again (H.kept b0) (Nat.le_trans bz.size b0.size)
  replace bz := bchain (bchain bz b0) (bo_alloc wv (.cells (p.x.cs ++ p.y.cs) 26))
  generalize wv.alloc (.cells (p.x.cs ++ p.y.cs) 26) = w5 at H5 bz ⊢
  generalize wv.heap.size = gs at H5 ⊢
  clear H b0 B6 B7
  have hwt := p.wt_most
  have hC0 : Calm ⟨a1, a2, a3, a4, a5⟩ ⟨b1, b2, b3, b4, b5⟩ 0 p := Calm.zero hh.1 hh.2
  obtain ⟨Bz, eB⟩ : ∃ z, z = w'.heap.size := ⟨_, rfl⟩
  rw [← eB] at H5 bz
  have hB3 : _ < Bz := eB ▸ B3.lt
  have hB4 : _ < Bz := eB ▸ B4.lt
  go_wp2_with fail
  go_loopw [8, 9, 10, 11, 12] (fun n8 s9 k10 _ _ wr => ∃ (k : Nat) (p : Two) (v0 v1 : Value), n8 = .slice (some ⟨gn, 0, none⟩) 2 2 ∧ s9 = .slice (some ⟨gs, 0, none⟩) 2 2 ∧ k10 = .int .i64 k ∧ k ≤ 6 ∧ Calm ⟨a1, a2, a3, a4, a5⟩ ⟨b1, b2, b3, b4, b5⟩ (2 * k) p ∧ p.wt ≤ 100 ∧ At wr Bz gs gn v0 v1 p ∧ Below Bz w' wr) (fun _ _ t _ _ _ => 6 - (intOf t).toNat)
  case atStart => exact ⟨0, p, v0, v1, rfl, rfl, rfl, by omega, hC0, by omega, H5, bz⟩
  case round =>
    clear H5 bz hC0 hwt hh hsz
    obtain ⟨K, p, v0, v1, rfl, rfl, rfl, hK6, hC, hwt, H, bz⟩ := hrel
    by_cases hK : K < 6
    · have hKK : (K : Int) < 6 := by omega
      go_wp2_with fail
      go_loopw [8, 9, 11, 12] (fun n8 s9 w11 _ wr => ∃ (k : Nat) (p : Two) (v0 v1 : Value), n8 = .slice (some ⟨gn, 0, none⟩) 2 2 ∧ s9 = .slice (some ⟨gs, 0, none⟩) 2 2 ∧ w11 = .int .i64 k ∧ k ≤ 2 ∧ Calm ⟨a1, a2, a3, a4, a5⟩ ⟨b1, b2, b3, b4, b5⟩ (2 * K + k) p ∧ p.wt ≤ 100 ∧ At wr Bz gs gn v0 v1 p ∧ Below Bz w' wr) (fun _ _ t _ _ => 2 - (intOf t).toNat)
      case atStart => exact ⟨0, p, v0, v1, rfl, rfl, rfl, by omega, hC, hwt, H, bz⟩
      case round =>
        clear H bz hC hwt
        obtain ⟨J, p, v0, v1, rfl, rfl, rfl, hJ2, hC, hwt, H, bz⟩ := hrel
        by_cases hJ : J < 2
        · have hJJ : (J : Int) < 2 := by omega
          have hps := p.size_wt
          go_wp2_with fail
          refine (do_any p _ _ (by omega) _ H (eB ▸ Nat.le_trans (Nat.le_refl _) (eB ▸ bz.size)) (by omega)).mono ?_
          rintro e w7 ⟨rfl, ⟨u0, u1, H2⟩, bd⟩
          have hM := hC.say hA hB
          have hL := Two.left_say (2 * K + J) hwt
          have e2 : (((2 * K + J) % 2 : Nat) : Int) = (J : Int) := by omega
          rw [e2] at hM hL
          replace bz := below_trans bz bd
          generalize p.act (J : Int) 0 = q at H2 hM hL
          clear H hC bd e2 hps
          go_wp2_with fail
          go_loopw [8, 9, 12] (fun n8 s9 n12 wr => ∃ (k : Nat) (p : Two) (v0 v1 : Value), n8 = .slice (some ⟨gn, 0, none⟩) 2 2 ∧ s9 = .slice (some ⟨gs, 0, none⟩) 2 2 ∧ n12 = .int .i64 k ∧ Mid ⟨a1, a2, a3, a4, a5⟩ ⟨b1, b2, b3, b4, b5⟩ (2 * K + J) p ∧ k + p.left k ≤ 400 ∧ At wr Bz gs gn v0 v1 p ∧ Below Bz w' wr) (fun _ _ t _ => 400 - (intOf t).toNat)
          case atStart => exact ⟨0, q, u0, u1, rfl, rfl, rfl, hM, by omega, H2, bz⟩
          case round =>
            clear H2 bz hM hL
            obtain ⟨k, p, v0, v1, rfl, rfl, rfl, hM, hL, H, bz⟩ := hrel
            have hl1 := p.left_pos k
            have hps := p.size_wt
            obtain ⟨ad0, c0, e0⟩ := H.o0.form
            obtain ⟨ad1, c1, e1⟩ := H.o1.form
            subst e0 e1
            have hsz : p.nx.length + p.ny.length ≤ 400 := by simp only [Two.size] at hps; omega
            have hk4 : (k : Int) < 400 := by omega
            have hbs : Bz ≤ w'.heap.size := by omega
            by_cases hz : p.nx = [] ∧ p.ny = []
            · have hz0 : p.nx.length + p.ny.length = 0 := by rw [hz.1, hz.2]; rfl
              go_wp2_with fail
              have H1 := H.drew
              replace bz := bz.drew
              refine region_by (fun wx => Bl wx gn #[(.slice ad0 p.nx.length c0), (.slice ad1 p.ny.length c1)] 49) 14 [(0, true), (1, true), (2, true), (3, true), (4, true), (5, true), (6, true), (7, true), (8, true), (9, true), (10, true), (11, true), (12, true), (13, true)] ⟨none, .assign (.tmp 0), 0, "", #[], none⟩ (by kernel_rfl) (by kernel_rfl) H1.n (fun x _ _ _ _ h => by cases x <;> exact h) ?_
              simp only [arrange, List.map_cons, List.map_nil, List.getD_cons_zero, List.getD_cons_succ]
              clear H
              generalize World.drew _ = dw at bz H1 ⊢
              have H := H1
              clear H1
              refine by_run rfl (.int .i64 (k : Int)) (fun _ _ => run_move rfl) ?_
              simp only [Act.put, List.setIfInBounds_toArray, List.set]
              refine by_run rfl (.bool true) (fun _ _ => by simp [execOp, go_sem]; omega) ?_
              simp only [Act.put, List.setIfInBounds_toArray, List.set]
              refine by_run rfl (.bool true) (fun _ _ => run_move rfl) ?_
              simp only [Act.put, List.setIfInBounds_toArray, List.set]
              refine by_rung (by rfl) (.slice (some ⟨gn, 0, none⟩) 2 2) (fun _ h => run_move rfl) ?_
              simp only [Act.put, List.setIfInBounds_toArray, List.set]
              refine by_rung (by rfl) (.pointer (some ⟨gn, 0, none⟩)) (fun _ h => run_idx_n (k := 0) rfl rfl (by omega)) ?_
              simp only [Act.put, List.setIfInBounds_toArray, List.set]
              refine by_rung (by rfl) (.slice ad0 p.nx.length c0) (fun _ h => run_lds rfl ((h.k 0).trans rfl)) ?_
              simp only [Act.put, List.setIfInBounds_toArray, List.set]
              refine by_rung (by rfl) (.int .i64 (p.nx.length : Int)) (fun _ h => run_len rfl) ?_
              simp only [Act.put, List.setIfInBounds_toArray, List.set]
              refine by_rung (by rfl) (.slice (some ⟨gn, 0, none⟩) 2 2) (fun _ h => run_move rfl) ?_
              simp only [Act.put, List.setIfInBounds_toArray, List.set]
              refine by_rung (by rfl) (.pointer (some ⟨gn, 1, none⟩)) (fun _ h => run_idx_n (k := 1) rfl rfl (by omega)) ?_
              simp only [Act.put, List.setIfInBounds_toArray, List.set]
              refine by_rung (by rfl) (.slice ad1 p.ny.length c1) (fun _ h => run_lds rfl ((h.k 1).trans rfl)) ?_
              simp only [Act.put, List.setIfInBounds_toArray, List.set]
              refine by_rung (by rfl) (.int .i64 (p.ny.length : Int)) (fun _ h => run_len rfl) ?_
              simp only [Act.put, List.setIfInBounds_toArray, List.set]
              refine by_rung (by rfl) (.int .i64 ((p.nx.length + p.ny.length : Nat) : Int)) (fun _ h => run_sum rfl rfl (by omega)) ?_
              simp only [Act.put, List.setIfInBounds_toArray, List.set]
              refine by_rung (by rfl) (.bool false) (fun _ h => by simp [execOp, go_sem]; omega) ?_
              simp only [Act.put, List.setIfInBounds_toArray, List.set]
              refine by_rung (by rfl) (.bool false) (fun _ h => by simp [execOp, go_sem]) ?_
              simp only [Act.put, List.setIfInBounds_toArray, List.set]
              refine by_nil ?_
              go_wp2
              go_roundw
              case rel => exact ⟨J + 1, p, _, _, rfl, rfl, by go_num, by omega, hM.last hz.1 hz.2, by simp [Two.wt, hz.1, hz.2, wt], H, bz⟩
              case measure => simp [intOf]; omega
            · have hz1 : 0 < p.nx.length + p.ny.length := by
                rcases Nat.eq_zero_or_pos (p.nx.length + p.ny.length) with h | h
                · exact absurd ⟨List.length_eq_zero_iff.1 (by omega), List.length_eq_zero_iff.1 (by omega)⟩ hz
                · exact h
              go_wp2_with fail
              have H1 := H.drew
              replace bz := bz.drew
              refine region_by (fun wx => Bl wx gn #[(.slice ad0 p.nx.length c0), (.slice ad1 p.ny.length c1)] 49) 14 [(0, true), (1, true), (2, true), (3, true), (4, true), (5, true), (6, true), (7, true), (8, true), (9, true), (10, true), (11, true), (12, true), (13, true)] ⟨none, .assign (.tmp 0), 0, "", #[], none⟩ (by kernel_rfl) (by kernel_rfl) H1.n (fun x _ _ _ _ h => by cases x <;> exact h) ?_
              simp only [arrange, List.map_cons, List.map_nil, List.getD_cons_zero, List.getD_cons_succ]
              clear H
              generalize World.drew _ = dw at bz H1 ⊢
              have H := H1
              clear H1
              refine by_run rfl (.int .i64 (k : Int)) (fun _ _ => run_move rfl) ?_
              simp only [Act.put, List.setIfInBounds_toArray, List.set]
              refine by_run rfl (.bool true) (fun _ _ => by simp [execOp, go_sem]; omega) ?_
              simp only [Act.put, List.setIfInBounds_toArray, List.set]
              refine by_run rfl (.bool true) (fun _ _ => run_move rfl) ?_
              simp only [Act.put, List.setIfInBounds_toArray, List.set]
              refine by_rung (by rfl) (.slice (some ⟨gn, 0, none⟩) 2 2) (fun _ h => run_move rfl) ?_
              simp only [Act.put, List.setIfInBounds_toArray, List.set]
              refine by_rung (by rfl) (.pointer (some ⟨gn, 0, none⟩)) (fun _ h => run_idx_n (k := 0) rfl rfl (by omega)) ?_
              simp only [Act.put, List.setIfInBounds_toArray, List.set]
              refine by_rung (by rfl) (.slice ad0 p.nx.length c0) (fun _ h => run_lds rfl ((h.k 0).trans rfl)) ?_
              simp only [Act.put, List.setIfInBounds_toArray, List.set]
              refine by_rung (by rfl) (.int .i64 (p.nx.length : Int)) (fun _ h => run_len rfl) ?_
              simp only [Act.put, List.setIfInBounds_toArray, List.set]
              refine by_rung (by rfl) (.slice (some ⟨gn, 0, none⟩) 2 2) (fun _ h => run_move rfl) ?_
              simp only [Act.put, List.setIfInBounds_toArray, List.set]
              refine by_rung (by rfl) (.pointer (some ⟨gn, 1, none⟩)) (fun _ h => run_idx_n (k := 1) rfl rfl (by omega)) ?_
              simp only [Act.put, List.setIfInBounds_toArray, List.set]
              refine by_rung (by rfl) (.slice ad1 p.ny.length c1) (fun _ h => run_lds rfl ((h.k 1).trans rfl)) ?_
              simp only [Act.put, List.setIfInBounds_toArray, List.set]
              refine by_rung (by rfl) (.int .i64 (p.ny.length : Int)) (fun _ h => run_len rfl) ?_
              simp only [Act.put, List.setIfInBounds_toArray, List.set]
              refine by_rung (by rfl) (.int .i64 ((p.nx.length + p.ny.length : Nat) : Int)) (fun _ h => run_sum rfl rfl (by omega)) ?_
              simp only [Act.put, List.setIfInBounds_toArray, List.set]
              refine by_rung (by rfl) (.bool true) (fun _ h => by simp [execOp, go_sem]; omega) ?_
              simp only [Act.put, List.setIfInBounds_toArray, List.set]
              refine by_rung (by rfl) (.bool true) (fun _ h => by simp [execOp, go_sem]) ?_
              simp only [Act.put, List.setIfInBounds_toArray, List.set]
              refine by_nil ?_
              go_wp2_with fail
              refine (do_any p _ _ (by omega) _ H (Nat.le_trans hbs bz.size) (by omega)).mono ?_
              rintro e w8 ⟨rfl, ⟨u0, u1, H2⟩, bd⟩
              have hd := hM.drop hA hB k hz
              have hM2 := hM.step hA hB ((k % 2 : Nat) : Int)
              have e2 : ((k % 2 : Nat) : Int) = (k : Int) % 2 := by omega
              rw [e2] at hd hM2
              go_wp2
              go_roundw
              case rel => exact ⟨k + 1, _, u0, u1, rfl, rfl, by go_num, hM2, by omega, H2, below_trans bz bd⟩
              case measure => simp [intOf]; omega
        · obtain rfl : J = 2 := by omega
          go_wp2
          go_roundw
          case rel => exact ⟨K + 1, p, v0, v1, rfl, rfl, by go_num, by omega, hC, hwt, H, bz⟩
          case measure => simp [intOf]; omega
    · obtain rfl : K = 6 := by omega
      have hD := hC.done hA hB (by omega)
      clear hC hwt
      subst eB
      have b0 := bchain bw bz
      have B9 := H.s
      replace B3 := B3.kept bz
      replace B4 := B4.kept bz
      have n9 : w1.heap.size ≤ gs := Nat.le_trans bw.size H.bs
      clear H bz bw
      have k3 := B3.k
      have k4 := B4.k
      by_cases hm : a1 = b1
      · subst hm
        obtain ⟨hdx, hdy⟩ := hD.1 rfl
        clear hD
        go_wp2_with (first
          | ((with_reducible refine at_load 26 ?_); refine ld_range rfl 26 _ rfl _ _ rfl (by first | exact range_fst B9 | exact range_snd B9) Try.underlying26 rfl (by kernel_rfl) ?_)
          | ((with_reducible refine at_new 13 24 ?_); refine box_new (d := 13) rfl rfl 24 rfl _ zero_cfg ?_; intro w' B13 bb; have n13 := b0.size;  (try have l3_13 := B3.lt); (try have l4_13 := B4.lt); (try have l9_13 := B9.lt); (try have l15_13 := B15.lt); (try clear k3); (try clear k4); replace b0 := bchain b0 bb; (try replace B3 := B3.kept bb); (try replace B4 := B4.kept bb); (try replace B9 := B9.kept bb);  (try replace B15 := B15.kept bb); clear bb; (try have k3 := B3.k); (try have k4 := B4.k))
          | ((with_reducible refine at_new 15 24 ?_); refine box_new (d := 15) rfl rfl 24 rfl _ zero_cfg ?_; intro w' B15 bb; have n15 := b0.size;  (try have l3_15 := B3.lt); (try have l4_15 := B4.lt); (try have l9_15 := B9.lt); (try have l13_15 := B13.lt); (try clear k3); (try clear k4); replace b0 := bchain b0 bb; (try replace B3 := B3.kept bb); (try replace B4 := B4.kept bb); (try replace B9 := B9.kept bb); (try replace B13 := B13.kept bb);  clear bb; (try have k3 := B3.k); (try have k4 := B4.k))
          | ((with_reducible refine at_store 24 ?_); refine box_store rfl 24 _ _ rfl _ _ rfl rfl (by with_reducible exact B13) (by kernel_rfl) (by rfl) (by simp [Opt.cs, Value.oneCell']) ?_; clear B13; intro w' B13 gg; (try clear k3); (try clear k4); replace b0 := below_at b0 gg b0.size n13; (try replace B3 := B3.grown gg (Nat.ne_of_lt l3_13)); (try replace B4 := B4.grown gg (Nat.ne_of_lt l4_13)); (try replace B9 := B9.grown gg (Nat.ne_of_lt l9_13)); (try replace B15 := B15.grown gg (Nat.ne_of_gt l13_15)); clear gg; (try have k3 := B3.k); (try have k4 := B4.k))
          | ((with_reducible refine at_store 24 ?_); refine box_store rfl 24 _ _ rfl _ _ rfl rfl (by with_reducible exact B15) (by kernel_rfl) (by rfl) (by simp [Opt.cs, Value.oneCell']) ?_; clear B15; intro w' B15 gg; (try clear k3); (try clear k4); replace b0 := below_at b0 gg b0.size n15; (try replace B3 := B3.grown gg (Nat.ne_of_lt l3_15)); (try replace B4 := B4.grown gg (Nat.ne_of_lt l4_15)); (try replace B9 := B9.grown gg (Nat.ne_of_lt l9_15)); (try replace B13 := B13.grown gg (Nat.ne_of_lt l13_15)); clear gg; (try have k3 := B3.k); (try have k4 := B4.k)))
        refine (impl_done p.x _).mono ?_
        rintro e w' ⟨rfl, bb⟩
        rw [hdx]
        (try clear k3)
        (try clear k4)
        replace b0 := bchain b0 bb
        (try replace B3 := B3.kept bb)
        (try replace B4 := B4.kept bb)
        (try replace B9 := B9.kept bb)
        (try replace B13 := B13.kept bb)
        (try replace B15 := B15.kept bb)
        clear bb
        (try have k3 := B3.k)
        (try have k4 := B4.k)
        go_wp2_with (first
          | ((with_reducible refine at_load 26 ?_); refine ld_range rfl 26 _ rfl _ _ rfl (by first | exact range_fst B9 | exact range_snd B9) Try.underlying26 rfl (by kernel_rfl) ?_)
          | ((with_reducible refine at_new 13 24 ?_); refine box_new (d := 13) rfl rfl 24 rfl _ zero_cfg ?_; intro w' B13 bb; have n13 := b0.size;  (try have l3_13 := B3.lt); (try have l4_13 := B4.lt); (try have l9_13 := B9.lt); (try have l15_13 := B15.lt); (try clear k3); (try clear k4); replace b0 := bchain b0 bb; (try replace B3 := B3.kept bb); (try replace B4 := B4.kept bb); (try replace B9 := B9.kept bb);  (try replace B15 := B15.kept bb); clear bb; (try have k3 := B3.k); (try have k4 := B4.k))
          | ((with_reducible refine at_new 15 24 ?_); refine box_new (d := 15) rfl rfl 24 rfl _ zero_cfg ?_; intro w' B15 bb; have n15 := b0.size;  (try have l3_15 := B3.lt); (try have l4_15 := B4.lt); (try have l9_15 := B9.lt); (try have l13_15 := B13.lt); (try clear k3); (try clear k4); replace b0 := bchain b0 bb; (try replace B3 := B3.kept bb); (try replace B4 := B4.kept bb); (try replace B9 := B9.kept bb); (try replace B13 := B13.kept bb);  clear bb; (try have k3 := B3.k); (try have k4 := B4.k))
          | ((with_reducible refine at_store 24 ?_); refine box_store rfl 24 _ _ rfl _ _ rfl rfl (by with_reducible exact B13) (by kernel_rfl) (by rfl) (by simp [Opt.cs, Value.oneCell']) ?_; clear B13; intro w' B13 gg; (try clear k3); (try clear k4); replace b0 := below_at b0 gg b0.size n13; (try replace B3 := B3.grown gg (Nat.ne_of_lt l3_13)); (try replace B4 := B4.grown gg (Nat.ne_of_lt l4_13)); (try replace B9 := B9.grown gg (Nat.ne_of_lt l9_13)); (try replace B15 := B15.grown gg (Nat.ne_of_gt l13_15)); clear gg; (try have k3 := B3.k); (try have k4 := B4.k))
          | ((with_reducible refine at_store 24 ?_); refine box_store rfl 24 _ _ rfl _ _ rfl rfl (by with_reducible exact B15) (by kernel_rfl) (by rfl) (by simp [Opt.cs, Value.oneCell']) ?_; clear B15; intro w' B15 gg; (try clear k3); (try clear k4); replace b0 := below_at b0 gg b0.size n15; (try replace B3 := B3.grown gg (Nat.ne_of_lt l3_15)); (try replace B4 := B4.grown gg (Nat.ne_of_lt l4_15)); (try replace B9 := B9.grown gg (Nat.ne_of_lt l9_15)); (try replace B13 := B13.grown gg (Nat.ne_of_lt l13_15)); clear gg; (try have k3 := B3.k); (try have k4 := B4.k)))
        refine (impl_done p.y _).mono ?_
        rintro e w' ⟨rfl, bb⟩
        rw [hdy]
        (try clear k3)
        (try clear k4)
        replace b0 := bchain b0 bb
        (try replace B3 := B3.kept bb)
        (try replace B4 := B4.kept bb)
        (try replace B9 := B9.kept bb)
        (try replace B13 := B13.kept bb)
        (try replace B15 := B15.kept bb)
        clear bb
        (try have k3 := B3.k)
        (try have k4 := B4.k)
        go_wp2_with (first
          | ((with_reducible refine at_load 26 ?_); refine ld_range rfl 26 _ rfl _ _ rfl (by first | exact range_fst B9 | exact range_snd B9) Try.underlying26 rfl (by kernel_rfl) ?_)
          | ((with_reducible refine at_new 13 24 ?_); refine box_new (d := 13) rfl rfl 24 rfl _ zero_cfg ?_; intro w' B13 bb; have n13 := b0.size;  (try have l3_13 := B3.lt); (try have l4_13 := B4.lt); (try have l9_13 := B9.lt); (try have l15_13 := B15.lt); (try clear k3); (try clear k4); replace b0 := bchain b0 bb; (try replace B3 := B3.kept bb); (try replace B4 := B4.kept bb); (try replace B9 := B9.kept bb);  (try replace B15 := B15.kept bb); clear bb; (try have k3 := B3.k); (try have k4 := B4.k))
          | ((with_reducible refine at_new 15 24 ?_); refine box_new (d := 15) rfl rfl 24 rfl _ zero_cfg ?_; intro w' B15 bb; have n15 := b0.size;  (try have l3_15 := B3.lt); (try have l4_15 := B4.lt); (try have l9_15 := B9.lt); (try have l13_15 := B13.lt); (try clear k3); (try clear k4); replace b0 := bchain b0 bb; (try replace B3 := B3.kept bb); (try replace B4 := B4.kept bb); (try replace B9 := B9.kept bb); (try replace B13 := B13.kept bb);  clear bb; (try have k3 := B3.k); (try have k4 := B4.k))
          | ((with_reducible refine at_store 24 ?_); refine box_store rfl 24 _ _ rfl _ _ rfl rfl (by with_reducible exact B13) (by kernel_rfl) (by rfl) (by simp [Opt.cs, Value.oneCell']) ?_; clear B13; intro w' B13 gg; (try clear k3); (try clear k4); replace b0 := below_at b0 gg b0.size n13; (try replace B3 := B3.grown gg (Nat.ne_of_lt l3_13)); (try replace B4 := B4.grown gg (Nat.ne_of_lt l4_13)); (try replace B9 := B9.grown gg (Nat.ne_of_lt l9_13)); (try replace B15 := B15.grown gg (Nat.ne_of_gt l13_15)); clear gg; (try have k3 := B3.k); (try have k4 := B4.k))
          | ((with_reducible refine at_store 24 ?_); refine box_store rfl 24 _ _ rfl _ _ rfl rfl (by with_reducible exact B15) (by kernel_rfl) (by rfl) (by simp [Opt.cs, Value.oneCell']) ?_; clear B15; intro w' B15 gg; (try clear k3); (try clear k4); replace b0 := below_at b0 gg b0.size n15; (try replace B3 := B3.grown gg (Nat.ne_of_lt l3_15)); (try replace B4 := B4.grown gg (Nat.ne_of_lt l4_15)); (try replace B9 := B9.grown gg (Nat.ne_of_lt l9_15)); (try replace B13 := B13.grown gg (Nat.ne_of_lt l13_15)); clear gg; (try have k3 := B3.k); (try have k4 := B4.k)))
        go_ret
        exact ⟨rfl, bchain bq b0⟩
      · obtain ⟨hdx, hdy, hf⟩ := hD.2 hm
        clear hD
        go_wp2_with (first
          | ((with_reducible refine at_load 26 ?_); refine ld_range rfl 26 _ rfl _ _ rfl (by first | exact range_fst B9 | exact range_snd B9) Try.underlying26 rfl (by kernel_rfl) ?_)
          | ((with_reducible refine at_new 13 24 ?_); refine box_new (d := 13) rfl rfl 24 rfl _ zero_cfg ?_; intro w' B13 bb; have n13 := b0.size;  (try have l3_13 := B3.lt); (try have l4_13 := B4.lt); (try have l9_13 := B9.lt); (try have l15_13 := B15.lt); (try clear k3); (try clear k4); replace b0 := bchain b0 bb; (try replace B3 := B3.kept bb); (try replace B4 := B4.kept bb); (try replace B9 := B9.kept bb);  (try replace B15 := B15.kept bb); clear bb; (try have k3 := B3.k); (try have k4 := B4.k))
          | ((with_reducible refine at_new 15 24 ?_); refine box_new (d := 15) rfl rfl 24 rfl _ zero_cfg ?_; intro w' B15 bb; have n15 := b0.size;  (try have l3_15 := B3.lt); (try have l4_15 := B4.lt); (try have l9_15 := B9.lt); (try have l13_15 := B13.lt); (try clear k3); (try clear k4); replace b0 := bchain b0 bb; (try replace B3 := B3.kept bb); (try replace B4 := B4.kept bb); (try replace B9 := B9.kept bb); (try replace B13 := B13.kept bb);  clear bb; (try have k3 := B3.k); (try have k4 := B4.k))
          | ((with_reducible refine at_store 24 ?_); refine box_store rfl 24 _ _ rfl _ _ rfl rfl (by with_reducible exact B13) (by kernel_rfl) (by rfl) (by simp [Opt.cs, Value.oneCell']) ?_; clear B13; intro w' B13 gg; (try clear k3); (try clear k4); replace b0 := below_at b0 gg b0.size n13; (try replace B3 := B3.grown gg (Nat.ne_of_lt l3_13)); (try replace B4 := B4.grown gg (Nat.ne_of_lt l4_13)); (try replace B9 := B9.grown gg (Nat.ne_of_lt l9_13)); (try replace B15 := B15.grown gg (Nat.ne_of_gt l13_15)); clear gg; (try have k3 := B3.k); (try have k4 := B4.k))
          | ((with_reducible refine at_store 24 ?_); refine box_store rfl 24 _ _ rfl _ _ rfl rfl (by with_reducible exact B15) (by kernel_rfl) (by rfl) (by simp [Opt.cs, Value.oneCell']) ?_; clear B15; intro w' B15 gg; (try clear k3); (try clear k4); replace b0 := below_at b0 gg b0.size n15; (try replace B3 := B3.grown gg (Nat.ne_of_lt l3_15)); (try replace B4 := B4.grown gg (Nat.ne_of_lt l4_15)); (try replace B9 := B9.grown gg (Nat.ne_of_lt l9_15)); (try replace B13 := B13.grown gg (Nat.ne_of_lt l13_15)); clear gg; (try have k3 := B3.k); (try have k4 := B4.k)))
        refine (impl_done p.x _).mono ?_
        rintro e w' ⟨rfl, bb⟩
        rw [hdx]
        (try clear k3)
        (try clear k4)
        replace b0 := bchain b0 bb
        (try replace B3 := B3.kept bb)
        (try replace B4 := B4.kept bb)
        (try replace B9 := B9.kept bb)
        (try replace B13 := B13.kept bb)
        (try replace B15 := B15.kept bb)
        clear bb
        (try have k3 := B3.k)
        (try have k4 := B4.k)
        go_wp2_with (first
          | ((with_reducible refine at_load 26 ?_); refine ld_range rfl 26 _ rfl _ _ rfl (by first | exact range_fst B9 | exact range_snd B9) Try.underlying26 rfl (by kernel_rfl) ?_)
          | ((with_reducible refine at_new 13 24 ?_); refine box_new (d := 13) rfl rfl 24 rfl _ zero_cfg ?_; intro w' B13 bb; have n13 := b0.size;  (try have l3_13 := B3.lt); (try have l4_13 := B4.lt); (try have l9_13 := B9.lt); (try have l15_13 := B15.lt); (try clear k3); (try clear k4); replace b0 := bchain b0 bb; (try replace B3 := B3.kept bb); (try replace B4 := B4.kept bb); (try replace B9 := B9.kept bb);  (try replace B15 := B15.kept bb); clear bb; (try have k3 := B3.k); (try have k4 := B4.k))
          | ((with_reducible refine at_new 15 24 ?_); refine box_new (d := 15) rfl rfl 24 rfl _ zero_cfg ?_; intro w' B15 bb; have n15 := b0.size;  (try have l3_15 := B3.lt); (try have l4_15 := B4.lt); (try have l9_15 := B9.lt); (try have l13_15 := B13.lt); (try clear k3); (try clear k4); replace b0 := bchain b0 bb; (try replace B3 := B3.kept bb); (try replace B4 := B4.kept bb); (try replace B9 := B9.kept bb); (try replace B13 := B13.kept bb);  clear bb; (try have k3 := B3.k); (try have k4 := B4.k))
          | ((with_reducible refine at_store 24 ?_); refine box_store rfl 24 _ _ rfl _ _ rfl rfl (by with_reducible exact B13) (by kernel_rfl) (by rfl) (by simp [Opt.cs, Value.oneCell']) ?_; clear B13; intro w' B13 gg; (try clear k3); (try clear k4); replace b0 := below_at b0 gg b0.size n13; (try replace B3 := B3.grown gg (Nat.ne_of_lt l3_13)); (try replace B4 := B4.grown gg (Nat.ne_of_lt l4_13)); (try replace B9 := B9.grown gg (Nat.ne_of_lt l9_13)); (try replace B15 := B15.grown gg (Nat.ne_of_gt l13_15)); clear gg; (try have k3 := B3.k); (try have k4 := B4.k))
          | ((with_reducible refine at_store 24 ?_); refine box_store rfl 24 _ _ rfl _ _ rfl rfl (by with_reducible exact B15) (by kernel_rfl) (by rfl) (by simp [Opt.cs, Value.oneCell']) ?_; clear B15; intro w' B15 gg; (try clear k3); (try clear k4); replace b0 := below_at b0 gg b0.size n15; (try replace B3 := B3.grown gg (Nat.ne_of_lt l3_15)); (try replace B4 := B4.grown gg (Nat.ne_of_lt l4_15)); (try replace B9 := B9.grown gg (Nat.ne_of_lt l9_15)); (try replace B13 := B13.grown gg (Nat.ne_of_lt l13_15)); clear gg; (try have k3 := B3.k); (try have k4 := B4.k)))
        refine (impl_done p.y _).mono ?_
        rintro e w' ⟨rfl, bb⟩
        rw [hdy]
        (try clear k3)
        (try clear k4)
        replace b0 := bchain b0 bb
        (try replace B3 := B3.kept bb)
        (try replace B4 := B4.kept bb)
        (try replace B9 := B9.kept bb)
        (try replace B13 := B13.kept bb)
        (try replace B15 := B15.kept bb)
        clear bb
        (try have k3 := B3.k)
        (try have k4 := B4.k)
        cases hfx : p.x.fails
        · have hfy : p.y.fails = true := hf.resolve_left (by rw [hfx]; simp)
          have c20 := cell_fst2 B9 hfx
          have c41 := cell_snd2 B9 hfy
          go_wp2_with (first
            | ((with_reducible refine at_load 26 ?_); refine ld_range rfl 26 _ rfl _ _ rfl (by first | exact range_fst B9 | exact range_snd B9) Try.underlying26 rfl (by kernel_rfl) ?_)
            | ((with_reducible refine at_new 15 24 ?_); refine box_new (d := 15) rfl rfl 24 rfl _ zero_cfg ?_; intro w' B15 bb; have n15 := b0.size;  (try have l3_15 := B3.lt); (try have l4_15 := B4.lt); (try have l9_15 := B9.lt); (try have l13_15 := B13.lt); (try clear k3); (try clear k4); (try clear c20); (try clear c41); replace b0 := bchain b0 bb; (try replace B3 := B3.kept bb); (try replace B4 := B4.kept bb); (try replace B9 := B9.kept bb); (try replace B13 := B13.kept bb);  clear bb; (try have k3 := B3.k); (try have k4 := B4.k); (try have c20 := cell_fst2 B9 hfx); (try have c41 := cell_snd2 B9 hfy))
            | ((with_reducible refine at_store 24 ?_); refine box_store rfl 24 _ _ rfl _ _ rfl rfl (by with_reducible exact B15) (by kernel_rfl) (by rfl) (by simp [Opt.cs, Value.oneCell']) ?_; clear B15; intro w' B15 gg; (try clear k3); (try clear k4); (try clear c20); (try clear c41); replace b0 := below_at b0 gg b0.size n15; (try replace B3 := B3.grown gg (Nat.ne_of_lt l3_15)); (try replace B4 := B4.grown gg (Nat.ne_of_lt l4_15)); (try replace B9 := B9.grown gg (Nat.ne_of_lt l9_15)); (try replace B13 := B13.grown gg (Nat.ne_of_lt l13_15)); clear gg; (try have k3 := B3.k); (try have k4 := B4.k); (try have c20 := cell_fst2 B9 hfx); (try have c41 := cell_snd2 B9 hfy)))
          go_ret
          exact ⟨rfl, bchain bq b0⟩
        · have c20 := cell_fst2 B9 hfx
          go_wp2_with (first
            | ((with_reducible refine at_load 26 ?_); refine ld_range rfl 26 _ rfl _ _ rfl (by first | exact range_fst B9 | exact range_snd B9) Try.underlying26 rfl (by kernel_rfl) ?_)
            | ((with_reducible refine at_new 15 24 ?_); refine box_new (d := 15) rfl rfl 24 rfl _ zero_cfg ?_; intro w' B15 bb; have n15 := b0.size;  (try have l3_15 := B3.lt); (try have l4_15 := B4.lt); (try have l9_15 := B9.lt); (try have l13_15 := B13.lt); (try clear k3); (try clear k4); (try clear c20); (try clear c41); replace b0 := bchain b0 bb; (try replace B3 := B3.kept bb); (try replace B4 := B4.kept bb); (try replace B9 := B9.kept bb); (try replace B13 := B13.kept bb);  clear bb; (try have k3 := B3.k); (try have k4 := B4.k); (try have c20 := cell_fst2 B9 hfx); (try have c41 := cell_snd2 B9 hfy))
            | ((with_reducible refine at_store 24 ?_); refine box_store rfl 24 _ _ rfl _ _ rfl rfl (by with_reducible exact B15) (by kernel_rfl) (by rfl) (by simp [Opt.cs, Value.oneCell']) ?_; clear B15; intro w' B15 gg; (try clear k3); (try clear k4); (try clear c20); (try clear c41); replace b0 := below_at b0 gg b0.size n15; (try replace B3 := B3.grown gg (Nat.ne_of_lt l3_15)); (try replace B4 := B4.grown gg (Nat.ne_of_lt l4_15)); (try replace B9 := B9.grown gg (Nat.ne_of_lt l9_15)); (try replace B13 := B13.grown gg (Nat.ne_of_lt l13_15)); clear gg; (try have k3 := B3.k); (try have k4 := B4.k); (try have c20 := cell_fst2 B9 hfx); (try have c41 := cell_snd2 B9 hfy)))
          go_ret
          exact ⟨rfl, bchain bq b0⟩
set_option maxRecDepth 100000 in
theorem walk (a0 : Option Addr) (len0 cap0 : Nat) (z0 : List Int) (w : World) (w0 : IsRow .u8 w a0 len0 cap0 z0) :
    Calls Try.prog 5 #[.slice a0 len0 cap0] w fun e w' => e = .returned (.bool true) ∧ Below w.heap.size w w' := by
  by_cases hs0 : (1048576 : Int) < (len0 : Int)
  · go_enter Try.func5, Try.ntmps5
    go_wp2
    go_ret
    exact ⟨rfl, Below.refl _ _⟩
  obtain ⟨cz, hR0, _⟩ := w0.rd (by omega)
  exact small a0 len0 cap0 cz w hs0 hR0
end Go.Proofs.Ytaoafikkamnjlaa.fnNegComes
