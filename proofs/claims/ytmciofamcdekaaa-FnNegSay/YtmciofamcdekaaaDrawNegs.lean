/- One that agrees with another one, as the laws draw it. -/
import Derived.Test.YtmciofamcdekaaaDrawNeg
namespace Go.Proofs.Ytmciofamcdekaaa
open Go.RowKit
set_option maxHeartbeats 2000000 in
theorem drawNegOk_any (v : Value) (zs : List Nat) (w : World) (h : Rd w v zs) :
    Calls Try.prog 32 #[v] w fun e w' => ∃ s : Neg, e = .returned (.agg s.cs) ∧ (s.ok = true → s.asks.mode = s.own.mode) ∧ Below w.heap.size w w' := by
  have b0 : Below w.heap.size w w := Below.refl _ _
  go_enter Try.func32, Try.ntmps32
  go_wp2_with (first
    | ((with_reducible refine at_new 2 26 ?_); refine box_new (d := 2) rfl rfl 26 rfl _ zero_neg ?_; intro w' B2 bb; have n2 := b0.size; (try have lr_2 := r.lt);   replace b0 := bchain b0 bb; (try replace r := r.kept bb);  clear bb; skip))
  refine (open_any v zs _ (h.kept b0)).mono ?_
  have nr := b0.size
  have l2_r := B2.lt
  rintro e w' ⟨rfl, ⟨cs, r⟩, bb⟩
  replace b0 := bchain b0 bb
  (try replace B2 := B2.kept bb)
  clear bb
  skip
  go_wp2_with fail
  refine (neg_any _ _ _ cs 2 _ r (by omega) (by omega)).mono ?_
  clear r
  rintro e w' ⟨s, p1, rfl, hJ, hp1, r, gg⟩
  replace b0 := below_at b0 gg b0.size (by omega)
  (try replace B2 := B2.grown gg (by omega))
  clear gg
  skip
  go_wp2_with (first
    | ((with_reducible refine at_store 26 ?_); refine box_store rfl 26 _ _ rfl _ _ rfl rfl (by with_reducible exact B2) (by kernel_rfl) (by rfl) (by simp [Neg.cs, Value.oneCell']) ?_; clear B2; intro w' B2 gg;  replace b0 := below_at b0 gg b0.size n2; (try replace r := r.at gg (Nat.le_trans r.1 (Nat.le_of_lt lr_2)) (Nat.ne_of_gt lr_2));  clear gg; skip))
  refine bodyPost_ret (results_cell_row rfl _ _ _ _ _ _ _ rfl B2 Try.underlying26 rfl (by kernel_rfl)) rfl ?_
  exact ⟨s, rfl, hJ, b0⟩
set_option maxHeartbeats 2000000 in
theorem drawNegSay_any (v : Value) (zs : List Nat) (w : World) (h : Rd w v zs) :
    Calls Try.prog 34 #[v] w fun e w' => ∃ s : Neg, e = .returned (.agg s.cs) ∧ (s.ok = true → s.asks.mode = s.own.mode) ∧ Below w.heap.size w w' := by
  have b0 : Below w.heap.size w w := Below.refl _ _
  go_enter Try.func34, Try.ntmps34
  go_wp2_with (first
    | ((with_reducible refine at_new 2 26 ?_); refine box_new (d := 2) rfl rfl 26 rfl _ zero_neg ?_; intro w' B2 bb; have n2 := b0.size; (try have lr_2 := r.lt);   replace b0 := bchain b0 bb; (try replace r := r.kept bb);  clear bb; skip))
  refine (open_any v zs _ (h.kept b0)).mono ?_
  have nr := b0.size
  have l2_r := B2.lt
  rintro e w' ⟨rfl, ⟨cs, r⟩, bb⟩
  replace b0 := bchain b0 bb
  (try replace B2 := B2.kept bb)
  clear bb
  skip
  go_wp2_with fail
  refine (neg_any _ _ _ cs 6 _ r (by omega) (by omega)).mono ?_
  clear r
  rintro e w' ⟨s, p1, rfl, hJ, hp1, r, gg⟩
  replace b0 := below_at b0 gg b0.size (by omega)
  (try replace B2 := B2.grown gg (by omega))
  clear gg
  skip
  go_wp2_with (first
    | ((with_reducible refine at_store 26 ?_); refine box_store rfl 26 _ _ rfl _ _ rfl rfl (by with_reducible exact B2) (by kernel_rfl) (by rfl) (by simp [Neg.cs, Value.oneCell']) ?_; clear B2; intro w' B2 gg;  replace b0 := below_at b0 gg b0.size n2; (try replace r := r.at gg (Nat.le_trans r.1 (Nat.le_of_lt lr_2)) (Nat.ne_of_gt lr_2));  clear gg; skip))
  refine bodyPost_ret (results_cell_row rfl _ _ _ _ _ _ _ rfl B2 Try.underlying26 rfl (by kernel_rfl)) rfl ?_
  exact ⟨s, rfl, hJ, b0⟩
set_option maxHeartbeats 2000000 in
theorem drawNegNew_any (v : Value) (zs : List Nat) (w : World) (h : Rd w v zs) :
    Calls Try.prog 35 #[v] w fun e w' => ∃ x1 x2 x3 x4 x5 : Int, e = .returned (.agg #[.int .i64 x1, .int .i64 x2, .int .i64 x3, .int .i64 x4, .int .i64 x5]) ∧ Below w.heap.size w w' := by
  have b0 : Below w.heap.size w w := Below.refl _ _
  go_enter Try.func35, Try.ntmps35
  go_wp2_with (first
    | ((with_reducible refine at_new 2 24 ?_); refine box_new (d := 2) rfl rfl 24 rfl _ zero_cfg ?_; intro w' B2 bb; have n2 := b0.size; (try have lr_2 := r.lt);   replace b0 := bchain b0 bb; (try replace r := r.kept bb);  clear bb; skip))
  refine (open_any v zs _ (h.kept b0)).mono ?_
  have nr := b0.size
  have l2_r := B2.lt
  rintro e w' ⟨rfl, ⟨cs, r⟩, bb⟩
  replace b0 := bchain b0 bb
  (try replace B2 := B2.kept bb)
  clear bb
  skip
  go_wp2_with fail
  refine (cfg_any _ _ _ cs 4 _ r (by omega) (by omega)).mono ?_
  clear r
  rintro e w' ⟨x1, x2, x3, x4, x5, p1, rfl, _, _, _, hp1, r, gg⟩
  replace b0 := below_at b0 gg b0.size (by omega)
  (try replace B2 := B2.grown gg (by omega))
  clear gg
  skip
  go_wp2_with (first
    | ((with_reducible refine at_store 24 ?_); refine box_store rfl 24 _ _ rfl _ _ rfl rfl (by with_reducible exact B2) (by kernel_rfl) (by rfl) (by simp [Value.oneCell']) ?_; clear B2; intro w' B2 gg;  replace b0 := below_at b0 gg b0.size n2; (try replace r := r.at gg (Nat.le_trans r.1 (Nat.le_of_lt lr_2)) (Nat.ne_of_gt lr_2));  clear gg; skip))
  refine bodyPost_ret (results_cell_row rfl _ _ _ _ _ _ _ rfl B2 Try.underlying24 rfl (by kernel_rfl)) rfl ?_
  exact ⟨x1, x2, x3, x4, x5, rfl, b0⟩
end Go.Proofs.Ytmciofamcdekaaa
