/- What has come of a message, drawn by a code. -/
import Derived.Test.YtaoafikkamnjlaaDrawJoin
namespace Go.Proofs.Ytaoafikkamnjlaa
open Go.RowKit
set_option maxRecDepth 100000 in
set_option maxHeartbeats 2000000 in
theorem drawJoin_any (v : Value) (zs : List Nat) (w : World) (h : Rd w v zs) :
    Calls Try.prog 47 #[v] w fun e w' => ∃ (len : Int) (a : Option Addr) (k cap : Nat), e = .returned (.agg #[.int .i64 len, .slice a k cap]) ∧ -1 ≤ len ∧ len ≤ 25 ∧ k ≤ 25 ∧ Below w.heap.size w w' := by
  have b0 : Below w.heap.size w w := Below.refl _ _
  go_enter Try.func47, Try.ntmps47
  go_wp2_with (first
    | ((with_reducible refine at_new 2 56 ?_); refine box_new (d := 2) rfl rfl 56 rfl _ zero_join ?_; intro w' B2 bb; have n2 := b0.size; (try have lr_2 := r.lt);   replace b0 := bchain b0 bb; (try replace r := r.kept bb);  clear bb; skip)
    | ((with_reducible refine at_store 56 ?_); refine box_store rfl 56 _ _ rfl _ _ rfl rfl (by with_reducible exact B2) (by kernel_rfl) (by rfl) (by simp [Value.oneCell']) ?_; clear B2; intro w' B2 gg;  replace b0 := below_at b0 gg b0.size n2; (try replace r := r.at gg (Nat.le_trans r.1 (Nat.le_of_lt lr_2)) (Nat.ne_of_gt lr_2));  clear gg; skip))
  refine (open_any v zs _ (h.kept b0)).mono ?_
  have nr := b0.size
  have l2_r := B2.lt
  rintro e w' ⟨rfl, ⟨cs, r⟩, bb⟩
  replace b0 := bchain b0 bb
  (try replace B2 := B2.kept bb)
  clear bb
  skip
  go_wp2_with (first
    | ((with_reducible refine at_new 2 56 ?_); refine box_new (d := 2) rfl rfl 56 rfl _ zero_join ?_; intro w' B2 bb; have n2 := b0.size; (try have lr_2 := r.lt);   replace b0 := bchain b0 bb; (try replace r := r.kept bb);  clear bb; skip)
    | ((with_reducible refine at_store 56 ?_); refine box_store rfl 56 _ _ rfl _ _ rfl rfl (by with_reducible exact B2) (by kernel_rfl) (by rfl) (by simp [Value.oneCell']) ?_; clear B2; intro w' B2 gg;  replace b0 := below_at b0 gg b0.size n2; (try replace r := r.at gg (Nat.le_trans r.1 (Nat.le_of_lt lr_2)) (Nat.ne_of_gt lr_2));  clear gg; skip))
  refine (join_any _ _ _ cs 2 _ r (by omega) (by omega)).mono ?_
  clear r
  rintro e w' ⟨len, a, k, cap, p1, rfl, h1, h2, h3, _, r, gg⟩
  replace b0 := below_at b0 gg b0.size (by omega)
  (try replace B2 := B2.grown gg (by omega))
  clear gg
  skip
  go_wp2_with (first
    | ((with_reducible refine at_new 2 56 ?_); refine box_new (d := 2) rfl rfl 56 rfl _ zero_join ?_; intro w' B2 bb; have n2 := b0.size; (try have lr_2 := r.lt);   replace b0 := bchain b0 bb; (try replace r := r.kept bb);  clear bb; skip)
    | ((with_reducible refine at_store 56 ?_); refine box_store rfl 56 _ _ rfl _ _ rfl rfl (by with_reducible exact B2) (by kernel_rfl) (by rfl) (by simp [Value.oneCell']) ?_; clear B2; intro w' B2 gg;  replace b0 := below_at b0 gg b0.size n2; (try replace r := r.at gg (Nat.le_trans r.1 (Nat.le_of_lt lr_2)) (Nat.ne_of_gt lr_2));  clear gg; skip))
  refine bodyPost_ret (results_cell_row rfl _ _ _ _ _ _ _ rfl B2 Try.underlying56 rfl (by kernel_rfl)) rfl ?_
  exact ⟨_, _, _, _, rfl, h1, h2, h3, b0⟩
end Go.Proofs.Ytaoafikkamnjlaa
