/- Who hears, drawn by a code. -/
import Derived.Test.YtkogmnjgpaocbaaDrawRx
namespace Go.Proofs.Ytkogmnjgpaocbaa
open Go.RowKit
set_option maxRecDepth 100000 in
set_option maxHeartbeats 2000000 in
theorem drawRx_any (v : Value) (zs : List Nat) (w : World) (h : Rd w v zs) :
    Calls Try.prog 13 #[v] w fun e w' => ∃ (ex ct len : Int) (a : Option Addr) (k cap : Nat) (ag bu de : Bool), e = .returned (.agg #[.int .i64 ex, .int .i64 ct, .int .i64 len, .slice a k cap, .bool ag, .bool bu, .bool de]) ∧ Below w.heap.size w w' := by
  have b0 : Below w.heap.size w w := Below.refl _ _
  go_enter Try.func13, Try.ntmps13
  go_wp2_with (first
    | ((with_reducible refine at_new 2 26 ?_); refine box_new (d := 2) rfl rfl 26 rfl _ zero_rx ?_; intro w' B2 bb; have n2 := b0.size; (try have lr_2 := r.lt);   replace b0 := bchain b0 bb; (try replace r := r.kept bb);  clear bb; skip)
    | ((with_reducible refine at_store 26 ?_); refine box_store rfl 26 _ _ rfl _ _ rfl rfl (by with_reducible exact B2) (by kernel_rfl) (by rfl) (by simp [Value.oneCell']) ?_; clear B2; intro w' B2 gg;  replace b0 := below_at b0 gg b0.size n2; (try replace r := r.at gg (Nat.le_trans r.1 (Nat.le_of_lt lr_2)) (Nat.ne_of_gt lr_2));  clear gg; skip))
  refine (open_any v zs _ (h.kept b0)).mono ?_
  have nr := b0.size
  have l2_r := B2.lt
  rintro e w' ⟨rfl, ⟨cs, r⟩, bb⟩
  replace b0 := bchain b0 bb
  (try replace B2 := B2.kept bb)
  clear bb
  skip
  go_wp2_with (first
    | ((with_reducible refine at_new 2 26 ?_); refine box_new (d := 2) rfl rfl 26 rfl _ zero_rx ?_; intro w' B2 bb; have n2 := b0.size; (try have lr_2 := r.lt);   replace b0 := bchain b0 bb; (try replace r := r.kept bb);  clear bb; skip)
    | ((with_reducible refine at_store 26 ?_); refine box_store rfl 26 _ _ rfl _ _ rfl rfl (by with_reducible exact B2) (by kernel_rfl) (by rfl) (by simp [Value.oneCell']) ?_; clear B2; intro w' B2 gg;  replace b0 := below_at b0 gg b0.size n2; (try replace r := r.at gg (Nat.le_trans r.1 (Nat.le_of_lt lr_2)) (Nat.ne_of_gt lr_2));  clear gg; skip))
  refine (rx_any _ _ _ cs 2 _ r (by omega) (by omega)).mono ?_
  clear r
  rintro e w' ⟨ex, ct, len, a, k, cap, ag, bu, de, p1, rfl, _, r, gg⟩
  replace b0 := below_at b0 gg b0.size (by omega)
  (try replace B2 := B2.grown gg (by omega))
  clear gg
  skip
  go_wp2_with (first
    | ((with_reducible refine at_new 2 26 ?_); refine box_new (d := 2) rfl rfl 26 rfl _ zero_rx ?_; intro w' B2 bb; have n2 := b0.size; (try have lr_2 := r.lt);   replace b0 := bchain b0 bb; (try replace r := r.kept bb);  clear bb; skip)
    | ((with_reducible refine at_store 26 ?_); refine box_store rfl 26 _ _ rfl _ _ rfl rfl (by with_reducible exact B2) (by kernel_rfl) (by rfl) (by simp [Value.oneCell']) ?_; clear B2; intro w' B2 gg;  replace b0 := below_at b0 gg b0.size n2; (try replace r := r.at gg (Nat.le_trans r.1 (Nat.le_of_lt lr_2)) (Nat.ne_of_gt lr_2));  clear gg; skip))
  refine bodyPost_ret (results_cell_row rfl _ _ _ _ _ _ _ rfl B2 Try.underlying26 rfl (by kernel_rfl)) rfl ?_
  exact ⟨_, _, _, _, _, _, _, _, _, rfl, b0⟩
end Go.Proofs.Ytkogmnjgpaocbaa
