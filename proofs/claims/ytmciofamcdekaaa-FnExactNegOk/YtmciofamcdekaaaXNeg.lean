/- What the exact laws do with one that agrees with another one, and with what one says: a copy, comparisons. -/
import Derived.Test.YtmciofamcdekaaaNegLaw
import Derived.Test.YtmciofamcdekaaaXCfg
namespace Go.Proofs.Ytmciofamcdekaaa
open Go.RowKit

set_option maxHeartbeats 2000000 in
theorem toNeg_v (o1 o2 o3 o4 o5 a1 a2 a3 a4 a5 m1 m2 m3 m4 m5 y1 y2 y3 y4 y5 : Int) (f : Bool) (w : World) :
    Calls Try.prog 20 #[.agg #[.int .i64 o1, .int .i64 o2, .int .i64 o3, .int .i64 o4, .int .i64 o5, .int .i64 a1, .int .i64 a2, .int .i64 a3, .int .i64 a4, .int .i64 a5, .int .i64 m1, .int .i64 m2, .int .i64 m3, .int .i64 m4, .int .i64 m5, .int .i64 y1, .int .i64 y2, .int .i64 y3, .int .i64 y4, .int .i64 y5, .bool f]] w fun e w' => e = .returned (.agg #[.int .i64 o1, .int .i64 o2, .int .i64 o3, .int .i64 o4, .int .i64 o5, .int .i64 a1, .int .i64 a2, .int .i64 a3, .int .i64 a4, .int .i64 a5, .int .i64 m1, .int .i64 m2, .int .i64 m3, .int .i64 m4, .int .i64 m5, .int .i64 y1, .int .i64 y2, .int .i64 y3, .int .i64 y4, .int .i64 y5, .bool f]) ∧ Below w.heap.size w w' := by
  have b0 : Below w.heap.size w w := Below.refl _ _
  go_enter Try.func20, Try.ntmps20
  go_wp2_with (first
    | (refine box_box (d := 1) rfl rfl 32 _ rfl _ rfl ?_; intro w' B1 bb; have n1 := b0.size; (try have l2_1 := B2.lt); (try have l3_1 := B3.lt); (try clear k1); (try clear k2); (try clear k3); replace b0 := bchain b0 bb;  (try replace B2 := B2.kept bb); (try replace B3 := B3.kept bb); clear bb; (try have k1 := B1.k); (try have k2 := B2.k); (try have k3 := B3.k))
    | (refine box_new (d := 2) rfl rfl 26 rfl _ zero_neg ?_; intro w' B2 bb; have n2 := b0.size; (try have l1_2 := B1.lt); (try have l3_2 := B3.lt); (try clear k1); (try clear k2); (try clear k3); replace b0 := bchain b0 bb; (try replace B1 := B1.kept bb);  (try replace B3 := B3.kept bb); clear bb; (try have k1 := B1.k); (try have k2 := B2.k); (try have k3 := B3.k))
    | (refine box_new (d := 3) rfl rfl 26 rfl _ zero_neg ?_; intro w' B3 bb; have n3 := b0.size; (try have l1_3 := B1.lt); (try have l2_3 := B2.lt); (try clear k1); (try clear k2); (try clear k3); replace b0 := bchain b0 bb; (try replace B1 := B1.kept bb); (try replace B2 := B2.kept bb);  clear bb; (try have k1 := B1.k); (try have k2 := B2.k); (try have k3 := B3.k))
    | (go_at_call 16; refine (toCfg_v _ _ _ _ _ _).mono ?_; rintro e w' ⟨rfl, bb⟩; (try clear k1); (try clear k2); (try clear k3); replace b0 := bchain b0 bb; (try replace B1 := B1.kept bb); (try replace B2 := B2.kept bb); (try replace B3 := B3.kept bb); clear bb; (try have k1 := B1.k); (try have k2 := B2.k); (try have k3 := B3.k))
    | (refine box_part rfl 24 _ _ rfl _ _ _ rfl rfl B3 (by kernel_rfl) (by simp) (by simp [Value.oneCell']) ?_; clear B3; intro w' B3 gg; simp only [putAt, List.setIfInBounds_toArray, List.set_cons_zero, List.set_cons_succ, Nat.reduceAdd] at B3; (try clear k1); (try clear k2); (try clear k3); replace b0 := below_at b0 gg b0.size (by omega); (try replace B1 := B1.grown gg (by omega)); (try replace B2 := B2.grown gg (by omega)); clear gg; (try have k1 := B1.k); (try have k2 := B2.k); (try have k3 := B3.k))
    | (refine box_bool rfl _ _ rfl _ _ _ rfl rfl B3 (by simp) ?_; clear B3; intro w' B3 gg; simp only [List.setIfInBounds_toArray, List.set_cons_zero, List.set_cons_succ] at B3; (try clear k1); (try clear k2); (try clear k3); replace b0 := below_at b0 gg b0.size (by omega); (try replace B1 := B1.grown gg (by omega)); (try replace B2 := B2.grown gg (by omega)); clear gg; (try have k1 := B1.k); (try have k2 := B2.k); (try have k3 := B3.k))
    | (refine wpList_load_row rfl 26 _ rfl _ rfl _ _ _ _ B3 Try.underlying26 rfl (by kernel_rfl) ?_)
    | (refine box_store rfl 26 _ _ rfl _ _ rfl rfl B2 (by kernel_rfl) rfl (by simp [Value.oneCell']) ?_; clear B2; intro w' B2 gg; (try clear k1); (try clear k2); (try clear k3); replace b0 := below_at b0 gg b0.size (by omega); (try replace B1 := B1.grown gg (by omega)); (try replace B3 := B3.grown gg (by omega)); clear gg; (try have k1 := B1.k); (try have k2 := B2.k); (try have k3 := B3.k)))
  refine bodyPost_ret (results_cell_row rfl _ _ _ _ _ _ _ rfl B2 Try.underlying26 rfl (by kernel_rfl)) rfl ?_
  exact ⟨rfl, b0⟩
set_option maxHeartbeats 2000000 in
theorem eqNeg_v (o1 o2 o3 o4 o5 a1 a2 a3 a4 a5 m1 m2 m3 m4 m5 y1 y2 y3 y4 y5 : Int) (f : Bool) (w : World) :
    Calls Try.prog 18 #[.agg #[.int .i64 o1, .int .i64 o2, .int .i64 o3, .int .i64 o4, .int .i64 o5, .int .i64 a1, .int .i64 a2, .int .i64 a3, .int .i64 a4, .int .i64 a5, .int .i64 m1, .int .i64 m2, .int .i64 m3, .int .i64 m4, .int .i64 m5, .int .i64 y1, .int .i64 y2, .int .i64 y3, .int .i64 y4, .int .i64 y5, .bool f], .agg #[.int .i64 o1, .int .i64 o2, .int .i64 o3, .int .i64 o4, .int .i64 o5, .int .i64 a1, .int .i64 a2, .int .i64 a3, .int .i64 a4, .int .i64 a5, .int .i64 m1, .int .i64 m2, .int .i64 m3, .int .i64 m4, .int .i64 m5, .int .i64 y1, .int .i64 y2, .int .i64 y3, .int .i64 y4, .int .i64 y5, .bool f]] w fun e w' => e = .returned (.bool true) ∧ Below w.heap.size w w' := by
  have b0 : Below w.heap.size w w := Below.refl _ _
  go_enter Try.func18, Try.ntmps18
  go_wp2_with (first
    | (refine box_box (d := 2) rfl rfl 26 _ rfl _ rfl ?_; intro w' B1 bb; have n1 := b0.size; (try have l2_1 := B2.lt); (try clear k1); (try clear k2); replace b0 := bchain b0 bb;  (try replace B2 := B2.kept bb); clear bb; (try have k1 := B1.k); (try have k2 := B2.k))
    | (refine box_box (d := 3) rfl rfl 26 _ rfl _ rfl ?_; intro w' B2 bb; have n2 := b0.size; (try have l1_2 := B1.lt); (try clear k1); (try clear k2); replace b0 := bchain b0 bb; (try replace B1 := B1.kept bb);  clear bb; (try have k1 := B1.k); (try have k2 := B2.k))
    | (go_at_call 41; refine (eqCfg_v _ _ _ _ _ _).mono ?_; rintro e w' ⟨rfl, bb⟩; (try clear k1); (try clear k2); replace b0 := bchain b0 bb; (try replace B1 := B1.kept bb); (try replace B2 := B2.kept bb); clear bb; (try have k1 := B1.k); (try have k2 := B2.k)))
  go_ret
  exact ⟨rfl, b0⟩
set_option maxHeartbeats 2000000 in
theorem eqMsg_v (n a1 a2 a3 a4 a5 : Int) (w : World) :
    Calls Try.prog 24 #[.agg #[.int .i64 n, .int .i64 a1, .int .i64 a2, .int .i64 a3, .int .i64 a4, .int .i64 a5], .agg #[.int .i64 n, .int .i64 a1, .int .i64 a2, .int .i64 a3, .int .i64 a4, .int .i64 a5]] w fun e w' => e = .returned (.bool true) ∧ Below w.heap.size w w' := by
  have b0 : Below w.heap.size w w := Below.refl _ _
  go_enter Try.func24, Try.ntmps24
  go_wp2_with (first
    | (refine box_box (d := 2) rfl rfl 37 _ rfl _ rfl ?_; intro w' B1 bb; have n1 := b0.size; (try have l2_1 := B2.lt); (try clear k1); (try clear k2); replace b0 := bchain b0 bb;  (try replace B2 := B2.kept bb); clear bb; (try have k1 := B1.k); (try have k2 := B2.k))
    | (refine box_box (d := 3) rfl rfl 37 _ rfl _ rfl ?_; intro w' B2 bb; have n2 := b0.size; (try have l1_2 := B1.lt); (try clear k1); (try clear k2); replace b0 := bchain b0 bb; (try replace B1 := B1.kept bb);  clear bb; (try have k1 := B1.k); (try have k2 := B2.k))
    | (go_at_call 41; refine (eqCfg_v _ _ _ _ _ _).mono ?_; rintro e w' ⟨rfl, bb⟩; (try clear k1); (try clear k2); replace b0 := bchain b0 bb; (try replace B1 := B1.kept bb); (try replace B2 := B2.kept bb); clear bb; (try have k1 := B1.k); (try have k2 := B2.k)))
  go_ret
  exact ⟨rfl, b0⟩
end Go.Proofs.Ytmciofamcdekaaa
