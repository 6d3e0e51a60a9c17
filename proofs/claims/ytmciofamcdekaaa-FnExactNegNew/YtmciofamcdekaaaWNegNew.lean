/- The law of NegNew returns true at every argument. -/
import Derived.Test.YtmciofamcdekaaaXNeg
namespace Go.Proofs.Ytmciofamcdekaaa.fnExactNegNew
open Go.RowKit
set_option maxHeartbeats 2000000 in
theorem walk (o1 o2 o3 o4 o5 : Int) (w : World) :
    Calls Try.prog 3 #[.agg #[.int .i64 o1, .int .i64 o2, .int .i64 o3, .int .i64 o4, .int .i64 o5]] w fun e w' => e = .returned (.bool true) ∧ Below w.heap.size w w' := by
  have b0 : Below w.heap.size w w := Below.refl _ _
  cases ho : Opt.ok ⟨o1, o2, o3, o4, o5⟩
  · go_enter Try.func3, Try.ntmps3
    go_wp2_with (first
      | (refine box_box (d := 1) rfl rfl 23 _ rfl _ rfl ?_; intro w' B1 bb; have n1 := b0.size; (try have l3_1 := B3.lt); (try have l4_1 := B4.lt); (try clear k1); (try clear k3); (try clear k4); replace b0 := bchain b0 bb;  (try replace B3 := B3.kept bb); (try replace B4 := B4.kept bb); clear bb; (try have k1 := B1.k); (try have k3 := B3.k); (try have k4 := B4.k))
      | (refine box_new (d := 3) rfl rfl 26 rfl _ zero_neg ?_; intro w' B3 bb; have n3 := b0.size; (try have l1_3 := B1.lt); (try have l4_3 := B4.lt); (try clear k1); (try clear k3); (try clear k4); replace b0 := bchain b0 bb; (try replace B1 := B1.kept bb);  (try replace B4 := B4.kept bb); clear bb; (try have k1 := B1.k); (try have k3 := B3.k); (try have k4 := B4.k))
      | (refine box_new (d := 4) rfl rfl 26 rfl _ zero_neg ?_; intro w' B4 bb; have n4 := b0.size; (try have l1_4 := B1.lt); (try have l3_4 := B3.lt); (try clear k1); (try clear k3); (try clear k4); replace b0 := bchain b0 bb; (try replace B1 := B1.kept bb); (try replace B3 := B3.kept bb);  clear bb; (try have k1 := B1.k); (try have k3 := B3.k); (try have k4 := B4.k))
      | (refine wpList_load_row rfl 26 _ rfl _ rfl _ _ _ _ B3 Try.underlying26 rfl (by kernel_rfl) ?_)
      | (refine wpList_load_row rfl 26 _ rfl _ rfl _ _ _ _ B4 Try.underlying26 rfl (by kernel_rfl) ?_)
      | (refine box_store rfl 26 _ _ rfl _ _ rfl rfl B3 (by kernel_rfl) rfl (by simp [Value.oneCell']) ?_; clear B3; intro w' B3 gg; (try clear k1); (try clear k3); (try clear k4); replace b0 := below_at b0 gg b0.size (by omega); (try replace B1 := B1.grown gg (by omega)); (try replace B4 := B4.grown gg (by omega)); clear gg; (try have k1 := B1.k); (try have k3 := B3.k); (try have k4 := B4.k))
      | (refine box_store rfl 26 _ _ rfl _ _ rfl rfl B4 (by kernel_rfl) rfl (by simp [Value.oneCell']) ?_; clear B4; intro w' B4 gg; (try clear k1); (try clear k3); (try clear k4); replace b0 := below_at b0 gg b0.size (by omega); (try replace B1 := B1.grown gg (by omega)); (try replace B3 := B3.grown gg (by omega)); clear gg; (try have k1 := B1.k); (try have k3 := B3.k); (try have k4 := B4.k))
      | (go_at_call 16; refine (toCfg_v _ _ _ _ _ _).mono ?_; rintro e w' ⟨rfl, bb⟩; (try clear k1); (try clear k3); (try clear k4); replace b0 := bchain b0 bb; (try replace B1 := B1.kept bb); (try replace B3 := B3.kept bb); (try replace B4 := B4.kept bb); clear bb; (try have k1 := B1.k); (try have k3 := B3.k); (try have k4 := B4.k))
      | (go_at_call 15; refine (spec_new_no _ _ _ _ _ ho _).mono ?_; rintro e w' ⟨rfl, bb⟩; (try clear k1); (try clear k3); (try clear k4); replace b0 := bchain b0 bb; (try replace B1 := B1.kept bb); (try replace B3 := B3.kept bb); (try replace B4 := B4.kept bb); clear bb; (try have k1 := B1.k); (try have k3 := B3.k); (try have k4 := B4.k))
      | (go_at_call 17; refine (impl_new_no _ _ _ _ _ ho _).mono ?_; rintro e w' ⟨rfl, bb⟩; (try clear k1); (try clear k3); (try clear k4); replace b0 := bchain b0 bb; (try replace B1 := B1.kept bb); (try replace B3 := B3.kept bb); (try replace B4 := B4.kept bb); clear bb; (try have k1 := B1.k); (try have k3 := B3.k); (try have k4 := B4.k))
      | (go_at_call 18; refine (eqNeg_v _ _ _ _ _ _ _ _ _ _ _ _ _ _ _ _ _ _ _ _ _ _).mono ?_; rintro e w' ⟨rfl, bb⟩; (try clear k1); (try clear k3); (try clear k4); replace b0 := bchain b0 bb; (try replace B1 := B1.kept bb); (try replace B3 := B3.kept bb); (try replace B4 := B4.kept bb); clear bb; (try have k1 := B1.k); (try have k3 := B3.k); (try have k4 := B4.k)))
    go_ret
    exact ⟨rfl, b0⟩
  · go_enter Try.func3, Try.ntmps3
    go_wp2_with (first
      | (refine box_box (d := 1) rfl rfl 23 _ rfl _ rfl ?_; intro w' B1 bb; have n1 := b0.size; (try have l3_1 := B3.lt); (try have l4_1 := B4.lt); (try clear k1); (try clear k3); (try clear k4); replace b0 := bchain b0 bb;  (try replace B3 := B3.kept bb); (try replace B4 := B4.kept bb); clear bb; (try have k1 := B1.k); (try have k3 := B3.k); (try have k4 := B4.k))
      | (refine box_new (d := 3) rfl rfl 26 rfl _ zero_neg ?_; intro w' B3 bb; have n3 := b0.size; (try have l1_3 := B1.lt); (try have l4_3 := B4.lt); (try clear k1); (try clear k3); (try clear k4); replace b0 := bchain b0 bb; (try replace B1 := B1.kept bb);  (try replace B4 := B4.kept bb); clear bb; (try have k1 := B1.k); (try have k3 := B3.k); (try have k4 := B4.k))
      | (refine box_new (d := 4) rfl rfl 26 rfl _ zero_neg ?_; intro w' B4 bb; have n4 := b0.size; (try have l1_4 := B1.lt); (try have l3_4 := B3.lt); (try clear k1); (try clear k3); (try clear k4); replace b0 := bchain b0 bb; (try replace B1 := B1.kept bb); (try replace B3 := B3.kept bb);  clear bb; (try have k1 := B1.k); (try have k3 := B3.k); (try have k4 := B4.k))
      | (refine wpList_load_row rfl 26 _ rfl _ rfl _ _ _ _ B3 Try.underlying26 rfl (by kernel_rfl) ?_)
      | (refine wpList_load_row rfl 26 _ rfl _ rfl _ _ _ _ B4 Try.underlying26 rfl (by kernel_rfl) ?_)
      | (refine box_store rfl 26 _ _ rfl _ _ rfl rfl B3 (by kernel_rfl) rfl (by simp [Value.oneCell']) ?_; clear B3; intro w' B3 gg; (try clear k1); (try clear k3); (try clear k4); replace b0 := below_at b0 gg b0.size (by omega); (try replace B1 := B1.grown gg (by omega)); (try replace B4 := B4.grown gg (by omega)); clear gg; (try have k1 := B1.k); (try have k3 := B3.k); (try have k4 := B4.k))
      | (refine box_store rfl 26 _ _ rfl _ _ rfl rfl B4 (by kernel_rfl) rfl (by simp [Value.oneCell']) ?_; clear B4; intro w' B4 gg; (try clear k1); (try clear k3); (try clear k4); replace b0 := below_at b0 gg b0.size (by omega); (try replace B1 := B1.grown gg (by omega)); (try replace B3 := B3.grown gg (by omega)); clear gg; (try have k1 := B1.k); (try have k3 := B3.k); (try have k4 := B4.k))
      | (go_at_call 16; refine (toCfg_v _ _ _ _ _ _).mono ?_; rintro e w' ⟨rfl, bb⟩; (try clear k1); (try clear k3); (try clear k4); replace b0 := bchain b0 bb; (try replace B1 := B1.kept bb); (try replace B3 := B3.kept bb); (try replace B4 := B4.kept bb); clear bb; (try have k1 := B1.k); (try have k3 := B3.k); (try have k4 := B4.k))
      | (go_at_call 15; refine (spec_new_yes _ _ _ _ _ ho _).mono ?_; rintro e w' ⟨rfl, bb⟩; (try clear k1); (try clear k3); (try clear k4); replace b0 := bchain b0 bb; (try replace B1 := B1.kept bb); (try replace B3 := B3.kept bb); (try replace B4 := B4.kept bb); clear bb; (try have k1 := B1.k); (try have k3 := B3.k); (try have k4 := B4.k))
      | (go_at_call 17; refine (impl_new_yes _ _ _ _ _ ho _).mono ?_; rintro e w' ⟨rfl, bb⟩; (try clear k1); (try clear k3); (try clear k4); replace b0 := bchain b0 bb; (try replace B1 := B1.kept bb); (try replace B3 := B3.kept bb); (try replace B4 := B4.kept bb); clear bb; (try have k1 := B1.k); (try have k3 := B3.k); (try have k4 := B4.k))
      | (go_at_call 18; refine (eqNeg_v _ _ _ _ _ _ _ _ _ _ _ _ _ _ _ _ _ _ _ _ _ _).mono ?_; rintro e w' ⟨rfl, bb⟩; (try clear k1); (try clear k3); (try clear k4); replace b0 := bchain b0 bb; (try replace B1 := B1.kept bb); (try replace B3 := B3.kept bb); (try replace B4 := B4.kept bb); clear bb; (try have k1 := B1.k); (try have k3 := B3.k); (try have k4 := B4.k)))
    go_ret
    exact ⟨rfl, b0⟩
end Go.Proofs.Ytmciofamcdekaaa.fnExactNegNew
