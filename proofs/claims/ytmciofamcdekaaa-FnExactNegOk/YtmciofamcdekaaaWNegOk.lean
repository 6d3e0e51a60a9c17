/- The law of NegOk returns true at every argument. -/
import Derived.Test.YtmciofamcdekaaaXNeg
namespace Go.Proofs.Ytmciofamcdekaaa.fnExactNegOk
open Go.RowKit
set_option maxHeartbeats 2000000 in
theorem walk (o1 o2 o3 o4 o5 a1 a2 a3 a4 a5 m1 m2 m3 m4 m5 y1 y2 y3 y4 y5 : Int) (f : Bool) (w : World) :
    Calls Try.prog 4 #[.agg #[.int .i64 o1, .int .i64 o2, .int .i64 o3, .int .i64 o4, .int .i64 o5, .int .i64 a1, .int .i64 a2, .int .i64 a3, .int .i64 a4, .int .i64 a5, .int .i64 m1, .int .i64 m2, .int .i64 m3, .int .i64 m4, .int .i64 m5, .int .i64 y1, .int .i64 y2, .int .i64 y3, .int .i64 y4, .int .i64 y5, .bool f]] w fun e w' => e = .returned (.bool true) ∧ Below w.heap.size w w' := by
  have b0 : Below w.heap.size w w := Below.refl _ _
  obtain ⟨K, hok⟩ : ∃ K, Neg.ok ⟨⟨o1, o2, o3, o4, o5⟩, ⟨a1, a2, a3, a4, a5⟩, ⟨m1, m2, m3, m4, m5⟩, ⟨y1, y2, y3, y4, y5⟩, f⟩ = K := ⟨_, rfl⟩
  go_enter Try.func4, Try.ntmps4
  go_wp2_with (first
    | (refine box_box (d := 1) rfl rfl 32 _ rfl _ rfl ?_; intro w' B1 bb; have n1 := b0.size;  (try clear k1); replace b0 := bchain b0 bb;  clear bb; (try have k1 := B1.k))
    | (refine wpList_load_row rfl 32 _ rfl _ rfl _ _ _ _ B1 Try.underlying32 rfl (by kernel_rfl) ?_)
    | (go_at_call 20; refine (toNeg_v _ _ _ _ _ _ _ _ _ _ _ _ _ _ _ _ _ _ _ _ _ _).mono ?_; rintro e w' ⟨rfl, bb⟩; (try clear k1); replace b0 := bchain b0 bb; (try replace B1 := B1.kept bb); clear bb; (try have k1 := B1.k))
    | (go_at_call 19; refine (spec_neg_v _ _ _ _ _ _ _ _ _ _ _ _ _ _ _ _ _ _ _ _ _ _).mono ?_; rintro e w' ⟨rfl, bb⟩; rw [hok]; (try clear k1); replace b0 := bchain b0 bb; (try replace B1 := B1.kept bb); clear bb; (try have k1 := B1.k))
    | (go_at_call 21; refine (impl_neg_v _ _ _ _ _ _ _ _ _ _ _ _ _ _ _ _ _ _ _ _ _ _).mono ?_; rintro e w' ⟨rfl, bb⟩; rw [hok]; (try clear k1); replace b0 := bchain b0 bb; (try replace B1 := B1.kept bb); clear bb; (try have k1 := B1.k)))
  go_ret
  exact ⟨rfl, b0⟩
end Go.Proofs.Ytmciofamcdekaaa.fnExactNegOk
