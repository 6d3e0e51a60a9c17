/- One that agrees with another one: NegNew and NegSay of the program and of the specification. -/
import Derived.Test.YtaoafikkamnjlaaNeg
import Derived.Test.YtaoafikkamnjlaaBoxLaw
namespace Go.Proofs.Ytaoafikkamnjlaa
open Go.RowKit
theorem zero_cfg (w : World) : (zeroValue 24).run Try.prog w = .ok (.agg #[.int .i64 0, .int .i64 0, .int .i64 0, .int .i64 0, .int .i64 0]) w := by kernel_rfl
theorem zero_neg (w : World) : (zeroValue 26).run Try.prog w = .ok (.agg #[.int .i64 0, .int .i64 0, .int .i64 0, .int .i64 0, .int .i64 0, .int .i64 0, .int .i64 0, .int .i64 0, .int .i64 0, .int .i64 0, .int .i64 0, .int .i64 0, .int .i64 0, .int .i64 0, .int .i64 0, .int .i64 0, .int .i64 0, .int .i64 0, .int .i64 0, .int .i64 0, .bool false]) w := by kernel_rfl
theorem zero_msg (w : World) : (zeroValue 28).run Try.prog w = .ok (.agg #[.int .i64 0, .int .i64 0, .int .i64 0, .int .i64 0, .int .i64 0, .int .i64 0]) w := by kernel_rfl

set_option maxHeartbeats 1000000 in
theorem impl_new_yes (o1 o2 o3 o4 o5 : Int) (ho : Opt.ok ⟨o1, o2, o3, o4, o5⟩ = true) (w : World) :
    Calls Try.prog 64 #[.agg #[.int .i64 o1, .int .i64 o2, .int .i64 o3, .int .i64 o4, .int .i64 o5]] w fun e w' => e = .returned (.agg #[.int .i64 o1, .int .i64 o2, .int .i64 o3, .int .i64 o4, .int .i64 o5, .int .i64 o1, .int .i64 o2, .int .i64 o3, .int .i64 o4, .int .i64 o5, .int .i64 0, .int .i64 0, .int .i64 0, .int .i64 0, .int .i64 0, .int .i64 0, .int .i64 0, .int .i64 0, .int .i64 0, .int .i64 0, .bool false]) ∧ Below w.heap.size w w' := by
  have b0 : Below w.heap.size w w := Below.refl _ _
  go_enter Try.func64, Try.ntmps64
  go_wp2_with (first
    | ((with_reducible refine at_box 1 24 ?_); refine box_box (d := 1) rfl rfl 24 _ rfl _ rfl ?_; intro w' B1 bb; have n1 := b0.size;  (try have l2_1 := B2.lt); (try clear k1); (try clear k2); replace b0 := bchain b0 bb;  (try replace B2 := B2.kept bb); clear bb; (try have k1 := B1.k); (try have k2 := B2.k))
    | ((with_reducible refine at_new 2 26 ?_); refine box_new (d := 2) rfl rfl 26 rfl _ zero_neg ?_; intro w' B2 bb; have n2 := b0.size;  (try have l1_2 := B1.lt); (try clear k1); (try clear k2); replace b0 := bchain b0 bb; (try replace B1 := B1.kept bb);  clear bb; (try have k1 := B1.k); (try have k2 := B2.k))
    | (go_at_call 54; refine (impl_cfg_v _ _ _ _ _ _).mono ?_; rintro e w' ⟨rfl, bb⟩; rw [ho]; (try clear k1); (try clear k2); replace b0 := bchain b0 bb; (try replace B1 := B1.kept bb); (try replace B2 := B2.kept bb); clear bb; (try have k1 := B1.k); (try have k2 := B2.k))
    | ((with_reducible refine at_store 26 ?_); refine box_store rfl 26 _ _ rfl _ _ rfl rfl (by with_reducible exact B2) (by kernel_rfl) (by rfl) (by simp [Value.oneCell']) ?_; clear B2; intro w' B2 gg; (try clear k1); (try clear k2); replace b0 := below_at b0 gg b0.size n2; (try replace B1 := B1.grown gg (Nat.ne_of_lt l1_2)); clear gg; (try have k1 := B1.k); (try have k2 := B2.k)))
  refine bodyPost_ret (results_cell_row rfl _ _ _ _ _ _ _ rfl B2 Try.underlying26 rfl (by kernel_rfl)) rfl ?_
  exact ⟨rfl, b0⟩
set_option maxHeartbeats 1000000 in
theorem impl_new_no (o1 o2 o3 o4 o5 : Int) (ho : Opt.ok ⟨o1, o2, o3, o4, o5⟩ = false) (w : World) :
    Calls Try.prog 64 #[.agg #[.int .i64 o1, .int .i64 o2, .int .i64 o3, .int .i64 o4, .int .i64 o5]] w fun e w' => e = .returned (.agg #[.int .i64 0, .int .i64 0, .int .i64 0, .int .i64 0, .int .i64 0, .int .i64 0, .int .i64 0, .int .i64 0, .int .i64 0, .int .i64 0, .int .i64 0, .int .i64 0, .int .i64 0, .int .i64 0, .int .i64 0, .int .i64 0, .int .i64 0, .int .i64 0, .int .i64 0, .int .i64 0, .bool false]) ∧ Below w.heap.size w w' := by
  have b0 : Below w.heap.size w w := Below.refl _ _
  go_enter Try.func64, Try.ntmps64
  go_wp2_with (first
    | ((with_reducible refine at_box 1 24 ?_); refine box_box (d := 1) rfl rfl 24 _ rfl _ rfl ?_; intro w' B1 bb; have n1 := b0.size;  (try have l2_1 := B2.lt); (try clear k1); (try clear k2); replace b0 := bchain b0 bb;  (try replace B2 := B2.kept bb); clear bb; (try have k1 := B1.k); (try have k2 := B2.k))
    | ((with_reducible refine at_new 2 26 ?_); refine box_new (d := 2) rfl rfl 26 rfl _ zero_neg ?_; intro w' B2 bb; have n2 := b0.size;  (try have l1_2 := B1.lt); (try clear k1); (try clear k2); replace b0 := bchain b0 bb; (try replace B1 := B1.kept bb);  clear bb; (try have k1 := B1.k); (try have k2 := B2.k))
    | (go_at_call 54; refine (impl_cfg_v _ _ _ _ _ _).mono ?_; rintro e w' ⟨rfl, bb⟩; rw [ho]; (try clear k1); (try clear k2); replace b0 := bchain b0 bb; (try replace B1 := B1.kept bb); (try replace B2 := B2.kept bb); clear bb; (try have k1 := B1.k); (try have k2 := B2.k))
    | ((with_reducible refine at_store 26 ?_); refine box_store rfl 26 _ _ rfl _ _ rfl rfl (by with_reducible exact B2) (by kernel_rfl) (by rfl) (by simp [Value.oneCell']) ?_; clear B2; intro w' B2 gg; (try clear k1); (try clear k2); replace b0 := below_at b0 gg b0.size n2; (try replace B1 := B1.grown gg (Nat.ne_of_lt l1_2)); clear gg; (try have k1 := B1.k); (try have k2 := B2.k)))
  refine bodyPost_ret (results_cell_row rfl _ _ _ _ _ _ _ rfl B2 Try.underlying26 rfl (by kernel_rfl)) rfl ?_
  exact ⟨rfl, b0⟩
set_option maxHeartbeats 1000000 in
theorem spec_new_yes (o1 o2 o3 o4 o5 : Int) (ho : Opt.ok ⟨o1, o2, o3, o4, o5⟩ = true) (w : World) :
    Calls Try.prog 83 #[.agg #[.int .i64 o1, .int .i64 o2, .int .i64 o3, .int .i64 o4, .int .i64 o5]] w fun e w' => e = .returned (.agg #[.int .i64 o1, .int .i64 o2, .int .i64 o3, .int .i64 o4, .int .i64 o5, .int .i64 o1, .int .i64 o2, .int .i64 o3, .int .i64 o4, .int .i64 o5, .int .i64 0, .int .i64 0, .int .i64 0, .int .i64 0, .int .i64 0, .int .i64 0, .int .i64 0, .int .i64 0, .int .i64 0, .int .i64 0, .bool false]) ∧ Below w.heap.size w w' := by
  have b0 : Below w.heap.size w w := Below.refl _ _
  go_enter Try.func83, Try.ntmps83
  go_wp2_with (first
    | ((with_reducible refine at_box 1 24 ?_); refine box_box (d := 1) rfl rfl 24 _ rfl _ rfl ?_; intro w' B1 bb; have n1 := b0.size;  (try have l2_1 := B2.lt); (try clear k1); (try clear k2); replace b0 := bchain b0 bb;  (try replace B2 := B2.kept bb); clear bb; (try have k1 := B1.k); (try have k2 := B2.k))
    | ((with_reducible refine at_new 2 26 ?_); refine box_new (d := 2) rfl rfl 26 rfl _ zero_neg ?_; intro w' B2 bb; have n2 := b0.size;  (try have l1_2 := B1.lt); (try clear k1); (try clear k2); replace b0 := bchain b0 bb; (try replace B1 := B1.kept bb);  clear bb; (try have k1 := B1.k); (try have k2 := B2.k))
    | (go_at_call 19; refine (spec_cfg_v _ _ _ _ _ _).mono ?_; rintro e w' ⟨rfl, bb⟩; rw [ho]; (try clear k1); (try clear k2); replace b0 := bchain b0 bb; (try replace B1 := B1.kept bb); (try replace B2 := B2.kept bb); clear bb; (try have k1 := B1.k); (try have k2 := B2.k))
    | ((with_reducible refine at_store 26 ?_); refine box_store rfl 26 _ _ rfl _ _ rfl rfl (by with_reducible exact B2) (by kernel_rfl) (by rfl) (by simp [Value.oneCell']) ?_; clear B2; intro w' B2 gg; (try clear k1); (try clear k2); replace b0 := below_at b0 gg b0.size n2; (try replace B1 := B1.grown gg (Nat.ne_of_lt l1_2)); clear gg; (try have k1 := B1.k); (try have k2 := B2.k)))
  refine bodyPost_ret (results_cell_row rfl _ _ _ _ _ _ _ rfl B2 Try.underlying26 rfl (by kernel_rfl)) rfl ?_
  exact ⟨rfl, b0⟩
set_option maxHeartbeats 1000000 in
theorem spec_new_no (o1 o2 o3 o4 o5 : Int) (ho : Opt.ok ⟨o1, o2, o3, o4, o5⟩ = false) (w : World) :
    Calls Try.prog 83 #[.agg #[.int .i64 o1, .int .i64 o2, .int .i64 o3, .int .i64 o4, .int .i64 o5]] w fun e w' => e = .returned (.agg #[.int .i64 0, .int .i64 0, .int .i64 0, .int .i64 0, .int .i64 0, .int .i64 0, .int .i64 0, .int .i64 0, .int .i64 0, .int .i64 0, .int .i64 0, .int .i64 0, .int .i64 0, .int .i64 0, .int .i64 0, .int .i64 0, .int .i64 0, .int .i64 0, .int .i64 0, .int .i64 0, .bool false]) ∧ Below w.heap.size w w' := by
  have b0 : Below w.heap.size w w := Below.refl _ _
  go_enter Try.func83, Try.ntmps83
  go_wp2_with (first
    | ((with_reducible refine at_box 1 24 ?_); refine box_box (d := 1) rfl rfl 24 _ rfl _ rfl ?_; intro w' B1 bb; have n1 := b0.size;  (try have l2_1 := B2.lt); (try clear k1); (try clear k2); replace b0 := bchain b0 bb;  (try replace B2 := B2.kept bb); clear bb; (try have k1 := B1.k); (try have k2 := B2.k))
    | ((with_reducible refine at_new 2 26 ?_); refine box_new (d := 2) rfl rfl 26 rfl _ zero_neg ?_; intro w' B2 bb; have n2 := b0.size;  (try have l1_2 := B1.lt); (try clear k1); (try clear k2); replace b0 := bchain b0 bb; (try replace B1 := B1.kept bb);  clear bb; (try have k1 := B1.k); (try have k2 := B2.k))
    | (go_at_call 19; refine (spec_cfg_v _ _ _ _ _ _).mono ?_; rintro e w' ⟨rfl, bb⟩; rw [ho]; (try clear k1); (try clear k2); replace b0 := bchain b0 bb; (try replace B1 := B1.kept bb); (try replace B2 := B2.kept bb); clear bb; (try have k1 := B1.k); (try have k2 := B2.k))
    | ((with_reducible refine at_store 26 ?_); refine box_store rfl 26 _ _ rfl _ _ rfl rfl (by with_reducible exact B2) (by kernel_rfl) (by rfl) (by simp [Value.oneCell']) ?_; clear B2; intro w' B2 gg; (try clear k1); (try clear k2); replace b0 := below_at b0 gg b0.size n2; (try replace B1 := B1.grown gg (Nat.ne_of_lt l1_2)); clear gg; (try have k1 := B1.k); (try have k2 := B2.k)))
  refine bodyPost_ret (results_cell_row rfl _ _ _ _ _ _ _ rfl B2 Try.underlying26 rfl (by kernel_rfl)) rfl ?_
  exact ⟨rfl, b0⟩
set_option maxHeartbeats 2000000 in
theorem impl_say_yes (o1 o2 o3 o4 o5 a1 a2 a3 a4 a5 m1 m2 m3 m4 m5 y1 y2 y3 y4 y5 : Int) (f : Bool) (hs : says ⟨⟨o1, o2, o3, o4, o5⟩, ⟨a1, a2, a3, a4, a5⟩, ⟨m1, m2, m3, m4, m5⟩, ⟨y1, y2, y3, y4, y5⟩, f⟩ = true) (w : World) :
    Calls Try.prog 66 #[.agg #[.int .i64 o1, .int .i64 o2, .int .i64 o3, .int .i64 o4, .int .i64 o5, .int .i64 a1, .int .i64 a2, .int .i64 a3, .int .i64 a4, .int .i64 a5, .int .i64 m1, .int .i64 m2, .int .i64 m3, .int .i64 m4, .int .i64 m5, .int .i64 y1, .int .i64 y2, .int .i64 y3, .int .i64 y4, .int .i64 y5, .bool f]] w fun e w' => e = .returned (.tuple #[.agg #[.int .i64 1, .int .i64 a1, .int .i64 a2, .int .i64 a3, .int .i64 a4, .int .i64 a5], .bool true]) ∧ Below w.heap.size w w' := by
  have b0 : Below w.heap.size w w := Below.refl _ _
  obtain ⟨hok, hf, hz⟩ : Neg.ok ⟨⟨o1, o2, o3, o4, o5⟩, ⟨a1, a2, a3, a4, a5⟩, ⟨m1, m2, m3, m4, m5⟩, ⟨y1, y2, y3, y4, y5⟩, f⟩ = true ∧ f = false ∧ Opt.same ⟨m1, m2, m3, m4, m5⟩ Opt.zero = true := by simpa [says, and_assoc] using hs
  subst hf
  clear hs
  go_enter Try.func66, Try.ntmps66
  go_wp2_with (first
      | ((with_reducible refine at_box 1 26 ?_); refine box_box (d := 1) rfl rfl 26 _ rfl _ rfl ?_; intro w' B1 bb; have n1 := b0.size;  (try have l2_1 := B2.lt); (try clear k1); (try clear k2); replace b0 := bchain b0 bb;  (try replace B2 := B2.kept bb); clear bb; (try have k1 := B1.k); (try have k2 := B2.k))
      | ((with_reducible refine at_new 2 28 ?_); refine box_new (d := 2) rfl rfl 28 rfl _ zero_msg ?_; intro w' B2 bb; have n2 := b0.size;  (try have l1_2 := B1.lt); (try clear k1); (try clear k2); replace b0 := bchain b0 bb; (try replace B1 := B1.kept bb);  clear bb; (try have k1 := B1.k); (try have k2 := B2.k))
      | ((with_reducible refine at_load 26 ?_); refine box_load rfl 26 _ rfl _ rfl (by with_reducible assumption) Try.underlying26 rfl (by kernel_rfl) ?_)
      | ((with_reducible refine at_store 28 ?_); refine box_store rfl 28 _ _ rfl _ _ rfl rfl (by with_reducible exact B2) (by kernel_rfl) (by rfl) (by simp [Value.oneCell']) ?_; clear B2; intro w' B2 gg; (try clear k1); (try clear k2); replace b0 := below_at b0 gg b0.size n2; (try replace B1 := B1.grown gg (Nat.ne_of_lt l1_2)); clear gg; (try have k1 := B1.k); (try have k2 := B2.k))
      | (go_at_call 17; refine (impl_neg_v _ _ _ _ _ _ _ _ _ _ _ _ _ _ _ _ _ _ _ _ _ _).mono ?_; rintro e w' ⟨rfl, bb⟩; rw [hok]; (try clear k1); (try clear k2); replace b0 := bchain b0 bb; (try replace B1 := B1.kept bb); (try replace B2 := B2.kept bb); clear bb; (try have k1 := B1.k); (try have k2 := B2.k))
      | (go_at_call 65; refine (nothing_v _ _ _ _ _ _).mono ?_; rintro e w' ⟨rfl, bb⟩; rw [hz]; (try clear k1); (try clear k2); replace b0 := bchain b0 bb; (try replace B1 := B1.kept bb); (try replace B2 := B2.kept bb); clear bb; (try have k1 := B1.k); (try have k2 := B2.k)))
  refine bodyPost_ret (v := .tuple #[.agg #[.int .i64 1, .int .i64 a1, .int .i64 a2, .int .i64 a3, .int .i64 a4, .int .i64 a5], .bool true]) (by simp [results, Try.results66, go_sem, k2]) rfl ⟨rfl, b0⟩
set_option maxHeartbeats 2000000 in
theorem impl_say_no (o1 o2 o3 o4 o5 a1 a2 a3 a4 a5 m1 m2 m3 m4 m5 y1 y2 y3 y4 y5 : Int) (f : Bool) (hs : says ⟨⟨o1, o2, o3, o4, o5⟩, ⟨a1, a2, a3, a4, a5⟩, ⟨m1, m2, m3, m4, m5⟩, ⟨y1, y2, y3, y4, y5⟩, f⟩ = false) (w : World) :
    Calls Try.prog 66 #[.agg #[.int .i64 o1, .int .i64 o2, .int .i64 o3, .int .i64 o4, .int .i64 o5, .int .i64 a1, .int .i64 a2, .int .i64 a3, .int .i64 a4, .int .i64 a5, .int .i64 m1, .int .i64 m2, .int .i64 m3, .int .i64 m4, .int .i64 m5, .int .i64 y1, .int .i64 y2, .int .i64 y3, .int .i64 y4, .int .i64 y5, .bool f]] w fun e w' => e = .returned (.tuple #[.agg #[.int .i64 0, .int .i64 0, .int .i64 0, .int .i64 0, .int .i64 0, .int .i64 0], .bool false]) ∧ Below w.heap.size w w' := by
  have b0 : Below w.heap.size w w := Below.refl _ _
  cases hok : Neg.ok ⟨⟨o1, o2, o3, o4, o5⟩, ⟨a1, a2, a3, a4, a5⟩, ⟨m1, m2, m3, m4, m5⟩, ⟨y1, y2, y3, y4, y5⟩, f⟩
  · clear hs
    go_enter Try.func66, Try.ntmps66
    go_wp2_with (first
      | ((with_reducible refine at_box 1 26 ?_); refine box_box (d := 1) rfl rfl 26 _ rfl _ rfl ?_; intro w' B1 bb; have n1 := b0.size;  (try have l2_1 := B2.lt); (try clear k1); (try clear k2); replace b0 := bchain b0 bb;  (try replace B2 := B2.kept bb); clear bb; (try have k1 := B1.k); (try have k2 := B2.k))
      | ((with_reducible refine at_new 2 28 ?_); refine box_new (d := 2) rfl rfl 28 rfl _ zero_msg ?_; intro w' B2 bb; have n2 := b0.size;  (try have l1_2 := B1.lt); (try clear k1); (try clear k2); replace b0 := bchain b0 bb; (try replace B1 := B1.kept bb);  clear bb; (try have k1 := B1.k); (try have k2 := B2.k))
      | ((with_reducible refine at_load 26 ?_); refine box_load rfl 26 _ rfl _ rfl (by with_reducible assumption) Try.underlying26 rfl (by kernel_rfl) ?_)
      | ((with_reducible refine at_store 28 ?_); refine box_store rfl 28 _ _ rfl _ _ rfl rfl (by with_reducible exact B2) (by kernel_rfl) (by rfl) (by simp [Value.oneCell']) ?_; clear B2; intro w' B2 gg; (try clear k1); (try clear k2); replace b0 := below_at b0 gg b0.size n2; (try replace B1 := B1.grown gg (Nat.ne_of_lt l1_2)); clear gg; (try have k1 := B1.k); (try have k2 := B2.k))
      | (go_at_call 17; refine (impl_neg_v _ _ _ _ _ _ _ _ _ _ _ _ _ _ _ _ _ _ _ _ _ _).mono ?_; rintro e w' ⟨rfl, bb⟩; rw [hok]; (try clear k1); (try clear k2); replace b0 := bchain b0 bb; (try replace B1 := B1.kept bb); (try replace B2 := B2.kept bb); clear bb; (try have k1 := B1.k); (try have k2 := B2.k)))
    refine bodyPost_ret (v := .tuple #[.agg #[.int .i64 0, .int .i64 0, .int .i64 0, .int .i64 0, .int .i64 0, .int .i64 0], .bool false]) (by simp [results, Try.results66, go_sem, k2]) rfl ⟨rfl, b0⟩
  cases f
  · have hz : Opt.same ⟨m1, m2, m3, m4, m5⟩ Opt.zero = false := by
      simp only [says] at hs
      rw [hok] at hs
      simpa using hs
    clear hs
    go_enter Try.func66, Try.ntmps66
    go_wp2_with (first
      | ((with_reducible refine at_box 1 26 ?_); refine box_box (d := 1) rfl rfl 26 _ rfl _ rfl ?_; intro w' B1 bb; have n1 := b0.size;  (try have l2_1 := B2.lt); (try clear k1); (try clear k2); replace b0 := bchain b0 bb;  (try replace B2 := B2.kept bb); clear bb; (try have k1 := B1.k); (try have k2 := B2.k))
      | ((with_reducible refine at_new 2 28 ?_); refine box_new (d := 2) rfl rfl 28 rfl _ zero_msg ?_; intro w' B2 bb; have n2 := b0.size;  (try have l1_2 := B1.lt); (try clear k1); (try clear k2); replace b0 := bchain b0 bb; (try replace B1 := B1.kept bb);  clear bb; (try have k1 := B1.k); (try have k2 := B2.k))
      | ((with_reducible refine at_load 26 ?_); refine box_load rfl 26 _ rfl _ rfl (by with_reducible assumption) Try.underlying26 rfl (by kernel_rfl) ?_)
      | ((with_reducible refine at_store 28 ?_); refine box_store rfl 28 _ _ rfl _ _ rfl rfl (by with_reducible exact B2) (by kernel_rfl) (by rfl) (by simp [Value.oneCell']) ?_; clear B2; intro w' B2 gg; (try clear k1); (try clear k2); replace b0 := below_at b0 gg b0.size n2; (try replace B1 := B1.grown gg (Nat.ne_of_lt l1_2)); clear gg; (try have k1 := B1.k); (try have k2 := B2.k))
      | (go_at_call 17; refine (impl_neg_v _ _ _ _ _ _ _ _ _ _ _ _ _ _ _ _ _ _ _ _ _ _).mono ?_; rintro e w' ⟨rfl, bb⟩; rw [hok]; (try clear k1); (try clear k2); replace b0 := bchain b0 bb; (try replace B1 := B1.kept bb); (try replace B2 := B2.kept bb); clear bb; (try have k1 := B1.k); (try have k2 := B2.k))
      | (go_at_call 65; refine (nothing_v _ _ _ _ _ _).mono ?_; rintro e w' ⟨rfl, bb⟩; rw [hz]; (try clear k1); (try clear k2); replace b0 := bchain b0 bb; (try replace B1 := B1.kept bb); (try replace B2 := B2.kept bb); clear bb; (try have k1 := B1.k); (try have k2 := B2.k)))
    refine bodyPost_ret (v := .tuple #[.agg #[.int .i64 0, .int .i64 0, .int .i64 0, .int .i64 0, .int .i64 0, .int .i64 0], .bool false]) (by simp [results, Try.results66, go_sem, k2]) rfl ⟨rfl, b0⟩
  · clear hs
    go_enter Try.func66, Try.ntmps66
    go_wp2_with (first
      | ((with_reducible refine at_box 1 26 ?_); refine box_box (d := 1) rfl rfl 26 _ rfl _ rfl ?_; intro w' B1 bb; have n1 := b0.size;  (try have l2_1 := B2.lt); (try clear k1); (try clear k2); replace b0 := bchain b0 bb;  (try replace B2 := B2.kept bb); clear bb; (try have k1 := B1.k); (try have k2 := B2.k))
      | ((with_reducible refine at_new 2 28 ?_); refine box_new (d := 2) rfl rfl 28 rfl _ zero_msg ?_; intro w' B2 bb; have n2 := b0.size;  (try have l1_2 := B1.lt); (try clear k1); (try clear k2); replace b0 := bchain b0 bb; (try replace B1 := B1.kept bb);  clear bb; (try have k1 := B1.k); (try have k2 := B2.k))
      | ((with_reducible refine at_load 26 ?_); refine box_load rfl 26 _ rfl _ rfl (by with_reducible assumption) Try.underlying26 rfl (by kernel_rfl) ?_)
      | ((with_reducible refine at_store 28 ?_); refine box_store rfl 28 _ _ rfl _ _ rfl rfl (by with_reducible exact B2) (by kernel_rfl) (by rfl) (by simp [Value.oneCell']) ?_; clear B2; intro w' B2 gg; (try clear k1); (try clear k2); replace b0 := below_at b0 gg b0.size n2; (try replace B1 := B1.grown gg (Nat.ne_of_lt l1_2)); clear gg; (try have k1 := B1.k); (try have k2 := B2.k))
      | (go_at_call 17; refine (impl_neg_v _ _ _ _ _ _ _ _ _ _ _ _ _ _ _ _ _ _ _ _ _ _).mono ?_; rintro e w' ⟨rfl, bb⟩; rw [hok]; (try clear k1); (try clear k2); replace b0 := bchain b0 bb; (try replace B1 := B1.kept bb); (try replace B2 := B2.kept bb); clear bb; (try have k1 := B1.k); (try have k2 := B2.k)))
    refine bodyPost_ret (v := .tuple #[.agg #[.int .i64 0, .int .i64 0, .int .i64 0, .int .i64 0, .int .i64 0, .int .i64 0], .bool false]) (by simp [results, Try.results66, go_sem, k2]) rfl ⟨rfl, b0⟩
end Go.Proofs.Ytaoafikkamnjlaa
