/- NegDone of the program, over values. -/
import Derived.Test.YtaoafikkamnjlaaNegVal
namespace Go.Proofs.Ytaoafikkamnjlaa
open Go.RowKit
def Opt.cs (o : Opt) : Array Value := #[.int .i64 o.mode, .int .i64 o.win, .int .i64 o.mps, .int .i64 o.mtu, .int .i64 o.tri]
set_option maxRecDepth 100000 in
set_option maxHeartbeats 2000000 in
theorem impl_done (s : Neg) (w : World) :
    Calls Try.prog 24 #[.agg s.cs] w fun e w' => e = .returned (.tuple #[.agg (doneO s).cs, .bool (done s)]) ∧ Below w.heap.size w w' := by
  have b0 : Below w.heap.size w w := Below.refl _ _
  obtain ⟨⟨o1, o2, o3, o4, o5⟩, ⟨a1, a2, a3, a4, a5⟩, ⟨m1, m2, m3, m4, m5⟩, ⟨y1, y2, y3, y4, y5⟩, f⟩ := s
  simp only [Neg.cs]
  cases hok : Neg.ok ⟨⟨o1, o2, o3, o4, o5⟩, ⟨a1, a2, a3, a4, a5⟩, ⟨m1, m2, m3, m4, m5⟩, ⟨y1, y2, y3, y4, y5⟩, f⟩
  · have hd : done ⟨⟨o1, o2, o3, o4, o5⟩, ⟨a1, a2, a3, a4, a5⟩, ⟨m1, m2, m3, m4, m5⟩, ⟨y1, y2, y3, y4, y5⟩, f⟩ = false := by simp [done, hok]
    go_enter Try.func24, Try.ntmps24
    go_wp2_with (first
      | ((with_reducible refine at_box 1 26 ?_); refine box_box (d := 1) rfl rfl 26 _ rfl _ rfl ?_; intro w' B1 bb; have n1 := b0.size;  (try have l2_1 := B2.lt); (try clear k1); replace b0 := bchain b0 bb;  (try replace B2 := B2.kept bb); clear bb; (try have k1 := B1.k))
      | ((with_reducible refine at_new 2 24 ?_); refine box_new (d := 2) rfl rfl 24 rfl _ zero_cfg ?_; intro w' B2 bb; have n2 := b0.size;  (try have l1_2 := B1.lt); (try clear k1); replace b0 := bchain b0 bb; (try replace B1 := B1.kept bb);  clear bb; (try have k1 := B1.k))
      | ((with_reducible refine at_load 26 ?_); refine box_load rfl 26 _ rfl _ rfl (by with_reducible assumption) Try.underlying26 rfl (by kernel_rfl) ?_)
      | ((with_reducible refine at_store 24 ?_); refine box_store rfl 24 _ _ rfl _ _ rfl rfl (by with_reducible exact B2) (by kernel_rfl) (by rfl) (by simp [Value.oneCell']) ?_; clear B2; intro w' B2 gg; (try clear k1); replace b0 := below_at b0 gg b0.size n2; (try replace B1 := B1.grown gg (Nat.ne_of_lt l1_2)); clear gg; (try have k1 := B1.k))
      | (go_at_call 17; refine (impl_neg_v _ _ _ _ _ _ _ _ _ _ _ _ _ _ _ _ _ _ _ _ _ _).mono ?_; rintro e w' ⟨rfl, bb⟩; rw [hok]; (try clear k1); replace b0 := bchain b0 bb; (try replace B1 := B1.kept bb); (try replace B2 := B2.kept bb); clear bb; (try have k1 := B1.k)))
    refine bodyPost_ret (results_ct rfl _ _ _ _ _ rfl B2 Try.underlying24 rfl (by kernel_rfl)) rfl ?_
    refine ⟨?_, b0⟩
    simp [doneO, hd, Opt.cs, Opt.zero]
  cases f
  case true =>
    have hd : done ⟨⟨o1, o2, o3, o4, o5⟩, ⟨a1, a2, a3, a4, a5⟩, ⟨m1, m2, m3, m4, m5⟩, ⟨y1, y2, y3, y4, y5⟩, true⟩ = false := by simp [done]
    go_enter Try.func24, Try.ntmps24
    go_wp2_with (first
      | ((with_reducible refine at_box 1 26 ?_); refine box_box (d := 1) rfl rfl 26 _ rfl _ rfl ?_; intro w' B1 bb; have n1 := b0.size;  (try have l2_1 := B2.lt); (try clear k1); replace b0 := bchain b0 bb;  (try replace B2 := B2.kept bb); clear bb; (try have k1 := B1.k))
      | ((with_reducible refine at_new 2 24 ?_); refine box_new (d := 2) rfl rfl 24 rfl _ zero_cfg ?_; intro w' B2 bb; have n2 := b0.size;  (try have l1_2 := B1.lt); (try clear k1); replace b0 := bchain b0 bb; (try replace B1 := B1.kept bb);  clear bb; (try have k1 := B1.k))
      | ((with_reducible refine at_load 26 ?_); refine box_load rfl 26 _ rfl _ rfl (by with_reducible assumption) Try.underlying26 rfl (by kernel_rfl) ?_)
      | ((with_reducible refine at_store 24 ?_); refine box_store rfl 24 _ _ rfl _ _ rfl rfl (by with_reducible exact B2) (by kernel_rfl) (by rfl) (by simp [Value.oneCell']) ?_; clear B2; intro w' B2 gg; (try clear k1); replace b0 := below_at b0 gg b0.size n2; (try replace B1 := B1.grown gg (Nat.ne_of_lt l1_2)); clear gg; (try have k1 := B1.k))
      | (go_at_call 17; refine (impl_neg_v _ _ _ _ _ _ _ _ _ _ _ _ _ _ _ _ _ _ _ _ _ _).mono ?_; rintro e w' ⟨rfl, bb⟩; rw [hok]; (try clear k1); replace b0 := bchain b0 bb; (try replace B1 := B1.kept bb); (try replace B2 := B2.kept bb); clear bb; (try have k1 := B1.k)))
    refine bodyPost_ret (results_ct rfl _ _ _ _ _ rfl B2 Try.underlying24 rfl (by kernel_rfl)) rfl ?_
    refine ⟨?_, b0⟩
    simp [doneO, hd, Opt.cs, Opt.zero]
  cases hmz : Opt.same ⟨m1, m2, m3, m4, m5⟩ Opt.zero
  case true =>
    have hd : done ⟨⟨o1, o2, o3, o4, o5⟩, ⟨a1, a2, a3, a4, a5⟩, ⟨m1, m2, m3, m4, m5⟩, ⟨y1, y2, y3, y4, y5⟩, false⟩ = false := by simp [done, hmz]
    go_enter Try.func24, Try.ntmps24
    go_wp2_with (first
      | ((with_reducible refine at_box 1 26 ?_); refine box_box (d := 1) rfl rfl 26 _ rfl _ rfl ?_; intro w' B1 bb; have n1 := b0.size;  (try have l2_1 := B2.lt); (try clear k1); replace b0 := bchain b0 bb;  (try replace B2 := B2.kept bb); clear bb; (try have k1 := B1.k))
      | ((with_reducible refine at_new 2 24 ?_); refine box_new (d := 2) rfl rfl 24 rfl _ zero_cfg ?_; intro w' B2 bb; have n2 := b0.size;  (try have l1_2 := B1.lt); (try clear k1); replace b0 := bchain b0 bb; (try replace B1 := B1.kept bb);  clear bb; (try have k1 := B1.k))
      | ((with_reducible refine at_load 26 ?_); refine box_load rfl 26 _ rfl _ rfl (by with_reducible assumption) Try.underlying26 rfl (by kernel_rfl) ?_)
      | ((with_reducible refine at_store 24 ?_); refine box_store rfl 24 _ _ rfl _ _ rfl rfl (by with_reducible exact B2) (by kernel_rfl) (by rfl) (by simp [Value.oneCell']) ?_; clear B2; intro w' B2 gg; (try clear k1); replace b0 := below_at b0 gg b0.size n2; (try replace B1 := B1.grown gg (Nat.ne_of_lt l1_2)); clear gg; (try have k1 := B1.k))
      | (go_at_call 17; refine (impl_neg_v _ _ _ _ _ _ _ _ _ _ _ _ _ _ _ _ _ _ _ _ _ _).mono ?_; rintro e w' ⟨rfl, bb⟩; rw [hok]; (try clear k1); replace b0 := bchain b0 bb; (try replace B1 := B1.kept bb); (try replace B2 := B2.kept bb); clear bb; (try have k1 := B1.k))
      | (go_at_call 65; refine (nothing_v _ _ _ _ _ _).mono ?_; rintro e w' ⟨rfl, bb⟩; (first | rw [hmz]); (try clear k1); replace b0 := bchain b0 bb; (try replace B1 := B1.kept bb); (try replace B2 := B2.kept bb); clear bb; (try have k1 := B1.k)))
    refine bodyPost_ret (results_ct rfl _ _ _ _ _ rfl B2 Try.underlying24 rfl (by kernel_rfl)) rfl ?_
    refine ⟨?_, b0⟩
    simp [doneO, hd, Opt.cs, Opt.zero]
  cases hyz : Opt.same ⟨y1, y2, y3, y4, y5⟩ Opt.zero
  case true =>
    have hd : done ⟨⟨o1, o2, o3, o4, o5⟩, ⟨a1, a2, a3, a4, a5⟩, ⟨m1, m2, m3, m4, m5⟩, ⟨y1, y2, y3, y4, y5⟩, false⟩ = false := by simp [done, hyz]
    go_enter Try.func24, Try.ntmps24
    go_wp2_with (first
      | ((with_reducible refine at_box 1 26 ?_); refine box_box (d := 1) rfl rfl 26 _ rfl _ rfl ?_; intro w' B1 bb; have n1 := b0.size;  (try have l2_1 := B2.lt); (try clear k1); replace b0 := bchain b0 bb;  (try replace B2 := B2.kept bb); clear bb; (try have k1 := B1.k))
      | ((with_reducible refine at_new 2 24 ?_); refine box_new (d := 2) rfl rfl 24 rfl _ zero_cfg ?_; intro w' B2 bb; have n2 := b0.size;  (try have l1_2 := B1.lt); (try clear k1); replace b0 := bchain b0 bb; (try replace B1 := B1.kept bb);  clear bb; (try have k1 := B1.k))
      | ((with_reducible refine at_load 26 ?_); refine box_load rfl 26 _ rfl _ rfl (by with_reducible assumption) Try.underlying26 rfl (by kernel_rfl) ?_)
      | ((with_reducible refine at_store 24 ?_); refine box_store rfl 24 _ _ rfl _ _ rfl rfl (by with_reducible exact B2) (by kernel_rfl) (by rfl) (by simp [Value.oneCell']) ?_; clear B2; intro w' B2 gg; (try clear k1); replace b0 := below_at b0 gg b0.size n2; (try replace B1 := B1.grown gg (Nat.ne_of_lt l1_2)); clear gg; (try have k1 := B1.k))
      | (go_at_call 17; refine (impl_neg_v _ _ _ _ _ _ _ _ _ _ _ _ _ _ _ _ _ _ _ _ _ _).mono ?_; rintro e w' ⟨rfl, bb⟩; rw [hok]; (try clear k1); replace b0 := bchain b0 bb; (try replace B1 := B1.kept bb); (try replace B2 := B2.kept bb); clear bb; (try have k1 := B1.k))
      | (go_at_call 65; refine (nothing_v _ _ _ _ _ _).mono ?_; rintro e w' ⟨rfl, bb⟩; (first | rw [hmz] | rw [hyz]); (try clear k1); replace b0 := bchain b0 bb; (try replace B1 := B1.kept bb); (try replace B2 := B2.kept bb); clear bb; (try have k1 := B1.k)))
    refine bodyPost_ret (results_ct rfl _ _ _ _ _ rfl B2 Try.underlying24 rfl (by kernel_rfl)) rfl ?_
    refine ⟨?_, b0⟩
    simp [doneO, hd, Opt.cs, Opt.zero]
  cases hm : meets ⟨m1, m2, m3, m4, m5⟩ ⟨y1, y2, y3, y4, y5⟩
  · go_enter Try.func24, Try.ntmps24
    go_wp2_with (first
      | ((with_reducible refine at_box 1 26 ?_); refine box_box (d := 1) rfl rfl 26 _ rfl _ rfl ?_; intro w' B1 bb; have n1 := b0.size;  (try have l2_1 := B2.lt); (try clear k1); replace b0 := bchain b0 bb;  (try replace B2 := B2.kept bb); clear bb; (try have k1 := B1.k))
      | ((with_reducible refine at_new 2 24 ?_); refine box_new (d := 2) rfl rfl 24 rfl _ zero_cfg ?_; intro w' B2 bb; have n2 := b0.size;  (try have l1_2 := B1.lt); (try clear k1); replace b0 := bchain b0 bb; (try replace B1 := B1.kept bb);  clear bb; (try have k1 := B1.k))
      | ((with_reducible refine at_load 26 ?_); refine box_load rfl 26 _ rfl _ rfl (by with_reducible assumption) Try.underlying26 rfl (by kernel_rfl) ?_)
      | ((with_reducible refine at_store 24 ?_); refine box_store rfl 24 _ _ rfl _ _ rfl rfl (by with_reducible exact B2) (by kernel_rfl) (by rfl) (by simp [Value.oneCell']) ?_; clear B2; intro w' B2 gg; (try clear k1); replace b0 := below_at b0 gg b0.size n2; (try replace B1 := B1.grown gg (Nat.ne_of_lt l1_2)); clear gg; (try have k1 := B1.k))
      | (go_at_call 17; refine (impl_neg_v _ _ _ _ _ _ _ _ _ _ _ _ _ _ _ _ _ _ _ _ _ _).mono ?_; rintro e w' ⟨rfl, bb⟩; rw [hok]; (try clear k1); replace b0 := bchain b0 bb; (try replace B1 := B1.kept bb); (try replace B2 := B2.kept bb); clear bb; (try have k1 := B1.k))
      | (go_at_call 65; refine (nothing_v _ _ _ _ _ _).mono ?_; rintro e w' ⟨rfl, bb⟩; (first | rw [hmz] | rw [hyz]); (try clear k1); replace b0 := bchain b0 bb; (try replace B1 := B1.kept bb); (try replace B2 := B2.kept bb); clear bb; (try have k1 := B1.k)))
    refine (impl_meet_no _ _ _ _ _ _ _ _ _ _ hm _).mono ?_
    rintro e w' ⟨rfl, bb⟩
    (try clear k1)
    replace b0 := bchain b0 bb
    (try replace B1 := B1.kept bb)
    (try replace B2 := B2.kept bb)
    clear bb
    (try have k1 := B1.k)
    go_wp2_with (first
      | ((with_reducible refine at_box 1 26 ?_); refine box_box (d := 1) rfl rfl 26 _ rfl _ rfl ?_; intro w' B1 bb; have n1 := b0.size;  (try have l2_1 := B2.lt); (try clear k1); replace b0 := bchain b0 bb;  (try replace B2 := B2.kept bb); clear bb; (try have k1 := B1.k))
      | ((with_reducible refine at_new 2 24 ?_); refine box_new (d := 2) rfl rfl 24 rfl _ zero_cfg ?_; intro w' B2 bb; have n2 := b0.size;  (try have l1_2 := B1.lt); (try clear k1); replace b0 := bchain b0 bb; (try replace B1 := B1.kept bb);  clear bb; (try have k1 := B1.k))
      | ((with_reducible refine at_load 26 ?_); refine box_load rfl 26 _ rfl _ rfl (by with_reducible assumption) Try.underlying26 rfl (by kernel_rfl) ?_)
      | ((with_reducible refine at_store 24 ?_); refine box_store rfl 24 _ _ rfl _ _ rfl rfl (by with_reducible exact B2) (by kernel_rfl) (by rfl) (by simp [Value.oneCell']) ?_; clear B2; intro w' B2 gg; (try clear k1); replace b0 := below_at b0 gg b0.size n2; (try replace B1 := B1.grown gg (Nat.ne_of_lt l1_2)); clear gg; (try have k1 := B1.k))
      | (go_at_call 17; refine (impl_neg_v _ _ _ _ _ _ _ _ _ _ _ _ _ _ _ _ _ _ _ _ _ _).mono ?_; rintro e w' ⟨rfl, bb⟩; rw [hok]; (try clear k1); replace b0 := bchain b0 bb; (try replace B1 := B1.kept bb); (try replace B2 := B2.kept bb); clear bb; (try have k1 := B1.k))
      | (go_at_call 65; refine (nothing_v _ _ _ _ _ _).mono ?_; rintro e w' ⟨rfl, bb⟩; (first | rw [hmz] | rw [hyz]); (try clear k1); replace b0 := bchain b0 bb; (try replace B1 := B1.kept bb); (try replace B2 := B2.kept bb); clear bb; (try have k1 := B1.k)))
    refine bodyPost_ret (results_ct rfl _ _ _ _ _ rfl B2 Try.underlying24 rfl (by kernel_rfl)) rfl ?_
    refine ⟨?_, b0⟩
    have hd : done ⟨⟨o1, o2, o3, o4, o5⟩, ⟨a1, a2, a3, a4, a5⟩, ⟨m1, m2, m3, m4, m5⟩, ⟨y1, y2, y3, y4, y5⟩, false⟩ = false := by simp [done, hm]
    simp [doneO, hd, Opt.cs, Opt.zero]
  · go_enter Try.func24, Try.ntmps24
    go_wp2_with (first
      | ((with_reducible refine at_box 1 26 ?_); refine box_box (d := 1) rfl rfl 26 _ rfl _ rfl ?_; intro w' B1 bb; have n1 := b0.size;  (try have l2_1 := B2.lt); (try clear k1); replace b0 := bchain b0 bb;  (try replace B2 := B2.kept bb); clear bb; (try have k1 := B1.k))
      | ((with_reducible refine at_new 2 24 ?_); refine box_new (d := 2) rfl rfl 24 rfl _ zero_cfg ?_; intro w' B2 bb; have n2 := b0.size;  (try have l1_2 := B1.lt); (try clear k1); replace b0 := bchain b0 bb; (try replace B1 := B1.kept bb);  clear bb; (try have k1 := B1.k))
      | ((with_reducible refine at_load 26 ?_); refine box_load rfl 26 _ rfl _ rfl (by with_reducible assumption) Try.underlying26 rfl (by kernel_rfl) ?_)
      | ((with_reducible refine at_store 24 ?_); refine box_store rfl 24 _ _ rfl _ _ rfl rfl (by with_reducible exact B2) (by kernel_rfl) (by rfl) (by simp [Value.oneCell']) ?_; clear B2; intro w' B2 gg; (try clear k1); replace b0 := below_at b0 gg b0.size n2; (try replace B1 := B1.grown gg (Nat.ne_of_lt l1_2)); clear gg; (try have k1 := B1.k))
      | (go_at_call 17; refine (impl_neg_v _ _ _ _ _ _ _ _ _ _ _ _ _ _ _ _ _ _ _ _ _ _).mono ?_; rintro e w' ⟨rfl, bb⟩; rw [hok]; (try clear k1); replace b0 := bchain b0 bb; (try replace B1 := B1.kept bb); (try replace B2 := B2.kept bb); clear bb; (try have k1 := B1.k))
      | (go_at_call 65; refine (nothing_v _ _ _ _ _ _).mono ?_; rintro e w' ⟨rfl, bb⟩; (first | rw [hmz] | rw [hyz]); (try clear k1); replace b0 := bchain b0 bb; (try replace B1 := B1.kept bb); (try replace B2 := B2.kept bb); clear bb; (try have k1 := B1.k)))
    refine (impl_meet_yes _ _ _ _ _ _ _ _ _ _ _ _ _ _ hm rfl rfl rfl rfl _).mono ?_
    rintro e w' ⟨rfl, bb⟩
    (try clear k1)
    replace b0 := bchain b0 bb
    (try replace B1 := B1.kept bb)
    (try replace B2 := B2.kept bb)
    clear bb
    (try have k1 := B1.k)
    go_wp2_with (first
      | ((with_reducible refine at_box 1 26 ?_); refine box_box (d := 1) rfl rfl 26 _ rfl _ rfl ?_; intro w' B1 bb; have n1 := b0.size;  (try have l2_1 := B2.lt); (try clear k1); replace b0 := bchain b0 bb;  (try replace B2 := B2.kept bb); clear bb; (try have k1 := B1.k))
      | ((with_reducible refine at_new 2 24 ?_); refine box_new (d := 2) rfl rfl 24 rfl _ zero_cfg ?_; intro w' B2 bb; have n2 := b0.size;  (try have l1_2 := B1.lt); (try clear k1); replace b0 := bchain b0 bb; (try replace B1 := B1.kept bb);  clear bb; (try have k1 := B1.k))
      | ((with_reducible refine at_load 26 ?_); refine box_load rfl 26 _ rfl _ rfl (by with_reducible assumption) Try.underlying26 rfl (by kernel_rfl) ?_)
      | ((with_reducible refine at_store 24 ?_); refine box_store rfl 24 _ _ rfl _ _ rfl rfl (by with_reducible exact B2) (by kernel_rfl) (by rfl) (by simp [Value.oneCell']) ?_; clear B2; intro w' B2 gg; (try clear k1); replace b0 := below_at b0 gg b0.size n2; (try replace B1 := B1.grown gg (Nat.ne_of_lt l1_2)); clear gg; (try have k1 := B1.k))
      | (go_at_call 17; refine (impl_neg_v _ _ _ _ _ _ _ _ _ _ _ _ _ _ _ _ _ _ _ _ _ _).mono ?_; rintro e w' ⟨rfl, bb⟩; rw [hok]; (try clear k1); replace b0 := bchain b0 bb; (try replace B1 := B1.kept bb); (try replace B2 := B2.kept bb); clear bb; (try have k1 := B1.k))
      | (go_at_call 65; refine (nothing_v _ _ _ _ _ _).mono ?_; rintro e w' ⟨rfl, bb⟩; (first | rw [hmz] | rw [hyz]); (try clear k1); replace b0 := bchain b0 bb; (try replace B1 := B1.kept bb); (try replace B2 := B2.kept bb); clear bb; (try have k1 := B1.k)))
    refine bodyPost_ret (results_ct rfl _ _ _ _ _ rfl B2 Try.underlying24 rfl (by kernel_rfl)) rfl ?_
    refine ⟨?_, b0⟩
    have hd : done ⟨⟨o1, o2, o3, o4, o5⟩, ⟨a1, a2, a3, a4, a5⟩, ⟨m1, m2, m3, m4, m5⟩, ⟨y1, y2, y3, y4, y5⟩, false⟩ = true := by simp [done, hok, hmz, hyz, hm]
    simp [doneO, hd, Opt.cs, Opt.least]
end Go.Proofs.Ytaoafikkamnjlaa
