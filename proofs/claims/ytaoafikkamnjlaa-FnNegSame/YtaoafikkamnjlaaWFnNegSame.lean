/- The law of NegSame, promise 1, returns true at every code. -/
import Derived.Test.YtaoafikkamnjlaaNegRun
import Derived.Test.YtaoafikkamnjlaaNegDone
import Derived.Test.YtaoafikkamnjlaaNegEq
import Derived.Test.YtaoafikkamnjlaaOpenGuard
import Derived.Test.YtaoafikkamnjlaaLiOk
import Derived.RowKit3
namespace Go.Proofs.Ytaoafikkamnjlaa.fnNegSame
open Go.RowKit
theorem impl_negs (s : Neg) (w : World) : Calls Try.prog 17 #[.agg s.cs] w fun e w' => e = .returned (.bool s.ok) ∧ Below w.heap.size w w' := by
  obtain ⟨⟨o1, o2, o3, o4, o5⟩, ⟨a1, a2, a3, a4, a5⟩, ⟨m1, m2, m3, m4, m5⟩, ⟨y1, y2, y3, y4, y5⟩, f⟩ := s
  exact impl_neg_v o1 o2 o3 o4 o5 a1 a2 a3 a4 a5 m1 m2 m3 m4 m5 y1 y2 y3 y4 y5 f w
set_option maxRecDepth 100000 in
set_option maxHeartbeats 4000000 in
theorem small (a0 : Option Addr) (len0 cap0 : Nat) (cz : List Nat) (w : World) (hs0 : ¬ (1048576 : Int) < (len0 : Int)) (hR0 : Rd w (.slice a0 len0 cap0) cz) :
    Calls Try.prog 4 #[.slice a0 len0 cap0] w fun e w' => e = .returned (.bool true) ∧ Below w.heap.size w w' := by
  go_enter Try.func4, Try.ntmps4
  have hu := Try.underlying24
  have hg : Try.prog.eqGuardType Try.prog.depth 24 = false := by kernel_rfl
  have hp : Try.prog.stoodInHeld 24 = false := by kernel_rfl
  go_wp2_with fail
  refine (play_any _ cz _ hR0).mono ?_
  rintro e w1 ⟨a1, a2, a3, a4, a5, b1, b2, b3, b4, b5, v', ks, rfl, hA, hB, hks, hkl, O, bq⟩
  clear hR0
  have b0 : Below w1.heap.size w1 w1 := Below.refl _ _
  go_wp2_with (first
    | ((with_reducible refine at_new 3 24 ?_); refine box_new (d := 3) rfl rfl 24 rfl _ zero_cfg ?_; intro w' B3 bb; have n3 := b0.size;  (try have l4_3 := B4.lt); (try have l6_3 := B6.lt); (try have l7_3 := B7.lt); (try have l9_3 := B9.lt); (try have l11_3 := B11.lt); (try have l13_3 := B13.lt);  replace b0 := bchain b0 bb;  (try replace B4 := B4.kept bb); (try replace B6 := B6.kept bb); (try replace B7 := B7.kept bb); (try replace B9 := B9.kept bb); (try replace B11 := B11.kept bb); (try replace B13 := B13.kept bb); clear bb; skip)
    | ((with_reducible refine at_new 4 24 ?_); refine box_new (d := 4) rfl rfl 24 rfl _ zero_cfg ?_; intro w' B4 bb; have n4 := b0.size;  (try have l3_4 := B3.lt); (try have l6_4 := B6.lt); (try have l7_4 := B7.lt); (try have l9_4 := B9.lt); (try have l11_4 := B11.lt); (try have l13_4 := B13.lt);  replace b0 := bchain b0 bb; (try replace B3 := B3.kept bb);  (try replace B6 := B6.kept bb); (try replace B7 := B7.kept bb); (try replace B9 := B9.kept bb); (try replace B11 := B11.kept bb); (try replace B13 := B13.kept bb); clear bb; skip)
    | ((with_reducible refine at_load 24 ?_); refine box_load rfl 24 _ rfl _ rfl (by with_reducible assumption) Try.underlying24 rfl (by kernel_rfl) ?_)
    | ((with_reducible refine at_load 26 ?_); refine box_load rfl 26 _ rfl _ rfl (by with_reducible assumption) Try.underlying26 rfl (by kernel_rfl) ?_)
    | ((with_reducible refine at_loadg 24 ?_); refine box_loadg (by rfl) 24 _ rfl _ rfl (by with_reducible assumption) Try.underlying24 rfl (by kernel_rfl) ?_)
    | ((with_reducible refine at_loadg 26 ?_); refine box_loadg (by rfl) 26 _ rfl _ rfl (by with_reducible assumption) Try.underlying26 rfl (by kernel_rfl) ?_)
    | ((with_reducible refine at_store 24 ?_); refine box_store rfl 24 _ _ rfl _ _ rfl rfl (by with_reducible exact B3) (by kernel_rfl) (by rfl) (by simp [Value.oneCell']) ?_; clear B3; intro w' B3 gg;  replace b0 := below_at b0 gg b0.size n3; (try replace B4 := B4.grown gg (Nat.ne_of_gt l3_4)); (try replace B6 := B6.grown gg (Nat.ne_of_gt l3_6)); (try replace B7 := B7.grown gg (Nat.ne_of_gt l3_7)); (try replace B9 := B9.grown gg (Nat.ne_of_gt l3_9)); (try replace B11 := B11.grown gg (Nat.ne_of_gt l3_11)); (try replace B13 := B13.grown gg (Nat.ne_of_gt l3_13)); clear gg; skip)
    | ((with_reducible refine at_store 24 ?_); refine box_store rfl 24 _ _ rfl _ _ rfl rfl (by with_reducible exact B4) (by kernel_rfl) (by rfl) (by simp [Value.oneCell']) ?_; clear B4; intro w' B4 gg;  replace b0 := below_at b0 gg b0.size n4; (try replace B3 := B3.grown gg (Nat.ne_of_lt l3_4)); (try replace B6 := B6.grown gg (Nat.ne_of_gt l4_6)); (try replace B7 := B7.grown gg (Nat.ne_of_gt l4_7)); (try replace B9 := B9.grown gg (Nat.ne_of_gt l4_9)); (try replace B11 := B11.grown gg (Nat.ne_of_gt l4_11)); (try replace B13 := B13.grown gg (Nat.ne_of_gt l4_13)); clear gg; skip))
  refine (run_any a1 a2 a3 a4 a5 b1 b2 b3 b4 b5 _ ks _ _ hA hB (O.kept b0) hks hkl).mono ?_
  rintro e w' ⟨p, gs, gn, v0, v1, rfl, hh, hsz, H, bb⟩
  replace b0 := bchain b0 bb
  (try replace B3 := B3.kept bb)
  (try replace B4 := B4.kept bb)
  (try replace B6 := B6.kept bb)
  (try replace B7 := B7.kept bb)
  (try replace B9 := B9.kept bb)
  (try replace B11 := B11.kept bb)
  (try replace B13 := B13.kept bb)
  clear bb
  skip
  clear H O hks hkl
  go_wp2_with (first
    | ((with_reducible refine at_new 6 26 ?_); refine box_new (d := 6) rfl rfl 26 rfl _ zero_neg ?_; intro w' B6 bb; have n6 := b0.size;  (try have l3_6 := B3.lt); (try have l4_6 := B4.lt); (try have l7_6 := B7.lt); (try have l9_6 := B9.lt); (try have l11_6 := B11.lt); (try have l13_6 := B13.lt);  replace b0 := bchain b0 bb; (try replace B3 := B3.kept bb); (try replace B4 := B4.kept bb);  (try replace B7 := B7.kept bb); (try replace B9 := B9.kept bb); (try replace B11 := B11.kept bb); (try replace B13 := B13.kept bb); clear bb; skip)
    | ((with_reducible refine at_new 7 26 ?_); refine box_new (d := 7) rfl rfl 26 rfl _ zero_neg ?_; intro w' B7 bb; have n7 := b0.size;  (try have l3_7 := B3.lt); (try have l4_7 := B4.lt); (try have l6_7 := B6.lt); (try have l9_7 := B9.lt); (try have l11_7 := B11.lt); (try have l13_7 := B13.lt);  replace b0 := bchain b0 bb; (try replace B3 := B3.kept bb); (try replace B4 := B4.kept bb); (try replace B6 := B6.kept bb);  (try replace B9 := B9.kept bb); (try replace B11 := B11.kept bb); (try replace B13 := B13.kept bb); clear bb; skip)
    | ((with_reducible refine at_load 24 ?_); refine box_load rfl 24 _ rfl _ rfl (by with_reducible assumption) Try.underlying24 rfl (by kernel_rfl) ?_)
    | ((with_reducible refine at_load 26 ?_); refine box_load rfl 26 _ rfl _ rfl (by with_reducible assumption) Try.underlying26 rfl (by kernel_rfl) ?_)
    | ((with_reducible refine at_loadg 24 ?_); refine box_loadg (by rfl) 24 _ rfl _ rfl (by with_reducible assumption) Try.underlying24 rfl (by kernel_rfl) ?_)
    | ((with_reducible refine at_loadg 26 ?_); refine box_loadg (by rfl) 26 _ rfl _ rfl (by with_reducible assumption) Try.underlying26 rfl (by kernel_rfl) ?_)
    | ((with_reducible refine at_store 26 ?_); refine box_store rfl 26 _ _ rfl _ _ rfl rfl (by with_reducible exact B6) (by kernel_rfl) (by rfl) (by simp [Neg.cs, Value.oneCell']) ?_; clear B6; intro w' B6 gg;  replace b0 := below_at b0 gg b0.size n6; (try replace B3 := B3.grown gg (Nat.ne_of_lt l3_6)); (try replace B4 := B4.grown gg (Nat.ne_of_lt l4_6)); (try replace B7 := B7.grown gg (Nat.ne_of_gt l6_7)); (try replace B9 := B9.grown gg (Nat.ne_of_gt l6_9)); (try replace B11 := B11.grown gg (Nat.ne_of_gt l6_11)); (try replace B13 := B13.grown gg (Nat.ne_of_gt l6_13)); clear gg; skip)
    | ((with_reducible refine at_store 26 ?_); refine box_store rfl 26 _ _ rfl _ _ rfl rfl (by with_reducible exact B7) (by kernel_rfl) (by rfl) (by simp [Neg.cs, Value.oneCell']) ?_; clear B7; intro w' B7 gg;  replace b0 := below_at b0 gg b0.size n7; (try replace B3 := B3.grown gg (Nat.ne_of_lt l3_7)); (try replace B4 := B4.grown gg (Nat.ne_of_lt l4_7)); (try replace B6 := B6.grown gg (Nat.ne_of_lt l6_7)); (try replace B9 := B9.grown gg (Nat.ne_of_gt l7_9)); (try replace B11 := B11.grown gg (Nat.ne_of_gt l7_11)); (try replace B13 := B13.grown gg (Nat.ne_of_gt l7_13)); clear gg; skip))
  by_cases hm : a1 = b1
  · subst hm
    have hI := hh.1 rfl
    have hM := least_good hA hB
    have hkx := hI.1.ok hM hA
    have hky := hI.2.ok hM hB
    have hmt : meets ⟨a1, a2, a3, a4, a5⟩ ⟨a1, b2, b3, b4, b5⟩ = true := meets_mk hA hB rfl
    have hax := hI.1.agreed
    have hay := hI.2.agreed
    clear hI hM hh
    simp only [Opt.least] at hax hay
    obtain ⟨c2, H2⟩ : ∃ c, Hid (min a2 b2 = c) := ⟨_, rfl⟩
    obtain ⟨c3, H3⟩ : ∃ c, Hid (min a3 b3 = c) := ⟨_, rfl⟩
    obtain ⟨c4, H4⟩ : ∃ c, Hid (min a4 b4 = c) := ⟨_, rfl⟩
    obtain ⟨c5, H5⟩ : ∃ c, Hid (min a5 b5 = c) := ⟨_, rfl⟩
    rw [H2.out, H3.out, H4.out, H5.out] at hax hay
    cases hdx : done p.x <;> cases hdy : done p.y
    · refine (impl_meet_yes _ _ _ _ _ _ _ _ _ _ c2 c3 c4 c5 hmt H2.out H3.out H4.out H5.out _).mono ?_
      rintro e w' ⟨rfl, bb⟩
      replace b0 := bchain b0 bb
      (try replace B3 := B3.kept bb)
      (try replace B4 := B4.kept bb)
      (try replace B6 := B6.kept bb)
      (try replace B7 := B7.kept bb)
      (try replace B9 := B9.kept bb)
      (try replace B11 := B11.kept bb)
      (try replace B13 := B13.kept bb)
      clear bb
      skip
      go_wp2_with (first
        | ((with_reducible refine at_new 9 24 ?_); refine box_new (d := 9) rfl rfl 24 rfl _ zero_cfg ?_; intro w' B9 bb; have n9 := b0.size;  (try have l3_9 := B3.lt); (try have l4_9 := B4.lt); (try have l6_9 := B6.lt); (try have l7_9 := B7.lt); (try have l11_9 := B11.lt); (try have l13_9 := B13.lt);  replace b0 := bchain b0 bb; (try replace B3 := B3.kept bb); (try replace B4 := B4.kept bb); (try replace B6 := B6.kept bb); (try replace B7 := B7.kept bb);  (try replace B11 := B11.kept bb); (try replace B13 := B13.kept bb); clear bb; skip)
        | ((with_reducible refine at_load 24 ?_); refine box_load rfl 24 _ rfl _ rfl (by with_reducible assumption) Try.underlying24 rfl (by kernel_rfl) ?_)
        | ((with_reducible refine at_load 26 ?_); refine box_load rfl 26 _ rfl _ rfl (by with_reducible assumption) Try.underlying26 rfl (by kernel_rfl) ?_)
        | ((with_reducible refine at_loadg 24 ?_); refine box_loadg (by rfl) 24 _ rfl _ rfl (by with_reducible assumption) Try.underlying24 rfl (by kernel_rfl) ?_)
        | ((with_reducible refine at_loadg 26 ?_); refine box_loadg (by rfl) 26 _ rfl _ rfl (by with_reducible assumption) Try.underlying26 rfl (by kernel_rfl) ?_)
        | ((with_reducible refine at_store 24 ?_); refine box_store rfl 24 _ _ rfl _ _ rfl rfl (by with_reducible exact B9) (by kernel_rfl) (by rfl) (by simp [Value.oneCell']) ?_; clear B9; intro w' B9 gg;  replace b0 := below_at b0 gg b0.size n9; (try replace B3 := B3.grown gg (Nat.ne_of_lt l3_9)); (try replace B4 := B4.grown gg (Nat.ne_of_lt l4_9)); (try replace B6 := B6.grown gg (Nat.ne_of_lt l6_9)); (try replace B7 := B7.grown gg (Nat.ne_of_lt l7_9)); (try replace B11 := B11.grown gg (Nat.ne_of_gt l9_11)); (try replace B13 := B13.grown gg (Nat.ne_of_gt l9_13)); clear gg; skip))
      refine (impl_done p.x _).mono ?_
      rintro e w' ⟨rfl, bb⟩
      rw [hdx]
      replace b0 := bchain b0 bb
      (try replace B3 := B3.kept bb)
      (try replace B4 := B4.kept bb)
      (try replace B6 := B6.kept bb)
      (try replace B7 := B7.kept bb)
      (try replace B9 := B9.kept bb)
      (try replace B11 := B11.kept bb)
      (try replace B13 := B13.kept bb)
      clear bb
      skip
      go_wp2_with (first
        | ((with_reducible refine at_new 11 24 ?_); refine box_new (d := 11) rfl rfl 24 rfl _ zero_cfg ?_; intro w' B11 bb; have n11 := b0.size;  (try have l3_11 := B3.lt); (try have l4_11 := B4.lt); (try have l6_11 := B6.lt); (try have l7_11 := B7.lt); (try have l9_11 := B9.lt); (try have l13_11 := B13.lt);  replace b0 := bchain b0 bb; (try replace B3 := B3.kept bb); (try replace B4 := B4.kept bb); (try replace B6 := B6.kept bb); (try replace B7 := B7.kept bb); (try replace B9 := B9.kept bb);  (try replace B13 := B13.kept bb); clear bb; skip)
        | ((with_reducible refine at_load 24 ?_); refine box_load rfl 24 _ rfl _ rfl (by with_reducible assumption) Try.underlying24 rfl (by kernel_rfl) ?_)
        | ((with_reducible refine at_load 26 ?_); refine box_load rfl 26 _ rfl _ rfl (by with_reducible assumption) Try.underlying26 rfl (by kernel_rfl) ?_)
        | ((with_reducible refine at_loadg 24 ?_); refine box_loadg (by rfl) 24 _ rfl _ rfl (by with_reducible assumption) Try.underlying24 rfl (by kernel_rfl) ?_)
        | ((with_reducible refine at_loadg 26 ?_); refine box_loadg (by rfl) 26 _ rfl _ rfl (by with_reducible assumption) Try.underlying26 rfl (by kernel_rfl) ?_)
        | ((with_reducible refine at_store 24 ?_); refine box_store rfl 24 _ _ rfl _ _ rfl rfl (by with_reducible exact B11) (by kernel_rfl) (by rfl) (by simp [Opt.cs, Value.oneCell']) ?_; clear B11; intro w' B11 gg;  replace b0 := below_at b0 gg b0.size n11; (try replace B3 := B3.grown gg (Nat.ne_of_lt l3_11)); (try replace B4 := B4.grown gg (Nat.ne_of_lt l4_11)); (try replace B6 := B6.grown gg (Nat.ne_of_lt l6_11)); (try replace B7 := B7.grown gg (Nat.ne_of_lt l7_11)); (try replace B9 := B9.grown gg (Nat.ne_of_lt l9_11)); (try replace B13 := B13.grown gg (Nat.ne_of_gt l11_13)); clear gg; skip))
      refine (impl_done p.y _).mono ?_
      rintro e w' ⟨rfl, bb⟩
      rw [hdy]
      replace b0 := bchain b0 bb
      (try replace B3 := B3.kept bb)
      (try replace B4 := B4.kept bb)
      (try replace B6 := B6.kept bb)
      (try replace B7 := B7.kept bb)
      (try replace B9 := B9.kept bb)
      (try replace B11 := B11.kept bb)
      (try replace B13 := B13.kept bb)
      clear bb
      skip
      go_wp2_with (first
        | ((with_reducible refine at_new 13 24 ?_); refine box_new (d := 13) rfl rfl 24 rfl _ zero_cfg ?_; intro w' B13 bb; have n13 := b0.size;  (try have l3_13 := B3.lt); (try have l4_13 := B4.lt); (try have l6_13 := B6.lt); (try have l7_13 := B7.lt); (try have l9_13 := B9.lt); (try have l11_13 := B11.lt);  replace b0 := bchain b0 bb; (try replace B3 := B3.kept bb); (try replace B4 := B4.kept bb); (try replace B6 := B6.kept bb); (try replace B7 := B7.kept bb); (try replace B9 := B9.kept bb); (try replace B11 := B11.kept bb);  clear bb; skip)
        | ((with_reducible refine at_load 24 ?_); refine box_load rfl 24 _ rfl _ rfl (by with_reducible assumption) Try.underlying24 rfl (by kernel_rfl) ?_)
        | ((with_reducible refine at_load 26 ?_); refine box_load rfl 26 _ rfl _ rfl (by with_reducible assumption) Try.underlying26 rfl (by kernel_rfl) ?_)
        | ((with_reducible refine at_loadg 24 ?_); refine box_loadg (by rfl) 24 _ rfl _ rfl (by with_reducible assumption) Try.underlying24 rfl (by kernel_rfl) ?_)
        | ((with_reducible refine at_loadg 26 ?_); refine box_loadg (by rfl) 26 _ rfl _ rfl (by with_reducible assumption) Try.underlying26 rfl (by kernel_rfl) ?_)
        | ((with_reducible refine at_store 24 ?_); refine box_store rfl 24 _ _ rfl _ _ rfl rfl (by with_reducible exact B13) (by kernel_rfl) (by rfl) (by simp [Opt.cs, Value.oneCell']) ?_; clear B13; intro w' B13 gg;  replace b0 := below_at b0 gg b0.size n13; (try replace B3 := B3.grown gg (Nat.ne_of_lt l3_13)); (try replace B4 := B4.grown gg (Nat.ne_of_lt l4_13)); (try replace B6 := B6.grown gg (Nat.ne_of_lt l6_13)); (try replace B7 := B7.grown gg (Nat.ne_of_lt l7_13)); (try replace B9 := B9.grown gg (Nat.ne_of_lt l9_13)); (try replace B11 := B11.grown gg (Nat.ne_of_lt l11_13)); clear gg; skip))
      refine (impl_negs p.x _).mono ?_
      rintro e w' ⟨rfl, bb⟩
      rw [hkx]
      replace b0 := bchain b0 bb
      (try replace B3 := B3.kept bb)
      (try replace B4 := B4.kept bb)
      (try replace B6 := B6.kept bb)
      (try replace B7 := B7.kept bb)
      (try replace B9 := B9.kept bb)
      (try replace B11 := B11.kept bb)
      (try replace B13 := B13.kept bb)
      clear bb
      skip
      go_wp2_with (first
        | ((with_reducible refine at_load 24 ?_); refine box_load rfl 24 _ rfl _ rfl (by with_reducible assumption) Try.underlying24 rfl (by kernel_rfl) ?_)
        | ((with_reducible refine at_load 26 ?_); refine box_load rfl 26 _ rfl _ rfl (by with_reducible assumption) Try.underlying26 rfl (by kernel_rfl) ?_)
        | ((with_reducible refine at_loadg 24 ?_); refine box_loadg (by rfl) 24 _ rfl _ rfl (by with_reducible assumption) Try.underlying24 rfl (by kernel_rfl) ?_)
        | ((with_reducible refine at_loadg 26 ?_); refine box_loadg (by rfl) 26 _ rfl _ rfl (by with_reducible assumption) Try.underlying26 rfl (by kernel_rfl) ?_))
      refine (impl_negs p.y _).mono ?_
      rintro e w' ⟨rfl, bb⟩
      rw [hky]
      replace b0 := bchain b0 bb
      (try replace B3 := B3.kept bb)
      (try replace B4 := B4.kept bb)
      (try replace B6 := B6.kept bb)
      (try replace B7 := B7.kept bb)
      (try replace B9 := B9.kept bb)
      (try replace B11 := B11.kept bb)
      (try replace B13 := B13.kept bb)
      clear bb
      skip
      go_wp2_with (first
        | ((with_reducible refine at_load 24 ?_); refine box_load rfl 24 _ rfl _ rfl (by with_reducible assumption) Try.underlying24 rfl (by kernel_rfl) ?_)
        | ((with_reducible refine at_load 26 ?_); refine box_load rfl 26 _ rfl _ rfl (by with_reducible assumption) Try.underlying26 rfl (by kernel_rfl) ?_)
        | ((with_reducible refine at_loadg 24 ?_); refine box_loadg (by rfl) 24 _ rfl _ rfl (by with_reducible assumption) Try.underlying24 rfl (by kernel_rfl) ?_)
        | ((with_reducible refine at_loadg 26 ?_); refine box_loadg (by rfl) 26 _ rfl _ rfl (by with_reducible assumption) Try.underlying26 rfl (by kernel_rfl) ?_))
      refine (li_ok _).mono ?_
      rintro e w' ⟨rfl, bb⟩
      replace b0 := bchain b0 bb
      (try replace B3 := B3.kept bb)
      (try replace B4 := B4.kept bb)
      (try replace B6 := B6.kept bb)
      (try replace B7 := B7.kept bb)
      (try replace B9 := B9.kept bb)
      (try replace B11 := B11.kept bb)
      (try replace B13 := B13.kept bb)
      clear bb
      skip
      go_wp2
      go_ret
      exact ⟨rfl, bchain bq b0⟩
    · have hoy := hay hdy
      refine (impl_meet_yes _ _ _ _ _ _ _ _ _ _ c2 c3 c4 c5 hmt H2.out H3.out H4.out H5.out _).mono ?_
      rintro e w' ⟨rfl, bb⟩
      replace b0 := bchain b0 bb
      (try replace B3 := B3.kept bb)
      (try replace B4 := B4.kept bb)
      (try replace B6 := B6.kept bb)
      (try replace B7 := B7.kept bb)
      (try replace B9 := B9.kept bb)
      (try replace B11 := B11.kept bb)
      (try replace B13 := B13.kept bb)
      clear bb
      skip
      go_wp2_with (first
        | ((with_reducible refine at_new 9 24 ?_); refine box_new (d := 9) rfl rfl 24 rfl _ zero_cfg ?_; intro w' B9 bb; have n9 := b0.size;  (try have l3_9 := B3.lt); (try have l4_9 := B4.lt); (try have l6_9 := B6.lt); (try have l7_9 := B7.lt); (try have l11_9 := B11.lt); (try have l13_9 := B13.lt);  replace b0 := bchain b0 bb; (try replace B3 := B3.kept bb); (try replace B4 := B4.kept bb); (try replace B6 := B6.kept bb); (try replace B7 := B7.kept bb);  (try replace B11 := B11.kept bb); (try replace B13 := B13.kept bb); clear bb; skip)
        | ((with_reducible refine at_load 24 ?_); refine box_load rfl 24 _ rfl _ rfl (by with_reducible assumption) Try.underlying24 rfl (by kernel_rfl) ?_)
        | ((with_reducible refine at_load 26 ?_); refine box_load rfl 26 _ rfl _ rfl (by with_reducible assumption) Try.underlying26 rfl (by kernel_rfl) ?_)
        | ((with_reducible refine at_loadg 24 ?_); refine box_loadg (by rfl) 24 _ rfl _ rfl (by with_reducible assumption) Try.underlying24 rfl (by kernel_rfl) ?_)
        | ((with_reducible refine at_loadg 26 ?_); refine box_loadg (by rfl) 26 _ rfl _ rfl (by with_reducible assumption) Try.underlying26 rfl (by kernel_rfl) ?_)
        | ((with_reducible refine at_store 24 ?_); refine box_store rfl 24 _ _ rfl _ _ rfl rfl (by with_reducible exact B9) (by kernel_rfl) (by rfl) (by simp [Value.oneCell']) ?_; clear B9; intro w' B9 gg;  replace b0 := below_at b0 gg b0.size n9; (try replace B3 := B3.grown gg (Nat.ne_of_lt l3_9)); (try replace B4 := B4.grown gg (Nat.ne_of_lt l4_9)); (try replace B6 := B6.grown gg (Nat.ne_of_lt l6_9)); (try replace B7 := B7.grown gg (Nat.ne_of_lt l7_9)); (try replace B11 := B11.grown gg (Nat.ne_of_gt l9_11)); (try replace B13 := B13.grown gg (Nat.ne_of_gt l9_13)); clear gg; skip))
      refine (impl_done p.x _).mono ?_
      rintro e w' ⟨rfl, bb⟩
      rw [hdx]
      replace b0 := bchain b0 bb
      (try replace B3 := B3.kept bb)
      (try replace B4 := B4.kept bb)
      (try replace B6 := B6.kept bb)
      (try replace B7 := B7.kept bb)
      (try replace B9 := B9.kept bb)
      (try replace B11 := B11.kept bb)
      (try replace B13 := B13.kept bb)
      clear bb
      skip
      go_wp2_with (first
        | ((with_reducible refine at_new 11 24 ?_); refine box_new (d := 11) rfl rfl 24 rfl _ zero_cfg ?_; intro w' B11 bb; have n11 := b0.size;  (try have l3_11 := B3.lt); (try have l4_11 := B4.lt); (try have l6_11 := B6.lt); (try have l7_11 := B7.lt); (try have l9_11 := B9.lt); (try have l13_11 := B13.lt);  replace b0 := bchain b0 bb; (try replace B3 := B3.kept bb); (try replace B4 := B4.kept bb); (try replace B6 := B6.kept bb); (try replace B7 := B7.kept bb); (try replace B9 := B9.kept bb);  (try replace B13 := B13.kept bb); clear bb; skip)
        | ((with_reducible refine at_load 24 ?_); refine box_load rfl 24 _ rfl _ rfl (by with_reducible assumption) Try.underlying24 rfl (by kernel_rfl) ?_)
        | ((with_reducible refine at_load 26 ?_); refine box_load rfl 26 _ rfl _ rfl (by with_reducible assumption) Try.underlying26 rfl (by kernel_rfl) ?_)
        | ((with_reducible refine at_loadg 24 ?_); refine box_loadg (by rfl) 24 _ rfl _ rfl (by with_reducible assumption) Try.underlying24 rfl (by kernel_rfl) ?_)
        | ((with_reducible refine at_loadg 26 ?_); refine box_loadg (by rfl) 26 _ rfl _ rfl (by with_reducible assumption) Try.underlying26 rfl (by kernel_rfl) ?_)
        | ((with_reducible refine at_store 24 ?_); refine box_store rfl 24 _ _ rfl _ _ rfl rfl (by with_reducible exact B11) (by kernel_rfl) (by rfl) (by simp [Opt.cs, Value.oneCell']) ?_; clear B11; intro w' B11 gg;  replace b0 := below_at b0 gg b0.size n11; (try replace B3 := B3.grown gg (Nat.ne_of_lt l3_11)); (try replace B4 := B4.grown gg (Nat.ne_of_lt l4_11)); (try replace B6 := B6.grown gg (Nat.ne_of_lt l6_11)); (try replace B7 := B7.grown gg (Nat.ne_of_lt l7_11)); (try replace B9 := B9.grown gg (Nat.ne_of_lt l9_11)); (try replace B13 := B13.grown gg (Nat.ne_of_gt l11_13)); clear gg; skip))
      refine (impl_done p.y _).mono ?_
      rintro e w' ⟨rfl, bb⟩
      rw [hdy, hoy]; simp only [Opt.cs]
      replace b0 := bchain b0 bb
      (try replace B3 := B3.kept bb)
      (try replace B4 := B4.kept bb)
      (try replace B6 := B6.kept bb)
      (try replace B7 := B7.kept bb)
      (try replace B9 := B9.kept bb)
      (try replace B11 := B11.kept bb)
      (try replace B13 := B13.kept bb)
      clear bb
      skip
      go_wp2_with (first
        | ((with_reducible refine at_new 13 24 ?_); refine box_new (d := 13) rfl rfl 24 rfl _ zero_cfg ?_; intro w' B13 bb; have n13 := b0.size;  (try have l3_13 := B3.lt); (try have l4_13 := B4.lt); (try have l6_13 := B6.lt); (try have l7_13 := B7.lt); (try have l9_13 := B9.lt); (try have l11_13 := B11.lt);  replace b0 := bchain b0 bb; (try replace B3 := B3.kept bb); (try replace B4 := B4.kept bb); (try replace B6 := B6.kept bb); (try replace B7 := B7.kept bb); (try replace B9 := B9.kept bb); (try replace B11 := B11.kept bb);  clear bb; skip)
        | ((with_reducible refine at_load 24 ?_); refine box_load rfl 24 _ rfl _ rfl (by with_reducible assumption) Try.underlying24 rfl (by kernel_rfl) ?_)
        | ((with_reducible refine at_load 26 ?_); refine box_load rfl 26 _ rfl _ rfl (by with_reducible assumption) Try.underlying26 rfl (by kernel_rfl) ?_)
        | ((with_reducible refine at_loadg 24 ?_); refine box_loadg (by rfl) 24 _ rfl _ rfl (by with_reducible assumption) Try.underlying24 rfl (by kernel_rfl) ?_)
        | ((with_reducible refine at_loadg 26 ?_); refine box_loadg (by rfl) 26 _ rfl _ rfl (by with_reducible assumption) Try.underlying26 rfl (by kernel_rfl) ?_)
        | ((with_reducible refine at_store 24 ?_); refine box_store rfl 24 _ _ rfl _ _ rfl rfl (by with_reducible exact B13) (by kernel_rfl) (by rfl) (by simp [Value.oneCell']) ?_; clear B13; intro w' B13 gg;  replace b0 := below_at b0 gg b0.size n13; (try replace B3 := B3.grown gg (Nat.ne_of_lt l3_13)); (try replace B4 := B4.grown gg (Nat.ne_of_lt l4_13)); (try replace B6 := B6.grown gg (Nat.ne_of_lt l6_13)); (try replace B7 := B7.grown gg (Nat.ne_of_lt l7_13)); (try replace B9 := B9.grown gg (Nat.ne_of_lt l9_13)); (try replace B11 := B11.grown gg (Nat.ne_of_lt l11_13)); clear gg; skip))
      refine (impl_negs p.x _).mono ?_
      rintro e w' ⟨rfl, bb⟩
      rw [hkx]
      replace b0 := bchain b0 bb
      (try replace B3 := B3.kept bb)
      (try replace B4 := B4.kept bb)
      (try replace B6 := B6.kept bb)
      (try replace B7 := B7.kept bb)
      (try replace B9 := B9.kept bb)
      (try replace B11 := B11.kept bb)
      (try replace B13 := B13.kept bb)
      clear bb
      skip
      go_wp2_with (first
        | ((with_reducible refine at_load 24 ?_); refine box_load rfl 24 _ rfl _ rfl (by with_reducible assumption) Try.underlying24 rfl (by kernel_rfl) ?_)
        | ((with_reducible refine at_load 26 ?_); refine box_load rfl 26 _ rfl _ rfl (by with_reducible assumption) Try.underlying26 rfl (by kernel_rfl) ?_)
        | ((with_reducible refine at_loadg 24 ?_); refine box_loadg (by rfl) 24 _ rfl _ rfl (by with_reducible assumption) Try.underlying24 rfl (by kernel_rfl) ?_)
        | ((with_reducible refine at_loadg 26 ?_); refine box_loadg (by rfl) 26 _ rfl _ rfl (by with_reducible assumption) Try.underlying26 rfl (by kernel_rfl) ?_))
      refine (impl_negs p.y _).mono ?_
      rintro e w' ⟨rfl, bb⟩
      rw [hky]
      replace b0 := bchain b0 bb
      (try replace B3 := B3.kept bb)
      (try replace B4 := B4.kept bb)
      (try replace B6 := B6.kept bb)
      (try replace B7 := B7.kept bb)
      (try replace B9 := B9.kept bb)
      (try replace B11 := B11.kept bb)
      (try replace B13 := B13.kept bb)
      clear bb
      skip
      go_wp2_with (first
        | ((with_reducible refine at_load 24 ?_); refine box_load rfl 24 _ rfl _ rfl (by with_reducible assumption) Try.underlying24 rfl (by kernel_rfl) ?_)
        | ((with_reducible refine at_load 26 ?_); refine box_load rfl 26 _ rfl _ rfl (by with_reducible assumption) Try.underlying26 rfl (by kernel_rfl) ?_)
        | ((with_reducible refine at_loadg 24 ?_); refine box_loadg (by rfl) 24 _ rfl _ rfl (by with_reducible assumption) Try.underlying24 rfl (by kernel_rfl) ?_)
        | ((with_reducible refine at_loadg 26 ?_); refine box_loadg (by rfl) 26 _ rfl _ rfl (by with_reducible assumption) Try.underlying26 rfl (by kernel_rfl) ?_))
      refine (li_ok _).mono ?_
      rintro e w' ⟨rfl, bb⟩
      replace b0 := bchain b0 bb
      (try replace B3 := B3.kept bb)
      (try replace B4 := B4.kept bb)
      (try replace B6 := B6.kept bb)
      (try replace B7 := B7.kept bb)
      (try replace B9 := B9.kept bb)
      (try replace B11 := B11.kept bb)
      (try replace B13 := B13.kept bb)
      clear bb
      skip
      go_wp2
      go_ret
      exact ⟨rfl, bchain bq b0⟩
    · have hox := hax hdx
      refine (impl_meet_yes _ _ _ _ _ _ _ _ _ _ c2 c3 c4 c5 hmt H2.out H3.out H4.out H5.out _).mono ?_
      rintro e w' ⟨rfl, bb⟩
      replace b0 := bchain b0 bb
      (try replace B3 := B3.kept bb)
      (try replace B4 := B4.kept bb)
      (try replace B6 := B6.kept bb)
      (try replace B7 := B7.kept bb)
      (try replace B9 := B9.kept bb)
      (try replace B11 := B11.kept bb)
      (try replace B13 := B13.kept bb)
      clear bb
      skip
      go_wp2_with (first
        | ((with_reducible refine at_new 9 24 ?_); refine box_new (d := 9) rfl rfl 24 rfl _ zero_cfg ?_; intro w' B9 bb; have n9 := b0.size;  (try have l3_9 := B3.lt); (try have l4_9 := B4.lt); (try have l6_9 := B6.lt); (try have l7_9 := B7.lt); (try have l11_9 := B11.lt); (try have l13_9 := B13.lt);  replace b0 := bchain b0 bb; (try replace B3 := B3.kept bb); (try replace B4 := B4.kept bb); (try replace B6 := B6.kept bb); (try replace B7 := B7.kept bb);  (try replace B11 := B11.kept bb); (try replace B13 := B13.kept bb); clear bb; skip)
        | ((with_reducible refine at_load 24 ?_); refine box_load rfl 24 _ rfl _ rfl (by with_reducible assumption) Try.underlying24 rfl (by kernel_rfl) ?_)
        | ((with_reducible refine at_load 26 ?_); refine box_load rfl 26 _ rfl _ rfl (by with_reducible assumption) Try.underlying26 rfl (by kernel_rfl) ?_)
        | ((with_reducible refine at_loadg 24 ?_); refine box_loadg (by rfl) 24 _ rfl _ rfl (by with_reducible assumption) Try.underlying24 rfl (by kernel_rfl) ?_)
        | ((with_reducible refine at_loadg 26 ?_); refine box_loadg (by rfl) 26 _ rfl _ rfl (by with_reducible assumption) Try.underlying26 rfl (by kernel_rfl) ?_)
        | ((with_reducible refine at_store 24 ?_); refine box_store rfl 24 _ _ rfl _ _ rfl rfl (by with_reducible exact B9) (by kernel_rfl) (by rfl) (by simp [Value.oneCell']) ?_; clear B9; intro w' B9 gg;  replace b0 := below_at b0 gg b0.size n9; (try replace B3 := B3.grown gg (Nat.ne_of_lt l3_9)); (try replace B4 := B4.grown gg (Nat.ne_of_lt l4_9)); (try replace B6 := B6.grown gg (Nat.ne_of_lt l6_9)); (try replace B7 := B7.grown gg (Nat.ne_of_lt l7_9)); (try replace B11 := B11.grown gg (Nat.ne_of_gt l9_11)); (try replace B13 := B13.grown gg (Nat.ne_of_gt l9_13)); clear gg; skip))
      refine (impl_done p.x _).mono ?_
      rintro e w' ⟨rfl, bb⟩
      rw [hdx, hox]; simp only [Opt.cs]
      replace b0 := bchain b0 bb
      (try replace B3 := B3.kept bb)
      (try replace B4 := B4.kept bb)
      (try replace B6 := B6.kept bb)
      (try replace B7 := B7.kept bb)
      (try replace B9 := B9.kept bb)
      (try replace B11 := B11.kept bb)
      (try replace B13 := B13.kept bb)
      clear bb
      skip
      go_wp2_with (first
        | ((with_reducible refine at_new 11 24 ?_); refine box_new (d := 11) rfl rfl 24 rfl _ zero_cfg ?_; intro w' B11 bb; have n11 := b0.size;  (try have l3_11 := B3.lt); (try have l4_11 := B4.lt); (try have l6_11 := B6.lt); (try have l7_11 := B7.lt); (try have l9_11 := B9.lt); (try have l13_11 := B13.lt);  replace b0 := bchain b0 bb; (try replace B3 := B3.kept bb); (try replace B4 := B4.kept bb); (try replace B6 := B6.kept bb); (try replace B7 := B7.kept bb); (try replace B9 := B9.kept bb);  (try replace B13 := B13.kept bb); clear bb; skip)
        | ((with_reducible refine at_load 24 ?_); refine box_load rfl 24 _ rfl _ rfl (by with_reducible assumption) Try.underlying24 rfl (by kernel_rfl) ?_)
        | ((with_reducible refine at_load 26 ?_); refine box_load rfl 26 _ rfl _ rfl (by with_reducible assumption) Try.underlying26 rfl (by kernel_rfl) ?_)
        | ((with_reducible refine at_loadg 24 ?_); refine box_loadg (by rfl) 24 _ rfl _ rfl (by with_reducible assumption) Try.underlying24 rfl (by kernel_rfl) ?_)
        | ((with_reducible refine at_loadg 26 ?_); refine box_loadg (by rfl) 26 _ rfl _ rfl (by with_reducible assumption) Try.underlying26 rfl (by kernel_rfl) ?_)
        | ((with_reducible refine at_store 24 ?_); refine box_store rfl 24 _ _ rfl _ _ rfl rfl (by with_reducible exact B11) (by kernel_rfl) (by rfl) (by simp [Value.oneCell']) ?_; clear B11; intro w' B11 gg;  replace b0 := below_at b0 gg b0.size n11; (try replace B3 := B3.grown gg (Nat.ne_of_lt l3_11)); (try replace B4 := B4.grown gg (Nat.ne_of_lt l4_11)); (try replace B6 := B6.grown gg (Nat.ne_of_lt l6_11)); (try replace B7 := B7.grown gg (Nat.ne_of_lt l7_11)); (try replace B9 := B9.grown gg (Nat.ne_of_lt l9_11)); (try replace B13 := B13.grown gg (Nat.ne_of_gt l11_13)); clear gg; skip))
      refine (impl_done p.y _).mono ?_
      rintro e w' ⟨rfl, bb⟩
      rw [hdy]
      replace b0 := bchain b0 bb
      (try replace B3 := B3.kept bb)
      (try replace B4 := B4.kept bb)
      (try replace B6 := B6.kept bb)
      (try replace B7 := B7.kept bb)
      (try replace B9 := B9.kept bb)
      (try replace B11 := B11.kept bb)
      (try replace B13 := B13.kept bb)
      clear bb
      skip
      go_wp2_with (first
        | ((with_reducible refine at_new 13 24 ?_); refine box_new (d := 13) rfl rfl 24 rfl _ zero_cfg ?_; intro w' B13 bb; have n13 := b0.size;  (try have l3_13 := B3.lt); (try have l4_13 := B4.lt); (try have l6_13 := B6.lt); (try have l7_13 := B7.lt); (try have l9_13 := B9.lt); (try have l11_13 := B11.lt);  replace b0 := bchain b0 bb; (try replace B3 := B3.kept bb); (try replace B4 := B4.kept bb); (try replace B6 := B6.kept bb); (try replace B7 := B7.kept bb); (try replace B9 := B9.kept bb); (try replace B11 := B11.kept bb);  clear bb; skip)
        | ((with_reducible refine at_load 24 ?_); refine box_load rfl 24 _ rfl _ rfl (by with_reducible assumption) Try.underlying24 rfl (by kernel_rfl) ?_)
        | ((with_reducible refine at_load 26 ?_); refine box_load rfl 26 _ rfl _ rfl (by with_reducible assumption) Try.underlying26 rfl (by kernel_rfl) ?_)
        | ((with_reducible refine at_loadg 24 ?_); refine box_loadg (by rfl) 24 _ rfl _ rfl (by with_reducible assumption) Try.underlying24 rfl (by kernel_rfl) ?_)
        | ((with_reducible refine at_loadg 26 ?_); refine box_loadg (by rfl) 26 _ rfl _ rfl (by with_reducible assumption) Try.underlying26 rfl (by kernel_rfl) ?_)
        | ((with_reducible refine at_store 24 ?_); refine box_store rfl 24 _ _ rfl _ _ rfl rfl (by with_reducible exact B13) (by kernel_rfl) (by rfl) (by simp [Opt.cs, Value.oneCell']) ?_; clear B13; intro w' B13 gg;  replace b0 := below_at b0 gg b0.size n13; (try replace B3 := B3.grown gg (Nat.ne_of_lt l3_13)); (try replace B4 := B4.grown gg (Nat.ne_of_lt l4_13)); (try replace B6 := B6.grown gg (Nat.ne_of_lt l6_13)); (try replace B7 := B7.grown gg (Nat.ne_of_lt l7_13)); (try replace B9 := B9.grown gg (Nat.ne_of_lt l9_13)); (try replace B11 := B11.grown gg (Nat.ne_of_lt l11_13)); clear gg; skip))
      refine (impl_negs p.x _).mono ?_
      rintro e w' ⟨rfl, bb⟩
      rw [hkx]
      replace b0 := bchain b0 bb
      (try replace B3 := B3.kept bb)
      (try replace B4 := B4.kept bb)
      (try replace B6 := B6.kept bb)
      (try replace B7 := B7.kept bb)
      (try replace B9 := B9.kept bb)
      (try replace B11 := B11.kept bb)
      (try replace B13 := B13.kept bb)
      clear bb
      skip
      go_wp2_with (first
        | ((with_reducible refine at_load 24 ?_); refine box_load rfl 24 _ rfl _ rfl (by with_reducible assumption) Try.underlying24 rfl (by kernel_rfl) ?_)
        | ((with_reducible refine at_load 26 ?_); refine box_load rfl 26 _ rfl _ rfl (by with_reducible assumption) Try.underlying26 rfl (by kernel_rfl) ?_)
        | ((with_reducible refine at_loadg 24 ?_); refine box_loadg (by rfl) 24 _ rfl _ rfl (by with_reducible assumption) Try.underlying24 rfl (by kernel_rfl) ?_)
        | ((with_reducible refine at_loadg 26 ?_); refine box_loadg (by rfl) 26 _ rfl _ rfl (by with_reducible assumption) Try.underlying26 rfl (by kernel_rfl) ?_))
      refine (impl_negs p.y _).mono ?_
      rintro e w' ⟨rfl, bb⟩
      rw [hky]
      replace b0 := bchain b0 bb
      (try replace B3 := B3.kept bb)
      (try replace B4 := B4.kept bb)
      (try replace B6 := B6.kept bb)
      (try replace B7 := B7.kept bb)
      (try replace B9 := B9.kept bb)
      (try replace B11 := B11.kept bb)
      (try replace B13 := B13.kept bb)
      clear bb
      skip
      go_wp2_with (first
        | ((with_reducible refine at_load 24 ?_); refine box_load rfl 24 _ rfl _ rfl (by with_reducible assumption) Try.underlying24 rfl (by kernel_rfl) ?_)
        | ((with_reducible refine at_load 26 ?_); refine box_load rfl 26 _ rfl _ rfl (by with_reducible assumption) Try.underlying26 rfl (by kernel_rfl) ?_)
        | ((with_reducible refine at_loadg 24 ?_); refine box_loadg (by rfl) 24 _ rfl _ rfl (by with_reducible assumption) Try.underlying24 rfl (by kernel_rfl) ?_)
        | ((with_reducible refine at_loadg 26 ?_); refine box_loadg (by rfl) 26 _ rfl _ rfl (by with_reducible assumption) Try.underlying26 rfl (by kernel_rfl) ?_))
      refine (li_ok _).mono ?_
      rintro e w' ⟨rfl, bb⟩
      replace b0 := bchain b0 bb
      (try replace B3 := B3.kept bb)
      (try replace B4 := B4.kept bb)
      (try replace B6 := B6.kept bb)
      (try replace B7 := B7.kept bb)
      (try replace B9 := B9.kept bb)
      (try replace B11 := B11.kept bb)
      (try replace B13 := B13.kept bb)
      clear bb
      skip
      go_wp2
      go_ret
      exact ⟨rfl, bchain bq b0⟩
    · have hox := hax hdx
      have hoy := hay hdy
      refine (impl_meet_yes _ _ _ _ _ _ _ _ _ _ c2 c3 c4 c5 hmt H2.out H3.out H4.out H5.out _).mono ?_
      rintro e w' ⟨rfl, bb⟩
      replace b0 := bchain b0 bb
      (try replace B3 := B3.kept bb)
      (try replace B4 := B4.kept bb)
      (try replace B6 := B6.kept bb)
      (try replace B7 := B7.kept bb)
      (try replace B9 := B9.kept bb)
      (try replace B11 := B11.kept bb)
      (try replace B13 := B13.kept bb)
      clear bb
      skip
      go_wp2_with (first
        | ((with_reducible refine at_new 9 24 ?_); refine box_new (d := 9) rfl rfl 24 rfl _ zero_cfg ?_; intro w' B9 bb; have n9 := b0.size;  (try have l3_9 := B3.lt); (try have l4_9 := B4.lt); (try have l6_9 := B6.lt); (try have l7_9 := B7.lt); (try have l11_9 := B11.lt); (try have l13_9 := B13.lt);  replace b0 := bchain b0 bb; (try replace B3 := B3.kept bb); (try replace B4 := B4.kept bb); (try replace B6 := B6.kept bb); (try replace B7 := B7.kept bb);  (try replace B11 := B11.kept bb); (try replace B13 := B13.kept bb); clear bb; skip)
        | ((with_reducible refine at_load 24 ?_); refine box_load rfl 24 _ rfl _ rfl (by with_reducible assumption) Try.underlying24 rfl (by kernel_rfl) ?_)
        | ((with_reducible refine at_load 26 ?_); refine box_load rfl 26 _ rfl _ rfl (by with_reducible assumption) Try.underlying26 rfl (by kernel_rfl) ?_)
        | ((with_reducible refine at_loadg 24 ?_); refine box_loadg (by rfl) 24 _ rfl _ rfl (by with_reducible assumption) Try.underlying24 rfl (by kernel_rfl) ?_)
        | ((with_reducible refine at_loadg 26 ?_); refine box_loadg (by rfl) 26 _ rfl _ rfl (by with_reducible assumption) Try.underlying26 rfl (by kernel_rfl) ?_)
        | ((with_reducible refine at_store 24 ?_); refine box_store rfl 24 _ _ rfl _ _ rfl rfl (by with_reducible exact B9) (by kernel_rfl) (by rfl) (by simp [Value.oneCell']) ?_; clear B9; intro w' B9 gg;  replace b0 := below_at b0 gg b0.size n9; (try replace B3 := B3.grown gg (Nat.ne_of_lt l3_9)); (try replace B4 := B4.grown gg (Nat.ne_of_lt l4_9)); (try replace B6 := B6.grown gg (Nat.ne_of_lt l6_9)); (try replace B7 := B7.grown gg (Nat.ne_of_lt l7_9)); (try replace B11 := B11.grown gg (Nat.ne_of_gt l9_11)); (try replace B13 := B13.grown gg (Nat.ne_of_gt l9_13)); clear gg; skip))
      refine (impl_done p.x _).mono ?_
      rintro e w' ⟨rfl, bb⟩
      rw [hdx, hox]; simp only [Opt.cs]
      replace b0 := bchain b0 bb
      (try replace B3 := B3.kept bb)
      (try replace B4 := B4.kept bb)
      (try replace B6 := B6.kept bb)
      (try replace B7 := B7.kept bb)
      (try replace B9 := B9.kept bb)
      (try replace B11 := B11.kept bb)
      (try replace B13 := B13.kept bb)
      clear bb
      skip
      go_wp2_with (first
        | ((with_reducible refine at_new 11 24 ?_); refine box_new (d := 11) rfl rfl 24 rfl _ zero_cfg ?_; intro w' B11 bb; have n11 := b0.size;  (try have l3_11 := B3.lt); (try have l4_11 := B4.lt); (try have l6_11 := B6.lt); (try have l7_11 := B7.lt); (try have l9_11 := B9.lt); (try have l13_11 := B13.lt);  replace b0 := bchain b0 bb; (try replace B3 := B3.kept bb); (try replace B4 := B4.kept bb); (try replace B6 := B6.kept bb); (try replace B7 := B7.kept bb); (try replace B9 := B9.kept bb);  (try replace B13 := B13.kept bb); clear bb; skip)
        | ((with_reducible refine at_load 24 ?_); refine box_load rfl 24 _ rfl _ rfl (by with_reducible assumption) Try.underlying24 rfl (by kernel_rfl) ?_)
        | ((with_reducible refine at_load 26 ?_); refine box_load rfl 26 _ rfl _ rfl (by with_reducible assumption) Try.underlying26 rfl (by kernel_rfl) ?_)
        | ((with_reducible refine at_loadg 24 ?_); refine box_loadg (by rfl) 24 _ rfl _ rfl (by with_reducible assumption) Try.underlying24 rfl (by kernel_rfl) ?_)
        | ((with_reducible refine at_loadg 26 ?_); refine box_loadg (by rfl) 26 _ rfl _ rfl (by with_reducible assumption) Try.underlying26 rfl (by kernel_rfl) ?_)
        | ((with_reducible refine at_store 24 ?_); refine box_store rfl 24 _ _ rfl _ _ rfl rfl (by with_reducible exact B11) (by kernel_rfl) (by rfl) (by simp [Value.oneCell']) ?_; clear B11; intro w' B11 gg;  replace b0 := below_at b0 gg b0.size n11; (try replace B3 := B3.grown gg (Nat.ne_of_lt l3_11)); (try replace B4 := B4.grown gg (Nat.ne_of_lt l4_11)); (try replace B6 := B6.grown gg (Nat.ne_of_lt l6_11)); (try replace B7 := B7.grown gg (Nat.ne_of_lt l7_11)); (try replace B9 := B9.grown gg (Nat.ne_of_lt l9_11)); (try replace B13 := B13.grown gg (Nat.ne_of_gt l11_13)); clear gg; skip))
      refine (impl_done p.y _).mono ?_
      rintro e w' ⟨rfl, bb⟩
      rw [hdy, hoy]; simp only [Opt.cs]
      replace b0 := bchain b0 bb
      (try replace B3 := B3.kept bb)
      (try replace B4 := B4.kept bb)
      (try replace B6 := B6.kept bb)
      (try replace B7 := B7.kept bb)
      (try replace B9 := B9.kept bb)
      (try replace B11 := B11.kept bb)
      (try replace B13 := B13.kept bb)
      clear bb
      skip
      go_wp2_with (first
        | ((with_reducible refine at_new 13 24 ?_); refine box_new (d := 13) rfl rfl 24 rfl _ zero_cfg ?_; intro w' B13 bb; have n13 := b0.size;  (try have l3_13 := B3.lt); (try have l4_13 := B4.lt); (try have l6_13 := B6.lt); (try have l7_13 := B7.lt); (try have l9_13 := B9.lt); (try have l11_13 := B11.lt);  replace b0 := bchain b0 bb; (try replace B3 := B3.kept bb); (try replace B4 := B4.kept bb); (try replace B6 := B6.kept bb); (try replace B7 := B7.kept bb); (try replace B9 := B9.kept bb); (try replace B11 := B11.kept bb);  clear bb; skip)
        | ((with_reducible refine at_load 24 ?_); refine box_load rfl 24 _ rfl _ rfl (by with_reducible assumption) Try.underlying24 rfl (by kernel_rfl) ?_)
        | ((with_reducible refine at_load 26 ?_); refine box_load rfl 26 _ rfl _ rfl (by with_reducible assumption) Try.underlying26 rfl (by kernel_rfl) ?_)
        | ((with_reducible refine at_loadg 24 ?_); refine box_loadg (by rfl) 24 _ rfl _ rfl (by with_reducible assumption) Try.underlying24 rfl (by kernel_rfl) ?_)
        | ((with_reducible refine at_loadg 26 ?_); refine box_loadg (by rfl) 26 _ rfl _ rfl (by with_reducible assumption) Try.underlying26 rfl (by kernel_rfl) ?_)
        | ((with_reducible refine at_store 24 ?_); refine box_store rfl 24 _ _ rfl _ _ rfl rfl (by with_reducible exact B13) (by kernel_rfl) (by rfl) (by simp [Value.oneCell']) ?_; clear B13; intro w' B13 gg;  replace b0 := below_at b0 gg b0.size n13; (try replace B3 := B3.grown gg (Nat.ne_of_lt l3_13)); (try replace B4 := B4.grown gg (Nat.ne_of_lt l4_13)); (try replace B6 := B6.grown gg (Nat.ne_of_lt l6_13)); (try replace B7 := B7.grown gg (Nat.ne_of_lt l7_13)); (try replace B9 := B9.grown gg (Nat.ne_of_lt l9_13)); (try replace B11 := B11.grown gg (Nat.ne_of_lt l11_13)); clear gg; skip))
      refine (impl_negs p.x _).mono ?_
      rintro e w' ⟨rfl, bb⟩
      rw [hkx]
      replace b0 := bchain b0 bb
      (try replace B3 := B3.kept bb)
      (try replace B4 := B4.kept bb)
      (try replace B6 := B6.kept bb)
      (try replace B7 := B7.kept bb)
      (try replace B9 := B9.kept bb)
      (try replace B11 := B11.kept bb)
      (try replace B13 := B13.kept bb)
      clear bb
      skip
      go_wp2_with (first
        | ((with_reducible refine at_load 24 ?_); refine box_load rfl 24 _ rfl _ rfl (by with_reducible assumption) Try.underlying24 rfl (by kernel_rfl) ?_)
        | ((with_reducible refine at_load 26 ?_); refine box_load rfl 26 _ rfl _ rfl (by with_reducible assumption) Try.underlying26 rfl (by kernel_rfl) ?_)
        | ((with_reducible refine at_loadg 24 ?_); refine box_loadg (by rfl) 24 _ rfl _ rfl (by with_reducible assumption) Try.underlying24 rfl (by kernel_rfl) ?_)
        | ((with_reducible refine at_loadg 26 ?_); refine box_loadg (by rfl) 26 _ rfl _ rfl (by with_reducible assumption) Try.underlying26 rfl (by kernel_rfl) ?_))
      refine (impl_negs p.y _).mono ?_
      rintro e w' ⟨rfl, bb⟩
      rw [hky]
      replace b0 := bchain b0 bb
      (try replace B3 := B3.kept bb)
      (try replace B4 := B4.kept bb)
      (try replace B6 := B6.kept bb)
      (try replace B7 := B7.kept bb)
      (try replace B9 := B9.kept bb)
      (try replace B11 := B11.kept bb)
      (try replace B13 := B13.kept bb)
      clear bb
      skip
      go_wp2_with (first
        | ((with_reducible refine at_load 24 ?_); refine box_load rfl 24 _ rfl _ rfl (by with_reducible assumption) Try.underlying24 rfl (by kernel_rfl) ?_)
        | ((with_reducible refine at_load 26 ?_); refine box_load rfl 26 _ rfl _ rfl (by with_reducible assumption) Try.underlying26 rfl (by kernel_rfl) ?_)
        | ((with_reducible refine at_loadg 24 ?_); refine box_loadg (by rfl) 24 _ rfl _ rfl (by with_reducible assumption) Try.underlying24 rfl (by kernel_rfl) ?_)
        | ((with_reducible refine at_loadg 26 ?_); refine box_loadg (by rfl) 26 _ rfl _ rfl (by with_reducible assumption) Try.underlying26 rfl (by kernel_rfl) ?_))
      refine (li_ok _).mono ?_
      rintro e w' ⟨rfl, bb⟩
      replace b0 := bchain b0 bb
      (try replace B3 := B3.kept bb)
      (try replace B4 := B4.kept bb)
      (try replace B6 := B6.kept bb)
      (try replace B7 := B7.kept bb)
      (try replace B9 := B9.kept bb)
      (try replace B11 := B11.kept bb)
      (try replace B13 := B13.kept bb)
      clear bb
      skip
      go_wp2
      go_ret
      exact ⟨rfl, bchain bq b0⟩
  · have hF := hh.2 hm
    have hkx := hF.1.ok hA
    have hky := hF.2.ok hB
    have hdx := hF.1.never
    have hdy := hF.2.never
    have hmt : meets ⟨a1, a2, a3, a4, a5⟩ ⟨b1, b2, b3, b4, b5⟩ = false := by rw [← Bool.not_eq_true]; exact fun h => hm (meets_mode h)
    clear hF hh
    refine (impl_meet_no _ _ _ _ _ _ _ _ _ _ hmt _).mono ?_
    rintro e w' ⟨rfl, bb⟩
    replace b0 := bchain b0 bb
    (try replace B3 := B3.kept bb)
    (try replace B4 := B4.kept bb)
    (try replace B6 := B6.kept bb)
    (try replace B7 := B7.kept bb)
    (try replace B9 := B9.kept bb)
    (try replace B11 := B11.kept bb)
    (try replace B13 := B13.kept bb)
    clear bb
    skip
    go_wp2_with (first
      | ((with_reducible refine at_new 9 24 ?_); refine box_new (d := 9) rfl rfl 24 rfl _ zero_cfg ?_; intro w' B9 bb; have n9 := b0.size;  (try have l3_9 := B3.lt); (try have l4_9 := B4.lt); (try have l6_9 := B6.lt); (try have l7_9 := B7.lt); (try have l11_9 := B11.lt); (try have l13_9 := B13.lt);  replace b0 := bchain b0 bb; (try replace B3 := B3.kept bb); (try replace B4 := B4.kept bb); (try replace B6 := B6.kept bb); (try replace B7 := B7.kept bb);  (try replace B11 := B11.kept bb); (try replace B13 := B13.kept bb); clear bb; skip)
      | ((with_reducible refine at_load 24 ?_); refine box_load rfl 24 _ rfl _ rfl (by with_reducible assumption) Try.underlying24 rfl (by kernel_rfl) ?_)
      | ((with_reducible refine at_load 26 ?_); refine box_load rfl 26 _ rfl _ rfl (by with_reducible assumption) Try.underlying26 rfl (by kernel_rfl) ?_)
      | ((with_reducible refine at_loadg 24 ?_); refine box_loadg (by rfl) 24 _ rfl _ rfl (by with_reducible assumption) Try.underlying24 rfl (by kernel_rfl) ?_)
      | ((with_reducible refine at_loadg 26 ?_); refine box_loadg (by rfl) 26 _ rfl _ rfl (by with_reducible assumption) Try.underlying26 rfl (by kernel_rfl) ?_)
      | ((with_reducible refine at_store 24 ?_); refine box_store rfl 24 _ _ rfl _ _ rfl rfl (by with_reducible exact B9) (by kernel_rfl) (by rfl) (by simp [Value.oneCell']) ?_; clear B9; intro w' B9 gg;  replace b0 := below_at b0 gg b0.size n9; (try replace B3 := B3.grown gg (Nat.ne_of_lt l3_9)); (try replace B4 := B4.grown gg (Nat.ne_of_lt l4_9)); (try replace B6 := B6.grown gg (Nat.ne_of_lt l6_9)); (try replace B7 := B7.grown gg (Nat.ne_of_lt l7_9)); (try replace B11 := B11.grown gg (Nat.ne_of_gt l9_11)); (try replace B13 := B13.grown gg (Nat.ne_of_gt l9_13)); clear gg; skip))
    refine (impl_done p.x _).mono ?_
    rintro e w' ⟨rfl, bb⟩
    rw [hdx]
    replace b0 := bchain b0 bb
    (try replace B3 := B3.kept bb)
    (try replace B4 := B4.kept bb)
    (try replace B6 := B6.kept bb)
    (try replace B7 := B7.kept bb)
    (try replace B9 := B9.kept bb)
    (try replace B11 := B11.kept bb)
    (try replace B13 := B13.kept bb)
    clear bb
    skip
    go_wp2_with (first
      | ((with_reducible refine at_new 11 24 ?_); refine box_new (d := 11) rfl rfl 24 rfl _ zero_cfg ?_; intro w' B11 bb; have n11 := b0.size;  (try have l3_11 := B3.lt); (try have l4_11 := B4.lt); (try have l6_11 := B6.lt); (try have l7_11 := B7.lt); (try have l9_11 := B9.lt); (try have l13_11 := B13.lt);  replace b0 := bchain b0 bb; (try replace B3 := B3.kept bb); (try replace B4 := B4.kept bb); (try replace B6 := B6.kept bb); (try replace B7 := B7.kept bb); (try replace B9 := B9.kept bb);  (try replace B13 := B13.kept bb); clear bb; skip)
      | ((with_reducible refine at_load 24 ?_); refine box_load rfl 24 _ rfl _ rfl (by with_reducible assumption) Try.underlying24 rfl (by kernel_rfl) ?_)
      | ((with_reducible refine at_load 26 ?_); refine box_load rfl 26 _ rfl _ rfl (by with_reducible assumption) Try.underlying26 rfl (by kernel_rfl) ?_)
      | ((with_reducible refine at_loadg 24 ?_); refine box_loadg (by rfl) 24 _ rfl _ rfl (by with_reducible assumption) Try.underlying24 rfl (by kernel_rfl) ?_)
      | ((with_reducible refine at_loadg 26 ?_); refine box_loadg (by rfl) 26 _ rfl _ rfl (by with_reducible assumption) Try.underlying26 rfl (by kernel_rfl) ?_)
      | ((with_reducible refine at_store 24 ?_); refine box_store rfl 24 _ _ rfl _ _ rfl rfl (by with_reducible exact B11) (by kernel_rfl) (by rfl) (by simp [Opt.cs, Value.oneCell']) ?_; clear B11; intro w' B11 gg;  replace b0 := below_at b0 gg b0.size n11; (try replace B3 := B3.grown gg (Nat.ne_of_lt l3_11)); (try replace B4 := B4.grown gg (Nat.ne_of_lt l4_11)); (try replace B6 := B6.grown gg (Nat.ne_of_lt l6_11)); (try replace B7 := B7.grown gg (Nat.ne_of_lt l7_11)); (try replace B9 := B9.grown gg (Nat.ne_of_lt l9_11)); (try replace B13 := B13.grown gg (Nat.ne_of_gt l11_13)); clear gg; skip))
    refine (impl_done p.y _).mono ?_
    rintro e w' ⟨rfl, bb⟩
    rw [hdy]
    replace b0 := bchain b0 bb
    (try replace B3 := B3.kept bb)
    (try replace B4 := B4.kept bb)
    (try replace B6 := B6.kept bb)
    (try replace B7 := B7.kept bb)
    (try replace B9 := B9.kept bb)
    (try replace B11 := B11.kept bb)
    (try replace B13 := B13.kept bb)
    clear bb
    skip
    go_wp2_with (first
      | ((with_reducible refine at_new 13 24 ?_); refine box_new (d := 13) rfl rfl 24 rfl _ zero_cfg ?_; intro w' B13 bb; have n13 := b0.size;  (try have l3_13 := B3.lt); (try have l4_13 := B4.lt); (try have l6_13 := B6.lt); (try have l7_13 := B7.lt); (try have l9_13 := B9.lt); (try have l11_13 := B11.lt);  replace b0 := bchain b0 bb; (try replace B3 := B3.kept bb); (try replace B4 := B4.kept bb); (try replace B6 := B6.kept bb); (try replace B7 := B7.kept bb); (try replace B9 := B9.kept bb); (try replace B11 := B11.kept bb);  clear bb; skip)
      | ((with_reducible refine at_load 24 ?_); refine box_load rfl 24 _ rfl _ rfl (by with_reducible assumption) Try.underlying24 rfl (by kernel_rfl) ?_)
      | ((with_reducible refine at_load 26 ?_); refine box_load rfl 26 _ rfl _ rfl (by with_reducible assumption) Try.underlying26 rfl (by kernel_rfl) ?_)
      | ((with_reducible refine at_loadg 24 ?_); refine box_loadg (by rfl) 24 _ rfl _ rfl (by with_reducible assumption) Try.underlying24 rfl (by kernel_rfl) ?_)
      | ((with_reducible refine at_loadg 26 ?_); refine box_loadg (by rfl) 26 _ rfl _ rfl (by with_reducible assumption) Try.underlying26 rfl (by kernel_rfl) ?_)
      | ((with_reducible refine at_store 24 ?_); refine box_store rfl 24 _ _ rfl _ _ rfl rfl (by with_reducible exact B13) (by kernel_rfl) (by rfl) (by simp [Opt.cs, Value.oneCell']) ?_; clear B13; intro w' B13 gg;  replace b0 := below_at b0 gg b0.size n13; (try replace B3 := B3.grown gg (Nat.ne_of_lt l3_13)); (try replace B4 := B4.grown gg (Nat.ne_of_lt l4_13)); (try replace B6 := B6.grown gg (Nat.ne_of_lt l6_13)); (try replace B7 := B7.grown gg (Nat.ne_of_lt l7_13)); (try replace B9 := B9.grown gg (Nat.ne_of_lt l9_13)); (try replace B11 := B11.grown gg (Nat.ne_of_lt l11_13)); clear gg; skip))
    refine (impl_negs p.x _).mono ?_
    rintro e w' ⟨rfl, bb⟩
    rw [hkx]
    replace b0 := bchain b0 bb
    (try replace B3 := B3.kept bb)
    (try replace B4 := B4.kept bb)
    (try replace B6 := B6.kept bb)
    (try replace B7 := B7.kept bb)
    (try replace B9 := B9.kept bb)
    (try replace B11 := B11.kept bb)
    (try replace B13 := B13.kept bb)
    clear bb
    skip
    go_wp2_with (first
      | ((with_reducible refine at_load 24 ?_); refine box_load rfl 24 _ rfl _ rfl (by with_reducible assumption) Try.underlying24 rfl (by kernel_rfl) ?_)
      | ((with_reducible refine at_load 26 ?_); refine box_load rfl 26 _ rfl _ rfl (by with_reducible assumption) Try.underlying26 rfl (by kernel_rfl) ?_)
      | ((with_reducible refine at_loadg 24 ?_); refine box_loadg (by rfl) 24 _ rfl _ rfl (by with_reducible assumption) Try.underlying24 rfl (by kernel_rfl) ?_)
      | ((with_reducible refine at_loadg 26 ?_); refine box_loadg (by rfl) 26 _ rfl _ rfl (by with_reducible assumption) Try.underlying26 rfl (by kernel_rfl) ?_))
    refine (impl_negs p.y _).mono ?_
    rintro e w' ⟨rfl, bb⟩
    rw [hky]
    replace b0 := bchain b0 bb
    (try replace B3 := B3.kept bb)
    (try replace B4 := B4.kept bb)
    (try replace B6 := B6.kept bb)
    (try replace B7 := B7.kept bb)
    (try replace B9 := B9.kept bb)
    (try replace B11 := B11.kept bb)
    (try replace B13 := B13.kept bb)
    clear bb
    skip
    go_wp2_with (first
      | ((with_reducible refine at_load 24 ?_); refine box_load rfl 24 _ rfl _ rfl (by with_reducible assumption) Try.underlying24 rfl (by kernel_rfl) ?_)
      | ((with_reducible refine at_load 26 ?_); refine box_load rfl 26 _ rfl _ rfl (by with_reducible assumption) Try.underlying26 rfl (by kernel_rfl) ?_)
      | ((with_reducible refine at_loadg 24 ?_); refine box_loadg (by rfl) 24 _ rfl _ rfl (by with_reducible assumption) Try.underlying24 rfl (by kernel_rfl) ?_)
      | ((with_reducible refine at_loadg 26 ?_); refine box_loadg (by rfl) 26 _ rfl _ rfl (by with_reducible assumption) Try.underlying26 rfl (by kernel_rfl) ?_))
    refine (li_ok _).mono ?_
    rintro e w' ⟨rfl, bb⟩
    replace b0 := bchain b0 bb
    (try replace B3 := B3.kept bb)
    (try replace B4 := B4.kept bb)
    (try replace B6 := B6.kept bb)
    (try replace B7 := B7.kept bb)
    (try replace B9 := B9.kept bb)
    (try replace B11 := B11.kept bb)
    (try replace B13 := B13.kept bb)
    clear bb
    skip
    go_wp2
    go_ret
    exact ⟨rfl, bchain bq b0⟩
set_option maxRecDepth 100000 in
theorem walk (a0 : Option Addr) (len0 cap0 : Nat) (z0 : List Int) (w : World) (w0 : IsRow .u8 w a0 len0 cap0 z0) :
    Calls Try.prog 4 #[.slice a0 len0 cap0] w fun e w' => e = .returned (.bool true) ∧ Below w.heap.size w w' := by
  by_cases hs0 : (1048576 : Int) < (len0 : Int)
  · go_enter Try.func4, Try.ntmps4
    go_wp2
    go_ret
    exact ⟨rfl, Below.refl _ _⟩
  obtain ⟨cz, hR0, _⟩ := w0.rd (by omega)
  exact small a0 len0 cap0 cz w hs0 hR0
end Go.Proofs.Ytaoafikkamnjlaa.fnNegSame
