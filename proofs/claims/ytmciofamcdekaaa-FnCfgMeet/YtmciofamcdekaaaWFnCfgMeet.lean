/- The law of CfgMeet, promise 22, returns true at every code. -/
import Derived.Test.YtmciofamcdekaaaDrawMeet
import Derived.Test.YtmciofamcdekaaaMeetLaw
import Derived.Test.YtmciofamcdekaaaLiOk
import Derived.RowKit3
namespace Go.Proofs.Ytmciofamcdekaaa.fnCfgMeet
open Go.RowKit
set_option maxRecDepth 100000 in
set_option maxHeartbeats 4000000 in
theorem small (a0 : Option Addr) (len0 cap0 : Nat) (cz : List Nat) (w : World) (hs0 : ¬ (1048576 : Int) < (len0 : Int)) (hR0 : Rd w (.slice a0 len0 cap0) cz) :
    Calls Try.prog 6 #[.slice a0 len0 cap0] w fun e w' => e = .returned (.bool true) ∧ Below w.heap.size w w' := by
  have b0 : Below w.heap.size w w := Below.refl _ _
  have hu := Try.underlying24
  have hg : Try.prog.eqGuardType Try.prog.depth 24 = false := by kernel_rfl
  have hp : Try.prog.stoodInHeld 24 = false := by kernel_rfl
  go_enter Try.func6, Try.ntmps6
  go_wp2_with fail
  refine (drawMeet_any _ cz _ hR0).mono ?_
  rintro e w1 ⟨x1, x2, x3, x4, x5, y1, y2, y3, y4, y5, rfl, hx, hy, bb⟩
  replace b0 := bchain b0 bb
  clear bb hR0
  cases hm : meets ⟨x1, x2, x3, x4, x5⟩ ⟨y1, y2, y3, y4, y5⟩
  · have hm2 : meets ⟨y1, y2, y3, y4, y5⟩ ⟨x1, x2, x3, x4, x5⟩ = false := by rw [meets_comm]; exact hm
    obtain ⟨A, hA⟩ : ∃ A, Opt.ok ⟨x1, x2, x3, x4, x5⟩ = A := ⟨_, rfl⟩
    obtain ⟨B, hB⟩ : ∃ B, Opt.ok ⟨y1, y2, y3, y4, y5⟩ = B := ⟨_, rfl⟩
    have hne : A = true → B = true → (x1 == y1) = false := by
      intro h1 h2
      rw [h1] at hA
      rw [h2] at hB
      rw [beq_eq_false_iff_ne]
      intro e
      have := meets_mk hA hB e
      rw [hm] at this
      cases this
    cases A <;> cases B
    all_goals
      (try have hd : (x1 == y1) = false := hne rfl rfl)
      clear hne
      go_wp2_with (first
        | ((with_reducible refine at_new 3 24 ?_); refine box_new (d := 3) rfl rfl 24 rfl _ zero_cfg ?_; intro w' B3 bb; have n3 := b0.size;  (try have l4_3 := B4.lt); (try have l5_3 := B5.lt); (try have l7_3 := B7.lt); (try have l9_3 := B9.lt); (try have l11_3 := B11.lt); (try clear k3); (try clear k4); (try clear k5); (try clear k9); (try clear k11); replace b0 := bchain b0 bb;  (try replace B4 := B4.kept bb); (try replace B5 := B5.kept bb); (try replace B7 := B7.kept bb); (try replace B9 := B9.kept bb); (try replace B11 := B11.kept bb); clear bb; (try have k3 := B3.k); (try have k4 := B4.k); (try have k5 := B5.k); (try have k9 := B9.k); (try have k11 := B11.k))
        | ((with_reducible refine at_new 4 24 ?_); refine box_new (d := 4) rfl rfl 24 rfl _ zero_cfg ?_; intro w' B4 bb; have n4 := b0.size;  (try have l3_4 := B3.lt); (try have l5_4 := B5.lt); (try have l7_4 := B7.lt); (try have l9_4 := B9.lt); (try have l11_4 := B11.lt); (try clear k3); (try clear k4); (try clear k5); (try clear k9); (try clear k11); replace b0 := bchain b0 bb; (try replace B3 := B3.kept bb);  (try replace B5 := B5.kept bb); (try replace B7 := B7.kept bb); (try replace B9 := B9.kept bb); (try replace B11 := B11.kept bb); clear bb; (try have k3 := B3.k); (try have k4 := B4.k); (try have k5 := B5.k); (try have k9 := B9.k); (try have k11 := B11.k))
        | ((with_reducible refine at_load 24 ?_); refine box_load rfl 24 _ rfl _ rfl (by with_reducible assumption) Try.underlying24 rfl (by kernel_rfl) ?_)
        | ((with_reducible refine at_store 24 ?_); refine box_store rfl 24 _ _ rfl _ _ rfl rfl (by with_reducible exact B3) (by kernel_rfl) (by rfl) (by simp [Value.oneCell']) ?_; clear B3; intro w' B3 gg; (try clear k3); (try clear k4); (try clear k5); (try clear k9); (try clear k11); replace b0 := below_at b0 gg b0.size (by omega); (try replace B4 := B4.grown gg (by omega)); (try replace B5 := B5.grown gg (by omega)); (try replace B7 := B7.grown gg (by omega)); (try replace B9 := B9.grown gg (by omega)); (try replace B11 := B11.grown gg (by omega)); clear gg; (try have k3 := B3.k); (try have k4 := B4.k); (try have k5 := B5.k); (try have k9 := B9.k); (try have k11 := B11.k))
        | ((with_reducible refine at_store 24 ?_); refine box_store rfl 24 _ _ rfl _ _ rfl rfl (by with_reducible exact B4) (by kernel_rfl) (by rfl) (by simp [Value.oneCell']) ?_; clear B4; intro w' B4 gg; (try clear k3); (try clear k4); (try clear k5); (try clear k9); (try clear k11); replace b0 := below_at b0 gg b0.size (by omega); (try replace B3 := B3.grown gg (by omega)); (try replace B5 := B5.grown gg (by omega)); (try replace B7 := B7.grown gg (by omega)); (try replace B9 := B9.grown gg (by omega)); (try replace B11 := B11.grown gg (by omega)); clear gg; (try have k3 := B3.k); (try have k4 := B4.k); (try have k5 := B5.k); (try have k9 := B9.k); (try have k11 := B11.k)))
      refine (impl_meet_no _ _ _ _ _ _ _ _ _ _ hm _).mono ?_
      rintro e w' ⟨rfl, bb⟩
      (try clear k3)
      (try clear k4)
      (try clear k5)
      (try clear k9)
      (try clear k11)
      replace b0 := bchain b0 bb
      (try replace B3 := B3.kept bb)
      (try replace B4 := B4.kept bb)
      (try replace B5 := B5.kept bb)
      (try replace B7 := B7.kept bb)
      (try replace B9 := B9.kept bb)
      (try replace B11 := B11.kept bb)
      clear bb
      (try have k3 := B3.k)
      (try have k4 := B4.k)
      (try have k5 := B5.k)
      (try have k9 := B9.k)
      (try have k11 := B11.k)
      go_wp2_with (first
        | ((with_reducible refine at_new 5 24 ?_); refine box_new (d := 5) rfl rfl 24 rfl _ zero_cfg ?_; intro w' B5 bb; have n5 := b0.size;  (try have l3_5 := B3.lt); (try have l4_5 := B4.lt); (try have l7_5 := B7.lt); (try have l9_5 := B9.lt); (try have l11_5 := B11.lt); (try clear k3); (try clear k4); (try clear k5); (try clear k9); (try clear k11); replace b0 := bchain b0 bb; (try replace B3 := B3.kept bb); (try replace B4 := B4.kept bb);  (try replace B7 := B7.kept bb); (try replace B9 := B9.kept bb); (try replace B11 := B11.kept bb); clear bb; (try have k3 := B3.k); (try have k4 := B4.k); (try have k5 := B5.k); (try have k9 := B9.k); (try have k11 := B11.k))
        | ((with_reducible refine at_load 24 ?_); refine box_load rfl 24 _ rfl _ rfl (by with_reducible assumption) Try.underlying24 rfl (by kernel_rfl) ?_)
        | ((with_reducible refine at_store 24 ?_); refine box_store rfl 24 _ _ rfl _ _ rfl rfl (by with_reducible exact B5) (by kernel_rfl) (by rfl) (by simp [Value.oneCell']) ?_; clear B5; intro w' B5 gg; (try clear k3); (try clear k4); (try clear k5); (try clear k9); (try clear k11); replace b0 := below_at b0 gg b0.size (by omega); (try replace B3 := B3.grown gg (by omega)); (try replace B4 := B4.grown gg (by omega)); (try replace B7 := B7.grown gg (by omega)); (try replace B9 := B9.grown gg (by omega)); (try replace B11 := B11.grown gg (by omega)); clear gg; (try have k3 := B3.k); (try have k4 := B4.k); (try have k5 := B5.k); (try have k9 := B9.k); (try have k11 := B11.k)))
      refine (spec_meet_no _ _ _ _ _ _ _ _ _ _ hm _).mono ?_
      rintro e w' ⟨rfl, bb⟩
      (try clear k3)
      (try clear k4)
      (try clear k5)
      (try clear k9)
      (try clear k11)
      replace b0 := bchain b0 bb
      (try replace B3 := B3.kept bb)
      (try replace B4 := B4.kept bb)
      (try replace B5 := B5.kept bb)
      (try replace B7 := B7.kept bb)
      (try replace B9 := B9.kept bb)
      (try replace B11 := B11.kept bb)
      clear bb
      (try have k3 := B3.k)
      (try have k4 := B4.k)
      (try have k5 := B5.k)
      (try have k9 := B9.k)
      (try have k11 := B11.k)
      go_wp2_with (first
        | ((with_reducible refine at_new 7 24 ?_); refine box_new (d := 7) rfl rfl 24 rfl _ zero_cfg ?_; intro w' B7 bb; have n7 := b0.size;  (try have l3_7 := B3.lt); (try have l4_7 := B4.lt); (try have l5_7 := B5.lt); (try have l9_7 := B9.lt); (try have l11_7 := B11.lt); (try clear k3); (try clear k4); (try clear k5); (try clear k9); (try clear k11); replace b0 := bchain b0 bb; (try replace B3 := B3.kept bb); (try replace B4 := B4.kept bb); (try replace B5 := B5.kept bb);  (try replace B9 := B9.kept bb); (try replace B11 := B11.kept bb); clear bb; (try have k3 := B3.k); (try have k4 := B4.k); (try have k5 := B5.k); (try have k9 := B9.k); (try have k11 := B11.k))
        | ((with_reducible refine at_load 24 ?_); refine box_load rfl 24 _ rfl _ rfl (by with_reducible assumption) Try.underlying24 rfl (by kernel_rfl) ?_)
        | ((with_reducible refine at_store 24 ?_); refine box_store rfl 24 _ _ rfl _ _ rfl rfl (by with_reducible exact B7) (by kernel_rfl) (by rfl) (by simp [Value.oneCell']) ?_; clear B7; intro w' B7 gg; (try clear k3); (try clear k4); (try clear k5); (try clear k9); (try clear k11); replace b0 := below_at b0 gg b0.size (by omega); (try replace B3 := B3.grown gg (by omega)); (try replace B4 := B4.grown gg (by omega)); (try replace B5 := B5.grown gg (by omega)); (try replace B9 := B9.grown gg (by omega)); (try replace B11 := B11.grown gg (by omega)); clear gg; (try have k3 := B3.k); (try have k4 := B4.k); (try have k5 := B5.k); (try have k9 := B9.k); (try have k11 := B11.k)))
      refine (impl_meet_no _ _ _ _ _ _ _ _ _ _ hm2 _).mono ?_
      rintro e w' ⟨rfl, bb⟩
      (try clear k3)
      (try clear k4)
      (try clear k5)
      (try clear k9)
      (try clear k11)
      replace b0 := bchain b0 bb
      (try replace B3 := B3.kept bb)
      (try replace B4 := B4.kept bb)
      (try replace B5 := B5.kept bb)
      (try replace B7 := B7.kept bb)
      (try replace B9 := B9.kept bb)
      (try replace B11 := B11.kept bb)
      clear bb
      (try have k3 := B3.k)
      (try have k4 := B4.k)
      (try have k5 := B5.k)
      (try have k9 := B9.k)
      (try have k11 := B11.k)
      go_wp2_with (first
        | ((with_reducible refine at_new 9 24 ?_); refine box_new (d := 9) rfl rfl 24 rfl _ zero_cfg ?_; intro w' B9 bb; have n9 := b0.size;  (try have l3_9 := B3.lt); (try have l4_9 := B4.lt); (try have l5_9 := B5.lt); (try have l7_9 := B7.lt); (try have l11_9 := B11.lt); (try clear k3); (try clear k4); (try clear k5); (try clear k9); (try clear k11); replace b0 := bchain b0 bb; (try replace B3 := B3.kept bb); (try replace B4 := B4.kept bb); (try replace B5 := B5.kept bb); (try replace B7 := B7.kept bb);  (try replace B11 := B11.kept bb); clear bb; (try have k3 := B3.k); (try have k4 := B4.k); (try have k5 := B5.k); (try have k9 := B9.k); (try have k11 := B11.k))
        | ((with_reducible refine at_load 24 ?_); refine box_load rfl 24 _ rfl _ rfl (by with_reducible assumption) Try.underlying24 rfl (by kernel_rfl) ?_)
        | ((with_reducible refine at_store 24 ?_); refine box_store rfl 24 _ _ rfl _ _ rfl rfl (by with_reducible exact B9) (by kernel_rfl) (by rfl) (by simp [Value.oneCell']) ?_; clear B9; intro w' B9 gg; (try clear k3); (try clear k4); (try clear k5); (try clear k9); (try clear k11); replace b0 := below_at b0 gg b0.size (by omega); (try replace B3 := B3.grown gg (by omega)); (try replace B4 := B4.grown gg (by omega)); (try replace B5 := B5.grown gg (by omega)); (try replace B7 := B7.grown gg (by omega)); (try replace B11 := B11.grown gg (by omega)); clear gg; (try have k3 := B3.k); (try have k4 := B4.k); (try have k5 := B5.k); (try have k9 := B9.k); (try have k11 := B11.k))
        | (go_at_call 28; refine (spec_cfg_v _ _ _ _ _ _).mono ?_; rintro e w' ⟨rfl, bb⟩; (first | rw [hA] | rw [hB]); (try clear k3); (try clear k4); (try clear k5); (try clear k9); (try clear k11); replace b0 := bchain b0 bb; (try replace B3 := B3.kept bb); (try replace B4 := B4.kept bb); (try replace B5 := B5.kept bb); (try replace B7 := B7.kept bb); (try replace B9 := B9.kept bb); (try replace B11 := B11.kept bb); clear bb; (try have k3 := B3.k); (try have k4 := B4.k); (try have k5 := B5.k); (try have k9 := B9.k); (try have k11 := B11.k))
        | (go_at_call 29; refine (li_ok _).mono ?_; rintro e w' ⟨rfl, bb⟩; (try clear k3); (try clear k4); (try clear k5); (try clear k9); (try clear k11); replace b0 := bchain b0 bb; (try replace B3 := B3.kept bb); (try replace B4 := B4.kept bb); (try replace B5 := B5.kept bb); (try replace B7 := B7.kept bb); (try replace B9 := B9.kept bb); (try replace B11 := B11.kept bb); clear bb; (try have k3 := B3.k); (try have k4 := B4.k); (try have k5 := B5.k); (try have k9 := B9.k); (try have k11 := B11.k)))
      all_goals
        go_ret
        first
          | exact ⟨rfl, b0⟩
          | (exfalso; go_light; simp at hd; contradiction)
          | (refine ⟨ret_bool ?_, b0⟩; simp [bne, hd])
  · obtain rfl : x1 = y1 := meets_mode hm
    have hm2 : meets ⟨x1, y2, y3, y4, y5⟩ ⟨x1, x2, x3, x4, x5⟩ = true := by rw [meets_comm]; exact hm
    obtain ⟨c2, h2⟩ : ∃ c, min x2 y2 = c := ⟨_, rfl⟩
    have g2 : min y2 x2 = c2 := by rw [← h2]; omega
    have j2 : min c2 x2 = c2 := by rw [← h2]; omega
    obtain ⟨c3, h3⟩ : ∃ c, min x3 y3 = c := ⟨_, rfl⟩
    have g3 : min y3 x3 = c3 := by rw [← h3]; omega
    have j3 : min c3 x3 = c3 := by rw [← h3]; omega
    obtain ⟨c4, h4⟩ : ∃ c, min x4 y4 = c := ⟨_, rfl⟩
    have g4 : min y4 x4 = c4 := by rw [← h4]; omega
    have j4 : min c4 x4 = c4 := by rw [← h4]; omega
    obtain ⟨c5, h5⟩ : ∃ c, min x5 y5 = c := ⟨_, rfl⟩
    have g5 : min y5 x5 = c5 := by rw [← h5]; omega
    have j5 : min c5 x5 = c5 := by rw [← h5]; omega
    have hc : Opt.ok ⟨x1, c2, c3, c4, c5⟩ = true := by
      have := least_ok (meets_ok hm).1 (meets_ok hm).2
      simpa [Opt.least, h2, h3, h4, h5] using this
    have hm3 : meets ⟨x1, c2, c3, c4, c5⟩ ⟨x1, x2, x3, x4, x5⟩ = true := meets_mk hc (meets_ok hm).1 rfl
    have HH : Hid (min x2 y2 = c2 ∧ min x3 y3 = c3 ∧ min x4 y4 = c4 ∧ min x5 y5 = c5) := ⟨h2, h3, h4, h5⟩
    go_wp2_with (first
      | ((with_reducible refine at_new 3 24 ?_); refine box_new (d := 3) rfl rfl 24 rfl _ zero_cfg ?_; intro w' B3 bb; have n3 := b0.size;  (try have l4_3 := B4.lt); (try have l5_3 := B5.lt); (try have l7_3 := B7.lt); (try have l9_3 := B9.lt); (try have l11_3 := B11.lt); (try clear k3); (try clear k4); (try clear k5); (try clear k9); (try clear k11); replace b0 := bchain b0 bb;  (try replace B4 := B4.kept bb); (try replace B5 := B5.kept bb); (try replace B7 := B7.kept bb); (try replace B9 := B9.kept bb); (try replace B11 := B11.kept bb); clear bb; (try have k3 := B3.k); (try have k4 := B4.k); (try have k5 := B5.k); (try have k9 := B9.k); (try have k11 := B11.k))
      | ((with_reducible refine at_new 4 24 ?_); refine box_new (d := 4) rfl rfl 24 rfl _ zero_cfg ?_; intro w' B4 bb; have n4 := b0.size;  (try have l3_4 := B3.lt); (try have l5_4 := B5.lt); (try have l7_4 := B7.lt); (try have l9_4 := B9.lt); (try have l11_4 := B11.lt); (try clear k3); (try clear k4); (try clear k5); (try clear k9); (try clear k11); replace b0 := bchain b0 bb; (try replace B3 := B3.kept bb);  (try replace B5 := B5.kept bb); (try replace B7 := B7.kept bb); (try replace B9 := B9.kept bb); (try replace B11 := B11.kept bb); clear bb; (try have k3 := B3.k); (try have k4 := B4.k); (try have k5 := B5.k); (try have k9 := B9.k); (try have k11 := B11.k))
      | ((with_reducible refine at_load 24 ?_); refine box_load rfl 24 _ rfl _ rfl (by with_reducible assumption) Try.underlying24 rfl (by kernel_rfl) ?_)
      | ((with_reducible refine at_store 24 ?_); refine box_store rfl 24 _ _ rfl _ _ rfl rfl (by with_reducible exact B3) (by kernel_rfl) (by rfl) (by simp [Value.oneCell']) ?_; clear B3; intro w' B3 gg; (try clear k3); (try clear k4); (try clear k5); (try clear k9); (try clear k11); replace b0 := below_at b0 gg b0.size (by omega); (try replace B4 := B4.grown gg (by omega)); (try replace B5 := B5.grown gg (by omega)); (try replace B7 := B7.grown gg (by omega)); (try replace B9 := B9.grown gg (by omega)); (try replace B11 := B11.grown gg (by omega)); clear gg; (try have k3 := B3.k); (try have k4 := B4.k); (try have k5 := B5.k); (try have k9 := B9.k); (try have k11 := B11.k))
      | ((with_reducible refine at_store 24 ?_); refine box_store rfl 24 _ _ rfl _ _ rfl rfl (by with_reducible exact B4) (by kernel_rfl) (by rfl) (by simp [Value.oneCell']) ?_; clear B4; intro w' B4 gg; (try clear k3); (try clear k4); (try clear k5); (try clear k9); (try clear k11); replace b0 := below_at b0 gg b0.size (by omega); (try replace B3 := B3.grown gg (by omega)); (try replace B5 := B5.grown gg (by omega)); (try replace B7 := B7.grown gg (by omega)); (try replace B9 := B9.grown gg (by omega)); (try replace B11 := B11.grown gg (by omega)); clear gg; (try have k3 := B3.k); (try have k4 := B4.k); (try have k5 := B5.k); (try have k9 := B9.k); (try have k11 := B11.k)))
    refine (impl_meet_yes _ _ _ _ _ _ _ _ _ _ c2 c3 c4 c5 hm h2 h3 h4 h5 _).mono ?_
    rintro e w' ⟨rfl, bb⟩
    (try clear k3)
    (try clear k4)
    (try clear k5)
    (try clear k9)
    (try clear k11)
    replace b0 := bchain b0 bb
    (try replace B3 := B3.kept bb)
    (try replace B4 := B4.kept bb)
    (try replace B5 := B5.kept bb)
    (try replace B7 := B7.kept bb)
    (try replace B9 := B9.kept bb)
    (try replace B11 := B11.kept bb)
    clear bb
    (try have k3 := B3.k)
    (try have k4 := B4.k)
    (try have k5 := B5.k)
    (try have k9 := B9.k)
    (try have k11 := B11.k)
    go_wp2_with (first
      | ((with_reducible refine at_new 5 24 ?_); refine box_new (d := 5) rfl rfl 24 rfl _ zero_cfg ?_; intro w' B5 bb; have n5 := b0.size;  (try have l3_5 := B3.lt); (try have l4_5 := B4.lt); (try have l7_5 := B7.lt); (try have l9_5 := B9.lt); (try have l11_5 := B11.lt); (try clear k3); (try clear k4); (try clear k5); (try clear k9); (try clear k11); replace b0 := bchain b0 bb; (try replace B3 := B3.kept bb); (try replace B4 := B4.kept bb);  (try replace B7 := B7.kept bb); (try replace B9 := B9.kept bb); (try replace B11 := B11.kept bb); clear bb; (try have k3 := B3.k); (try have k4 := B4.k); (try have k5 := B5.k); (try have k9 := B9.k); (try have k11 := B11.k))
      | ((with_reducible refine at_load 24 ?_); refine box_load rfl 24 _ rfl _ rfl (by with_reducible assumption) Try.underlying24 rfl (by kernel_rfl) ?_)
      | ((with_reducible refine at_store 24 ?_); refine box_store rfl 24 _ _ rfl _ _ rfl rfl (by with_reducible exact B5) (by kernel_rfl) (by rfl) (by simp [Value.oneCell']) ?_; clear B5; intro w' B5 gg; (try clear k3); (try clear k4); (try clear k5); (try clear k9); (try clear k11); replace b0 := below_at b0 gg b0.size (by omega); (try replace B3 := B3.grown gg (by omega)); (try replace B4 := B4.grown gg (by omega)); (try replace B7 := B7.grown gg (by omega)); (try replace B9 := B9.grown gg (by omega)); (try replace B11 := B11.grown gg (by omega)); clear gg; (try have k3 := B3.k); (try have k4 := B4.k); (try have k5 := B5.k); (try have k9 := B9.k); (try have k11 := B11.k)))
    refine (spec_meet_yes _ _ _ _ _ _ _ _ _ _ c2 c3 c4 c5 hm h2 h3 h4 h5 _).mono ?_
    rintro e w' ⟨rfl, bb⟩
    (try clear k3)
    (try clear k4)
    (try clear k5)
    (try clear k9)
    (try clear k11)
    replace b0 := bchain b0 bb
    (try replace B3 := B3.kept bb)
    (try replace B4 := B4.kept bb)
    (try replace B5 := B5.kept bb)
    (try replace B7 := B7.kept bb)
    (try replace B9 := B9.kept bb)
    (try replace B11 := B11.kept bb)
    clear bb
    (try have k3 := B3.k)
    (try have k4 := B4.k)
    (try have k5 := B5.k)
    (try have k9 := B9.k)
    (try have k11 := B11.k)
    go_wp2_with (first
      | ((with_reducible refine at_new 7 24 ?_); refine box_new (d := 7) rfl rfl 24 rfl _ zero_cfg ?_; intro w' B7 bb; have n7 := b0.size;  (try have l3_7 := B3.lt); (try have l4_7 := B4.lt); (try have l5_7 := B5.lt); (try have l9_7 := B9.lt); (try have l11_7 := B11.lt); (try clear k3); (try clear k4); (try clear k5); (try clear k9); (try clear k11); replace b0 := bchain b0 bb; (try replace B3 := B3.kept bb); (try replace B4 := B4.kept bb); (try replace B5 := B5.kept bb);  (try replace B9 := B9.kept bb); (try replace B11 := B11.kept bb); clear bb; (try have k3 := B3.k); (try have k4 := B4.k); (try have k5 := B5.k); (try have k9 := B9.k); (try have k11 := B11.k))
      | ((with_reducible refine at_load 24 ?_); refine box_load rfl 24 _ rfl _ rfl (by with_reducible assumption) Try.underlying24 rfl (by kernel_rfl) ?_)
      | ((with_reducible refine at_store 24 ?_); refine box_store rfl 24 _ _ rfl _ _ rfl rfl (by with_reducible exact B7) (by kernel_rfl) (by rfl) (by simp [Value.oneCell']) ?_; clear B7; intro w' B7 gg; (try clear k3); (try clear k4); (try clear k5); (try clear k9); (try clear k11); replace b0 := below_at b0 gg b0.size (by omega); (try replace B3 := B3.grown gg (by omega)); (try replace B4 := B4.grown gg (by omega)); (try replace B5 := B5.grown gg (by omega)); (try replace B9 := B9.grown gg (by omega)); (try replace B11 := B11.grown gg (by omega)); clear gg; (try have k3 := B3.k); (try have k4 := B4.k); (try have k5 := B5.k); (try have k9 := B9.k); (try have k11 := B11.k)))
    refine (impl_meet_yes _ _ _ _ _ _ _ _ _ _ c2 c3 c4 c5 hm2 g2 g3 g4 g5 _).mono ?_
    rintro e w' ⟨rfl, bb⟩
    (try clear k3)
    (try clear k4)
    (try clear k5)
    (try clear k9)
    (try clear k11)
    replace b0 := bchain b0 bb
    (try replace B3 := B3.kept bb)
    (try replace B4 := B4.kept bb)
    (try replace B5 := B5.kept bb)
    (try replace B7 := B7.kept bb)
    (try replace B9 := B9.kept bb)
    (try replace B11 := B11.kept bb)
    clear bb
    (try have k3 := B3.k)
    (try have k4 := B4.k)
    (try have k5 := B5.k)
    (try have k9 := B9.k)
    (try have k11 := B11.k)
    go_wp2_with (first
      | ((with_reducible refine at_new 9 24 ?_); refine box_new (d := 9) rfl rfl 24 rfl _ zero_cfg ?_; intro w' B9 bb; have n9 := b0.size;  (try have l3_9 := B3.lt); (try have l4_9 := B4.lt); (try have l5_9 := B5.lt); (try have l7_9 := B7.lt); (try have l11_9 := B11.lt); (try clear k3); (try clear k4); (try clear k5); (try clear k9); (try clear k11); replace b0 := bchain b0 bb; (try replace B3 := B3.kept bb); (try replace B4 := B4.kept bb); (try replace B5 := B5.kept bb); (try replace B7 := B7.kept bb);  (try replace B11 := B11.kept bb); clear bb; (try have k3 := B3.k); (try have k4 := B4.k); (try have k5 := B5.k); (try have k9 := B9.k); (try have k11 := B11.k))
      | ((with_reducible refine at_load 24 ?_); refine box_load rfl 24 _ rfl _ rfl (by with_reducible assumption) Try.underlying24 rfl (by kernel_rfl) ?_)
      | ((with_reducible refine at_store 24 ?_); refine box_store rfl 24 _ _ rfl _ _ rfl rfl (by with_reducible exact B9) (by kernel_rfl) (by rfl) (by simp [Value.oneCell']) ?_; clear B9; intro w' B9 gg; (try clear k3); (try clear k4); (try clear k5); (try clear k9); (try clear k11); replace b0 := below_at b0 gg b0.size (by omega); (try replace B3 := B3.grown gg (by omega)); (try replace B4 := B4.grown gg (by omega)); (try replace B5 := B5.grown gg (by omega)); (try replace B7 := B7.grown gg (by omega)); (try replace B11 := B11.grown gg (by omega)); clear gg; (try have k3 := B3.k); (try have k4 := B4.k); (try have k5 := B5.k); (try have k9 := B9.k); (try have k11 := B11.k)))
    refine (impl_meet_yes _ _ _ _ _ _ _ _ _ _ c2 c3 c4 c5 hm3 j2 j3 j4 j5 _).mono ?_
    rintro e w' ⟨rfl, bb⟩
    (try clear k3)
    (try clear k4)
    (try clear k5)
    (try clear k9)
    (try clear k11)
    replace b0 := bchain b0 bb
    (try replace B3 := B3.kept bb)
    (try replace B4 := B4.kept bb)
    (try replace B5 := B5.kept bb)
    (try replace B7 := B7.kept bb)
    (try replace B9 := B9.kept bb)
    (try replace B11 := B11.kept bb)
    clear bb
    (try have k3 := B3.k)
    (try have k4 := B4.k)
    (try have k5 := B5.k)
    (try have k9 := B9.k)
    (try have k11 := B11.k)
    go_wp2_with (first
      | ((with_reducible refine at_new 11 24 ?_); refine box_new (d := 11) rfl rfl 24 rfl _ zero_cfg ?_; intro w' B11 bb; have n11 := b0.size;  (try have l3_11 := B3.lt); (try have l4_11 := B4.lt); (try have l5_11 := B5.lt); (try have l7_11 := B7.lt); (try have l9_11 := B9.lt); (try clear k3); (try clear k4); (try clear k5); (try clear k9); (try clear k11); replace b0 := bchain b0 bb; (try replace B3 := B3.kept bb); (try replace B4 := B4.kept bb); (try replace B5 := B5.kept bb); (try replace B7 := B7.kept bb); (try replace B9 := B9.kept bb);  clear bb; (try have k3 := B3.k); (try have k4 := B4.k); (try have k5 := B5.k); (try have k9 := B9.k); (try have k11 := B11.k))
      | ((with_reducible refine at_load 24 ?_); refine box_load rfl 24 _ rfl _ rfl (by with_reducible assumption) Try.underlying24 rfl (by kernel_rfl) ?_)
      | ((with_reducible refine at_store 24 ?_); refine box_store rfl 24 _ _ rfl _ _ rfl rfl (by with_reducible exact B11) (by kernel_rfl) (by rfl) (by simp [Value.oneCell']) ?_; clear B11; intro w' B11 gg; (try clear k3); (try clear k4); (try clear k5); (try clear k9); (try clear k11); replace b0 := below_at b0 gg b0.size (by omega); (try replace B3 := B3.grown gg (by omega)); (try replace B4 := B4.grown gg (by omega)); (try replace B5 := B5.grown gg (by omega)); (try replace B7 := B7.grown gg (by omega)); (try replace B9 := B9.grown gg (by omega)); clear gg; (try have k3 := B3.k); (try have k4 := B4.k); (try have k5 := B5.k); (try have k9 := B9.k); (try have k11 := B11.k)))
    refine (impl_cfg_v _ _ _ _ _ _).mono ?_
    rintro e w' ⟨rfl, bb⟩
    rw [hc]
    (try clear k3)
    (try clear k4)
    (try clear k5)
    (try clear k9)
    (try clear k11)
    replace b0 := bchain b0 bb
    (try replace B3 := B3.kept bb)
    (try replace B4 := B4.kept bb)
    (try replace B5 := B5.kept bb)
    (try replace B7 := B7.kept bb)
    (try replace B9 := B9.kept bb)
    (try replace B11 := B11.kept bb)
    clear bb
    (try have k3 := B3.k)
    (try have k4 := B4.k)
    (try have k5 := B5.k)
    (try have k9 := B9.k)
    (try have k11 := B11.k)
    go_wp2_with (first
      | ((with_reducible refine at_load 24 ?_); refine box_load rfl 24 _ rfl _ rfl (by with_reducible assumption) Try.underlying24 rfl (by kernel_rfl) ?_))
    all_goals
      go_ret
      refine ⟨ret_bool ?_, b0⟩
      obtain ⟨m2, m3, m4, m5⟩ := HH.out
      go_light
      (try simp only [beq_iff_eq])
      first
        | rfl
        | omega
theorem walk (a0 : Option Addr) (len0 cap0 : Nat) (z0 : List Int) (w : World) (w0 : IsRow .u8 w a0 len0 cap0 z0) :
    Calls Try.prog 6 #[.slice a0 len0 cap0] w fun e w' => e = .returned (.bool true) ∧ Below w.heap.size w w' := by
  by_cases hs0 : (1048576 : Int) < (len0 : Int)
  · go_enter Try.func6, Try.ntmps6
    go_wp2
    go_ret
    exact ⟨rfl, Below.refl _ _⟩
  · obtain ⟨cz, hR0, _⟩ := w0.rd (by omega)
    exact small a0 len0 cap0 cz w hs0 hR0
end Go.Proofs.Ytmciofamcdekaaa.fnCfgMeet
