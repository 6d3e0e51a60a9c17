/- The law of NegTwice, promise 73, returns true at every code. -/
import Derived.Test.YtmciofamcdekaaaDrawHear
import Derived.Test.YtmciofamcdekaaaNegEq
import Derived.Test.YtmciofamcdekaaaLiOk
import Derived.RowKit3
namespace Go.Proofs.Ytmciofamcdekaaa.fnNegTwice
open Go.RowKit
theorem spec_negs (s : Neg) (w : World) : Calls Try.prog 19 #[.agg s.cs] w fun e w' => e = .returned (.bool s.ok) ∧ Below w.heap.size w w' := by
  obtain ⟨⟨o1, o2, o3, o4, o5⟩, ⟨a1, a2, a3, a4, a5⟩, ⟨m1, m2, m3, m4, m5⟩, ⟨y1, y2, y3, y4, y5⟩, f⟩ := s
  exact spec_neg_v o1 o2 o3 o4 o5 a1 a2 a3 a4 a5 m1 m2 m3 m4 m5 y1 y2 y3 y4 y5 f w
set_option maxRecDepth 100000 in
set_option maxHeartbeats 4000000 in
theorem small (a0 : Option Addr) (len0 cap0 : Nat) (cz : List Nat) (w : World) (hs0 : ¬ (1048576 : Int) < (len0 : Int)) (hR0 : Rd w (.slice a0 len0 cap0) cz) :
    Calls Try.prog 12 #[.slice a0 len0 cap0] w fun e w' => e = .returned (.bool true) ∧ Below w.heap.size w w' := by
  have b0 : Below w.heap.size w w := Below.refl _ _
  go_enter Try.func12, Try.ntmps12
  go_wp2_with fail
  refine (drawHear_any _ cz _ hR0).mono ?_
  rintro e w1 ⟨s, m, rfl, hJ, bb⟩
  replace b0 := bchain b0 bb
  clear bb hR0
  have hsame := hear_same s m hJ
  obtain ⟨H, hH⟩ : ∃ H, sHear s m = H := ⟨_, rfl⟩
  obtain ⟨x, back, says⟩ := H
  rw [hH] at hsame
  go_wp2_with (first
    | ((with_reducible refine at_new 3 26 ?_); refine box_new (d := 3) rfl rfl 26 rfl _ zero_neg ?_; intro w' B3 bb; have n3 := b0.size;  (try have l4_3 := B4.lt); (try have l5_3 := B5.lt); (try have l6_3 := B6.lt); (try have l8_3 := B8.lt); (try have l9_3 := B9.lt); (try have l11_3 := B11.lt); (try have l12_3 := B12.lt);  replace b0 := bchain b0 bb;  (try replace B4 := B4.kept bb); (try replace B5 := B5.kept bb); (try replace B6 := B6.kept bb); (try replace B8 := B8.kept bb); (try replace B9 := B9.kept bb); (try replace B11 := B11.kept bb); (try replace B12 := B12.kept bb); clear bb; skip)
    | ((with_reducible refine at_new 4 37 ?_); refine box_new (d := 4) rfl rfl 37 rfl _ zero_msg ?_; intro w' B4 bb; have n4 := b0.size;  (try have l3_4 := B3.lt); (try have l5_4 := B5.lt); (try have l6_4 := B6.lt); (try have l8_4 := B8.lt); (try have l9_4 := B9.lt); (try have l11_4 := B11.lt); (try have l12_4 := B12.lt);  replace b0 := bchain b0 bb; (try replace B3 := B3.kept bb);  (try replace B5 := B5.kept bb); (try replace B6 := B6.kept bb); (try replace B8 := B8.kept bb); (try replace B9 := B9.kept bb); (try replace B11 := B11.kept bb); (try replace B12 := B12.kept bb); clear bb; skip)
    | ((with_reducible refine at_load 26 ?_); refine box_load rfl 26 _ rfl _ rfl (by with_reducible assumption) Try.underlying26 rfl (by kernel_rfl) ?_)
    | ((with_reducible refine at_load 37 ?_); refine box_load rfl 37 _ rfl _ rfl (by with_reducible assumption) Try.underlying37 rfl (by kernel_rfl) ?_)
    | ((with_reducible refine at_loadg 26 ?_); refine box_loadg (by rfl) 26 _ rfl _ rfl (by with_reducible assumption) Try.underlying26 rfl (by kernel_rfl) ?_)
    | ((with_reducible refine at_loadg 37 ?_); refine box_loadg (by rfl) 37 _ rfl _ rfl (by with_reducible assumption) Try.underlying37 rfl (by kernel_rfl) ?_)
    | ((with_reducible refine at_store 26 ?_); refine box_store rfl 26 _ _ rfl _ _ rfl rfl (by with_reducible exact B3) (by kernel_rfl) (by rfl) (by simp [Neg.cs, Value.oneCell']) ?_; clear B3; intro w' B3 gg;  replace b0 := below_at b0 gg b0.size n3; (try replace B4 := B4.grown gg (Nat.ne_of_gt l3_4)); (try replace B5 := B5.grown gg (Nat.ne_of_gt l3_5)); (try replace B6 := B6.grown gg (Nat.ne_of_gt l3_6)); (try replace B8 := B8.grown gg (Nat.ne_of_gt l3_8)); (try replace B9 := B9.grown gg (Nat.ne_of_gt l3_9)); (try replace B11 := B11.grown gg (Nat.ne_of_gt l3_11)); (try replace B12 := B12.grown gg (Nat.ne_of_gt l3_12)); clear gg; skip)
    | ((with_reducible refine at_store 37 ?_); refine box_store rfl 37 _ _ rfl _ _ rfl rfl (by with_reducible exact B4) (by kernel_rfl) (by rfl) (by simp [Msg.cs, Value.oneCell']) ?_; clear B4; intro w' B4 gg;  replace b0 := below_at b0 gg b0.size n4; (try replace B3 := B3.grown gg (Nat.ne_of_lt l3_4)); (try replace B5 := B5.grown gg (Nat.ne_of_gt l4_5)); (try replace B6 := B6.grown gg (Nat.ne_of_gt l4_6)); (try replace B8 := B8.grown gg (Nat.ne_of_gt l4_8)); (try replace B9 := B9.grown gg (Nat.ne_of_gt l4_9)); (try replace B11 := B11.grown gg (Nat.ne_of_gt l4_11)); (try replace B12 := B12.grown gg (Nat.ne_of_gt l4_12)); clear gg; skip)
    | ((with_reducible refine at_any .neq 26 ?_); refine neg_neq (by rfl) _ _ rfl _ rfl rfl ?_)
    | ((with_reducible refine at_any .eql 26 ?_); refine neg_eql (by rfl) _ _ rfl _ rfl rfl ?_)
    | ((with_reducible refine at_any .eql 37 ?_); refine msg_eql (by rfl) _ _ rfl _ rfl rfl ?_))
  refine (impl_hear s m _).mono ?_
  rintro e w' ⟨rfl, bb⟩
  rw [hsame]
  replace b0 := bchain b0 bb
  (try replace B3 := B3.kept bb)
  (try replace B4 := B4.kept bb)
  (try replace B5 := B5.kept bb)
  (try replace B6 := B6.kept bb)
  (try replace B8 := B8.kept bb)
  (try replace B9 := B9.kept bb)
  (try replace B11 := B11.kept bb)
  (try replace B12 := B12.kept bb)
  clear bb
  skip
  go_wp2_with (first
    | ((with_reducible refine at_new 5 26 ?_); refine box_new (d := 5) rfl rfl 26 rfl _ zero_neg ?_; intro w' B5 bb; have n5 := b0.size;  (try have l3_5 := B3.lt); (try have l4_5 := B4.lt); (try have l6_5 := B6.lt); (try have l8_5 := B8.lt); (try have l9_5 := B9.lt); (try have l11_5 := B11.lt); (try have l12_5 := B12.lt);  replace b0 := bchain b0 bb; (try replace B3 := B3.kept bb); (try replace B4 := B4.kept bb);  (try replace B6 := B6.kept bb); (try replace B8 := B8.kept bb); (try replace B9 := B9.kept bb); (try replace B11 := B11.kept bb); (try replace B12 := B12.kept bb); clear bb; skip)
    | ((with_reducible refine at_new 6 37 ?_); refine box_new (d := 6) rfl rfl 37 rfl _ zero_msg ?_; intro w' B6 bb; have n6 := b0.size;  (try have l3_6 := B3.lt); (try have l4_6 := B4.lt); (try have l5_6 := B5.lt); (try have l8_6 := B8.lt); (try have l9_6 := B9.lt); (try have l11_6 := B11.lt); (try have l12_6 := B12.lt);  replace b0 := bchain b0 bb; (try replace B3 := B3.kept bb); (try replace B4 := B4.kept bb); (try replace B5 := B5.kept bb);  (try replace B8 := B8.kept bb); (try replace B9 := B9.kept bb); (try replace B11 := B11.kept bb); (try replace B12 := B12.kept bb); clear bb; skip)
    | ((with_reducible refine at_load 26 ?_); refine box_load rfl 26 _ rfl _ rfl (by with_reducible assumption) Try.underlying26 rfl (by kernel_rfl) ?_)
    | ((with_reducible refine at_load 37 ?_); refine box_load rfl 37 _ rfl _ rfl (by with_reducible assumption) Try.underlying37 rfl (by kernel_rfl) ?_)
    | ((with_reducible refine at_loadg 26 ?_); refine box_loadg (by rfl) 26 _ rfl _ rfl (by with_reducible assumption) Try.underlying26 rfl (by kernel_rfl) ?_)
    | ((with_reducible refine at_loadg 37 ?_); refine box_loadg (by rfl) 37 _ rfl _ rfl (by with_reducible assumption) Try.underlying37 rfl (by kernel_rfl) ?_)
    | ((with_reducible refine at_store 26 ?_); refine box_store rfl 26 _ _ rfl _ _ rfl rfl (by with_reducible exact B5) (by kernel_rfl) (by rfl) (by simp [Neg.cs, Value.oneCell']) ?_; clear B5; intro w' B5 gg;  replace b0 := below_at b0 gg b0.size n5; (try replace B3 := B3.grown gg (Nat.ne_of_lt l3_5)); (try replace B4 := B4.grown gg (Nat.ne_of_lt l4_5)); (try replace B6 := B6.grown gg (Nat.ne_of_gt l5_6)); (try replace B8 := B8.grown gg (Nat.ne_of_gt l5_8)); (try replace B9 := B9.grown gg (Nat.ne_of_gt l5_9)); (try replace B11 := B11.grown gg (Nat.ne_of_gt l5_11)); (try replace B12 := B12.grown gg (Nat.ne_of_gt l5_12)); clear gg; skip)
    | ((with_reducible refine at_store 37 ?_); refine box_store rfl 37 _ _ rfl _ _ rfl rfl (by with_reducible exact B6) (by kernel_rfl) (by rfl) (by simp [Msg.cs, Value.oneCell']) ?_; clear B6; intro w' B6 gg;  replace b0 := below_at b0 gg b0.size n6; (try replace B3 := B3.grown gg (Nat.ne_of_lt l3_6)); (try replace B4 := B4.grown gg (Nat.ne_of_lt l4_6)); (try replace B5 := B5.grown gg (Nat.ne_of_lt l5_6)); (try replace B8 := B8.grown gg (Nat.ne_of_gt l6_8)); (try replace B9 := B9.grown gg (Nat.ne_of_gt l6_9)); (try replace B11 := B11.grown gg (Nat.ne_of_gt l6_11)); (try replace B12 := B12.grown gg (Nat.ne_of_gt l6_12)); clear gg; skip)
    | ((with_reducible refine at_any .neq 26 ?_); refine neg_neq (by rfl) _ _ rfl _ rfl rfl ?_)
    | ((with_reducible refine at_any .eql 26 ?_); refine neg_eql (by rfl) _ _ rfl _ rfl rfl ?_)
    | ((with_reducible refine at_any .eql 37 ?_); refine msg_eql (by rfl) _ _ rfl _ rfl rfl ?_))
  refine (spec_hear s m _).mono ?_
  rintro e w' ⟨rfl, bb⟩
  rw [hH]
  replace b0 := bchain b0 bb
  (try replace B3 := B3.kept bb)
  (try replace B4 := B4.kept bb)
  (try replace B5 := B5.kept bb)
  (try replace B6 := B6.kept bb)
  (try replace B8 := B8.kept bb)
  (try replace B9 := B9.kept bb)
  (try replace B11 := B11.kept bb)
  (try replace B12 := B12.kept bb)
  clear bb
  skip
  go_wp2_with (first
    | ((with_reducible refine at_new 8 26 ?_); refine box_new (d := 8) rfl rfl 26 rfl _ zero_neg ?_; intro w' B8 bb; have n8 := b0.size;  (try have l3_8 := B3.lt); (try have l4_8 := B4.lt); (try have l5_8 := B5.lt); (try have l6_8 := B6.lt); (try have l9_8 := B9.lt); (try have l11_8 := B11.lt); (try have l12_8 := B12.lt);  replace b0 := bchain b0 bb; (try replace B3 := B3.kept bb); (try replace B4 := B4.kept bb); (try replace B5 := B5.kept bb); (try replace B6 := B6.kept bb);  (try replace B9 := B9.kept bb); (try replace B11 := B11.kept bb); (try replace B12 := B12.kept bb); clear bb; skip)
    | ((with_reducible refine at_new 9 37 ?_); refine box_new (d := 9) rfl rfl 37 rfl _ zero_msg ?_; intro w' B9 bb; have n9 := b0.size;  (try have l3_9 := B3.lt); (try have l4_9 := B4.lt); (try have l5_9 := B5.lt); (try have l6_9 := B6.lt); (try have l8_9 := B8.lt); (try have l11_9 := B11.lt); (try have l12_9 := B12.lt);  replace b0 := bchain b0 bb; (try replace B3 := B3.kept bb); (try replace B4 := B4.kept bb); (try replace B5 := B5.kept bb); (try replace B6 := B6.kept bb); (try replace B8 := B8.kept bb);  (try replace B11 := B11.kept bb); (try replace B12 := B12.kept bb); clear bb; skip)
    | ((with_reducible refine at_load 26 ?_); refine box_load rfl 26 _ rfl _ rfl (by with_reducible assumption) Try.underlying26 rfl (by kernel_rfl) ?_)
    | ((with_reducible refine at_load 37 ?_); refine box_load rfl 37 _ rfl _ rfl (by with_reducible assumption) Try.underlying37 rfl (by kernel_rfl) ?_)
    | ((with_reducible refine at_loadg 26 ?_); refine box_loadg (by rfl) 26 _ rfl _ rfl (by with_reducible assumption) Try.underlying26 rfl (by kernel_rfl) ?_)
    | ((with_reducible refine at_loadg 37 ?_); refine box_loadg (by rfl) 37 _ rfl _ rfl (by with_reducible assumption) Try.underlying37 rfl (by kernel_rfl) ?_)
    | ((with_reducible refine at_store 26 ?_); refine box_store rfl 26 _ _ rfl _ _ rfl rfl (by with_reducible exact B8) (by kernel_rfl) (by rfl) (by simp [Neg.cs, Value.oneCell']) ?_; clear B8; intro w' B8 gg;  replace b0 := below_at b0 gg b0.size n8; (try replace B3 := B3.grown gg (Nat.ne_of_lt l3_8)); (try replace B4 := B4.grown gg (Nat.ne_of_lt l4_8)); (try replace B5 := B5.grown gg (Nat.ne_of_lt l5_8)); (try replace B6 := B6.grown gg (Nat.ne_of_lt l6_8)); (try replace B9 := B9.grown gg (Nat.ne_of_gt l8_9)); (try replace B11 := B11.grown gg (Nat.ne_of_gt l8_11)); (try replace B12 := B12.grown gg (Nat.ne_of_gt l8_12)); clear gg; skip)
    | ((with_reducible refine at_store 37 ?_); refine box_store rfl 37 _ _ rfl _ _ rfl rfl (by with_reducible exact B9) (by kernel_rfl) (by rfl) (by simp [Msg.cs, Value.oneCell']) ?_; clear B9; intro w' B9 gg;  replace b0 := below_at b0 gg b0.size n9; (try replace B3 := B3.grown gg (Nat.ne_of_lt l3_9)); (try replace B4 := B4.grown gg (Nat.ne_of_lt l4_9)); (try replace B5 := B5.grown gg (Nat.ne_of_lt l5_9)); (try replace B6 := B6.grown gg (Nat.ne_of_lt l6_9)); (try replace B8 := B8.grown gg (Nat.ne_of_lt l8_9)); (try replace B11 := B11.grown gg (Nat.ne_of_gt l9_11)); (try replace B12 := B12.grown gg (Nat.ne_of_gt l9_12)); clear gg; skip)
    | ((with_reducible refine at_any .neq 26 ?_); refine neg_neq (by rfl) _ _ rfl _ rfl rfl ?_)
    | ((with_reducible refine at_any .eql 26 ?_); refine neg_eql (by rfl) _ _ rfl _ rfl rfl ?_)
    | ((with_reducible refine at_any .eql 37 ?_); refine msg_eql (by rfl) _ _ rfl _ rfl rfl ?_))
  cases hok : s.ok
  · have hs : says = false := by
      have : sHear s m = (Neg.zero, Msg.zero, false) := by unfold sHear; rw [if_pos (by simp [hok])]
      rw [hH] at this
      exact congrArg (·.2.2) this
    subst hs
    refine (spec_negs s _).mono ?_
    rintro e w' ⟨rfl, bb⟩
    rw [hok]
    replace b0 := bchain b0 bb
    (try replace B3 := B3.kept bb)
    (try replace B4 := B4.kept bb)
    (try replace B5 := B5.kept bb)
    (try replace B6 := B6.kept bb)
    (try replace B8 := B8.kept bb)
    (try replace B9 := B9.kept bb)
    (try replace B11 := B11.kept bb)
    (try replace B12 := B12.kept bb)
    clear bb
    skip
    go_wp2_with (first
      | ((with_reducible refine at_load 26 ?_); refine box_load rfl 26 _ rfl _ rfl (by with_reducible assumption) Try.underlying26 rfl (by kernel_rfl) ?_)
      | ((with_reducible refine at_load 37 ?_); refine box_load rfl 37 _ rfl _ rfl (by with_reducible assumption) Try.underlying37 rfl (by kernel_rfl) ?_)
      | ((with_reducible refine at_loadg 26 ?_); refine box_loadg (by rfl) 26 _ rfl _ rfl (by with_reducible assumption) Try.underlying26 rfl (by kernel_rfl) ?_)
      | ((with_reducible refine at_loadg 37 ?_); refine box_loadg (by rfl) 37 _ rfl _ rfl (by with_reducible assumption) Try.underlying37 rfl (by kernel_rfl) ?_)
      | ((with_reducible refine at_any .neq 26 ?_); refine neg_neq (by rfl) _ _ rfl _ rfl rfl ?_)
      | ((with_reducible refine at_any .eql 26 ?_); refine neg_eql (by rfl) _ _ rfl _ rfl rfl ?_)
      | ((with_reducible refine at_any .eql 37 ?_); refine msg_eql (by rfl) _ _ rfl _ rfl rfl ?_))
    refine (li_ok _).mono ?_
    rintro e w' ⟨rfl, bb⟩
    replace b0 := bchain b0 bb
    (try replace B3 := B3.kept bb)
    (try replace B4 := B4.kept bb)
    (try replace B5 := B5.kept bb)
    (try replace B6 := B6.kept bb)
    (try replace B8 := B8.kept bb)
    (try replace B9 := B9.kept bb)
    (try replace B11 := B11.kept bb)
    (try replace B12 := B12.kept bb)
    clear bb
    skip
    go_wp2
    go_ret
    exact ⟨rfl, b0⟩
  cases hx : x.ok
  · have hs : says = false := by
      have := sHear_says s m hok
      rw [hH, hx] at this
      cases says
      · rfl
      · exact absurd (this rfl) (by simp)
    subst hs
    refine (spec_negs s _).mono ?_
    rintro e w' ⟨rfl, bb⟩
    rw [hok]
    replace b0 := bchain b0 bb
    (try replace B3 := B3.kept bb)
    (try replace B4 := B4.kept bb)
    (try replace B5 := B5.kept bb)
    (try replace B6 := B6.kept bb)
    (try replace B8 := B8.kept bb)
    (try replace B9 := B9.kept bb)
    (try replace B11 := B11.kept bb)
    (try replace B12 := B12.kept bb)
    clear bb
    skip
    go_wp2_with (first
      | ((with_reducible refine at_load 26 ?_); refine box_load rfl 26 _ rfl _ rfl (by with_reducible assumption) Try.underlying26 rfl (by kernel_rfl) ?_)
      | ((with_reducible refine at_load 37 ?_); refine box_load rfl 37 _ rfl _ rfl (by with_reducible assumption) Try.underlying37 rfl (by kernel_rfl) ?_)
      | ((with_reducible refine at_loadg 26 ?_); refine box_loadg (by rfl) 26 _ rfl _ rfl (by with_reducible assumption) Try.underlying26 rfl (by kernel_rfl) ?_)
      | ((with_reducible refine at_loadg 37 ?_); refine box_loadg (by rfl) 37 _ rfl _ rfl (by with_reducible assumption) Try.underlying37 rfl (by kernel_rfl) ?_)
      | ((with_reducible refine at_any .neq 26 ?_); refine neg_neq (by rfl) _ _ rfl _ rfl rfl ?_)
      | ((with_reducible refine at_any .eql 26 ?_); refine neg_eql (by rfl) _ _ rfl _ rfl rfl ?_)
      | ((with_reducible refine at_any .eql 37 ?_); refine msg_eql (by rfl) _ _ rfl _ rfl rfl ?_))
    refine (spec_negs x _).mono ?_
    rintro e w' ⟨rfl, bb⟩
    rw [hx]
    replace b0 := bchain b0 bb
    (try replace B3 := B3.kept bb)
    (try replace B4 := B4.kept bb)
    (try replace B5 := B5.kept bb)
    (try replace B6 := B6.kept bb)
    (try replace B8 := B8.kept bb)
    (try replace B9 := B9.kept bb)
    (try replace B11 := B11.kept bb)
    (try replace B12 := B12.kept bb)
    clear bb
    skip
    go_wp2_with (first
      | ((with_reducible refine at_load 26 ?_); refine box_load rfl 26 _ rfl _ rfl (by with_reducible assumption) Try.underlying26 rfl (by kernel_rfl) ?_)
      | ((with_reducible refine at_load 37 ?_); refine box_load rfl 37 _ rfl _ rfl (by with_reducible assumption) Try.underlying37 rfl (by kernel_rfl) ?_)
      | ((with_reducible refine at_loadg 26 ?_); refine box_loadg (by rfl) 26 _ rfl _ rfl (by with_reducible assumption) Try.underlying26 rfl (by kernel_rfl) ?_)
      | ((with_reducible refine at_loadg 37 ?_); refine box_loadg (by rfl) 37 _ rfl _ rfl (by with_reducible assumption) Try.underlying37 rfl (by kernel_rfl) ?_)
      | ((with_reducible refine at_any .neq 26 ?_); refine neg_neq (by rfl) _ _ rfl _ rfl rfl ?_)
      | ((with_reducible refine at_any .eql 26 ?_); refine neg_eql (by rfl) _ _ rfl _ rfl rfl ?_)
      | ((with_reducible refine at_any .eql 37 ?_); refine msg_eql (by rfl) _ _ rfl _ rfl rfl ?_))
    refine (li_ok _).mono ?_
    rintro e w' ⟨rfl, bb⟩
    replace b0 := bchain b0 bb
    (try replace B3 := B3.kept bb)
    (try replace B4 := B4.kept bb)
    (try replace B5 := B5.kept bb)
    (try replace B6 := B6.kept bb)
    (try replace B8 := B8.kept bb)
    (try replace B9 := B9.kept bb)
    (try replace B11 := B11.kept bb)
    (try replace B12 := B12.kept bb)
    clear bb
    skip
    go_wp2
    go_ret
    exact ⟨rfl, b0⟩
  · have htw : iHear x m = (x, back, says) := by
      have h1 := sHear_twice s m (by rw [hH]; exact hx)
      rw [hH] at h1
      rw [hear_same x m (fun _ => by have := sHear_mode s m (hJ hok); rw [hH] at this; exact this)]
      exact h1
    refine (spec_negs s _).mono ?_
    rintro e w' ⟨rfl, bb⟩
    rw [hok]
    replace b0 := bchain b0 bb
    (try replace B3 := B3.kept bb)
    (try replace B4 := B4.kept bb)
    (try replace B5 := B5.kept bb)
    (try replace B6 := B6.kept bb)
    (try replace B8 := B8.kept bb)
    (try replace B9 := B9.kept bb)
    (try replace B11 := B11.kept bb)
    (try replace B12 := B12.kept bb)
    clear bb
    skip
    go_wp2_with (first
      | ((with_reducible refine at_load 26 ?_); refine box_load rfl 26 _ rfl _ rfl (by with_reducible assumption) Try.underlying26 rfl (by kernel_rfl) ?_)
      | ((with_reducible refine at_load 37 ?_); refine box_load rfl 37 _ rfl _ rfl (by with_reducible assumption) Try.underlying37 rfl (by kernel_rfl) ?_)
      | ((with_reducible refine at_loadg 26 ?_); refine box_loadg (by rfl) 26 _ rfl _ rfl (by with_reducible assumption) Try.underlying26 rfl (by kernel_rfl) ?_)
      | ((with_reducible refine at_loadg 37 ?_); refine box_loadg (by rfl) 37 _ rfl _ rfl (by with_reducible assumption) Try.underlying37 rfl (by kernel_rfl) ?_)
      | ((with_reducible refine at_any .neq 26 ?_); refine neg_neq (by rfl) _ _ rfl _ rfl rfl ?_)
      | ((with_reducible refine at_any .eql 26 ?_); refine neg_eql (by rfl) _ _ rfl _ rfl rfl ?_)
      | ((with_reducible refine at_any .eql 37 ?_); refine msg_eql (by rfl) _ _ rfl _ rfl rfl ?_))
    refine (spec_negs x _).mono ?_
    rintro e w' ⟨rfl, bb⟩
    rw [hx]
    replace b0 := bchain b0 bb
    (try replace B3 := B3.kept bb)
    (try replace B4 := B4.kept bb)
    (try replace B5 := B5.kept bb)
    (try replace B6 := B6.kept bb)
    (try replace B8 := B8.kept bb)
    (try replace B9 := B9.kept bb)
    (try replace B11 := B11.kept bb)
    (try replace B12 := B12.kept bb)
    clear bb
    skip
    go_wp2_with (first
      | ((with_reducible refine at_load 26 ?_); refine box_load rfl 26 _ rfl _ rfl (by with_reducible assumption) Try.underlying26 rfl (by kernel_rfl) ?_)
      | ((with_reducible refine at_load 37 ?_); refine box_load rfl 37 _ rfl _ rfl (by with_reducible assumption) Try.underlying37 rfl (by kernel_rfl) ?_)
      | ((with_reducible refine at_loadg 26 ?_); refine box_loadg (by rfl) 26 _ rfl _ rfl (by with_reducible assumption) Try.underlying26 rfl (by kernel_rfl) ?_)
      | ((with_reducible refine at_loadg 37 ?_); refine box_loadg (by rfl) 37 _ rfl _ rfl (by with_reducible assumption) Try.underlying37 rfl (by kernel_rfl) ?_)
      | ((with_reducible refine at_any .neq 26 ?_); refine neg_neq (by rfl) _ _ rfl _ rfl rfl ?_)
      | ((with_reducible refine at_any .eql 26 ?_); refine neg_eql (by rfl) _ _ rfl _ rfl rfl ?_)
      | ((with_reducible refine at_any .eql 37 ?_); refine msg_eql (by rfl) _ _ rfl _ rfl rfl ?_))
    refine (impl_hear x m _).mono ?_
    rintro e w' ⟨rfl, bb⟩
    rw [htw]
    replace b0 := bchain b0 bb
    (try replace B3 := B3.kept bb)
    (try replace B4 := B4.kept bb)
    (try replace B5 := B5.kept bb)
    (try replace B6 := B6.kept bb)
    (try replace B8 := B8.kept bb)
    (try replace B9 := B9.kept bb)
    (try replace B11 := B11.kept bb)
    (try replace B12 := B12.kept bb)
    clear bb
    skip
    go_wp2_with (first
      | ((with_reducible refine at_new 11 26 ?_); refine box_new (d := 11) rfl rfl 26 rfl _ zero_neg ?_; intro w' B11 bb; have n11 := b0.size;  (try have l3_11 := B3.lt); (try have l4_11 := B4.lt); (try have l5_11 := B5.lt); (try have l6_11 := B6.lt); (try have l8_11 := B8.lt); (try have l9_11 := B9.lt); (try have l12_11 := B12.lt);  replace b0 := bchain b0 bb; (try replace B3 := B3.kept bb); (try replace B4 := B4.kept bb); (try replace B5 := B5.kept bb); (try replace B6 := B6.kept bb); (try replace B8 := B8.kept bb); (try replace B9 := B9.kept bb);  (try replace B12 := B12.kept bb); clear bb; skip)
      | ((with_reducible refine at_new 12 37 ?_); refine box_new (d := 12) rfl rfl 37 rfl _ zero_msg ?_; intro w' B12 bb; have n12 := b0.size;  (try have l3_12 := B3.lt); (try have l4_12 := B4.lt); (try have l5_12 := B5.lt); (try have l6_12 := B6.lt); (try have l8_12 := B8.lt); (try have l9_12 := B9.lt); (try have l11_12 := B11.lt);  replace b0 := bchain b0 bb; (try replace B3 := B3.kept bb); (try replace B4 := B4.kept bb); (try replace B5 := B5.kept bb); (try replace B6 := B6.kept bb); (try replace B8 := B8.kept bb); (try replace B9 := B9.kept bb); (try replace B11 := B11.kept bb);  clear bb; skip)
      | ((with_reducible refine at_load 26 ?_); refine box_load rfl 26 _ rfl _ rfl (by with_reducible assumption) Try.underlying26 rfl (by kernel_rfl) ?_)
      | ((with_reducible refine at_load 37 ?_); refine box_load rfl 37 _ rfl _ rfl (by with_reducible assumption) Try.underlying37 rfl (by kernel_rfl) ?_)
      | ((with_reducible refine at_loadg 26 ?_); refine box_loadg (by rfl) 26 _ rfl _ rfl (by with_reducible assumption) Try.underlying26 rfl (by kernel_rfl) ?_)
      | ((with_reducible refine at_loadg 37 ?_); refine box_loadg (by rfl) 37 _ rfl _ rfl (by with_reducible assumption) Try.underlying37 rfl (by kernel_rfl) ?_)
      | ((with_reducible refine at_store 26 ?_); refine box_store rfl 26 _ _ rfl _ _ rfl rfl (by with_reducible exact B11) (by kernel_rfl) (by rfl) (by simp [Neg.cs, Value.oneCell']) ?_; clear B11; intro w' B11 gg;  replace b0 := below_at b0 gg b0.size n11; (try replace B3 := B3.grown gg (Nat.ne_of_lt l3_11)); (try replace B4 := B4.grown gg (Nat.ne_of_lt l4_11)); (try replace B5 := B5.grown gg (Nat.ne_of_lt l5_11)); (try replace B6 := B6.grown gg (Nat.ne_of_lt l6_11)); (try replace B8 := B8.grown gg (Nat.ne_of_lt l8_11)); (try replace B9 := B9.grown gg (Nat.ne_of_lt l9_11)); (try replace B12 := B12.grown gg (Nat.ne_of_gt l11_12)); clear gg; skip)
      | ((with_reducible refine at_store 37 ?_); refine box_store rfl 37 _ _ rfl _ _ rfl rfl (by with_reducible exact B12) (by kernel_rfl) (by rfl) (by simp [Msg.cs, Value.oneCell']) ?_; clear B12; intro w' B12 gg;  replace b0 := below_at b0 gg b0.size n12; (try replace B3 := B3.grown gg (Nat.ne_of_lt l3_12)); (try replace B4 := B4.grown gg (Nat.ne_of_lt l4_12)); (try replace B5 := B5.grown gg (Nat.ne_of_lt l5_12)); (try replace B6 := B6.grown gg (Nat.ne_of_lt l6_12)); (try replace B8 := B8.grown gg (Nat.ne_of_lt l8_12)); (try replace B9 := B9.grown gg (Nat.ne_of_lt l9_12)); (try replace B11 := B11.grown gg (Nat.ne_of_lt l11_12)); clear gg; skip)
      | ((with_reducible refine at_any .neq 26 ?_); refine neg_neq (by rfl) _ _ rfl _ rfl rfl ?_)
      | ((with_reducible refine at_any .eql 26 ?_); refine neg_eql (by rfl) _ _ rfl _ rfl rfl ?_)
      | ((with_reducible refine at_any .eql 37 ?_); refine msg_eql (by rfl) _ _ rfl _ rfl rfl ?_))
    all_goals
      go_ret
      refine ⟨ret_bool ?_, b0⟩
      simp
theorem walk (a0 : Option Addr) (len0 cap0 : Nat) (z0 : List Int) (w : World) (w0 : IsRow .u8 w a0 len0 cap0 z0) :
    Calls Try.prog 12 #[.slice a0 len0 cap0] w fun e w' => e = .returned (.bool true) ∧ Below w.heap.size w w' := by
  by_cases hs0 : (1048576 : Int) < (len0 : Int)
  · go_enter Try.func12, Try.ntmps12
    go_wp2
    go_ret
    exact ⟨rfl, Below.refl _ _⟩
  obtain ⟨cz, hR0, _⟩ := w0.rd (by omega)
  exact small a0 len0 cap0 cz w hs0 hR0
end Go.Proofs.Ytmciofamcdekaaa.fnNegTwice
