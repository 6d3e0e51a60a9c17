/- Who hears, drawn. -/
import Derived.Test.YtkogmnjgpaocbaaDrawJoin
import Derived.Test.YtkogmnjgpaocbaaRxLaw
import Derived.Test.YtkogmnjgpaocbaaCfgEq
import Derived.Test.YtkogmnjgpaocbaaNumNext
namespace Go.Proofs.Ytkogmnjgpaocbaa
open Go.RowKit
theorem zero_rx (w : World) : (zeroValue 26).run Try.prog w = .ok (.agg #[.int .i64 0, .int .i64 0, .int .i64 0, .slice none 0 0, .bool false, .bool false, .bool false]) w := by kernel_rfl
theorem grown_drew {w w1 : World} {r : Option Nat} (h : w.grownBy w1 r) : w.grownBy w1.drew r := grown_trans h ⟨rfl, rfl, rfl, Nat.le_refl _, fun _ _ _ => rfl⟩
theorem run_three {ρ : Operand → Value} {w : World} {d : Option Tmp} {t : TypeId} {pos : String} {af : Array Edge} {gd : Option (Nat × Bool)} {x : Operand} {n : Int} (hc : ∀ v, ρ (.const v) = v) (h : ρ x = .int .i64 n) : (execOp ρ ⟨d, .buildSlice 102 3 #[(0, .const (.int .i64 (-1))), (1, .const (.int .i64 10000)), (2, x)], t, pos, af, gd⟩).run Try.prog w = .ok (.value (.slice (some ⟨w.heap.size, 0, none⟩) 3 3)) (w.alloc (.cells #[.int .i64 (-1), .int .i64 10000, .int .i64 n] 3)) := by
  simp [execOp, hc, h, go_sem]
set_option maxRecDepth 100000 in
set_option maxHeartbeats 8000000 in
theorem rx_any (B g p : Nat) (zs : List Nat) (n : Nat) (w : World) (h : Rdr w B g p zs) (hp : p ≤ 600000000) (hn : n < 1000000) :
    Calls Try.prog 51 #[.pointer (some ⟨g, 0, none⟩), .int .i64 n] w fun e w' => ∃ (ex ct len : Int) (a : Option Addr) (k cap : Nat) (ag bu de : Bool) (p' : Nat), e = .returned (.agg #[.int .i64 ex, .int .i64 ct, .int .i64 len, .slice a k cap, .bool ag, .bool bu, .bool de]) ∧ p' ≤ p + 3000 ∧ Rdr w' B g p' zs ∧ w.grownBy w' (some g) := by
  have hg := h.lt
  have hgB := h.1
  have r := h
  have gw : w.grownBy w (some g) := grown_refl _ _
  go_enter Try.func51, Try.ntmps51
  go_wp2_with (first
    | ((with_reducible refine at_new 4 26 ?_); refine box_new (d := 4) rfl rfl 26 rfl _ zero_rx ?_; intro w' B4 bb; have n4 := gw.size; (try have lr_4 := r.lt); (try have l6_4 := B6.lt); (try have lL_4 := BL.lt); (try clear k6); replace gw := grown_trans gw (grown_below bb _); (try replace r := r.kept bb);  (try replace B6 := B6.kept bb); (try replace BL := BL.kept bb); clear bb; (try have k6 := B6.k))
    | ((with_reducible refine at_new 6 26 ?_); refine box_new (d := 6) rfl rfl 26 rfl _ zero_rx ?_; intro w' B6 bb; have n6 := gw.size; (try have lr_6 := r.lt); (try have l4_6 := B4.lt); (try have lL_6 := BL.lt); (try clear k6); replace gw := grown_trans gw (grown_below bb _); (try replace r := r.kept bb); (try replace B4 := B4.kept bb);  (try replace BL := BL.kept bb); clear bb; (try have k6 := B6.k))
    | ((with_reducible refine at_load 26 ?_); refine box_load rfl 26 _ rfl _ rfl (by with_reducible assumption) Try.underlying26 rfl (by kernel_rfl) ?_)
    | ((with_reducible refine at_store 26 ?_); refine box_store rfl 26 _ _ rfl _ _ rfl rfl (by with_reducible exact B6) (by kernel_rfl) (by rfl) (by simp [Value.oneCell']) ?_; clear B6; intro w' B6 gg; (try clear k6); replace gw := grown_new gw gg (fun q e => by cases e; exact n6); (try replace r := r.at gg (by omega) (by omega)); (try replace B4 := B4.grown gg (Nat.ne_of_lt l4_6)); (try replace BL := BL.grown gg (Nat.ne_of_gt l6_L)); clear gg; (try have k6 := B6.k))
    | ((with_reducible refine at_store 26 ?_); refine box_store rfl 26 _ _ rfl _ _ rfl rfl (by with_reducible exact B4) (by kernel_rfl) (by rfl) (by simp [Value.oneCell']) ?_; clear B4; intro w' B4 gg; (try clear k6); replace gw := grown_new gw gg (fun q e => by cases e; exact n4); (try replace r := r.at gg (by omega) (by omega)); (try replace B6 := B6.grown gg (Nat.ne_of_gt l4_6)); (try replace BL := BL.grown gg (Nat.ne_of_gt l4_L)); clear gg; (try have k6 := B6.k))
    | ((with_reducible refine at_store 3 ?_); refine box_int rfl _ _ rfl _ _ _ rfl rfl (by with_reducible exact B6) (by simp) ?_; clear B6; intro w' B6 gg; simp only [List.setIfInBounds_toArray, List.set] at B6; (try clear k6); replace gw := grown_new gw gg (fun q e => by cases e; exact n6); (try replace r := r.at gg (by omega) (by omega)); (try replace B4 := B4.grown gg (Nat.ne_of_lt l4_6)); (try replace BL := BL.grown gg (Nat.ne_of_gt l6_L)); clear gg; (try have k6 := B6.k))
    | ((with_reducible refine at_store 24 ?_); refine box_part rfl 24 _ _ rfl _ _ _ rfl rfl (by with_reducible exact B6) (by kernel_rfl) (by simp) (by simp [Value.oneCell']) ?_; clear B6; intro w' B6 gg; simp only [putAt, List.setIfInBounds_toArray, List.set, Nat.reduceAdd] at B6; (try clear k6); replace gw := grown_new gw gg (fun q e => by cases e; exact n6); (try replace r := r.at gg (by omega) (by omega)); (try replace B4 := B4.grown gg (Nat.ne_of_lt l4_6)); (try replace BL := BL.grown gg (Nat.ne_of_gt l6_L)); clear gg; (try have k6 := B6.k)))
  refine (pick_any _ _ _ zs 40 _ r (by omega) (by omega)).mono ?_
  clear r
  rintro e w' ⟨cn, rfl, hcn, r, gg⟩
  (try clear k6)
  replace gw := grown_trans gw gg
  (try replace B4 := B4.grown gg (by omega))
  (try replace B6 := B6.grown gg (by omega))
  (try replace BL := BL.grown gg (by omega))
  clear gg
  (try have k6 := B6.k)
  go_wp2_with (first
    | ((with_reducible refine at_new 4 26 ?_); refine box_new (d := 4) rfl rfl 26 rfl _ zero_rx ?_; intro w' B4 bb; have n4 := gw.size; (try have lr_4 := r.lt); (try have l6_4 := B6.lt); (try have lL_4 := BL.lt); (try clear k6); replace gw := grown_trans gw (grown_below bb _); (try replace r := r.kept bb);  (try replace B6 := B6.kept bb); (try replace BL := BL.kept bb); clear bb; (try have k6 := B6.k))
    | ((with_reducible refine at_new 6 26 ?_); refine box_new (d := 6) rfl rfl 26 rfl _ zero_rx ?_; intro w' B6 bb; have n6 := gw.size; (try have lr_6 := r.lt); (try have l4_6 := B4.lt); (try have lL_6 := BL.lt); (try clear k6); replace gw := grown_trans gw (grown_below bb _); (try replace r := r.kept bb); (try replace B4 := B4.kept bb);  (try replace BL := BL.kept bb); clear bb; (try have k6 := B6.k))
    | ((with_reducible refine at_load 26 ?_); refine box_load rfl 26 _ rfl _ rfl (by with_reducible assumption) Try.underlying26 rfl (by kernel_rfl) ?_)
    | ((with_reducible refine at_store 26 ?_); refine box_store rfl 26 _ _ rfl _ _ rfl rfl (by with_reducible exact B6) (by kernel_rfl) (by rfl) (by simp [Value.oneCell']) ?_; clear B6; intro w' B6 gg; (try clear k6); replace gw := grown_new gw gg (fun q e => by cases e; exact n6); (try replace r := r.at gg (by omega) (by omega)); (try replace B4 := B4.grown gg (Nat.ne_of_lt l4_6)); (try replace BL := BL.grown gg (Nat.ne_of_gt l6_L)); clear gg; (try have k6 := B6.k))
    | ((with_reducible refine at_store 26 ?_); refine box_store rfl 26 _ _ rfl _ _ rfl rfl (by with_reducible exact B4) (by kernel_rfl) (by rfl) (by simp [Value.oneCell']) ?_; clear B4; intro w' B4 gg; (try clear k6); replace gw := grown_new gw gg (fun q e => by cases e; exact n4); (try replace r := r.at gg (by omega) (by omega)); (try replace B6 := B6.grown gg (Nat.ne_of_gt l4_6)); (try replace BL := BL.grown gg (Nat.ne_of_gt l4_L)); clear gg; (try have k6 := B6.k))
    | ((with_reducible refine at_store 3 ?_); refine box_int rfl _ _ rfl _ _ _ rfl rfl (by with_reducible exact B6) (by simp) ?_; clear B6; intro w' B6 gg; simp only [List.setIfInBounds_toArray, List.set] at B6; (try clear k6); replace gw := grown_new gw gg (fun q e => by cases e; exact n6); (try replace r := r.at gg (by omega) (by omega)); (try replace B4 := B4.grown gg (Nat.ne_of_lt l4_6)); (try replace BL := BL.grown gg (Nat.ne_of_gt l6_L)); clear gg; (try have k6 := B6.k))
    | ((with_reducible refine at_store 24 ?_); refine box_part rfl 24 _ _ rfl _ _ _ rfl rfl (by with_reducible exact B6) (by kernel_rfl) (by simp) (by simp [Value.oneCell']) ?_; clear B6; intro w' B6 gg; simp only [putAt, List.setIfInBounds_toArray, List.set, Nat.reduceAdd] at B6; (try clear k6); replace gw := grown_new gw gg (fun q e => by cases e; exact n6); (try replace r := r.at gg (by omega) (by omega)); (try replace B4 := B4.grown gg (Nat.ne_of_lt l4_6)); (try replace BL := BL.grown gg (Nat.ne_of_gt l6_L)); clear gg; (try have k6 := B6.k)))
  refine (join_any _ _ _ zs 0 _ r (by omega) (by omega)).mono ?_
  clear r
  rintro e w' ⟨len, a, k, cap, p1, rfl, _, _, hk, hp1, r, gg⟩
  (try clear k6)
  replace gw := grown_trans gw gg
  (try replace B4 := B4.grown gg (by omega))
  (try replace B6 := B6.grown gg (by omega))
  (try replace BL := BL.grown gg (by omega))
  clear gg
  (try have k6 := B6.k)
  go_wp2_with (first
    | ((with_reducible refine at_new 4 26 ?_); refine box_new (d := 4) rfl rfl 26 rfl _ zero_rx ?_; intro w' B4 bb; have n4 := gw.size; (try have lr_4 := r.lt); (try have l6_4 := B6.lt); (try have lL_4 := BL.lt); (try clear k6); replace gw := grown_trans gw (grown_below bb _); (try replace r := r.kept bb);  (try replace B6 := B6.kept bb); (try replace BL := BL.kept bb); clear bb; (try have k6 := B6.k))
    | ((with_reducible refine at_new 6 26 ?_); refine box_new (d := 6) rfl rfl 26 rfl _ zero_rx ?_; intro w' B6 bb; have n6 := gw.size; (try have lr_6 := r.lt); (try have l4_6 := B4.lt); (try have lL_6 := BL.lt); (try clear k6); replace gw := grown_trans gw (grown_below bb _); (try replace r := r.kept bb); (try replace B4 := B4.kept bb);  (try replace BL := BL.kept bb); clear bb; (try have k6 := B6.k))
    | ((with_reducible refine at_load 26 ?_); refine box_load rfl 26 _ rfl _ rfl (by with_reducible assumption) Try.underlying26 rfl (by kernel_rfl) ?_)
    | ((with_reducible refine at_store 26 ?_); refine box_store rfl 26 _ _ rfl _ _ rfl rfl (by with_reducible exact B6) (by kernel_rfl) (by rfl) (by simp [Value.oneCell']) ?_; clear B6; intro w' B6 gg; (try clear k6); replace gw := grown_new gw gg (fun q e => by cases e; exact n6); (try replace r := r.at gg (by omega) (by omega)); (try replace B4 := B4.grown gg (Nat.ne_of_lt l4_6)); (try replace BL := BL.grown gg (Nat.ne_of_gt l6_L)); clear gg; (try have k6 := B6.k))
    | ((with_reducible refine at_store 26 ?_); refine box_store rfl 26 _ _ rfl _ _ rfl rfl (by with_reducible exact B4) (by kernel_rfl) (by rfl) (by simp [Value.oneCell']) ?_; clear B4; intro w' B4 gg; (try clear k6); replace gw := grown_new gw gg (fun q e => by cases e; exact n4); (try replace r := r.at gg (by omega) (by omega)); (try replace B6 := B6.grown gg (Nat.ne_of_gt l4_6)); (try replace BL := BL.grown gg (Nat.ne_of_gt l4_L)); clear gg; (try have k6 := B6.k))
    | ((with_reducible refine at_store 3 ?_); refine box_int rfl _ _ rfl _ _ _ rfl rfl (by with_reducible exact B6) (by simp) ?_; clear B6; intro w' B6 gg; simp only [List.setIfInBounds_toArray, List.set] at B6; (try clear k6); replace gw := grown_new gw gg (fun q e => by cases e; exact n6); (try replace r := r.at gg (by omega) (by omega)); (try replace B4 := B4.grown gg (Nat.ne_of_lt l4_6)); (try replace BL := BL.grown gg (Nat.ne_of_gt l6_L)); clear gg; (try have k6 := B6.k))
    | ((with_reducible refine at_store 24 ?_); refine box_part rfl 24 _ _ rfl _ _ _ rfl rfl (by with_reducible exact B6) (by kernel_rfl) (by simp) (by simp [Value.oneCell']) ?_; clear B6; intro w' B6 gg; simp only [putAt, List.setIfInBounds_toArray, List.set, Nat.reduceAdd] at B6; (try clear k6); replace gw := grown_new gw gg (fun q e => by cases e; exact n6); (try replace r := r.at gg (by omega) (by omega)); (try replace B4 := B4.grown gg (Nat.ne_of_lt l4_6)); (try replace BL := BL.grown gg (Nat.ne_of_gt l6_L)); clear gg; (try have k6 := B6.k)))
  refine (pick_any _ _ _ zs 3 _ r (by omega) (by omega)).mono ?_
  clear r
  rintro e w' ⟨q1, rfl, hq1, r, gg⟩
  (try clear k6)
  replace gw := grown_trans gw gg
  (try replace B4 := B4.grown gg (by omega))
  (try replace B6 := B6.grown gg (by omega))
  (try replace BL := BL.grown gg (by omega))
  clear gg
  (try have k6 := B6.k)
  go_wp2_with (first
    | ((with_reducible refine at_new 4 26 ?_); refine box_new (d := 4) rfl rfl 26 rfl _ zero_rx ?_; intro w' B4 bb; have n4 := gw.size; (try have lr_4 := r.lt); (try have l6_4 := B6.lt); (try have lL_4 := BL.lt); (try clear k6); replace gw := grown_trans gw (grown_below bb _); (try replace r := r.kept bb);  (try replace B6 := B6.kept bb); (try replace BL := BL.kept bb); clear bb; (try have k6 := B6.k))
    | ((with_reducible refine at_new 6 26 ?_); refine box_new (d := 6) rfl rfl 26 rfl _ zero_rx ?_; intro w' B6 bb; have n6 := gw.size; (try have lr_6 := r.lt); (try have l4_6 := B4.lt); (try have lL_6 := BL.lt); (try clear k6); replace gw := grown_trans gw (grown_below bb _); (try replace r := r.kept bb); (try replace B4 := B4.kept bb);  (try replace BL := BL.kept bb); clear bb; (try have k6 := B6.k))
    | ((with_reducible refine at_load 26 ?_); refine box_load rfl 26 _ rfl _ rfl (by with_reducible assumption) Try.underlying26 rfl (by kernel_rfl) ?_)
    | ((with_reducible refine at_store 26 ?_); refine box_store rfl 26 _ _ rfl _ _ rfl rfl (by with_reducible exact B6) (by kernel_rfl) (by rfl) (by simp [Value.oneCell']) ?_; clear B6; intro w' B6 gg; (try clear k6); replace gw := grown_new gw gg (fun q e => by cases e; exact n6); (try replace r := r.at gg (by omega) (by omega)); (try replace B4 := B4.grown gg (Nat.ne_of_lt l4_6)); (try replace BL := BL.grown gg (Nat.ne_of_gt l6_L)); clear gg; (try have k6 := B6.k))
    | ((with_reducible refine at_store 26 ?_); refine box_store rfl 26 _ _ rfl _ _ rfl rfl (by with_reducible exact B4) (by kernel_rfl) (by rfl) (by simp [Value.oneCell']) ?_; clear B4; intro w' B4 gg; (try clear k6); replace gw := grown_new gw gg (fun q e => by cases e; exact n4); (try replace r := r.at gg (by omega) (by omega)); (try replace B6 := B6.grown gg (Nat.ne_of_gt l4_6)); (try replace BL := BL.grown gg (Nat.ne_of_gt l4_L)); clear gg; (try have k6 := B6.k))
    | ((with_reducible refine at_store 3 ?_); refine box_int rfl _ _ rfl _ _ _ rfl rfl (by with_reducible exact B6) (by simp) ?_; clear B6; intro w' B6 gg; simp only [List.setIfInBounds_toArray, List.set] at B6; (try clear k6); replace gw := grown_new gw gg (fun q e => by cases e; exact n6); (try replace r := r.at gg (by omega) (by omega)); (try replace B4 := B4.grown gg (Nat.ne_of_lt l4_6)); (try replace BL := BL.grown gg (Nat.ne_of_gt l6_L)); clear gg; (try have k6 := B6.k))
    | ((with_reducible refine at_store 24 ?_); refine box_part rfl 24 _ _ rfl _ _ _ rfl rfl (by with_reducible exact B6) (by kernel_rfl) (by simp) (by simp [Value.oneCell']) ?_; clear B6; intro w' B6 gg; simp only [putAt, List.setIfInBounds_toArray, List.set, Nat.reduceAdd] at B6; (try clear k6); replace gw := grown_new gw gg (fun q e => by cases e; exact n6); (try replace r := r.at gg (by omega) (by omega)); (try replace B4 := B4.grown gg (Nat.ne_of_lt l4_6)); (try replace BL := BL.grown gg (Nat.ne_of_gt l6_L)); clear gg; (try have k6 := B6.k)))
  refine (pick_any _ _ _ zs 4 _ r (by omega) (by omega)).mono ?_
  clear r
  rintro e w' ⟨q2, rfl, hq2, r, gg⟩
  (try clear k6)
  replace gw := grown_trans gw gg
  (try replace B4 := B4.grown gg (by omega))
  (try replace B6 := B6.grown gg (by omega))
  (try replace BL := BL.grown gg (by omega))
  clear gg
  (try have k6 := B6.k)
  go_wp2_with (first
    | ((with_reducible refine at_new 4 26 ?_); refine box_new (d := 4) rfl rfl 26 rfl _ zero_rx ?_; intro w' B4 bb; have n4 := gw.size; (try have lr_4 := r.lt); (try have l6_4 := B6.lt); (try have lL_4 := BL.lt); (try clear k6); replace gw := grown_trans gw (grown_below bb _); (try replace r := r.kept bb);  (try replace B6 := B6.kept bb); (try replace BL := BL.kept bb); clear bb; (try have k6 := B6.k))
    | ((with_reducible refine at_new 6 26 ?_); refine box_new (d := 6) rfl rfl 26 rfl _ zero_rx ?_; intro w' B6 bb; have n6 := gw.size; (try have lr_6 := r.lt); (try have l4_6 := B4.lt); (try have lL_6 := BL.lt); (try clear k6); replace gw := grown_trans gw (grown_below bb _); (try replace r := r.kept bb); (try replace B4 := B4.kept bb);  (try replace BL := BL.kept bb); clear bb; (try have k6 := B6.k))
    | ((with_reducible refine at_load 26 ?_); refine box_load rfl 26 _ rfl _ rfl (by with_reducible assumption) Try.underlying26 rfl (by kernel_rfl) ?_)
    | ((with_reducible refine at_store 26 ?_); refine box_store rfl 26 _ _ rfl _ _ rfl rfl (by with_reducible exact B6) (by kernel_rfl) (by rfl) (by simp [Value.oneCell']) ?_; clear B6; intro w' B6 gg; (try clear k6); replace gw := grown_new gw gg (fun q e => by cases e; exact n6); (try replace r := r.at gg (by omega) (by omega)); (try replace B4 := B4.grown gg (Nat.ne_of_lt l4_6)); (try replace BL := BL.grown gg (Nat.ne_of_gt l6_L)); clear gg; (try have k6 := B6.k))
    | ((with_reducible refine at_store 26 ?_); refine box_store rfl 26 _ _ rfl _ _ rfl rfl (by with_reducible exact B4) (by kernel_rfl) (by rfl) (by simp [Value.oneCell']) ?_; clear B4; intro w' B4 gg; (try clear k6); replace gw := grown_new gw gg (fun q e => by cases e; exact n4); (try replace r := r.at gg (by omega) (by omega)); (try replace B6 := B6.grown gg (Nat.ne_of_gt l4_6)); (try replace BL := BL.grown gg (Nat.ne_of_gt l4_L)); clear gg; (try have k6 := B6.k))
    | ((with_reducible refine at_store 3 ?_); refine box_int rfl _ _ rfl _ _ _ rfl rfl (by with_reducible exact B6) (by simp) ?_; clear B6; intro w' B6 gg; simp only [List.setIfInBounds_toArray, List.set] at B6; (try clear k6); replace gw := grown_new gw gg (fun q e => by cases e; exact n6); (try replace r := r.at gg (by omega) (by omega)); (try replace B4 := B4.grown gg (Nat.ne_of_lt l4_6)); (try replace BL := BL.grown gg (Nat.ne_of_gt l6_L)); clear gg; (try have k6 := B6.k))
    | ((with_reducible refine at_store 24 ?_); refine box_part rfl 24 _ _ rfl _ _ _ rfl rfl (by with_reducible exact B6) (by kernel_rfl) (by simp) (by simp [Value.oneCell']) ?_; clear B6; intro w' B6 gg; simp only [putAt, List.setIfInBounds_toArray, List.set, Nat.reduceAdd] at B6; (try clear k6); replace gw := grown_new gw gg (fun q e => by cases e; exact n6); (try replace r := r.at gg (by omega) (by omega)); (try replace B4 := B4.grown gg (Nat.ne_of_lt l4_6)); (try replace BL := BL.grown gg (Nat.ne_of_gt l6_L)); clear gg; (try have k6 := B6.k)))
  refine (pick_any _ _ _ zs 12 _ r (by omega) (by omega)).mono ?_
  clear r
  rintro e w' ⟨q3, rfl, hq3, r, gg⟩
  (try clear k6)
  replace gw := grown_trans gw gg
  (try replace B4 := B4.grown gg (by omega))
  (try replace B6 := B6.grown gg (by omega))
  (try replace BL := BL.grown gg (by omega))
  clear gg
  (try have k6 := B6.k)
  go_wp2_with (first
    | ((with_reducible refine at_new 4 26 ?_); refine box_new (d := 4) rfl rfl 26 rfl _ zero_rx ?_; intro w' B4 bb; have n4 := gw.size; (try have lr_4 := r.lt); (try have l6_4 := B6.lt); (try have lL_4 := BL.lt); (try clear k6); replace gw := grown_trans gw (grown_below bb _); (try replace r := r.kept bb);  (try replace B6 := B6.kept bb); (try replace BL := BL.kept bb); clear bb; (try have k6 := B6.k))
    | ((with_reducible refine at_new 6 26 ?_); refine box_new (d := 6) rfl rfl 26 rfl _ zero_rx ?_; intro w' B6 bb; have n6 := gw.size; (try have lr_6 := r.lt); (try have l4_6 := B4.lt); (try have lL_6 := BL.lt); (try clear k6); replace gw := grown_trans gw (grown_below bb _); (try replace r := r.kept bb); (try replace B4 := B4.kept bb);  (try replace BL := BL.kept bb); clear bb; (try have k6 := B6.k))
    | ((with_reducible refine at_load 26 ?_); refine box_load rfl 26 _ rfl _ rfl (by with_reducible assumption) Try.underlying26 rfl (by kernel_rfl) ?_)
    | ((with_reducible refine at_store 26 ?_); refine box_store rfl 26 _ _ rfl _ _ rfl rfl (by with_reducible exact B6) (by kernel_rfl) (by rfl) (by simp [Value.oneCell']) ?_; clear B6; intro w' B6 gg; (try clear k6); replace gw := grown_new gw gg (fun q e => by cases e; exact n6); (try replace r := r.at gg (by omega) (by omega)); (try replace B4 := B4.grown gg (Nat.ne_of_lt l4_6)); (try replace BL := BL.grown gg (Nat.ne_of_gt l6_L)); clear gg; (try have k6 := B6.k))
    | ((with_reducible refine at_store 26 ?_); refine box_store rfl 26 _ _ rfl _ _ rfl rfl (by with_reducible exact B4) (by kernel_rfl) (by rfl) (by simp [Value.oneCell']) ?_; clear B4; intro w' B4 gg; (try clear k6); replace gw := grown_new gw gg (fun q e => by cases e; exact n4); (try replace r := r.at gg (by omega) (by omega)); (try replace B6 := B6.grown gg (Nat.ne_of_gt l4_6)); (try replace BL := BL.grown gg (Nat.ne_of_gt l4_L)); clear gg; (try have k6 := B6.k))
    | ((with_reducible refine at_store 3 ?_); refine box_int rfl _ _ rfl _ _ _ rfl rfl (by with_reducible exact B6) (by simp) ?_; clear B6; intro w' B6 gg; simp only [List.setIfInBounds_toArray, List.set] at B6; (try clear k6); replace gw := grown_new gw gg (fun q e => by cases e; exact n6); (try replace r := r.at gg (by omega) (by omega)); (try replace B4 := B4.grown gg (Nat.ne_of_lt l4_6)); (try replace BL := BL.grown gg (Nat.ne_of_gt l6_L)); clear gg; (try have k6 := B6.k))
    | ((with_reducible refine at_store 24 ?_); refine box_part rfl 24 _ _ rfl _ _ _ rfl rfl (by with_reducible exact B6) (by kernel_rfl) (by simp) (by simp [Value.oneCell']) ?_; clear B6; intro w' B6 gg; simp only [putAt, List.setIfInBounds_toArray, List.set, Nat.reduceAdd] at B6; (try clear k6); replace gw := grown_new gw gg (fun q e => by cases e; exact n6); (try replace r := r.at gg (by omega) (by omega)); (try replace B4 := B4.grown gg (Nat.ne_of_lt l4_6)); (try replace BL := BL.grown gg (Nat.ne_of_gt l6_L)); clear gg; (try have k6 := B6.k)))
  refine (odd_any _ _ _ zs n _ r (by omega) hn).mono ?_
  clear r
  rintro e w' ⟨bad, p3, rfl, _, _, hp3, r, gg⟩
  (try clear k6)
  replace gw := grown_trans gw gg
  (try replace B4 := B4.grown gg (by omega))
  (try replace B6 := B6.grown gg (by omega))
  (try replace BL := BL.grown gg (by omega))
  clear gg
  (try have k6 := B6.k)
  cases bad
  · go_wp2_with (first
      | ((with_reducible refine at_new 4 26 ?_); refine box_new (d := 4) rfl rfl 26 rfl _ zero_rx ?_; intro w' B4 bb; have n4 := gw.size; (try have lr_4 := r.lt); (try have l6_4 := B6.lt); (try have lL_4 := BL.lt); (try clear k6); replace gw := grown_trans gw (grown_below bb _); (try replace r := r.kept bb);  (try replace B6 := B6.kept bb); (try replace BL := BL.kept bb); clear bb; (try have k6 := B6.k))
      | ((with_reducible refine at_new 6 26 ?_); refine box_new (d := 6) rfl rfl 26 rfl _ zero_rx ?_; intro w' B6 bb; have n6 := gw.size; (try have lr_6 := r.lt); (try have l4_6 := B4.lt); (try have lL_6 := BL.lt); (try clear k6); replace gw := grown_trans gw (grown_below bb _); (try replace r := r.kept bb); (try replace B4 := B4.kept bb);  (try replace BL := BL.kept bb); clear bb; (try have k6 := B6.k))
      | ((with_reducible refine at_load 26 ?_); refine box_load rfl 26 _ rfl _ rfl (by with_reducible assumption) Try.underlying26 rfl (by kernel_rfl) ?_)
      | ((with_reducible refine at_store 26 ?_); refine box_store rfl 26 _ _ rfl _ _ rfl rfl (by with_reducible exact B6) (by kernel_rfl) (by rfl) (by simp [Value.oneCell']) ?_; clear B6; intro w' B6 gg; (try clear k6); replace gw := grown_new gw gg (fun q e => by cases e; exact n6); (try replace r := r.at gg (by omega) (by omega)); (try replace B4 := B4.grown gg (Nat.ne_of_lt l4_6)); (try replace BL := BL.grown gg (Nat.ne_of_gt l6_L)); clear gg; (try have k6 := B6.k))
      | ((with_reducible refine at_store 26 ?_); refine box_store rfl 26 _ _ rfl _ _ rfl rfl (by with_reducible exact B4) (by kernel_rfl) (by rfl) (by simp [Value.oneCell']) ?_; clear B4; intro w' B4 gg; (try clear k6); replace gw := grown_new gw gg (fun q e => by cases e; exact n4); (try replace r := r.at gg (by omega) (by omega)); (try replace B6 := B6.grown gg (Nat.ne_of_gt l4_6)); (try replace BL := BL.grown gg (Nat.ne_of_gt l4_L)); clear gg; (try have k6 := B6.k))
      | ((with_reducible refine at_store 3 ?_); refine box_int rfl _ _ rfl _ _ _ rfl rfl (by with_reducible exact B6) (by simp) ?_; clear B6; intro w' B6 gg; simp only [List.setIfInBounds_toArray, List.set] at B6; (try clear k6); replace gw := grown_new gw gg (fun q e => by cases e; exact n6); (try replace r := r.at gg (by omega) (by omega)); (try replace B4 := B4.grown gg (Nat.ne_of_lt l4_6)); (try replace BL := BL.grown gg (Nat.ne_of_gt l6_L)); clear gg; (try have k6 := B6.k))
      | ((with_reducible refine at_store 24 ?_); refine box_part rfl 24 _ _ rfl _ _ _ rfl rfl (by with_reducible exact B6) (by kernel_rfl) (by simp) (by simp [Value.oneCell']) ?_; clear B6; intro w' B6 gg; simp only [putAt, List.setIfInBounds_toArray, List.set, Nat.reduceAdd] at B6; (try clear k6); replace gw := grown_new gw gg (fun q e => by cases e; exact n6); (try replace r := r.at gg (by omega) (by omega)); (try replace B4 := B4.grown gg (Nat.ne_of_lt l4_6)); (try replace BL := BL.grown gg (Nat.ne_of_gt l6_L)); clear gg; (try have k6 := B6.k)))
    refine bodyPost_ret (results_cell_row rfl _ _ _ _ _ _ _ rfl B4 Try.underlying26 rfl (by kernel_rfl)) rfl ?_
    exact ⟨_, _, _, _, _, _, _, _, _, _, rfl, by omega, r, gw⟩
  · go_wp2_with (first
      | ((with_reducible refine at_new 4 26 ?_); refine box_new (d := 4) rfl rfl 26 rfl _ zero_rx ?_; intro w' B4 bb; have n4 := gw.size; (try have lr_4 := r.lt); (try have l6_4 := B6.lt); (try have lL_4 := BL.lt); (try clear k6); replace gw := grown_trans gw (grown_below bb _); (try replace r := r.kept bb);  (try replace B6 := B6.kept bb); (try replace BL := BL.kept bb); clear bb; (try have k6 := B6.k))
      | ((with_reducible refine at_new 6 26 ?_); refine box_new (d := 6) rfl rfl 26 rfl _ zero_rx ?_; intro w' B6 bb; have n6 := gw.size; (try have lr_6 := r.lt); (try have l4_6 := B4.lt); (try have lL_6 := BL.lt); (try clear k6); replace gw := grown_trans gw (grown_below bb _); (try replace r := r.kept bb); (try replace B4 := B4.kept bb);  (try replace BL := BL.kept bb); clear bb; (try have k6 := B6.k))
      | ((with_reducible refine at_load 26 ?_); refine box_load rfl 26 _ rfl _ rfl (by with_reducible assumption) Try.underlying26 rfl (by kernel_rfl) ?_)
      | ((with_reducible refine at_store 26 ?_); refine box_store rfl 26 _ _ rfl _ _ rfl rfl (by with_reducible exact B6) (by kernel_rfl) (by rfl) (by simp [Value.oneCell']) ?_; clear B6; intro w' B6 gg; (try clear k6); replace gw := grown_new gw gg (fun q e => by cases e; exact n6); (try replace r := r.at gg (by omega) (by omega)); (try replace B4 := B4.grown gg (Nat.ne_of_lt l4_6)); (try replace BL := BL.grown gg (Nat.ne_of_gt l6_L)); clear gg; (try have k6 := B6.k))
      | ((with_reducible refine at_store 26 ?_); refine box_store rfl 26 _ _ rfl _ _ rfl rfl (by with_reducible exact B4) (by kernel_rfl) (by rfl) (by simp [Value.oneCell']) ?_; clear B4; intro w' B4 gg; (try clear k6); replace gw := grown_new gw gg (fun q e => by cases e; exact n4); (try replace r := r.at gg (by omega) (by omega)); (try replace B6 := B6.grown gg (Nat.ne_of_gt l4_6)); (try replace BL := BL.grown gg (Nat.ne_of_gt l4_L)); clear gg; (try have k6 := B6.k))
      | ((with_reducible refine at_store 3 ?_); refine box_int rfl _ _ rfl _ _ _ rfl rfl (by with_reducible exact B6) (by simp) ?_; clear B6; intro w' B6 gg; simp only [List.setIfInBounds_toArray, List.set] at B6; (try clear k6); replace gw := grown_new gw gg (fun q e => by cases e; exact n6); (try replace r := r.at gg (by omega) (by omega)); (try replace B4 := B4.grown gg (Nat.ne_of_lt l4_6)); (try replace BL := BL.grown gg (Nat.ne_of_gt l6_L)); clear gg; (try have k6 := B6.k))
      | ((with_reducible refine at_store 24 ?_); refine box_part rfl 24 _ _ rfl _ _ _ rfl rfl (by with_reducible exact B6) (by kernel_rfl) (by simp) (by simp [Value.oneCell']) ?_; clear B6; intro w' B6 gg; simp only [putAt, List.setIfInBounds_toArray, List.set, Nat.reduceAdd] at B6; (try clear k6); replace gw := grown_new gw gg (fun q e => by cases e; exact n6); (try replace r := r.at gg (by omega) (by omega)); (try replace B4 := B4.grown gg (Nat.ne_of_lt l4_6)); (try replace BL := BL.grown gg (Nat.ne_of_gt l6_L)); clear gg; (try have k6 := B6.k)))
    refine (pick_any _ _ _ zs 3 _ r (by omega) (by omega)).mono ?_
    clear r
    rintro e w' ⟨k3, rfl, hk3, r, gg⟩
    (try clear k6)
    replace gw := grown_trans gw gg
    (try replace B4 := B4.grown gg (by omega))
    (try replace B6 := B6.grown gg (by omega))
    (try replace BL := BL.grown gg (by omega))
    clear gg
    (try have k6 := B6.k)
    rcases (show k3 = 0 ∨ k3 = 1 ∨ k3 = 2 by omega) with rfl | rfl | rfl
    · go_wp2_with (first
        | ((with_reducible refine at_new 4 26 ?_); refine box_new (d := 4) rfl rfl 26 rfl _ zero_rx ?_; intro w' B4 bb; have n4 := gw.size; (try have lr_4 := r.lt); (try have l6_4 := B6.lt); (try have lL_4 := BL.lt); (try clear k6); replace gw := grown_trans gw (grown_below bb _); (try replace r := r.kept bb);  (try replace B6 := B6.kept bb); (try replace BL := BL.kept bb); clear bb; (try have k6 := B6.k))
        | ((with_reducible refine at_new 6 26 ?_); refine box_new (d := 6) rfl rfl 26 rfl _ zero_rx ?_; intro w' B6 bb; have n6 := gw.size; (try have lr_6 := r.lt); (try have l4_6 := B4.lt); (try have lL_6 := BL.lt); (try clear k6); replace gw := grown_trans gw (grown_below bb _); (try replace r := r.kept bb); (try replace B4 := B4.kept bb);  (try replace BL := BL.kept bb); clear bb; (try have k6 := B6.k))
        | ((with_reducible refine at_load 26 ?_); refine box_load rfl 26 _ rfl _ rfl (by with_reducible assumption) Try.underlying26 rfl (by kernel_rfl) ?_)
        | ((with_reducible refine at_store 26 ?_); refine box_store rfl 26 _ _ rfl _ _ rfl rfl (by with_reducible exact B6) (by kernel_rfl) (by rfl) (by simp [Value.oneCell']) ?_; clear B6; intro w' B6 gg; (try clear k6); replace gw := grown_new gw gg (fun q e => by cases e; exact n6); (try replace r := r.at gg (by omega) (by omega)); (try replace B4 := B4.grown gg (Nat.ne_of_lt l4_6)); (try replace BL := BL.grown gg (Nat.ne_of_gt l6_L)); clear gg; (try have k6 := B6.k))
        | ((with_reducible refine at_store 26 ?_); refine box_store rfl 26 _ _ rfl _ _ rfl rfl (by with_reducible exact B4) (by kernel_rfl) (by rfl) (by simp [Value.oneCell']) ?_; clear B4; intro w' B4 gg; (try clear k6); replace gw := grown_new gw gg (fun q e => by cases e; exact n4); (try replace r := r.at gg (by omega) (by omega)); (try replace B6 := B6.grown gg (Nat.ne_of_gt l4_6)); (try replace BL := BL.grown gg (Nat.ne_of_gt l4_L)); clear gg; (try have k6 := B6.k))
        | ((with_reducible refine at_store 3 ?_); refine box_int rfl _ _ rfl _ _ _ rfl rfl (by with_reducible exact B6) (by simp) ?_; clear B6; intro w' B6 gg; simp only [List.setIfInBounds_toArray, List.set] at B6; (try clear k6); replace gw := grown_new gw gg (fun q e => by cases e; exact n6); (try replace r := r.at gg (by omega) (by omega)); (try replace B4 := B4.grown gg (Nat.ne_of_lt l4_6)); (try replace BL := BL.grown gg (Nat.ne_of_gt l6_L)); clear gg; (try have k6 := B6.k))
        | ((with_reducible refine at_store 24 ?_); refine box_part rfl 24 _ _ rfl _ _ _ rfl rfl (by with_reducible exact B6) (by kernel_rfl) (by simp) (by simp [Value.oneCell']) ?_; clear B6; intro w' B6 gg; simp only [putAt, List.setIfInBounds_toArray, List.set, Nat.reduceAdd] at B6; (try clear k6); replace gw := grown_new gw gg (fun q e => by cases e; exact n6); (try replace r := r.at gg (by omega) (by omega)); (try replace B4 := B4.grown gg (Nat.ne_of_lt l4_6)); (try replace BL := BL.grown gg (Nat.ne_of_gt l6_L)); clear gg; (try have k6 := B6.k)))
      refine (spec_next _ (by omega) _).mono ?_
      rintro e w5 ⟨rfl, rfl⟩
      go_wp2_with (first
        | ((with_reducible refine at_new 4 26 ?_); refine box_new (d := 4) rfl rfl 26 rfl _ zero_rx ?_; intro w' B4 bb; have n4 := gw.size; (try have lr_4 := r.lt); (try have l6_4 := B6.lt); (try have lL_4 := BL.lt); (try clear k6); replace gw := grown_trans gw (grown_below bb _); (try replace r := r.kept bb);  (try replace B6 := B6.kept bb); (try replace BL := BL.kept bb); clear bb; (try have k6 := B6.k))
        | ((with_reducible refine at_new 6 26 ?_); refine box_new (d := 6) rfl rfl 26 rfl _ zero_rx ?_; intro w' B6 bb; have n6 := gw.size; (try have lr_6 := r.lt); (try have l4_6 := B4.lt); (try have lL_6 := BL.lt); (try clear k6); replace gw := grown_trans gw (grown_below bb _); (try replace r := r.kept bb); (try replace B4 := B4.kept bb);  (try replace BL := BL.kept bb); clear bb; (try have k6 := B6.k))
        | ((with_reducible refine at_load 26 ?_); refine box_load rfl 26 _ rfl _ rfl (by with_reducible assumption) Try.underlying26 rfl (by kernel_rfl) ?_)
        | ((with_reducible refine at_store 26 ?_); refine box_store rfl 26 _ _ rfl _ _ rfl rfl (by with_reducible exact B6) (by kernel_rfl) (by rfl) (by simp [Value.oneCell']) ?_; clear B6; intro w' B6 gg; (try clear k6); replace gw := grown_new gw gg (fun q e => by cases e; exact n6); (try replace r := r.at gg (by omega) (by omega)); (try replace B4 := B4.grown gg (Nat.ne_of_lt l4_6)); (try replace BL := BL.grown gg (Nat.ne_of_gt l6_L)); clear gg; (try have k6 := B6.k))
        | ((with_reducible refine at_store 26 ?_); refine box_store rfl 26 _ _ rfl _ _ rfl rfl (by with_reducible exact B4) (by kernel_rfl) (by rfl) (by simp [Value.oneCell']) ?_; clear B4; intro w' B4 gg; (try clear k6); replace gw := grown_new gw gg (fun q e => by cases e; exact n4); (try replace r := r.at gg (by omega) (by omega)); (try replace B6 := B6.grown gg (Nat.ne_of_gt l4_6)); (try replace BL := BL.grown gg (Nat.ne_of_gt l4_L)); clear gg; (try have k6 := B6.k))
        | ((with_reducible refine at_store 3 ?_); refine box_int rfl _ _ rfl _ _ _ rfl rfl (by with_reducible exact B6) (by simp) ?_; clear B6; intro w' B6 gg; simp only [List.setIfInBounds_toArray, List.set] at B6; (try clear k6); replace gw := grown_new gw gg (fun q e => by cases e; exact n6); (try replace r := r.at gg (by omega) (by omega)); (try replace B4 := B4.grown gg (Nat.ne_of_lt l4_6)); (try replace BL := BL.grown gg (Nat.ne_of_gt l6_L)); clear gg; (try have k6 := B6.k))
        | ((with_reducible refine at_store 24 ?_); refine box_part rfl 24 _ _ rfl _ _ _ rfl rfl (by with_reducible exact B6) (by kernel_rfl) (by simp) (by simp [Value.oneCell']) ?_; clear B6; intro w' B6 gg; simp only [putAt, List.setIfInBounds_toArray, List.set, Nat.reduceAdd] at B6; (try clear k6); replace gw := grown_new gw gg (fun q e => by cases e; exact n6); (try replace r := r.at gg (by omega) (by omega)); (try replace B4 := B4.grown gg (Nat.ne_of_lt l4_6)); (try replace BL := BL.grown gg (Nat.ne_of_gt l6_L)); clear gg; (try have k6 := B6.k))
        | ((with_reducible refine at_litn 102 ?_); refine lit_row rfl 3 #[.int .i64 (-1), .int .i64 8, .int .i64 (((cn : Int) % 8 + 1) % 8)] 3 (fun _ => by simp [execOp, go_sem]) ?_; intro w' BL bb; have nL := gw.size; (try have lr_L := r.lt); (try have l4_L := B4.lt); (try have l6_L := B6.lt); (try clear k6); replace gw := grown_trans gw (grown_below bb _); (try replace r := r.kept bb); (try replace B4 := B4.kept bb); (try replace B6 := B6.kept bb);  clear bb; (try have k6 := B6.k)))
      refine (pick_any _ _ _ zs 3 _ r (by omega) (by omega)).mono ?_
      clear r
      rintro e w' ⟨k4, rfl, hk4, r, gg⟩
      (try clear k6)
      replace gw := grown_trans gw gg
      (try replace B4 := B4.grown gg (by omega))
      (try replace B6 := B6.grown gg (by omega))
      (try replace BL := BL.grown gg (by omega))
      clear gg
      (try have k6 := B6.k)
      obtain ⟨y, cy⟩ : ∃ y : Int, w'.cell? ⟨_, k4, none⟩ = some (.int .i64 y) := by
        rcases (show k4 = 0 ∨ k4 = 1 ∨ k4 = 2 by omega) with rfl | rfl | rfl
        · exact ⟨-1, (BL.k 0).trans rfl⟩
        · exact ⟨8, (BL.k 1).trans rfl⟩
        · exact ⟨((cn : Int) % 8 + 1) % 8, (BL.k 2).trans rfl⟩
      have hk4i : (k4 : Int) < 3 := by omega
      go_wp2_with (first
        | ((with_reducible refine at_new 4 26 ?_); refine box_new (d := 4) rfl rfl 26 rfl _ zero_rx ?_; intro w' B4 bb; have n4 := gw.size; (try have lr_4 := r.lt); (try have l6_4 := B6.lt); (try have lL_4 := BL.lt); (try clear k6); replace gw := grown_trans gw (grown_below bb _); (try replace r := r.kept bb);  (try replace B6 := B6.kept bb); (try replace BL := BL.kept bb); clear bb; (try have k6 := B6.k))
        | ((with_reducible refine at_new 6 26 ?_); refine box_new (d := 6) rfl rfl 26 rfl _ zero_rx ?_; intro w' B6 bb; have n6 := gw.size; (try have lr_6 := r.lt); (try have l4_6 := B4.lt); (try have lL_6 := BL.lt); (try clear k6); replace gw := grown_trans gw (grown_below bb _); (try replace r := r.kept bb); (try replace B4 := B4.kept bb);  (try replace BL := BL.kept bb); clear bb; (try have k6 := B6.k))
        | ((with_reducible refine at_load 26 ?_); refine box_load rfl 26 _ rfl _ rfl (by with_reducible assumption) Try.underlying26 rfl (by kernel_rfl) ?_)
        | ((with_reducible refine at_store 26 ?_); refine box_store rfl 26 _ _ rfl _ _ rfl rfl (by with_reducible exact B6) (by kernel_rfl) (by rfl) (by simp [Value.oneCell']) ?_; clear B6; intro w' B6 gg; (try clear k6); replace gw := grown_new gw gg (fun q e => by cases e; exact n6); (try replace r := r.at gg (by omega) (by omega)); (try replace B4 := B4.grown gg (Nat.ne_of_lt l4_6)); (try replace BL := BL.grown gg (Nat.ne_of_gt l6_L)); clear gg; (try have k6 := B6.k))
        | ((with_reducible refine at_store 26 ?_); refine box_store rfl 26 _ _ rfl _ _ rfl rfl (by with_reducible exact B4) (by kernel_rfl) (by rfl) (by simp [Value.oneCell']) ?_; clear B4; intro w' B4 gg; (try clear k6); replace gw := grown_new gw gg (fun q e => by cases e; exact n4); (try replace r := r.at gg (by omega) (by omega)); (try replace B6 := B6.grown gg (Nat.ne_of_gt l4_6)); (try replace BL := BL.grown gg (Nat.ne_of_gt l4_L)); clear gg; (try have k6 := B6.k))
        | ((with_reducible refine at_store 3 ?_); refine box_int rfl _ _ rfl _ _ _ rfl rfl (by with_reducible exact B6) (by simp) ?_; clear B6; intro w' B6 gg; simp only [List.setIfInBounds_toArray, List.set] at B6; (try clear k6); replace gw := grown_new gw gg (fun q e => by cases e; exact n6); (try replace r := r.at gg (by omega) (by omega)); (try replace B4 := B4.grown gg (Nat.ne_of_lt l4_6)); (try replace BL := BL.grown gg (Nat.ne_of_gt l6_L)); clear gg; (try have k6 := B6.k))
        | ((with_reducible refine at_store 24 ?_); refine box_part rfl 24 _ _ rfl _ _ _ rfl rfl (by with_reducible exact B6) (by kernel_rfl) (by simp) (by simp [Value.oneCell']) ?_; clear B6; intro w' B6 gg; simp only [putAt, List.setIfInBounds_toArray, List.set, Nat.reduceAdd] at B6; (try clear k6); replace gw := grown_new gw gg (fun q e => by cases e; exact n6); (try replace r := r.at gg (by omega) (by omega)); (try replace B4 := B4.grown gg (Nat.ne_of_lt l4_6)); (try replace BL := BL.grown gg (Nat.ne_of_gt l6_L)); clear gg; (try have k6 := B6.k)))
      refine bodyPost_ret (results_cell_row rfl _ _ _ _ _ _ _ rfl B4 Try.underlying26 rfl (by kernel_rfl)) rfl ?_
      exact ⟨_, _, _, _, _, _, _, _, _, _, rfl, by omega, r, gw⟩
    · go_wp2_with (first
        | ((with_reducible refine at_new 4 26 ?_); refine box_new (d := 4) rfl rfl 26 rfl _ zero_rx ?_; intro w' B4 bb; have n4 := gw.size; (try have lr_4 := r.lt); (try have l6_4 := B6.lt); (try have lL_4 := BL.lt); (try clear k6); replace gw := grown_trans gw (grown_below bb _); (try replace r := r.kept bb);  (try replace B6 := B6.kept bb); (try replace BL := BL.kept bb); clear bb; (try have k6 := B6.k))
        | ((with_reducible refine at_new 6 26 ?_); refine box_new (d := 6) rfl rfl 26 rfl _ zero_rx ?_; intro w' B6 bb; have n6 := gw.size; (try have lr_6 := r.lt); (try have l4_6 := B4.lt); (try have lL_6 := BL.lt); (try clear k6); replace gw := grown_trans gw (grown_below bb _); (try replace r := r.kept bb); (try replace B4 := B4.kept bb);  (try replace BL := BL.kept bb); clear bb; (try have k6 := B6.k))
        | ((with_reducible refine at_load 26 ?_); refine box_load rfl 26 _ rfl _ rfl (by with_reducible assumption) Try.underlying26 rfl (by kernel_rfl) ?_)
        | ((with_reducible refine at_store 26 ?_); refine box_store rfl 26 _ _ rfl _ _ rfl rfl (by with_reducible exact B6) (by kernel_rfl) (by rfl) (by simp [Value.oneCell']) ?_; clear B6; intro w' B6 gg; (try clear k6); replace gw := grown_new gw gg (fun q e => by cases e; exact n6); (try replace r := r.at gg (by omega) (by omega)); (try replace B4 := B4.grown gg (Nat.ne_of_lt l4_6)); (try replace BL := BL.grown gg (Nat.ne_of_gt l6_L)); clear gg; (try have k6 := B6.k))
        | ((with_reducible refine at_store 26 ?_); refine box_store rfl 26 _ _ rfl _ _ rfl rfl (by with_reducible exact B4) (by kernel_rfl) (by rfl) (by simp [Value.oneCell']) ?_; clear B4; intro w' B4 gg; (try clear k6); replace gw := grown_new gw gg (fun q e => by cases e; exact n4); (try replace r := r.at gg (by omega) (by omega)); (try replace B6 := B6.grown gg (Nat.ne_of_gt l4_6)); (try replace BL := BL.grown gg (Nat.ne_of_gt l4_L)); clear gg; (try have k6 := B6.k))
        | ((with_reducible refine at_store 3 ?_); refine box_int rfl _ _ rfl _ _ _ rfl rfl (by with_reducible exact B6) (by simp) ?_; clear B6; intro w' B6 gg; simp only [List.setIfInBounds_toArray, List.set] at B6; (try clear k6); replace gw := grown_new gw gg (fun q e => by cases e; exact n6); (try replace r := r.at gg (by omega) (by omega)); (try replace B4 := B4.grown gg (Nat.ne_of_lt l4_6)); (try replace BL := BL.grown gg (Nat.ne_of_gt l6_L)); clear gg; (try have k6 := B6.k))
        | ((with_reducible refine at_store 24 ?_); refine box_part rfl 24 _ _ rfl _ _ _ rfl rfl (by with_reducible exact B6) (by kernel_rfl) (by simp) (by simp [Value.oneCell']) ?_; clear B6; intro w' B6 gg; simp only [putAt, List.setIfInBounds_toArray, List.set, Nat.reduceAdd] at B6; (try clear k6); replace gw := grown_new gw gg (fun q e => by cases e; exact n6); (try replace r := r.at gg (by omega) (by omega)); (try replace B4 := B4.grown gg (Nat.ne_of_lt l4_6)); (try replace BL := BL.grown gg (Nat.ne_of_gt l6_L)); clear gg; (try have k6 := B6.k)))
      clear k6
      replace r := r.drew
      replace gw := grown_drew gw
      replace B4 := B4.drew
      replace B6 := B6.drew
      refine region_part (fun wx => Bl wx _ #[.int .i64 ((cn : Int) % 8), .int .i64 (cn : Int), .int .i64 len, .slice a k cap, .bool ((q1 : Int) == 0), .bool ((q2 : Int) == 0), .bool ((q3 : Int) == 0)] 26) 9 [(0, true), (1, true), (2, true), (4, true)] 6 ⟨none, .assign (.tmp 0), 0, "", #[], none⟩ (by kernel_rfl) (by kernel_rfl) B6 (fun x _ _ _ _ h => by cases x <;> exact h) ?_
      simp only [arrange, List.map_cons, List.map_nil, List.getD_cons_zero, List.getD_cons_succ]
      generalize World.drew _ = dw at r gw B4 B6 ⊢
      refine by_addr rfl _ _ _ rfl _ 1 rfl (fun _ _ => by simp [go_sem]) ?_
      simp only [Act.put, List.setIfInBounds_toArray, List.set]
      refine by_run rfl (.int .i64 (cn : Int)) (fun _ h => run_lc rfl ((h.k 1).trans rfl)) ?_
      simp only [Act.put, List.setIfInBounds_toArray, List.set]
      refine by_run rfl (.int .i64 ((cn : Int) + 8)) (fun _ _ => run_add rfl rfl (by omega)) ?_
      simp only [Act.put, List.setIfInBounds_toArray, List.set]
      refine by_run rfl (.pointer (some ⟨g, 0, none⟩)) (fun _ _ => run_mv rfl) ?_
      simp only [Act.put, List.setIfInBounds_toArray, List.set]
      refine by_nil ?_
      refine rest_two 3 5 ⟨none, .assign (.tmp 0), 0, "", #[], none⟩ (by kernel_rfl) ?_ ?_
      · simp only [arrange, List.map_cons, List.map_nil, List.getD_cons_zero, List.getD_cons_succ]
        refine by_wp rfl rfl ?_
        unfold Oper.wp
        rw [run_three (fun _ => rfl) rfl]
        have bb := bo_alloc dw (.cells #[.int .i64 (-1), .int .i64 10000, .int .i64 ((cn : Int) + 8)] 3)
        have BL := bl_new dw #[.int .i64 (-1), .int .i64 10000, .int .i64 ((cn : Int) + 8)] 3
        have nBL := gw.size
        generalize dw.alloc (.cells #[.int .i64 (-1), .int .i64 10000, .int .i64 ((cn : Int) + 8)] 3) = d2 at bb BL ⊢
        replace r := r.kept bb
        replace gw := grown_trans gw (grown_below bb _)
        replace B4 := B4.kept bb
        replace B6 := B6.kept bb
        clear bb
        refine ⟨fun _ => B6, ?_⟩
        simp only [Act.put, List.setIfInBounds_toArray, List.set]
        refine by_nil ?_
        refine rest_by [(5, false), (6, false), (7, false), (8, true), (9, false)] ⟨none, .assign (.tmp 0), 0, "", #[], none⟩ (by kernel_rfl) B6 (fun x _ _ _ _ h => by cases x <;> exact h) ?_
        simp only [arrange, List.map_cons, List.map_nil, List.getD_cons_zero, List.getD_cons_succ]
        refine by_wp rfl rfl ?_
        unfold Oper.wp
        rw [run_c2 rfl rfl rfl (fun _ _ => by kernel_rfl)]
        refine (pick_any _ _ _ zs 3 _ r (by omega) (by omega)).mono ?_
        clear r
        rintro e d3 ⟨k4, rfl, hk4, r, gg⟩
        replace gw := grown_trans gw gg
        replace B4 := B4.grown gg (by omega)
        replace B6 := B6.grown gg (by omega)
        replace BL := BL.grown gg (by omega)
        clear gg
        refine ⟨fun _ => B6, ?_⟩
        simp only [Act.put, List.setIfInBounds_toArray, List.set]
        obtain ⟨y, cy⟩ : ∃ y : Int, World.cell? _ ⟨_, k4, none⟩ = some (.int .i64 y) := by
          rcases (show k4 = 0 ∨ k4 = 1 ∨ k4 = 2 by omega) with rfl | rfl | rfl
          · exact ⟨-1, (BL.k 0).trans rfl⟩
          · exact ⟨10000, (BL.k 1).trans rfl⟩
          · exact ⟨(cn : Int) + 8, (BL.k 2).trans rfl⟩
        refine by_wp rfl rfl ?_
        unfold Oper.wp
        rw [run_index rfl rfl (by omega)]
        refine ⟨fun _ => B6, ?_⟩
        simp only [Act.put, List.setIfInBounds_toArray, List.set]
        refine by_wp rfl rfl ?_
        unfold Oper.wp
        rw [run_lc rfl cy]
        refine ⟨fun _ => B6, ?_⟩
        simp only [Act.put, List.setIfInBounds_toArray, List.set]
        refine by_addr rfl _ _ _ rfl _ 1 rfl (fun _ _ => by simp [go_sem]) ?_
        simp only [Act.put, List.setIfInBounds_toArray, List.set]
        refine by_wp rfl rfl ?_
        refine wp_box_int _ _ rfl _ _ _ rfl rfl B6 (by simp) ?_
        clear B6
        intro w' B6 gg
        simp only [List.setIfInBounds_toArray, List.set] at B6
        replace gw := grown_new gw gg (fun q e => by cases e; exact n6)
        replace r := r.at gg (by omega) (by omega)
        replace B4 := B4.grown gg (Nat.ne_of_lt l4_6)
        clear gg BL cy
        refine ⟨fun h => absurd h (by omega), ?_⟩
        refine by_nil ?_
        have k6 := B6.k
        go_wp2_with (first
          | ((with_reducible refine at_new 4 26 ?_); refine box_new (d := 4) rfl rfl 26 rfl _ zero_rx ?_; intro w' B4 bb; have n4 := gw.size; (try have lr_4 := r.lt); (try have l6_4 := B6.lt); (try have lL_4 := BL.lt); (try clear k6); replace gw := grown_trans gw (grown_below bb _); (try replace r := r.kept bb);  (try replace B6 := B6.kept bb); (try replace BL := BL.kept bb); clear bb; (try have k6 := B6.k))
          | ((with_reducible refine at_new 6 26 ?_); refine box_new (d := 6) rfl rfl 26 rfl _ zero_rx ?_; intro w' B6 bb; have n6 := gw.size; (try have lr_6 := r.lt); (try have l4_6 := B4.lt); (try have lL_6 := BL.lt); (try clear k6); replace gw := grown_trans gw (grown_below bb _); (try replace r := r.kept bb); (try replace B4 := B4.kept bb);  (try replace BL := BL.kept bb); clear bb; (try have k6 := B6.k))
          | ((with_reducible refine at_load 26 ?_); refine box_load rfl 26 _ rfl _ rfl (by with_reducible assumption) Try.underlying26 rfl (by kernel_rfl) ?_)
          | ((with_reducible refine at_store 26 ?_); refine box_store rfl 26 _ _ rfl _ _ rfl rfl (by with_reducible exact B6) (by kernel_rfl) (by rfl) (by simp [Value.oneCell']) ?_; clear B6; intro w' B6 gg; (try clear k6); replace gw := grown_new gw gg (fun q e => by cases e; exact n6); (try replace r := r.at gg (by omega) (by omega)); (try replace B4 := B4.grown gg (Nat.ne_of_lt l4_6)); (try replace BL := BL.grown gg (Nat.ne_of_gt l6_L)); clear gg; (try have k6 := B6.k))
          | ((with_reducible refine at_store 26 ?_); refine box_store rfl 26 _ _ rfl _ _ rfl rfl (by with_reducible exact B4) (by kernel_rfl) (by rfl) (by simp [Value.oneCell']) ?_; clear B4; intro w' B4 gg; (try clear k6); replace gw := grown_new gw gg (fun q e => by cases e; exact n4); (try replace r := r.at gg (by omega) (by omega)); (try replace B6 := B6.grown gg (Nat.ne_of_gt l4_6)); (try replace BL := BL.grown gg (Nat.ne_of_gt l4_L)); clear gg; (try have k6 := B6.k))
          | ((with_reducible refine at_store 3 ?_); refine box_int rfl _ _ rfl _ _ _ rfl rfl (by with_reducible exact B6) (by simp) ?_; clear B6; intro w' B6 gg; simp only [List.setIfInBounds_toArray, List.set] at B6; (try clear k6); replace gw := grown_new gw gg (fun q e => by cases e; exact n6); (try replace r := r.at gg (by omega) (by omega)); (try replace B4 := B4.grown gg (Nat.ne_of_lt l4_6)); (try replace BL := BL.grown gg (Nat.ne_of_gt l6_L)); clear gg; (try have k6 := B6.k))
          | ((with_reducible refine at_store 24 ?_); refine box_part rfl 24 _ _ rfl _ _ _ rfl rfl (by with_reducible exact B6) (by kernel_rfl) (by simp) (by simp [Value.oneCell']) ?_; clear B6; intro w' B6 gg; simp only [putAt, List.setIfInBounds_toArray, List.set, Nat.reduceAdd] at B6; (try clear k6); replace gw := grown_new gw gg (fun q e => by cases e; exact n6); (try replace r := r.at gg (by omega) (by omega)); (try replace B4 := B4.grown gg (Nat.ne_of_lt l4_6)); (try replace BL := BL.grown gg (Nat.ne_of_gt l6_L)); clear gg; (try have k6 := B6.k)))
        refine bodyPost_ret (results_cell_row rfl _ _ _ _ _ _ _ rfl B4 Try.underlying26 rfl (by kernel_rfl)) rfl ?_
        exact ⟨_, _, _, _, _, _, _, _, _, _, rfl, by omega, r, gw⟩
      · simp only [arrange, List.map_cons, List.map_nil, List.getD_cons_zero, List.getD_cons_succ]
        refine by_wp rfl rfl ?_
        unfold Oper.wp
        rw [run_c2 rfl rfl rfl (fun _ _ => by kernel_rfl)]
        refine (pick_any _ _ _ zs 3 _ r (by omega) (by omega)).mono ?_
        clear r
        rintro e d3 ⟨k4, rfl, hk4, r, gg⟩
        replace gw := grown_trans gw gg
        replace B4 := B4.grown gg (by omega)
        replace B6 := B6.grown gg (by omega)
        clear gg
        refine ⟨fun _ => B6, ?_⟩
        simp only [Act.put, List.setIfInBounds_toArray, List.set]
        refine by_nil ?_
        refine rest_by [(3, false), (6, false), (7, false), (8, true), (9, false)] ⟨none, .assign (.tmp 0), 0, "", #[], none⟩ (by kernel_rfl) B6 (fun x _ _ _ _ h => by cases x <;> exact h) ?_
        simp only [arrange, List.map_cons, List.map_nil, List.getD_cons_zero, List.getD_cons_succ]
        refine by_wp rfl rfl ?_
        unfold Oper.wp
        rw [run_three (fun _ => rfl) rfl]
        have bb := bo_alloc d3 (.cells #[.int .i64 (-1), .int .i64 10000, .int .i64 ((cn : Int) + 8)] 3)
        have BL := bl_new d3 #[.int .i64 (-1), .int .i64 10000, .int .i64 ((cn : Int) + 8)] 3
        have nBL := gw.size
        generalize d3.alloc (.cells #[.int .i64 (-1), .int .i64 10000, .int .i64 ((cn : Int) + 8)] 3) = d4 at bb BL ⊢
        replace r := r.kept bb
        replace gw := grown_trans gw (grown_below bb _)
        replace B4 := B4.kept bb
        replace B6 := B6.kept bb
        clear bb
        refine ⟨fun _ => B6, ?_⟩
        simp only [Act.put, List.setIfInBounds_toArray, List.set]
        obtain ⟨y, cy⟩ : ∃ y : Int, World.cell? _ ⟨_, k4, none⟩ = some (.int .i64 y) := by
          rcases (show k4 = 0 ∨ k4 = 1 ∨ k4 = 2 by omega) with rfl | rfl | rfl
          · exact ⟨-1, (BL.k 0).trans rfl⟩
          · exact ⟨10000, (BL.k 1).trans rfl⟩
          · exact ⟨(cn : Int) + 8, (BL.k 2).trans rfl⟩
        refine by_wp rfl rfl ?_
        unfold Oper.wp
        rw [run_index rfl rfl (by omega)]
        refine ⟨fun _ => B6, ?_⟩
        simp only [Act.put, List.setIfInBounds_toArray, List.set]
        refine by_wp rfl rfl ?_
        unfold Oper.wp
        rw [run_lc rfl cy]
        refine ⟨fun _ => B6, ?_⟩
        simp only [Act.put, List.setIfInBounds_toArray, List.set]
        refine by_addr rfl _ _ _ rfl _ 1 rfl (fun _ _ => by simp [go_sem]) ?_
        simp only [Act.put, List.setIfInBounds_toArray, List.set]
        refine by_wp rfl rfl ?_
        refine wp_box_int _ _ rfl _ _ _ rfl rfl B6 (by simp) ?_
        clear B6
        intro w' B6 gg
        simp only [List.setIfInBounds_toArray, List.set] at B6
        replace gw := grown_new gw gg (fun q e => by cases e; exact n6)
        replace r := r.at gg (by omega) (by omega)
        replace B4 := B4.grown gg (Nat.ne_of_lt l4_6)
        clear gg BL cy
        refine ⟨fun h => absurd h (by omega), ?_⟩
        refine by_nil ?_
        have k6 := B6.k
        go_wp2_with (first
          | ((with_reducible refine at_new 4 26 ?_); refine box_new (d := 4) rfl rfl 26 rfl _ zero_rx ?_; intro w' B4 bb; have n4 := gw.size; (try have lr_4 := r.lt); (try have l6_4 := B6.lt); (try have lL_4 := BL.lt); (try clear k6); replace gw := grown_trans gw (grown_below bb _); (try replace r := r.kept bb);  (try replace B6 := B6.kept bb); (try replace BL := BL.kept bb); clear bb; (try have k6 := B6.k))
          | ((with_reducible refine at_new 6 26 ?_); refine box_new (d := 6) rfl rfl 26 rfl _ zero_rx ?_; intro w' B6 bb; have n6 := gw.size; (try have lr_6 := r.lt); (try have l4_6 := B4.lt); (try have lL_6 := BL.lt); (try clear k6); replace gw := grown_trans gw (grown_below bb _); (try replace r := r.kept bb); (try replace B4 := B4.kept bb);  (try replace BL := BL.kept bb); clear bb; (try have k6 := B6.k))
          | ((with_reducible refine at_load 26 ?_); refine box_load rfl 26 _ rfl _ rfl (by with_reducible assumption) Try.underlying26 rfl (by kernel_rfl) ?_)
          | ((with_reducible refine at_store 26 ?_); refine box_store rfl 26 _ _ rfl _ _ rfl rfl (by with_reducible exact B6) (by kernel_rfl) (by rfl) (by simp [Value.oneCell']) ?_; clear B6; intro w' B6 gg; (try clear k6); replace gw := grown_new gw gg (fun q e => by cases e; exact n6); (try replace r := r.at gg (by omega) (by omega)); (try replace B4 := B4.grown gg (Nat.ne_of_lt l4_6)); (try replace BL := BL.grown gg (Nat.ne_of_gt l6_L)); clear gg; (try have k6 := B6.k))
          | ((with_reducible refine at_store 26 ?_); refine box_store rfl 26 _ _ rfl _ _ rfl rfl (by with_reducible exact B4) (by kernel_rfl) (by rfl) (by simp [Value.oneCell']) ?_; clear B4; intro w' B4 gg; (try clear k6); replace gw := grown_new gw gg (fun q e => by cases e; exact n4); (try replace r := r.at gg (by omega) (by omega)); (try replace B6 := B6.grown gg (Nat.ne_of_gt l4_6)); (try replace BL := BL.grown gg (Nat.ne_of_gt l4_L)); clear gg; (try have k6 := B6.k))
          | ((with_reducible refine at_store 3 ?_); refine box_int rfl _ _ rfl _ _ _ rfl rfl (by with_reducible exact B6) (by simp) ?_; clear B6; intro w' B6 gg; simp only [List.setIfInBounds_toArray, List.set] at B6; (try clear k6); replace gw := grown_new gw gg (fun q e => by cases e; exact n6); (try replace r := r.at gg (by omega) (by omega)); (try replace B4 := B4.grown gg (Nat.ne_of_lt l4_6)); (try replace BL := BL.grown gg (Nat.ne_of_gt l6_L)); clear gg; (try have k6 := B6.k))
          | ((with_reducible refine at_store 24 ?_); refine box_part rfl 24 _ _ rfl _ _ _ rfl rfl (by with_reducible exact B6) (by kernel_rfl) (by simp) (by simp [Value.oneCell']) ?_; clear B6; intro w' B6 gg; simp only [putAt, List.setIfInBounds_toArray, List.set, Nat.reduceAdd] at B6; (try clear k6); replace gw := grown_new gw gg (fun q e => by cases e; exact n6); (try replace r := r.at gg (by omega) (by omega)); (try replace B4 := B4.grown gg (Nat.ne_of_lt l4_6)); (try replace BL := BL.grown gg (Nat.ne_of_gt l6_L)); clear gg; (try have k6 := B6.k)))
        refine bodyPost_ret (results_cell_row rfl _ _ _ _ _ _ _ rfl B4 Try.underlying26 rfl (by kernel_rfl)) rfl ?_
        exact ⟨_, _, _, _, _, _, _, _, _, _, rfl, by omega, r, gw⟩
    · go_wp2_with (first
        | ((with_reducible refine at_new 4 26 ?_); refine box_new (d := 4) rfl rfl 26 rfl _ zero_rx ?_; intro w' B4 bb; have n4 := gw.size; (try have lr_4 := r.lt); (try have l6_4 := B6.lt); (try have lL_4 := BL.lt); (try clear k6); replace gw := grown_trans gw (grown_below bb _); (try replace r := r.kept bb);  (try replace B6 := B6.kept bb); (try replace BL := BL.kept bb); clear bb; (try have k6 := B6.k))
        | ((with_reducible refine at_new 6 26 ?_); refine box_new (d := 6) rfl rfl 26 rfl _ zero_rx ?_; intro w' B6 bb; have n6 := gw.size; (try have lr_6 := r.lt); (try have l4_6 := B4.lt); (try have lL_6 := BL.lt); (try clear k6); replace gw := grown_trans gw (grown_below bb _); (try replace r := r.kept bb); (try replace B4 := B4.kept bb);  (try replace BL := BL.kept bb); clear bb; (try have k6 := B6.k))
        | ((with_reducible refine at_load 26 ?_); refine box_load rfl 26 _ rfl _ rfl (by with_reducible assumption) Try.underlying26 rfl (by kernel_rfl) ?_)
        | ((with_reducible refine at_store 26 ?_); refine box_store rfl 26 _ _ rfl _ _ rfl rfl (by with_reducible exact B6) (by kernel_rfl) (by rfl) (by simp [Value.oneCell']) ?_; clear B6; intro w' B6 gg; (try clear k6); replace gw := grown_new gw gg (fun q e => by cases e; exact n6); (try replace r := r.at gg (by omega) (by omega)); (try replace B4 := B4.grown gg (Nat.ne_of_lt l4_6)); (try replace BL := BL.grown gg (Nat.ne_of_gt l6_L)); clear gg; (try have k6 := B6.k))
        | ((with_reducible refine at_store 26 ?_); refine box_store rfl 26 _ _ rfl _ _ rfl rfl (by with_reducible exact B4) (by kernel_rfl) (by rfl) (by simp [Value.oneCell']) ?_; clear B4; intro w' B4 gg; (try clear k6); replace gw := grown_new gw gg (fun q e => by cases e; exact n4); (try replace r := r.at gg (by omega) (by omega)); (try replace B6 := B6.grown gg (Nat.ne_of_gt l4_6)); (try replace BL := BL.grown gg (Nat.ne_of_gt l4_L)); clear gg; (try have k6 := B6.k))
        | ((with_reducible refine at_store 3 ?_); refine box_int rfl _ _ rfl _ _ _ rfl rfl (by with_reducible exact B6) (by simp) ?_; clear B6; intro w' B6 gg; simp only [List.setIfInBounds_toArray, List.set] at B6; (try clear k6); replace gw := grown_new gw gg (fun q e => by cases e; exact n6); (try replace r := r.at gg (by omega) (by omega)); (try replace B4 := B4.grown gg (Nat.ne_of_lt l4_6)); (try replace BL := BL.grown gg (Nat.ne_of_gt l6_L)); clear gg; (try have k6 := B6.k))
        | ((with_reducible refine at_store 24 ?_); refine box_part rfl 24 _ _ rfl _ _ _ rfl rfl (by with_reducible exact B6) (by kernel_rfl) (by simp) (by simp [Value.oneCell']) ?_; clear B6; intro w' B6 gg; simp only [putAt, List.setIfInBounds_toArray, List.set, Nat.reduceAdd] at B6; (try clear k6); replace gw := grown_new gw gg (fun q e => by cases e; exact n6); (try replace r := r.at gg (by omega) (by omega)); (try replace B4 := B4.grown gg (Nat.ne_of_lt l4_6)); (try replace BL := BL.grown gg (Nat.ne_of_gt l6_L)); clear gg; (try have k6 := B6.k)))
      refine (join_any _ _ _ zs 1 _ r (by omega) (by omega)).mono ?_
      clear r
      rintro e w' ⟨len2, a2, k2, cap2, p5, rfl, _, _, hk2, hp5, r, gg⟩
      (try clear k6)
      replace gw := grown_trans gw gg
      (try replace B4 := B4.grown gg (by omega))
      (try replace B6 := B6.grown gg (by omega))
      (try replace BL := BL.grown gg (by omega))
      clear gg
      (try have k6 := B6.k)
      go_wp2_with (first
        | ((with_reducible refine at_new 4 26 ?_); refine box_new (d := 4) rfl rfl 26 rfl _ zero_rx ?_; intro w' B4 bb; have n4 := gw.size; (try have lr_4 := r.lt); (try have l6_4 := B6.lt); (try have lL_4 := BL.lt); (try clear k6); replace gw := grown_trans gw (grown_below bb _); (try replace r := r.kept bb);  (try replace B6 := B6.kept bb); (try replace BL := BL.kept bb); clear bb; (try have k6 := B6.k))
        | ((with_reducible refine at_new 6 26 ?_); refine box_new (d := 6) rfl rfl 26 rfl _ zero_rx ?_; intro w' B6 bb; have n6 := gw.size; (try have lr_6 := r.lt); (try have l4_6 := B4.lt); (try have lL_6 := BL.lt); (try clear k6); replace gw := grown_trans gw (grown_below bb _); (try replace r := r.kept bb); (try replace B4 := B4.kept bb);  (try replace BL := BL.kept bb); clear bb; (try have k6 := B6.k))
        | ((with_reducible refine at_load 26 ?_); refine box_load rfl 26 _ rfl _ rfl (by with_reducible assumption) Try.underlying26 rfl (by kernel_rfl) ?_)
        | ((with_reducible refine at_store 26 ?_); refine box_store rfl 26 _ _ rfl _ _ rfl rfl (by with_reducible exact B6) (by kernel_rfl) (by rfl) (by simp [Value.oneCell']) ?_; clear B6; intro w' B6 gg; (try clear k6); replace gw := grown_new gw gg (fun q e => by cases e; exact n6); (try replace r := r.at gg (by omega) (by omega)); (try replace B4 := B4.grown gg (Nat.ne_of_lt l4_6)); (try replace BL := BL.grown gg (Nat.ne_of_gt l6_L)); clear gg; (try have k6 := B6.k))
        | ((with_reducible refine at_store 26 ?_); refine box_store rfl 26 _ _ rfl _ _ rfl rfl (by with_reducible exact B4) (by kernel_rfl) (by rfl) (by simp [Value.oneCell']) ?_; clear B4; intro w' B4 gg; (try clear k6); replace gw := grown_new gw gg (fun q e => by cases e; exact n4); (try replace r := r.at gg (by omega) (by omega)); (try replace B6 := B6.grown gg (Nat.ne_of_gt l4_6)); (try replace BL := BL.grown gg (Nat.ne_of_gt l4_L)); clear gg; (try have k6 := B6.k))
        | ((with_reducible refine at_store 3 ?_); refine box_int rfl _ _ rfl _ _ _ rfl rfl (by with_reducible exact B6) (by simp) ?_; clear B6; intro w' B6 gg; simp only [List.setIfInBounds_toArray, List.set] at B6; (try clear k6); replace gw := grown_new gw gg (fun q e => by cases e; exact n6); (try replace r := r.at gg (by omega) (by omega)); (try replace B4 := B4.grown gg (Nat.ne_of_lt l4_6)); (try replace BL := BL.grown gg (Nat.ne_of_gt l6_L)); clear gg; (try have k6 := B6.k))
        | ((with_reducible refine at_store 24 ?_); refine box_part rfl 24 _ _ rfl _ _ _ rfl rfl (by with_reducible exact B6) (by kernel_rfl) (by simp) (by simp [Value.oneCell']) ?_; clear B6; intro w' B6 gg; simp only [putAt, List.setIfInBounds_toArray, List.set, Nat.reduceAdd] at B6; (try clear k6); replace gw := grown_new gw gg (fun q e => by cases e; exact n6); (try replace r := r.at gg (by omega) (by omega)); (try replace B4 := B4.grown gg (Nat.ne_of_lt l4_6)); (try replace BL := BL.grown gg (Nat.ne_of_gt l6_L)); clear gg; (try have k6 := B6.k)))
      refine bodyPost_ret (results_cell_row rfl _ _ _ _ _ _ _ rfl B4 Try.underlying26 rfl (by kernel_rfl)) rfl ?_
      exact ⟨_, _, _, _, _, _, _, _, _, _, rfl, by omega, r, gw⟩
end Go.Proofs.Ytkogmnjgpaocbaa
