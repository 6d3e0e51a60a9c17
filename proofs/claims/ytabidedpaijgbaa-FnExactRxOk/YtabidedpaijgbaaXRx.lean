/- What the exact laws do with who hears, and who grants: how many bytes, a copy, a comparison. -/
import Derived.Test.YtabidedpaijgbaaXPart
import Derived.Test.YtabidedpaijgbaaBoxLaw
import Derived.Test.YtabidedpaijgbaaOpenRow
namespace Go.Proofs.Ytabidedpaijgbaa
open Go.RowKit
theorem put_own {w w' : World} {B b : Nat} {v : Value} {zs : List Nat} (h : Own w B v zs) (k : w.grownBy w' (some b)) (hn : v.ownBlock ≠ some b) : Own w' B v zs := World.ownsRow.kept h k (.inr hn)
theorem ne_own {w : World} {B b : Nat} {v : Value} {zs : List Nat} (h : Own w B v zs) (hb : b < B) : v.ownBlock ≠ some b := fun e => by have := (World.ownsRow.lt h _ e).1; omega
theorem new_own {w : World} {B : Nat} {v : Value} {zs : List Nat} (h : Own w B v zs) : v.ownBlock ≠ some w.heap.size := fun e => by have := (World.ownsRow.lt h _ e).2; omega
theorem drew_own {w : World} {B : Nat} {v : Value} {zs : List Nat} (h : Own w B v zs) : Own w.drew B v zs := h
theorem zero_rx (w : World) : (zeroValue 31).run Try.prog w = .ok (.agg #[.int .i64 0, .int .i64 0, .int .i64 0, .slice none 0 0, .bool false, .bool false, .bool false]) w := by kernel_rfl
set_option maxRecDepth 100000 in
set_option maxHeartbeats 1000000 in
theorem szRxState_small (ex ct len : Int) (ag bu de : Bool) (a : Option Addr) (n cap m : Nat) (w : World) (h : n ≤ m) (hm : m ≤ 1048576) :
    Calls Try.prog 13 #[.agg #[.int .i64 ex, .int .i64 ct, .int .i64 len, .slice a n cap, .bool ag, .bool bu, .bool de], .int .i64 m] w fun e w' => e = .returned (.int .i64 ((m : Int) - (n : Int))) ∧ Below w.heap.size w w' := by
  have b0 : Below w.heap.size w w := Below.refl _ _
  have h1 : ¬ (m : Int) - (n : Int) < 0 := by omega
  go_enter Try.func13, Try.ntmps13
  go_wp2_with (first
    | ((with_reducible refine at_box 2 26 ?_); refine box_box (d := 2) rfl rfl 26 _ rfl _ rfl ?_; intro w' B2 bb; (try have nO2 := new_own O); have n2 := b0.size;   (try clear k2); replace b0 := bchain b0 bb;  (try replace O := O.kept bb); clear bb; (try have k2 := B2.k))
    | (go_at_call 61; refine (szJoin_small _ _ _ _ m _ h hm).mono ?_; rintro e w' ⟨rfl, bb⟩; (try clear k2); replace b0 := bchain b0 bb; (try replace B2 := B2.kept bb); (try replace O := O.kept bb); clear bb; (try have k2 := B2.k)))
  go_ret
  exact ⟨rfl, b0⟩
set_option maxRecDepth 100000 in
set_option maxHeartbeats 1000000 in
theorem szRxState_great (ex ct len : Int) (ag bu de : Bool) (a : Option Addr) (n cap m : Nat) (w : World) (h : ¬ n ≤ m) (hm : m ≤ 1048576) (hn : n ≤ maxLen) :
    Calls Try.prog 13 #[.agg #[.int .i64 ex, .int .i64 ct, .int .i64 len, .slice a n cap, .bool ag, .bool bu, .bool de], .int .i64 m] w fun e w' => e = .returned (.int .i64 (-1)) ∧ Below w.heap.size w w' := by
  have b0 : Below w.heap.size w w := Below.refl _ _
  go_enter Try.func13, Try.ntmps13
  go_wp2_with (first
    | ((with_reducible refine at_box 2 26 ?_); refine box_box (d := 2) rfl rfl 26 _ rfl _ rfl ?_; intro w' B2 bb; (try have nO2 := new_own O); have n2 := b0.size;   (try clear k2); replace b0 := bchain b0 bb;  (try replace O := O.kept bb); clear bb; (try have k2 := B2.k))
    | (go_at_call 61; refine (szJoin_great _ _ _ _ m _ h hm hn).mono ?_; rintro e w' ⟨rfl, bb⟩; (try clear k2); replace b0 := bchain b0 bb; (try replace B2 := B2.kept bb); (try replace O := O.kept bb); clear bb; (try have k2 := B2.k)))
  go_ret
  exact ⟨rfl, b0⟩
set_option maxRecDepth 100000 in
set_option maxHeartbeats 2000000 in
theorem toRxState_any (ex ct len : Int) (ag bu de : Bool) (s : Value) (zs : List Nat) (w : World) (hs : Rd w s zs) :
    Calls Try.prog 15 #[.agg #[.int .i64 ex, .int .i64 ct, .int .i64 len, s, .bool ag, .bool bu, .bool de]] w fun e w' => ∃ v', e = .returned (.agg #[.int .i64 ex, .int .i64 ct, .int .i64 len, v', .bool ag, .bool bu, .bool de]) ∧ Own w' w.heap.size v' zs ∧ Below w.heap.size w w' := by
  have b0 : Below w.heap.size w w := Below.refl _ _
  obtain ⟨a, cap, hform⟩ := hs.form
  subst hform
  go_enter Try.func15, Try.ntmps15
  go_wp2_with (first
    | ((with_reducible refine at_box 1 26 ?_); refine box_box (d := 1) rfl rfl 26 _ rfl _ rfl ?_; intro w' B1 bb; (try have nO1 := new_own O); have n1 := b0.size;  (try have l2_1 := B2.lt); (try have l3_1 := B3.lt); (try clear k1); replace b0 := bchain b0 bb;  (try replace B2 := B2.kept bb); (try replace B3 := B3.kept bb); (try replace O := O.kept bb); clear bb; (try have k1 := B1.k))
    | ((with_reducible refine at_new 2 31 ?_); refine box_new (d := 2) rfl rfl 31 rfl _ zero_rx ?_; intro w' B2 bb; (try have nO2 := new_own O); have n2 := b0.size;  (try have l1_2 := B1.lt); (try have l3_2 := B3.lt); (try clear k1); replace b0 := bchain b0 bb; (try replace B1 := B1.kept bb);  (try replace B3 := B3.kept bb); (try replace O := O.kept bb); clear bb; (try have k1 := B1.k))
    | ((with_reducible refine at_new 3 31 ?_); refine box_new (d := 3) rfl rfl 31 rfl _ zero_rx ?_; intro w' B3 bb; (try have nO3 := new_own O); have n3 := b0.size;  (try have l1_3 := B1.lt); (try have l2_3 := B2.lt); (try clear k1); replace b0 := bchain b0 bb; (try replace B1 := B1.kept bb); (try replace B2 := B2.kept bb);  (try replace O := O.kept bb); clear bb; (try have k1 := B1.k))
    | ((with_reducible refine at_load 31 ?_); refine box_load rfl 31 _ rfl _ rfl (by with_reducible assumption) Try.underlying31 rfl (by kernel_rfl) ?_)
    | ((with_reducible refine at_store 3 ?_); refine box_int rfl _ _ rfl _ _ _ rfl rfl (by with_reducible exact B3) (by simp) ?_; clear B3; intro w' B3 gg; simp only [List.setIfInBounds_toArray, List.set] at B3; (try clear k1); replace b0 := below_at b0 gg b0.size n3; (try replace B1 := B1.grown gg (Nat.ne_of_lt l1_3)); (try replace B2 := B2.grown gg (Nat.ne_of_lt l2_3)); (try replace O := put_own O gg nO3); clear gg; (try have k1 := B1.k))
    | ((with_reducible refine at_store 4 ?_); refine box_bool rfl _ _ rfl _ _ _ rfl rfl (by with_reducible exact B3) (by simp) ?_; clear B3; intro w' B3 gg; simp only [List.setIfInBounds_toArray, List.set] at B3; (try clear k1); replace b0 := below_at b0 gg b0.size n3; (try replace B1 := B1.grown gg (Nat.ne_of_lt l1_3)); (try replace B2 := B2.grown gg (Nat.ne_of_lt l2_3)); (try replace O := put_own O gg nO3); clear gg; (try have k1 := B1.k))
    | ((with_reducible refine at_store 29 ?_); refine box_part rfl 29 _ _ rfl _ _ _ rfl rfl (by with_reducible exact B3) (by kernel_rfl) (by simp) (by simp [Value.oneCell']) ?_; clear B3; intro w' B3 gg; simp only [putAt, List.setIfInBounds_toArray, List.set, Nat.reduceAdd] at B3; (try clear k1); replace b0 := below_at b0 gg b0.size n3; (try replace B1 := B1.grown gg (Nat.ne_of_lt l1_3)); (try replace B2 := B2.grown gg (Nat.ne_of_lt l2_3)); (try replace O := put_own O gg nO3); clear gg; (try have k1 := B1.k))
    | ((with_reducible refine at_store 31 ?_); refine box_store rfl 31 _ _ rfl _ _ rfl rfl (by with_reducible exact B2) (by kernel_rfl) (by rfl) (by simp [Value.oneCell']) ?_; clear B2; intro w' B2 gg; (try clear k1); replace b0 := below_at b0 gg b0.size n2; (try replace B1 := B1.grown gg (Nat.ne_of_lt l1_2)); (try replace B3 := B3.grown gg (Nat.ne_of_gt l2_3)); (try replace O := put_own O gg nO2); clear gg; (try have k1 := B1.k)))
  have q2 := B2.lt
  have q3 := B3.lt
  have hbs := b0.size
  refine (toJoin_any _ _ zs _ (hs.kept b0)).mono ?_
  rintro e w' ⟨v, rfl, O, bb⟩
  have nO2 := ne_own O q2
  have nO3 := ne_own O q3
  replace b0 := bchain b0 bb
  replace B1 := B1.kept bb
  replace B2 := B2.kept bb
  replace B3 := B3.kept bb
  clear bb k1
  have k1 := B1.k
  obtain ⟨av, cv, ev⟩ := O.form
  subst ev
  go_wp2_with (first
    | ((with_reducible refine at_box 1 26 ?_); refine box_box (d := 1) rfl rfl 26 _ rfl _ rfl ?_; intro w' B1 bb; (try have nO1 := new_own O); have n1 := b0.size;  (try have l2_1 := B2.lt); (try have l3_1 := B3.lt); (try clear k1); replace b0 := bchain b0 bb;  (try replace B2 := B2.kept bb); (try replace B3 := B3.kept bb); (try replace O := O.kept bb); clear bb; (try have k1 := B1.k))
    | ((with_reducible refine at_new 2 31 ?_); refine box_new (d := 2) rfl rfl 31 rfl _ zero_rx ?_; intro w' B2 bb; (try have nO2 := new_own O); have n2 := b0.size;  (try have l1_2 := B1.lt); (try have l3_2 := B3.lt); (try clear k1); replace b0 := bchain b0 bb; (try replace B1 := B1.kept bb);  (try replace B3 := B3.kept bb); (try replace O := O.kept bb); clear bb; (try have k1 := B1.k))
    | ((with_reducible refine at_new 3 31 ?_); refine box_new (d := 3) rfl rfl 31 rfl _ zero_rx ?_; intro w' B3 bb; (try have nO3 := new_own O); have n3 := b0.size;  (try have l1_3 := B1.lt); (try have l2_3 := B2.lt); (try clear k1); replace b0 := bchain b0 bb; (try replace B1 := B1.kept bb); (try replace B2 := B2.kept bb);  (try replace O := O.kept bb); clear bb; (try have k1 := B1.k))
    | ((with_reducible refine at_load 31 ?_); refine box_load rfl 31 _ rfl _ rfl (by with_reducible assumption) Try.underlying31 rfl (by kernel_rfl) ?_)
    | ((with_reducible refine at_store 3 ?_); refine box_int rfl _ _ rfl _ _ _ rfl rfl (by with_reducible exact B3) (by simp) ?_; clear B3; intro w' B3 gg; simp only [List.setIfInBounds_toArray, List.set] at B3; (try clear k1); replace b0 := below_at b0 gg b0.size n3; (try replace B1 := B1.grown gg (Nat.ne_of_lt l1_3)); (try replace B2 := B2.grown gg (Nat.ne_of_lt l2_3)); (try replace O := put_own O gg nO3); clear gg; (try have k1 := B1.k))
    | ((with_reducible refine at_store 4 ?_); refine box_bool rfl _ _ rfl _ _ _ rfl rfl (by with_reducible exact B3) (by simp) ?_; clear B3; intro w' B3 gg; simp only [List.setIfInBounds_toArray, List.set] at B3; (try clear k1); replace b0 := below_at b0 gg b0.size n3; (try replace B1 := B1.grown gg (Nat.ne_of_lt l1_3)); (try replace B2 := B2.grown gg (Nat.ne_of_lt l2_3)); (try replace O := put_own O gg nO3); clear gg; (try have k1 := B1.k))
    | ((with_reducible refine at_store 29 ?_); refine box_part rfl 29 _ _ rfl _ _ _ rfl rfl (by with_reducible exact B3) (by kernel_rfl) (by simp) (by simp [Value.oneCell']) ?_; clear B3; intro w' B3 gg; simp only [putAt, List.setIfInBounds_toArray, List.set, Nat.reduceAdd] at B3; (try clear k1); replace b0 := below_at b0 gg b0.size n3; (try replace B1 := B1.grown gg (Nat.ne_of_lt l1_3)); (try replace B2 := B2.grown gg (Nat.ne_of_lt l2_3)); (try replace O := put_own O gg nO3); clear gg; (try have k1 := B1.k))
    | ((with_reducible refine at_store 31 ?_); refine box_store rfl 31 _ _ rfl _ _ rfl rfl (by with_reducible exact B2) (by kernel_rfl) (by rfl) (by simp [Value.oneCell']) ?_; clear B2; intro w' B2 gg; (try clear k1); replace b0 := below_at b0 gg b0.size n2; (try replace B1 := B1.grown gg (Nat.ne_of_lt l1_2)); (try replace B3 := B3.grown gg (Nat.ne_of_gt l2_3)); (try replace O := put_own O gg nO2); clear gg; (try have k1 := B1.k)))
  refine bodyPost_ret (results_cell_row rfl _ _ _ _ _ _ _ rfl B2 Try.underlying31 rfl (by kernel_rfl)) rfl ?_
  exact ⟨_, rfl, O.base hbs, b0⟩
set_option maxRecDepth 100000 in
set_option maxHeartbeats 2000000 in
theorem eqRxState_same (ex ct len : Int) (ag bu de : Bool) (s t : Value) (zs : List Nat) (w : World) (hs : Rd w s zs) (ht : Rd w t zs) :
    Calls Try.prog 17 #[.agg #[.int .i64 ex, .int .i64 ct, .int .i64 len, s, .bool ag, .bool bu, .bool de], .agg #[.int .i64 ex, .int .i64 ct, .int .i64 len, t, .bool ag, .bool bu, .bool de]] w fun e w' => e = .returned (.bool true) ∧ Below w.heap.size w w' := by
  have b0 : Below w.heap.size w w := Below.refl _ _
  obtain ⟨a, cap, hform⟩ := hs.form
  obtain ⟨a', cap', hform'⟩ := ht.form
  subst hform hform'
  go_enter Try.func17, Try.ntmps17
  go_wp2_with (first
    | ((with_reducible refine at_box 2 31 ?_); refine box_box (d := 2) rfl rfl 31 _ rfl _ rfl ?_; intro w' B2 bb; (try have nO2 := new_own O); have n2 := b0.size;  (try have l3_2 := B3.lt); (try clear k2); (try clear k3); replace b0 := bchain b0 bb;  (try replace B3 := B3.kept bb); (try replace O := O.kept bb); clear bb; (try have k2 := B2.k); (try have k3 := B3.k))
    | ((with_reducible refine at_box 3 31 ?_); refine box_box (d := 3) rfl rfl 31 _ rfl _ rfl ?_; intro w' B3 bb; (try have nO3 := new_own O); have n3 := b0.size;  (try have l2_3 := B2.lt); (try clear k2); (try clear k3); replace b0 := bchain b0 bb; (try replace B2 := B2.kept bb);  (try replace O := O.kept bb); clear bb; (try have k2 := B2.k); (try have k3 := B3.k))
    | (go_at_call 69; refine (eqJoin_same _ _ _ zs _ (hs.kept b0) (ht.kept b0)).mono ?_; rintro e w' ⟨rfl, bb⟩; (try clear k2); (try clear k3); replace b0 := bchain b0 bb; (try replace B2 := B2.kept bb); (try replace B3 := B3.kept bb); (try replace O := O.kept bb); clear bb; (try have k2 := B2.k); (try have k3 := B3.k)))
  go_ret
  exact ⟨rfl, b0⟩
theorem zero_crx (w : World) : (zeroValue 78).run Try.prog w = .ok (.agg #[.int .i64 0, .int .i64 0, .slice none 0 0, .bool false]) w := by kernel_rfl
set_option maxRecDepth 100000 in
set_option maxHeartbeats 1000000 in
theorem szCrdRx_small (out len : Int) (de : Bool) (a : Option Addr) (n cap m : Nat) (w : World) (h : n ≤ m) (hm : m ≤ 1048576) :
    Calls Try.prog 43 #[.agg #[.int .i64 out, .int .i64 len, .slice a n cap, .bool de], .int .i64 m] w fun e w' => e = .returned (.int .i64 ((m : Int) - (n : Int))) ∧ Below w.heap.size w w' := by
  have b0 : Below w.heap.size w w := Below.refl _ _
  have h1 : ¬ (m : Int) - (n : Int) < 0 := by omega
  go_enter Try.func43, Try.ntmps43
  go_wp2_with (first
    | ((with_reducible refine at_box 2 74 ?_); refine box_box (d := 2) rfl rfl 74 _ rfl _ rfl ?_; intro w' B2 bb; (try have nO2 := new_own O); have n2 := b0.size;   (try clear k2); replace b0 := bchain b0 bb;  (try replace O := O.kept bb); clear bb; (try have k2 := B2.k))
    | (go_at_call 61; refine (szJoin_small _ _ _ _ m _ h hm).mono ?_; rintro e w' ⟨rfl, bb⟩; (try clear k2); replace b0 := bchain b0 bb; (try replace B2 := B2.kept bb); (try replace O := O.kept bb); clear bb; (try have k2 := B2.k)))
  go_ret
  exact ⟨rfl, b0⟩
set_option maxRecDepth 100000 in
set_option maxHeartbeats 1000000 in
theorem szCrdRx_great (out len : Int) (de : Bool) (a : Option Addr) (n cap m : Nat) (w : World) (h : ¬ n ≤ m) (hm : m ≤ 1048576) (hn : n ≤ maxLen) :
    Calls Try.prog 43 #[.agg #[.int .i64 out, .int .i64 len, .slice a n cap, .bool de], .int .i64 m] w fun e w' => e = .returned (.int .i64 (-1)) ∧ Below w.heap.size w w' := by
  have b0 : Below w.heap.size w w := Below.refl _ _
  go_enter Try.func43, Try.ntmps43
  go_wp2_with (first
    | ((with_reducible refine at_box 2 74 ?_); refine box_box (d := 2) rfl rfl 74 _ rfl _ rfl ?_; intro w' B2 bb; (try have nO2 := new_own O); have n2 := b0.size;   (try clear k2); replace b0 := bchain b0 bb;  (try replace O := O.kept bb); clear bb; (try have k2 := B2.k))
    | (go_at_call 61; refine (szJoin_great _ _ _ _ m _ h hm hn).mono ?_; rintro e w' ⟨rfl, bb⟩; (try clear k2); replace b0 := bchain b0 bb; (try replace B2 := B2.kept bb); (try replace O := O.kept bb); clear bb; (try have k2 := B2.k)))
  go_ret
  exact ⟨rfl, b0⟩
set_option maxRecDepth 100000 in
set_option maxHeartbeats 2000000 in
theorem toCrdRx_any (out len : Int) (de : Bool) (s : Value) (zs : List Nat) (w : World) (hs : Rd w s zs) :
    Calls Try.prog 45 #[.agg #[.int .i64 out, .int .i64 len, s, .bool de]] w fun e w' => ∃ v', e = .returned (.agg #[.int .i64 out, .int .i64 len, v', .bool de]) ∧ Own w' w.heap.size v' zs ∧ Below w.heap.size w w' := by
  have b0 : Below w.heap.size w w := Below.refl _ _
  obtain ⟨a, cap, hform⟩ := hs.form
  subst hform
  go_enter Try.func45, Try.ntmps45
  go_wp2_with (first
    | ((with_reducible refine at_box 1 74 ?_); refine box_box (d := 1) rfl rfl 74 _ rfl _ rfl ?_; intro w' B1 bb; (try have nO1 := new_own O); have n1 := b0.size;  (try have l2_1 := B2.lt); (try have l3_1 := B3.lt); (try clear k1); replace b0 := bchain b0 bb;  (try replace B2 := B2.kept bb); (try replace B3 := B3.kept bb); (try replace O := O.kept bb); clear bb; (try have k1 := B1.k))
    | ((with_reducible refine at_new 2 78 ?_); refine box_new (d := 2) rfl rfl 78 rfl _ zero_crx ?_; intro w' B2 bb; (try have nO2 := new_own O); have n2 := b0.size;  (try have l1_2 := B1.lt); (try have l3_2 := B3.lt); (try clear k1); replace b0 := bchain b0 bb; (try replace B1 := B1.kept bb);  (try replace B3 := B3.kept bb); (try replace O := O.kept bb); clear bb; (try have k1 := B1.k))
    | ((with_reducible refine at_new 3 78 ?_); refine box_new (d := 3) rfl rfl 78 rfl _ zero_crx ?_; intro w' B3 bb; (try have nO3 := new_own O); have n3 := b0.size;  (try have l1_3 := B1.lt); (try have l2_3 := B2.lt); (try clear k1); replace b0 := bchain b0 bb; (try replace B1 := B1.kept bb); (try replace B2 := B2.kept bb);  (try replace O := O.kept bb); clear bb; (try have k1 := B1.k))
    | ((with_reducible refine at_load 78 ?_); refine box_load rfl 78 _ rfl _ rfl (by with_reducible assumption) Try.underlying78 rfl (by kernel_rfl) ?_)
    | ((with_reducible refine at_store 3 ?_); refine box_int rfl _ _ rfl _ _ _ rfl rfl (by with_reducible exact B3) (by simp) ?_; clear B3; intro w' B3 gg; simp only [List.setIfInBounds_toArray, List.set] at B3; (try clear k1); replace b0 := below_at b0 gg b0.size n3; (try replace B1 := B1.grown gg (Nat.ne_of_lt l1_3)); (try replace B2 := B2.grown gg (Nat.ne_of_lt l2_3)); (try replace O := put_own O gg nO3); clear gg; (try have k1 := B1.k))
    | ((with_reducible refine at_store 4 ?_); refine box_bool rfl _ _ rfl _ _ _ rfl rfl (by with_reducible exact B3) (by simp) ?_; clear B3; intro w' B3 gg; simp only [List.setIfInBounds_toArray, List.set] at B3; (try clear k1); replace b0 := below_at b0 gg b0.size n3; (try replace B1 := B1.grown gg (Nat.ne_of_lt l1_3)); (try replace B2 := B2.grown gg (Nat.ne_of_lt l2_3)); (try replace O := put_own O gg nO3); clear gg; (try have k1 := B1.k))
    | ((with_reducible refine at_store 29 ?_); refine box_part rfl 29 _ _ rfl _ _ _ rfl rfl (by with_reducible exact B3) (by kernel_rfl) (by simp) (by simp [Value.oneCell']) ?_; clear B3; intro w' B3 gg; simp only [putAt, List.setIfInBounds_toArray, List.set, Nat.reduceAdd] at B3; (try clear k1); replace b0 := below_at b0 gg b0.size n3; (try replace B1 := B1.grown gg (Nat.ne_of_lt l1_3)); (try replace B2 := B2.grown gg (Nat.ne_of_lt l2_3)); (try replace O := put_own O gg nO3); clear gg; (try have k1 := B1.k))
    | ((with_reducible refine at_store 78 ?_); refine box_store rfl 78 _ _ rfl _ _ rfl rfl (by with_reducible exact B2) (by kernel_rfl) (by rfl) (by simp [Value.oneCell']) ?_; clear B2; intro w' B2 gg; (try clear k1); replace b0 := below_at b0 gg b0.size n2; (try replace B1 := B1.grown gg (Nat.ne_of_lt l1_2)); (try replace B3 := B3.grown gg (Nat.ne_of_gt l2_3)); (try replace O := put_own O gg nO2); clear gg; (try have k1 := B1.k)))
  have q2 := B2.lt
  have q3 := B3.lt
  have hbs := b0.size
  refine (toJoin_any _ _ zs _ (hs.kept b0)).mono ?_
  rintro e w' ⟨v, rfl, O, bb⟩
  have nO2 := ne_own O q2
  have nO3 := ne_own O q3
  replace b0 := bchain b0 bb
  replace B1 := B1.kept bb
  replace B2 := B2.kept bb
  replace B3 := B3.kept bb
  clear bb k1
  have k1 := B1.k
  obtain ⟨av, cv, ev⟩ := O.form
  subst ev
  go_wp2_with (first
    | ((with_reducible refine at_box 1 74 ?_); refine box_box (d := 1) rfl rfl 74 _ rfl _ rfl ?_; intro w' B1 bb; (try have nO1 := new_own O); have n1 := b0.size;  (try have l2_1 := B2.lt); (try have l3_1 := B3.lt); (try clear k1); replace b0 := bchain b0 bb;  (try replace B2 := B2.kept bb); (try replace B3 := B3.kept bb); (try replace O := O.kept bb); clear bb; (try have k1 := B1.k))
    | ((with_reducible refine at_new 2 78 ?_); refine box_new (d := 2) rfl rfl 78 rfl _ zero_crx ?_; intro w' B2 bb; (try have nO2 := new_own O); have n2 := b0.size;  (try have l1_2 := B1.lt); (try have l3_2 := B3.lt); (try clear k1); replace b0 := bchain b0 bb; (try replace B1 := B1.kept bb);  (try replace B3 := B3.kept bb); (try replace O := O.kept bb); clear bb; (try have k1 := B1.k))
    | ((with_reducible refine at_new 3 78 ?_); refine box_new (d := 3) rfl rfl 78 rfl _ zero_crx ?_; intro w' B3 bb; (try have nO3 := new_own O); have n3 := b0.size;  (try have l1_3 := B1.lt); (try have l2_3 := B2.lt); (try clear k1); replace b0 := bchain b0 bb; (try replace B1 := B1.kept bb); (try replace B2 := B2.kept bb);  (try replace O := O.kept bb); clear bb; (try have k1 := B1.k))
    | ((with_reducible refine at_load 78 ?_); refine box_load rfl 78 _ rfl _ rfl (by with_reducible assumption) Try.underlying78 rfl (by kernel_rfl) ?_)
    | ((with_reducible refine at_store 3 ?_); refine box_int rfl _ _ rfl _ _ _ rfl rfl (by with_reducible exact B3) (by simp) ?_; clear B3; intro w' B3 gg; simp only [List.setIfInBounds_toArray, List.set] at B3; (try clear k1); replace b0 := below_at b0 gg b0.size n3; (try replace B1 := B1.grown gg (Nat.ne_of_lt l1_3)); (try replace B2 := B2.grown gg (Nat.ne_of_lt l2_3)); (try replace O := put_own O gg nO3); clear gg; (try have k1 := B1.k))
    | ((with_reducible refine at_store 4 ?_); refine box_bool rfl _ _ rfl _ _ _ rfl rfl (by with_reducible exact B3) (by simp) ?_; clear B3; intro w' B3 gg; simp only [List.setIfInBounds_toArray, List.set] at B3; (try clear k1); replace b0 := below_at b0 gg b0.size n3; (try replace B1 := B1.grown gg (Nat.ne_of_lt l1_3)); (try replace B2 := B2.grown gg (Nat.ne_of_lt l2_3)); (try replace O := put_own O gg nO3); clear gg; (try have k1 := B1.k))
    | ((with_reducible refine at_store 29 ?_); refine box_part rfl 29 _ _ rfl _ _ _ rfl rfl (by with_reducible exact B3) (by kernel_rfl) (by simp) (by simp [Value.oneCell']) ?_; clear B3; intro w' B3 gg; simp only [putAt, List.setIfInBounds_toArray, List.set, Nat.reduceAdd] at B3; (try clear k1); replace b0 := below_at b0 gg b0.size n3; (try replace B1 := B1.grown gg (Nat.ne_of_lt l1_3)); (try replace B2 := B2.grown gg (Nat.ne_of_lt l2_3)); (try replace O := put_own O gg nO3); clear gg; (try have k1 := B1.k))
    | ((with_reducible refine at_store 78 ?_); refine box_store rfl 78 _ _ rfl _ _ rfl rfl (by with_reducible exact B2) (by kernel_rfl) (by rfl) (by simp [Value.oneCell']) ?_; clear B2; intro w' B2 gg; (try clear k1); replace b0 := below_at b0 gg b0.size n2; (try replace B1 := B1.grown gg (Nat.ne_of_lt l1_2)); (try replace B3 := B3.grown gg (Nat.ne_of_gt l2_3)); (try replace O := put_own O gg nO2); clear gg; (try have k1 := B1.k)))
  refine bodyPost_ret (results_cell_row rfl _ _ _ _ _ _ _ rfl B2 Try.underlying78 rfl (by kernel_rfl)) rfl ?_
  exact ⟨_, rfl, O.base hbs, b0⟩
set_option maxRecDepth 100000 in
set_option maxHeartbeats 2000000 in
theorem eqCrdRx_same (out len : Int) (de : Bool) (s t : Value) (zs : List Nat) (w : World) (hs : Rd w s zs) (ht : Rd w t zs) :
    Calls Try.prog 47 #[.agg #[.int .i64 out, .int .i64 len, s, .bool de], .agg #[.int .i64 out, .int .i64 len, t, .bool de]] w fun e w' => e = .returned (.bool true) ∧ Below w.heap.size w w' := by
  have b0 : Below w.heap.size w w := Below.refl _ _
  obtain ⟨a, cap, hform⟩ := hs.form
  obtain ⟨a', cap', hform'⟩ := ht.form
  subst hform hform'
  go_enter Try.func47, Try.ntmps47
  go_wp2_with (first
    | ((with_reducible refine at_box 2 78 ?_); refine box_box (d := 2) rfl rfl 78 _ rfl _ rfl ?_; intro w' B2 bb; (try have nO2 := new_own O); have n2 := b0.size;  (try have l3_2 := B3.lt); (try clear k2); (try clear k3); replace b0 := bchain b0 bb;  (try replace B3 := B3.kept bb); (try replace O := O.kept bb); clear bb; (try have k2 := B2.k); (try have k3 := B3.k))
    | ((with_reducible refine at_box 3 78 ?_); refine box_box (d := 3) rfl rfl 78 _ rfl _ rfl ?_; intro w' B3 bb; (try have nO3 := new_own O); have n3 := b0.size;  (try have l2_3 := B2.lt); (try clear k2); (try clear k3); replace b0 := bchain b0 bb; (try replace B2 := B2.kept bb);  (try replace O := O.kept bb); clear bb; (try have k2 := B2.k); (try have k3 := B3.k))
    | (go_at_call 69; refine (eqJoin_same _ _ _ zs _ (hs.kept b0) (ht.kept b0)).mono ?_; rintro e w' ⟨rfl, bb⟩; (try clear k2); (try clear k3); replace b0 := bchain b0 bb; (try replace B2 := B2.kept bb); (try replace B3 := B3.kept bb); (try replace O := O.kept bb); clear bb; (try have k2 := B2.k); (try have k3 := B3.k)))
  go_ret
  exact ⟨rfl, b0⟩
end Go.Proofs.Ytabidedpaijgbaa
