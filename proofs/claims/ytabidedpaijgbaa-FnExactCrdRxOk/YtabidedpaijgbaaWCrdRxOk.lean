/- The law of CrdRxOk returns true at every argument. -/
import Derived.Test.YtabidedpaijgbaaXRx
import Derived.Test.YtabidedpaijgbaaRxLaw
namespace Go.Proofs.Ytabidedpaijgbaa.fnExactCrdRxOk
open Go.RowKit
set_option maxRecDepth 100000 in
set_option maxHeartbeats 4000000 in
theorem small (out len : Int) (de : Bool) (a : Option Addr) (bs : List Nat) (cap : Nat) (w : World) (hl : bs.length ≤ 1048576) (hs : Rd w (.slice a bs.length cap) bs) :
    Calls Try.prog 9 #[.agg #[.int .i64 out, .int .i64 len, .slice a bs.length cap, .bool de]] w fun e w' => e = .returned (.bool true) ∧ Below w.heap.size w w' := by
  have hby := hs.1
  have hneg : ¬ (1048576 : Int) - (bs.length : Int) < 0 := by omega
  have b0 : Below w.heap.size w w := Below.refl _ _
  go_enter Try.func9, Try.ntmps9
  go_wp2_with (first
    | ((with_reducible refine at_box 1 74 ?_); refine box_box (d := 1) rfl rfl 74 _ rfl _ rfl ?_; intro w' B1 bb; (try have nO1 := new_own O); have n1 := b0.size;  (try have l5_1 := B5.lt);  replace b0 := bchain b0 bb;  (try replace B5 := B5.kept bb); (try replace O := O.kept bb); clear bb; skip)
    | ((with_reducible refine at_new 5 78 ?_); refine box_new (d := 5) rfl rfl 78 rfl _ zero_crx ?_; intro w' B5 bb; (try have nO5 := new_own O); have n5 := b0.size;  (try have l1_5 := B1.lt);  replace b0 := bchain b0 bb; (try replace B1 := B1.kept bb);  (try replace O := O.kept bb); clear bb; skip)
    | ((with_reducible refine at_load 74 ?_); refine box_load rfl 74 _ rfl _ rfl (by with_reducible assumption) Try.underlying74 rfl (by kernel_rfl) ?_)
    | ((with_reducible refine at_load 78 ?_); refine box_load rfl 78 _ rfl _ rfl (by with_reducible assumption) Try.underlying78 rfl (by kernel_rfl) ?_)
    | ((with_reducible refine at_store 78 ?_); refine box_store rfl 78 _ _ rfl _ _ rfl rfl (by with_reducible exact B5) (by kernel_rfl) (by rfl) (by simp [Value.oneCell']) ?_; clear B5; intro w' B5 gg;  replace b0 := below_at b0 gg b0.size n5; (try replace B1 := B1.grown gg (Nat.ne_of_lt l1_5)); (try replace O := put_own O gg nO5); clear gg; skip))
  refine (szCrdRx_small _ _ _ _ _ _ 1048576 _ hl (by omega)).mono ?_
  rintro e w' ⟨rfl, bb⟩
  replace b0 := bchain b0 bb
  replace B1 := B1.kept bb
  clear bb
  go_wp2_with (first
    | ((with_reducible refine at_box 1 74 ?_); refine box_box (d := 1) rfl rfl 74 _ rfl _ rfl ?_; intro w' B1 bb; (try have nO1 := new_own O); have n1 := b0.size;  (try have l5_1 := B5.lt);  replace b0 := bchain b0 bb;  (try replace B5 := B5.kept bb); (try replace O := O.kept bb); clear bb; skip)
    | ((with_reducible refine at_new 5 78 ?_); refine box_new (d := 5) rfl rfl 78 rfl _ zero_crx ?_; intro w' B5 bb; (try have nO5 := new_own O); have n5 := b0.size;  (try have l1_5 := B1.lt);  replace b0 := bchain b0 bb; (try replace B1 := B1.kept bb);  (try replace O := O.kept bb); clear bb; skip)
    | ((with_reducible refine at_load 74 ?_); refine box_load rfl 74 _ rfl _ rfl (by with_reducible assumption) Try.underlying74 rfl (by kernel_rfl) ?_)
    | ((with_reducible refine at_load 78 ?_); refine box_load rfl 78 _ rfl _ rfl (by with_reducible assumption) Try.underlying78 rfl (by kernel_rfl) ?_)
    | ((with_reducible refine at_store 78 ?_); refine box_store rfl 78 _ _ rfl _ _ rfl rfl (by with_reducible exact B5) (by kernel_rfl) (by rfl) (by simp [Value.oneCell']) ?_; clear B5; intro w' B5 gg;  replace b0 := below_at b0 gg b0.size n5; (try replace B1 := B1.grown gg (Nat.ne_of_lt l1_5)); (try replace O := put_own O gg nO5); clear gg; skip))
  refine (toCrdRx_any _ _ _ _ bs _ (hs.kept b0)).mono ?_
  rintro e w' ⟨v, rfl, O0, bb⟩
  replace b0 := bchain b0 bb
  replace B1 := B1.kept bb
  clear bb
  obtain ⟨av, cv, ev⟩ := O0.form
  subst ev
  clear O0
  go_wp2_with (first
    | ((with_reducible refine at_box 1 74 ?_); refine box_box (d := 1) rfl rfl 74 _ rfl _ rfl ?_; intro w' B1 bb; (try have nO1 := new_own O); have n1 := b0.size;  (try have l5_1 := B5.lt);  replace b0 := bchain b0 bb;  (try replace B5 := B5.kept bb); (try replace O := O.kept bb); clear bb; skip)
    | ((with_reducible refine at_new 5 78 ?_); refine box_new (d := 5) rfl rfl 78 rfl _ zero_crx ?_; intro w' B5 bb; (try have nO5 := new_own O); have n5 := b0.size;  (try have l1_5 := B1.lt);  replace b0 := bchain b0 bb; (try replace B1 := B1.kept bb);  (try replace O := O.kept bb); clear bb; skip)
    | ((with_reducible refine at_load 74 ?_); refine box_load rfl 74 _ rfl _ rfl (by with_reducible assumption) Try.underlying74 rfl (by kernel_rfl) ?_)
    | ((with_reducible refine at_load 78 ?_); refine box_load rfl 78 _ rfl _ rfl (by with_reducible assumption) Try.underlying78 rfl (by kernel_rfl) ?_)
    | ((with_reducible refine at_store 78 ?_); refine box_store rfl 78 _ _ rfl _ _ rfl rfl (by with_reducible exact B5) (by kernel_rfl) (by rfl) (by simp [Value.oneCell']) ?_; clear B5; intro w' B5 gg;  replace b0 := below_at b0 gg b0.size n5; (try replace B1 := B1.grown gg (Nat.ne_of_lt l1_5)); (try replace O := put_own O gg nO5); clear gg; skip))
  refine (spec_crx _ _ _ _ _ _ _).mono ?_
  rintro e w' ⟨rfl, bb⟩
  replace b0 := bchain b0 bb
  replace B1 := B1.kept bb
  clear bb
  go_wp2_with (first
    | ((with_reducible refine at_box 1 74 ?_); refine box_box (d := 1) rfl rfl 74 _ rfl _ rfl ?_; intro w' B1 bb; (try have nO1 := new_own O); have n1 := b0.size;  (try have l5_1 := B5.lt);  replace b0 := bchain b0 bb;  (try replace B5 := B5.kept bb); (try replace O := O.kept bb); clear bb; skip)
    | ((with_reducible refine at_new 5 78 ?_); refine box_new (d := 5) rfl rfl 78 rfl _ zero_crx ?_; intro w' B5 bb; (try have nO5 := new_own O); have n5 := b0.size;  (try have l1_5 := B1.lt);  replace b0 := bchain b0 bb; (try replace B1 := B1.kept bb);  (try replace O := O.kept bb); clear bb; skip)
    | ((with_reducible refine at_load 74 ?_); refine box_load rfl 74 _ rfl _ rfl (by with_reducible assumption) Try.underlying74 rfl (by kernel_rfl) ?_)
    | ((with_reducible refine at_load 78 ?_); refine box_load rfl 78 _ rfl _ rfl (by with_reducible assumption) Try.underlying78 rfl (by kernel_rfl) ?_)
    | ((with_reducible refine at_store 78 ?_); refine box_store rfl 78 _ _ rfl _ _ rfl rfl (by with_reducible exact B5) (by kernel_rfl) (by rfl) (by simp [Value.oneCell']) ?_; clear B5; intro w' B5 gg;  replace b0 := below_at b0 gg b0.size n5; (try replace B1 := B1.grown gg (Nat.ne_of_lt l1_5)); (try replace O := put_own O gg nO5); clear gg; skip))
  refine (toCrdRx_any _ _ _ _ bs _ (hs.kept b0)).mono ?_
  rintro e w' ⟨v, rfl, O, bb⟩
  replace b0 := bchain b0 bb
  replace B1 := B1.kept bb
  clear bb
  obtain ⟨av, cv, ev⟩ := O.form
  subst ev
  go_wp2_with (first
    | ((with_reducible refine at_box 1 74 ?_); refine box_box (d := 1) rfl rfl 74 _ rfl _ rfl ?_; intro w' B1 bb; (try have nO1 := new_own O); have n1 := b0.size;  (try have l5_1 := B5.lt);  replace b0 := bchain b0 bb;  (try replace B5 := B5.kept bb); (try replace O := O.kept bb); clear bb; skip)
    | ((with_reducible refine at_new 5 78 ?_); refine box_new (d := 5) rfl rfl 78 rfl _ zero_crx ?_; intro w' B5 bb; (try have nO5 := new_own O); have n5 := b0.size;  (try have l1_5 := B1.lt);  replace b0 := bchain b0 bb; (try replace B1 := B1.kept bb);  (try replace O := O.kept bb); clear bb; skip)
    | ((with_reducible refine at_load 74 ?_); refine box_load rfl 74 _ rfl _ rfl (by with_reducible assumption) Try.underlying74 rfl (by kernel_rfl) ?_)
    | ((with_reducible refine at_load 78 ?_); refine box_load rfl 78 _ rfl _ rfl (by with_reducible assumption) Try.underlying78 rfl (by kernel_rfl) ?_)
    | ((with_reducible refine at_store 78 ?_); refine box_store rfl 78 _ _ rfl _ _ rfl rfl (by with_reducible exact B5) (by kernel_rfl) (by rfl) (by simp [Value.oneCell']) ?_; clear B5; intro w' B5 gg;  replace b0 := below_at b0 gg b0.size n5; (try replace B1 := B1.grown gg (Nat.ne_of_lt l1_5)); (try replace O := put_own O gg nO5); clear gg; skip))
  refine (impl_crx _ _ _ _ _ _ _).mono ?_
  rintro e w' ⟨rfl, bb⟩
  replace b0 := bchain b0 bb
  replace B1 := B1.kept bb
  replace B5 := B5.kept bb
  replace O := O.kept bb
  clear bb
  go_wp2_with fail
  replace b0 := b0.drew
  replace B1 := B1.drew
  replace B5 := B5.drew
  replace O := drew_own O
  refine region_by (fun wx => Bl wx _ #[.int .i64 out, .int .i64 len, .slice a bs.length cap, .bool de] 74 ∧ Bl wx _ #[.int .i64 out, .int .i64 len, .slice av bs.length cv, .bool de] 78) 5 [(0, true), (1, true), (2, false), (3, false), (4, true)] ⟨none, .assign (.tmp 0), 0, "", #[], none⟩ (by kernel_rfl) (by kernel_rfl) ⟨B1, B5⟩ (fun x _ _ _ _ h => by cases x <;> exact h) ?_
  simp only [arrange, List.map_cons, List.map_nil, List.getD_cons_zero, List.getD_cons_succ]
  generalize World.drew _ = dw at b0 B1 B5 O ⊢
  refine by_load rfl 78 _ rfl _ rfl (fun _ h => h.2) Try.underlying78 rfl (by kernel_rfl) ?_
  simp only [Act.put, List.setIfInBounds_toArray, List.set]
  refine by_load rfl 74 _ rfl _ rfl (fun _ h => h.1) Try.underlying74 rfl (by kernel_rfl) ?_
  simp only [Act.put, List.setIfInBounds_toArray, List.set]
  refine by_wpg rfl (by rfl) ?_
  unfold Oper.wp
  rw [run_c1 rfl rfl (fun _ _ => by kernel_rfl)]
  refine (toCrdRx_any _ _ _ _ bs _ (hs.kept b0)).mono ?_
  rintro e w' ⟨v2, rfl, O2, bb⟩
  replace b0 := bchain b0 bb
  replace B1 := B1.kept bb
  replace B5 := B5.kept bb
  replace O := O.kept bb
  clear bb
  refine ⟨fun _ => ⟨B1, B5⟩, ?_⟩
  simp only [Act.put, List.setIfInBounds_toArray, List.set]
  refine by_wpg rfl (by rfl) ?_
  unfold Oper.wp
  rw [run_c2 rfl rfl rfl (fun _ _ => by kernel_rfl)]
  refine (eqCrdRx_same _ _ _ _ _ bs _ (O.rd hby (by omega)) (O2.rd hby (by omega))).mono ?_
  rintro e w' ⟨rfl, bb⟩
  replace b0 := bchain b0 bb
  replace B1 := B1.kept bb
  replace B5 := B5.kept bb
  clear bb
  refine ⟨fun _ => ⟨B1, B5⟩, ?_⟩
  simp only [Act.put, List.setIfInBounds_toArray, List.set]
  refine by_rung (by rfl) (.bool false) (fun _ _ => by simp [execOp, go_sem]) ?_
  simp only [Act.put, List.setIfInBounds_toArray, List.set]
  refine by_nil ?_
  go_wp2
  go_ret
  exact ⟨rfl, b0⟩
set_option maxRecDepth 100000 in
set_option maxHeartbeats 2000000 in
theorem great (out len : Int) (de : Bool) (a : Option Addr) (n cap : Nat) (w : World) (h : ¬ n ≤ 1048576) (hm : n ≤ maxLen) :
    Calls Try.prog 9 #[.agg #[.int .i64 out, .int .i64 len, .slice a n cap, .bool de]] w fun e w' => e = .returned (.bool true) ∧ Below w.heap.size w w' := by
  have b0 : Below w.heap.size w w := Below.refl _ _
  go_enter Try.func9, Try.ntmps9
  go_wp2_with (first
    | ((with_reducible refine at_box 1 74 ?_); refine box_box (d := 1) rfl rfl 74 _ rfl _ rfl ?_; intro w' B1 bb; (try have nO1 := new_own O); have n1 := b0.size;  (try have l5_1 := B5.lt);  replace b0 := bchain b0 bb;  (try replace B5 := B5.kept bb); (try replace O := O.kept bb); clear bb; skip)
    | ((with_reducible refine at_new 5 78 ?_); refine box_new (d := 5) rfl rfl 78 rfl _ zero_crx ?_; intro w' B5 bb; (try have nO5 := new_own O); have n5 := b0.size;  (try have l1_5 := B1.lt);  replace b0 := bchain b0 bb; (try replace B1 := B1.kept bb);  (try replace O := O.kept bb); clear bb; skip)
    | ((with_reducible refine at_load 74 ?_); refine box_load rfl 74 _ rfl _ rfl (by with_reducible assumption) Try.underlying74 rfl (by kernel_rfl) ?_)
    | ((with_reducible refine at_load 78 ?_); refine box_load rfl 78 _ rfl _ rfl (by with_reducible assumption) Try.underlying78 rfl (by kernel_rfl) ?_)
    | ((with_reducible refine at_store 78 ?_); refine box_store rfl 78 _ _ rfl _ _ rfl rfl (by with_reducible exact B5) (by kernel_rfl) (by rfl) (by simp [Value.oneCell']) ?_; clear B5; intro w' B5 gg;  replace b0 := below_at b0 gg b0.size n5; (try replace B1 := B1.grown gg (Nat.ne_of_lt l1_5)); (try replace O := put_own O gg nO5); clear gg; skip)
    | (go_at_call 43; refine (szCrdRx_great _ _ _ _ _ _ 1048576 _ h (by omega) hm).mono ?_; rintro e w' ⟨rfl, bb⟩;  replace b0 := bchain b0 bb; (try replace B1 := B1.kept bb); (try replace B5 := B5.kept bb); (try replace O := O.kept bb); clear bb; skip))
  go_ret
  exact ⟨rfl, b0⟩
theorem walk (out : Int) (len : Int) (a : Option Addr) (n cap : Nat) (z : List Int) (de : Bool) (w : World) (w0 : IsRow .u8 w a n cap z) :
    Calls Try.prog 9 #[.agg #[.int .i64 out, .int .i64 len, .slice a n cap, .bool de]] w fun e w' => e = .returned (.bool true) ∧ Below w.heap.size w w' := by
  by_cases h : n ≤ 1048576
  · obtain ⟨bs, hR, hn⟩ := w0.rd (by omega)
    subst hn
    exact small out len de a bs cap w h hR
  · exact great out len de a n cap w h (by
      rcases w0 with ⟨_, rfl, _⟩ | ⟨x, _, h1, h2, _⟩
      · simp [maxLen]
      · omega)
end Go.Proofs.Ytabidedpaijgbaa.fnExactCrdRxOk
