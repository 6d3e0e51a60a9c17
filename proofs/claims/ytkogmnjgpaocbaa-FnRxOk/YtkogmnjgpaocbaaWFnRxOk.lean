/- The law of RxOk, promise 38, returns true at every code. -/
import Derived.Test.YtkogmnjgpaocbaaDrawRxs
import Derived.Test.YtkogmnjgpaocbaaLiOk
import Derived.RowKit3
namespace Go.Proofs.Ytkogmnjgpaocbaa.fnRxOk
open Go.RowKit
theorem run_fa {ρ : Operand → Value} {w : World} {d : Option Tmp} {t : TypeId} {pos : String} {af : Array Edge} {gd : Option (Nat × Bool)} {x : Operand} {g : Nat} (hx : ρ x = .pointer (some ⟨g, 0, none⟩)) : (execOp ρ ⟨d, .fieldAddr 26 x 1, t, pos, af, gd⟩).run Try.prog w = .ok (.value (.pointer (some ⟨g, 1, none⟩))) w := by
  simp [execOp, hx, go_sem]
set_option maxRecDepth 100000 in
set_option maxHeartbeats 4000000 in
theorem small (a0 : Option Addr) (len0 cap0 : Nat) (cz : List Nat) (w : World) (hs0 : ¬ (1048576 : Int) < (len0 : Int)) (hR0 : Rd w (.slice a0 len0 cap0) cz) :
    Calls Try.prog 3 #[.slice a0 len0 cap0] w fun e w' => e = .returned (.bool true) ∧ Below w.heap.size w w' := by
  have b0 : Below w.heap.size w w := Below.refl _ _
  go_enter Try.func3, Try.ntmps3
  go_wp2_with fail
  refine (drawRx_any _ cz _ hR0).mono ?_
  rintro e w1 ⟨ex, ct, len, a, k, cap, ag, bu, de, rfl, bb⟩
  replace b0 := bchain b0 bb
  clear bb hR0
  cases hj : rxB ex ct len k
  · go_wp2_with (first
      | ((with_reducible refine at_new 3 26 ?_); refine box_new (d := 3) rfl rfl 26 rfl _ zero_rx ?_; intro w' B3 bb; have n3 := b0.size;  (try have l5_3 := B5.lt); (try have l6_3 := B6.lt); (try clear k3); replace b0 := bchain b0 bb;  (try replace B5 := B5.kept bb); (try replace B6 := B6.kept bb); clear bb; (try have k3 := B3.k))
      | ((with_reducible refine at_new 5 26 ?_); refine box_new (d := 5) rfl rfl 26 rfl _ zero_rx ?_; intro w' B5 bb; have n5 := b0.size;  (try have l3_5 := B3.lt); (try have l6_5 := B6.lt); (try clear k3); replace b0 := bchain b0 bb; (try replace B3 := B3.kept bb);  (try replace B6 := B6.kept bb); clear bb; (try have k3 := B3.k))
      | ((with_reducible refine at_new 6 26 ?_); refine box_new (d := 6) rfl rfl 26 rfl _ zero_rx ?_; intro w' B6 bb; have n6 := b0.size;  (try have l3_6 := B3.lt); (try have l5_6 := B5.lt); (try clear k3); replace b0 := bchain b0 bb; (try replace B3 := B3.kept bb); (try replace B5 := B5.kept bb);  clear bb; (try have k3 := B3.k))
      | ((with_reducible refine at_load 26 ?_); refine box_load rfl 26 _ rfl _ rfl (by with_reducible assumption) Try.underlying26 rfl (by kernel_rfl) ?_)
      | ((with_reducible refine at_store 26 ?_); refine box_store rfl 26 _ _ rfl _ _ rfl rfl (by with_reducible exact B3) (by kernel_rfl) (by rfl) (by simp [Value.oneCell']) ?_; clear B3; intro w' B3 gg; (try clear k3); replace b0 := below_at b0 gg b0.size n3; (try replace B5 := B5.grown gg (Nat.ne_of_gt l3_5)); (try replace B6 := B6.grown gg (Nat.ne_of_gt l3_6)); clear gg; (try have k3 := B3.k))
      | ((with_reducible refine at_store 26 ?_); refine box_store rfl 26 _ _ rfl _ _ rfl rfl (by with_reducible exact B5) (by kernel_rfl) (by rfl) (by simp [Value.oneCell']) ?_; clear B5; intro w' B5 gg; (try clear k3); replace b0 := below_at b0 gg b0.size n5; (try replace B3 := B3.grown gg (Nat.ne_of_lt l3_5)); (try replace B6 := B6.grown gg (Nat.ne_of_gt l5_6)); clear gg; (try have k3 := B3.k))
      | ((with_reducible refine at_store 26 ?_); refine box_store rfl 26 _ _ rfl _ _ rfl rfl (by with_reducible exact B6) (by kernel_rfl) (by rfl) (by simp [Value.oneCell']) ?_; clear B6; intro w' B6 gg; (try clear k3); replace b0 := below_at b0 gg b0.size n6; (try replace B3 := B3.grown gg (Nat.ne_of_lt l3_6)); (try replace B5 := B5.grown gg (Nat.ne_of_lt l5_6)); clear gg; (try have k3 := B3.k))
      | ((with_reducible refine at_store 3 ?_); refine box_int rfl _ _ rfl _ _ _ rfl rfl (by with_reducible exact B5) (by simp) ?_; clear B5; intro w' B5 gg; simp only [List.setIfInBounds_toArray, List.set] at B5; (try clear k3); replace b0 := below_at b0 gg b0.size n5; (try replace B3 := B3.grown gg (Nat.ne_of_lt l3_5)); (try replace B6 := B6.grown gg (Nat.ne_of_gt l5_6)); clear gg; (try have k3 := B3.k))
      | ((with_reducible refine at_store 3 ?_); refine box_int rfl _ _ rfl _ _ _ rfl rfl (by with_reducible exact B6) (by simp) ?_; clear B6; intro w' B6 gg; simp only [List.setIfInBounds_toArray, List.set] at B6; (try clear k3); replace b0 := below_at b0 gg b0.size n6; (try replace B3 := B3.grown gg (Nat.ne_of_lt l3_6)); (try replace B5 := B5.grown gg (Nat.ne_of_lt l5_6)); clear gg; (try have k3 := B3.k))
      | (go_at_call 14; refine (impl_rx _ _ _ _ _ _ _ _ _ _).mono ?_; rintro e w' ⟨rfl, bb⟩; rw [hj]; (try clear k3); replace b0 := bchain b0 bb; (try replace B3 := B3.kept bb); (try replace B5 := B5.kept bb); (try replace B6 := B6.kept bb); clear bb; (try have k3 := B3.k))
      | (go_at_call 15; refine (spec_rx _ _ _ _ _ _ _ _ _ _).mono ?_; rintro e w' ⟨rfl, bb⟩; rw [hj]; (try clear k3); replace b0 := bchain b0 bb; (try replace B3 := B3.kept bb); (try replace B5 := B5.kept bb); (try replace B6 := B6.kept bb); clear bb; (try have k3 := B3.k))
      | (go_at_call 16; refine (li_ok _).mono ?_; rintro e w' ⟨rfl, bb⟩; (try clear k3); replace b0 := bchain b0 bb; (try replace B3 := B3.kept bb); (try replace B5 := B5.kept bb); (try replace B6 := B6.kept bb); clear bb; (try have k3 := B3.k)))
    go_ret
    exact ⟨rfl, b0⟩
  · obtain ⟨hc, he, hjo⟩ : (0 ≤ ct ∧ ct ≤ 9999) ∧ ct % 8 = ex ∧ joinB len k = true := by
      simpa [rxB, inB_iff, and_assoc] using hj
    have hx : rxB ex (ct + 1) len k = false := by
      have : ((ct + 1) % 8 == ex) = false := by rw [beq_eq_false_iff_ne]; omega
      simp [rxB, this]
    have hy : rxB ex (ct + 8) len k = decide (ct + 8 ≤ 9999) := by
      have e1 : ((ct + 8) % 8 == ex) = true := by rw [beq_iff_eq]; omega
      rw [rxB, e1, hjo, Bool.eq_iff_iff]
      simp [inB_iff]
      omega
    have hE : Hid (ct % 8 = ex) := he
    clear he
    go_wp2_with (first
      | ((with_reducible refine at_new 3 26 ?_); refine box_new (d := 3) rfl rfl 26 rfl _ zero_rx ?_; intro w' B3 bb; have n3 := b0.size;  (try have l5_3 := B5.lt); (try have l6_3 := B6.lt); (try clear k3); replace b0 := bchain b0 bb;  (try replace B5 := B5.kept bb); (try replace B6 := B6.kept bb); clear bb; (try have k3 := B3.k))
      | ((with_reducible refine at_new 5 26 ?_); refine box_new (d := 5) rfl rfl 26 rfl _ zero_rx ?_; intro w' B5 bb; have n5 := b0.size;  (try have l3_5 := B3.lt); (try have l6_5 := B6.lt); (try clear k3); replace b0 := bchain b0 bb; (try replace B3 := B3.kept bb);  (try replace B6 := B6.kept bb); clear bb; (try have k3 := B3.k))
      | ((with_reducible refine at_new 6 26 ?_); refine box_new (d := 6) rfl rfl 26 rfl _ zero_rx ?_; intro w' B6 bb; have n6 := b0.size;  (try have l3_6 := B3.lt); (try have l5_6 := B5.lt); (try clear k3); replace b0 := bchain b0 bb; (try replace B3 := B3.kept bb); (try replace B5 := B5.kept bb);  clear bb; (try have k3 := B3.k))
      | ((with_reducible refine at_load 26 ?_); refine box_load rfl 26 _ rfl _ rfl (by with_reducible assumption) Try.underlying26 rfl (by kernel_rfl) ?_)
      | ((with_reducible refine at_store 26 ?_); refine box_store rfl 26 _ _ rfl _ _ rfl rfl (by with_reducible exact B3) (by kernel_rfl) (by rfl) (by simp [Value.oneCell']) ?_; clear B3; intro w' B3 gg; (try clear k3); replace b0 := below_at b0 gg b0.size n3; (try replace B5 := B5.grown gg (Nat.ne_of_gt l3_5)); (try replace B6 := B6.grown gg (Nat.ne_of_gt l3_6)); clear gg; (try have k3 := B3.k))
      | ((with_reducible refine at_store 26 ?_); refine box_store rfl 26 _ _ rfl _ _ rfl rfl (by with_reducible exact B5) (by kernel_rfl) (by rfl) (by simp [Value.oneCell']) ?_; clear B5; intro w' B5 gg; (try clear k3); replace b0 := below_at b0 gg b0.size n5; (try replace B3 := B3.grown gg (Nat.ne_of_lt l3_5)); (try replace B6 := B6.grown gg (Nat.ne_of_gt l5_6)); clear gg; (try have k3 := B3.k))
      | ((with_reducible refine at_store 26 ?_); refine box_store rfl 26 _ _ rfl _ _ rfl rfl (by with_reducible exact B6) (by kernel_rfl) (by rfl) (by simp [Value.oneCell']) ?_; clear B6; intro w' B6 gg; (try clear k3); replace b0 := below_at b0 gg b0.size n6; (try replace B3 := B3.grown gg (Nat.ne_of_lt l3_6)); (try replace B5 := B5.grown gg (Nat.ne_of_lt l5_6)); clear gg; (try have k3 := B3.k))
      | ((with_reducible refine at_store 3 ?_); refine box_int rfl _ _ rfl _ _ _ rfl rfl (by with_reducible exact B5) (by simp) ?_; clear B5; intro w' B5 gg; simp only [List.setIfInBounds_toArray, List.set] at B5; (try clear k3); replace b0 := below_at b0 gg b0.size n5; (try replace B3 := B3.grown gg (Nat.ne_of_lt l3_5)); (try replace B6 := B6.grown gg (Nat.ne_of_gt l5_6)); clear gg; (try have k3 := B3.k))
      | ((with_reducible refine at_store 3 ?_); refine box_int rfl _ _ rfl _ _ _ rfl rfl (by with_reducible exact B6) (by simp) ?_; clear B6; intro w' B6 gg; simp only [List.setIfInBounds_toArray, List.set] at B6; (try clear k3); replace b0 := below_at b0 gg b0.size n6; (try replace B3 := B3.grown gg (Nat.ne_of_lt l3_6)); (try replace B5 := B5.grown gg (Nat.ne_of_lt l5_6)); clear gg; (try have k3 := B3.k))
      | (go_at_call 14; refine (impl_rx _ _ _ _ _ _ _ _ _ _).mono ?_; rintro e w' ⟨rfl, bb⟩; rw [hj]; (try clear k3); replace b0 := bchain b0 bb; (try replace B3 := B3.kept bb); (try replace B5 := B5.kept bb); (try replace B6 := B6.kept bb); clear bb; (try have k3 := B3.k))
      | (go_at_call 15; refine (spec_rx _ _ _ _ _ _ _ _ _ _).mono ?_; rintro e w' ⟨rfl, bb⟩; rw [hj]; (try clear k3); replace b0 := bchain b0 bb; (try replace B3 := B3.kept bb); (try replace B5 := B5.kept bb); (try replace B6 := B6.kept bb); clear bb; (try have k3 := B3.k)))
    clear k3
    replace b0 := b0.drew
    replace B5 := B5.drew
    replace B6 := B6.drew
    refine region_by (fun wx => Bl wx _ #[.int .i64 ex, .int .i64 (ct + 1), .int .i64 len, .slice a k cap, .bool ag, .bool bu, .bool de] 26 ∧ Bl wx _ #[.int .i64 ex, .int .i64 (ct + 8), .int .i64 len, .slice a k cap, .bool ag, .bool bu, .bool de] 26) 12 [(0, true), (1, false), (2, true), (3, true), (4, true), (6, true), (7, true), (8, true), (5, false), (9, true), (10, true), (11, false)] ⟨none, .assign (.tmp 0), 0, "", #[], none⟩ (by kernel_rfl) (by kernel_rfl) ⟨B5, B6⟩ (fun x _ _ _ _ h => by cases x <;> exact h) ?_
    simp only [arrange, List.map_cons, List.map_nil, List.getD_cons_zero, List.getD_cons_succ]
    generalize World.drew _ = dw at b0 B5 B6 ⊢
    refine by_rung (by rfl) (.agg #[.int .i64 ex, .int .i64 (ct + 1), .int .i64 len, .slice a k cap, .bool ag, .bool bu, .bool de]) (fun _ h => run_load_row 26 _ rfl _ rfl h.1 Try.underlying26 rfl (by kernel_rfl)) ?_
    simp only [Act.put, List.setIfInBounds_toArray, List.set]
    refine by_wpg rfl (by rfl) ?_
    unfold Oper.wp
    rw [run_c1 rfl rfl (fun _ _ => by kernel_rfl)]
    refine (impl_rx _ _ _ _ _ _ _ _ _ _).mono ?_
    rintro e w' ⟨rfl, bb⟩
    rw [hx]
    replace b0 := bchain b0 bb
    replace B5 := B5.kept bb
    replace B6 := B6.kept bb
    clear bb
    refine ⟨fun _ => ⟨B5, B6⟩, ?_⟩
    simp only [Act.put, List.setIfInBounds_toArray, List.set]
    refine by_rung (by rfl) (.bool true) (fun _ h => by simp [execOp, go_sem]) ?_
    simp only [Act.put, List.setIfInBounds_toArray, List.set]
    refine by_rung (by rfl) (.bool true) (fun _ h => run_mv rfl) ?_
    simp only [Act.put, List.setIfInBounds_toArray, List.set]
    refine by_rung (by rfl) (.agg #[.int .i64 ex, .int .i64 (ct + 8), .int .i64 len, .slice a k cap, .bool ag, .bool bu, .bool de]) (fun _ h => run_load_row 26 _ rfl _ rfl h.2 Try.underlying26 rfl (by kernel_rfl)) ?_
    simp only [Act.put, List.setIfInBounds_toArray, List.set]
    refine by_rung (by rfl) _ (fun _ h => run_fa rfl) ?_
    simp only [Act.put, List.setIfInBounds_toArray, List.set]
    refine by_rung (by rfl) (.int .i64 (ct + 8)) (fun _ h => run_lc rfl ((h.2.k 1).trans rfl)) ?_
    simp only [Act.put, List.setIfInBounds_toArray, List.set]
    refine by_rung (by rfl) (.bool (decide (ct + 8 ≤ 9999))) (fun _ h => by simp [execOp, go_sem]) ?_
    simp only [Act.put, List.setIfInBounds_toArray, List.set]
    refine by_wpg rfl (by rfl) ?_
    unfold Oper.wp
    rw [run_c1 rfl rfl (fun _ _ => by kernel_rfl)]
    refine (impl_rx _ _ _ _ _ _ _ _ _ _).mono ?_
    rintro e w' ⟨rfl, bb⟩
    rw [hy]
    replace b0 := bchain b0 bb
    replace B5 := B5.kept bb
    replace B6 := B6.kept bb
    clear bb
    refine ⟨fun _ => ⟨B5, B6⟩, ?_⟩
    simp only [Act.put, List.setIfInBounds_toArray, List.set]
    refine by_rung (by rfl) (.bool true) (fun _ h => by simp [execOp, go_sem]) ?_
    simp only [Act.put, List.setIfInBounds_toArray, List.set]
    refine by_rung (by rfl) (.bool true) (fun _ h => by simp [execOp, go_sem]) ?_
    simp only [Act.put, List.setIfInBounds_toArray, List.set]
    refine by_setv rfl rfl _ rfl (.bool true) rfl ⟨fun _ => ⟨B5, B6⟩, ?_⟩
    refine by_nil ?_
    go_wp2
    go_ret
    exact ⟨rfl, b0⟩
set_option maxRecDepth 100000 in
theorem walk (a0 : Option Addr) (len0 cap0 : Nat) (z0 : List Int) (w : World) (w0 : IsRow .u8 w a0 len0 cap0 z0) :
    Calls Try.prog 3 #[.slice a0 len0 cap0] w fun e w' => e = .returned (.bool true) ∧ Below w.heap.size w w' := by
  by_cases hs0 : (1048576 : Int) < (len0 : Int)
  · go_enter Try.func3, Try.ntmps3
    go_wp2
    go_ret
    exact ⟨rfl, Below.refl _ _⟩
  obtain ⟨cz, hR0, _⟩ := w0.rd (by omega)
  exact small a0 len0 cap0 cz w hs0 hR0
end Go.Proofs.Ytkogmnjgpaocbaa.fnRxOk
