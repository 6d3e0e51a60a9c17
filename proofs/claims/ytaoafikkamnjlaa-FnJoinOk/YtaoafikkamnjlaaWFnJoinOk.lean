/- The law of JoinOk, promise 21, returns true at every code. -/
import Derived.Test.YtaoafikkamnjlaaDrawJoins
import Derived.Test.YtaoafikkamnjlaaJoin
import Derived.Test.YtaoafikkamnjlaaCallRow
import Derived.Test.YtaoafikkamnjlaaOpenGuard
import Derived.Test.YtaoafikkamnjlaaLiOk
import Derived.RowKit3
namespace Go.Proofs.Ytaoafikkamnjlaa.fnJoinOk
open Go.RowKit
section
variable {ρ : Operand → Value} {w : World} {d : Option Tmp} {t : TypeId} {pos : String} {af : Array Edge} {gd : Option (Nat × Bool)} {x y : Operand}
theorem run_lds8 {g k n c : Nat} {a : Option Addr} (hx : ρ x = .pointer (some ⟨g, k, none⟩)) (hr : w.cell? ⟨g, k, none⟩ = some (.slice a n c)) : (execOp ρ ⟨d, .load 22 x, t, pos, af, gd⟩).run Try.prog w = .ok (.value (.slice a n c)) w := by
  simp [execOp, hx, hr, go_sem]
theorem run_len8 {a : Option Addr} {n c : Nat} (h : ρ x = .slice a n c) : (execOp ρ ⟨d, .call { callee := .builtin .len, args := #[x], argTypes := #[22] }, t, pos, af, gd⟩).run Try.prog w = .ok (.value (.int .i64 (n : Int))) w := by
  have hu := Try.underlying22
  simp [h, go_sem, hu]
set_option maxRecDepth 100000 in
theorem run_make8 (w : World) {m : Nat} (h : ρ x = .int .i64 (m : Int)) (hm : m ≤ 1000) : ∃ w', (execOp ρ ⟨d, .makeSlice 22 x x, t, pos, af, gd⟩).run Try.prog w = .ok (.value (.slice (some ⟨w.heap.size, 0, none⟩) m m)) w' ∧ Below w.heap.size w w' := by
  obtain ⟨i0, hi, hz0, hz1, hz2⟩ := info_parts Try.infoB
  obtain ⟨w', hr, _, hg⟩ := run_makeSlice_full (P := Try.prog) w w.heap.size 22 5 i0 _ 1 Try.underlying22 hi hz0 hz1 .i64 .i64 m (by omega) (by rw [hz2]; omega) (by unfold maxLen; omega) (Nat.le_refl _)
  exact ⟨w', by simp [execOp, h, go_sem, hr], hg.os, hg.tape, hg.output, hg.size, fun k hk => hg.block k hk (by simp)⟩
end
set_option maxRecDepth 100000 in
theorem wp_make8 {o : Oper} {a : Act} {w : World} {Q : Exit → Act → World → Prop} {K : Act → World → Prop} (x : Operand) (ho : o.op = .makeSlice 22 x x) {m : Nat} (hx : a.eval x = .int .i64 (m : Int)) (hm : m ≤ 1000)
    (h : ∀ w', Below w.heap.size w w' → K (a.put o.dst (.slice (some ⟨w.heap.size, 0, none⟩) m m)) w') : o.wp Try.prog a w K Q := by
  obtain ⟨d, op, t, pos, af, gd⟩ := o
  simp only at ho
  subst ho
  obtain ⟨w', e, bb⟩ := run_make8 (ρ := a.eval) (d := d) (t := t) (pos := pos) (af := af) (gd := gd) w hx hm
  unfold Oper.wp
  rw [e]
  exact h w' bb
set_option maxRecDepth 100000 in
set_option maxHeartbeats 4000000 in
theorem small (a0 : Option Addr) (len0 cap0 : Nat) (cz : List Nat) (w : World) (hs0 : ¬ (1048576 : Int) < (len0 : Int)) (hR0 : Rd w (.slice a0 len0 cap0) cz) :
    Calls Try.prog 13 #[.slice a0 len0 cap0] w fun e w' => e = .returned (.bool true) ∧ Below w.heap.size w w' := by
  have b0 : Below w.heap.size w w := Below.refl _ _
  go_enter Try.func13, Try.ntmps13
  go_wp2_with fail
  refine (drawJoin_any _ cz _ hR0).mono ?_
  rintro e w1 ⟨len, a, k, cap, rfl, h1, h2, h3, bb⟩
  replace b0 := bchain b0 bb
  clear bb hR0
  have hj0 : joinB 0 0 = true := by decide
  cases hj : joinB len k
  · go_wp2_with (first
      | ((with_reducible refine at_new 3 56 ?_); refine box_new (d := 3) rfl rfl 56 rfl _ zero_join ?_; intro w' B3 bb; have n3 := b0.size;   (try clear k3); replace b0 := bchain b0 bb;  clear bb; (try have k3 := B3.k))
      | ((with_reducible refine at_load 56 ?_); refine box_load rfl 56 _ rfl _ rfl (by with_reducible assumption) Try.underlying56 rfl (by kernel_rfl) ?_)
      | ((with_reducible refine at_store 56 ?_); refine box_store rfl 56 _ _ rfl _ _ rfl rfl (by with_reducible exact B3) (by kernel_rfl) (by rfl) (by simp [Value.oneCell']) ?_; clear B3; intro w' B3 gg; (try clear k3); replace b0 := below_at b0 gg b0.size n3;  clear gg; (try have k3 := B3.k))
      | (go_at_call 38; refine (impl_join _ _ _ _ _).mono ?_; rintro e w' ⟨rfl, bb⟩; (first | rw [hj] | rw [hj0]); (try clear k3); replace b0 := bchain b0 bb; (try replace B3 := B3.kept bb); clear bb; (try have k3 := B3.k))
      | (go_at_call 36; refine (spec_join _ _ _ _ _).mono ?_; rintro e w' ⟨rfl, bb⟩; rw [hj]; (try clear k3); replace b0 := bchain b0 bb; (try replace B3 := B3.kept bb); clear bb; (try have k3 := B3.k))
      | (go_at_call 20; refine (li_ok _).mono ?_; rintro e w' ⟨rfl, bb⟩; (try clear k3); replace b0 := bchain b0 bb; (try replace B3 := B3.kept bb); clear bb; (try have k3 := B3.k)))
    go_ret
    exact ⟨rfl, b0⟩
  by_cases hz : len = 0
  · subst hz
    go_wp2_with (first
      | ((with_reducible refine at_new 3 56 ?_); refine box_new (d := 3) rfl rfl 56 rfl _ zero_join ?_; intro w' B3 bb; have n3 := b0.size;   (try clear k3); replace b0 := bchain b0 bb;  clear bb; (try have k3 := B3.k))
      | ((with_reducible refine at_load 56 ?_); refine box_load rfl 56 _ rfl _ rfl (by with_reducible assumption) Try.underlying56 rfl (by kernel_rfl) ?_)
      | ((with_reducible refine at_store 56 ?_); refine box_store rfl 56 _ _ rfl _ _ rfl rfl (by with_reducible exact B3) (by kernel_rfl) (by rfl) (by simp [Value.oneCell']) ?_; clear B3; intro w' B3 gg; (try clear k3); replace b0 := below_at b0 gg b0.size n3;  clear gg; (try have k3 := B3.k))
      | (go_at_call 38; refine (impl_join _ _ _ _ _).mono ?_; rintro e w' ⟨rfl, bb⟩; (first | rw [hj] | rw [hj0]); (try clear k3); replace b0 := bchain b0 bb; (try replace B3 := B3.kept bb); clear bb; (try have k3 := B3.k))
      | (go_at_call 36; refine (spec_join _ _ _ _ _).mono ?_; rintro e w' ⟨rfl, bb⟩; rw [hj]; (try clear k3); replace b0 := bchain b0 bb; (try replace B3 := B3.kept bb); clear bb; (try have k3 := B3.k))
      | (go_at_call 20; refine (li_ok _).mono ?_; rintro e w' ⟨rfl, bb⟩; (try clear k3); replace b0 := bchain b0 bb; (try replace B3 := B3.kept bb); clear bb; (try have k3 := B3.k)))
    go_ret
    exact ⟨rfl, b0⟩
  · obtain ⟨hl1, hl2, hk1, hk2⟩ : 2 ≤ len ∧ len ≤ 24 ∧ 1 ≤ k ∧ (k : Int) < len := by
      simp only [joinB, decide_eq_true_eq] at hj
      omega
    obtain ⟨m, rfl⟩ : ∃ m : Nat, len = (m : Int) := ⟨len.toNat, by omega⟩
    have hj2 : joinB m m = false := by
      simp only [joinB, decide_eq_false_iff_not]
      omega
    go_wp2_with (first
      | ((with_reducible refine at_new 3 56 ?_); refine box_new (d := 3) rfl rfl 56 rfl _ zero_join ?_; intro w' B3 bb; have n3 := b0.size;   (try clear k3); replace b0 := bchain b0 bb;  clear bb; (try have k3 := B3.k))
      | ((with_reducible refine at_load 56 ?_); refine box_load rfl 56 _ rfl _ rfl (by with_reducible assumption) Try.underlying56 rfl (by kernel_rfl) ?_)
      | ((with_reducible refine at_store 56 ?_); refine box_store rfl 56 _ _ rfl _ _ rfl rfl (by with_reducible exact B3) (by kernel_rfl) (by rfl) (by simp [Value.oneCell']) ?_; clear B3; intro w' B3 gg; (try clear k3); replace b0 := below_at b0 gg b0.size n3;  clear gg; (try have k3 := B3.k))
      | (go_at_call 38; refine (impl_join _ _ _ _ _).mono ?_; rintro e w' ⟨rfl, bb⟩; (first | rw [hj] | rw [hj0]); (try clear k3); replace b0 := bchain b0 bb; (try replace B3 := B3.kept bb); clear bb; (try have k3 := B3.k))
      | (go_at_call 36; refine (spec_join _ _ _ _ _).mono ?_; rintro e w' ⟨rfl, bb⟩; rw [hj]; (try clear k3); replace b0 := bchain b0 bb; (try replace B3 := B3.kept bb); clear bb; (try have k3 := B3.k)))
    clear k3
    replace b0 := b0.drew
    replace B3 := B3.drew
    refine region_by (fun wx => Bl wx _ #[.int .i64 (m : Int), .slice a k cap] 56) 17 [(0, true), (1, true), (2, true), (3, true), (4, true), (5, true), (6, true), (7, true), (8, true), (9, true), (10, true), (11, false), (12, true), (13, false), (14, true), (15, true), (16, false)] ⟨none, .assign (.tmp 0), 0, "", #[], none⟩ (by kernel_rfl) (by kernel_rfl) B3 (fun x _ _ _ _ h => by cases x <;> exact h) ?_
    simp only [arrange, List.map_cons, List.map_nil, List.getD_cons_zero, List.getD_cons_succ]
    generalize World.drew _ = dw at b0 B3 ⊢
    refine by_rung (by rfl) (.pointer (some ⟨w1.heap.size, 1, none⟩)) (fun _ h => by simp [execOp, go_sem]) ?_
    simp only [Act.put, List.setIfInBounds_toArray, List.set]
    refine by_rung (by rfl) (.slice a k cap) (fun _ h => run_lds8 rfl ((h.k 1).trans rfl)) ?_
    simp only [Act.put, List.setIfInBounds_toArray, List.set]
    refine by_rung (by rfl) (.int .i64 (k : Int)) (fun _ h => run_len8 rfl) ?_
    simp only [Act.put, List.setIfInBounds_toArray, List.set]
    refine by_rung (by rfl) (.pointer (some ⟨w1.heap.size, 0, none⟩)) (fun _ h => by simp [execOp, go_sem]) ?_
    simp only [Act.put, List.setIfInBounds_toArray, List.set]
    refine by_rung (by rfl) (.int .i64 (m : Int)) (fun _ h => run_load_cell rfl ((h.k 0).trans rfl)) ?_
    simp only [Act.put, List.setIfInBounds_toArray, List.set]
    refine by_rung (by rfl) (.bool true) (fun _ h => by simp [execOp, go_sem]; omega) ?_
    simp only [Act.put, List.setIfInBounds_toArray, List.set]
    refine by_rung (by rfl) (.bool true) (fun _ h => run_move rfl) ?_
    simp only [Act.put, List.setIfInBounds_toArray, List.set]
    refine by_rung (by rfl) (.pointer (some ⟨w1.heap.size, 0, none⟩)) (fun _ h => by simp [execOp, go_sem]) ?_
    simp only [Act.put, List.setIfInBounds_toArray, List.set]
    refine by_rung (by rfl) (.int .i64 (m : Int)) (fun _ h => run_load_cell rfl ((h.k 0).trans rfl)) ?_
    simp only [Act.put, List.setIfInBounds_toArray, List.set]
    refine by_rung (by rfl) (.pointer (some ⟨w1.heap.size, 0, none⟩)) (fun _ h => by simp [execOp, go_sem]) ?_
    simp only [Act.put, List.setIfInBounds_toArray, List.set]
    refine by_rung (by rfl) (.int .i64 (m : Int)) (fun _ h => run_load_cell rfl ((h.k 0).trans rfl)) ?_
    simp only [Act.put, List.setIfInBounds_toArray, List.set]
    refine by_wpg rfl (by rfl) ?_
    refine wp_make8 _ rfl (m := m) rfl (by omega) ?_
    intro w9 bb
    replace b0 := bchain b0 bb
    replace B3 := B3.kept bb
    refine ⟨fun _ => B3, ?_⟩
    clear bb
    simp only [Act.put, List.setIfInBounds_toArray, List.set]
    refine by_rung (by rfl) (.agg #[.int .i64 (m : Int), .slice (some ⟨dw.heap.size, 0, none⟩) m m]) (fun _ h => by simp [execOp, go_sem]) ?_
    simp only [Act.put, List.setIfInBounds_toArray, List.set]
    refine by_wpg rfl (by rfl) ?_
    unfold Oper.wp
    rw [run_call1 rfl rfl (fun _ _ => by kernel_rfl)]
    refine (impl_join _ _ _ _ _).mono ?_
    rintro e w' ⟨rfl, bb⟩
    rw [hj2]
    replace b0 := bchain b0 bb
    replace B3 := B3.kept bb
    clear bb
    refine ⟨fun _ => B3, ?_⟩
    simp only [Act.put, List.setIfInBounds_toArray, List.set]
    refine by_rung (by rfl) (.bool true) (fun _ h => by simp [execOp, go_sem]) ?_
    simp only [Act.put, List.setIfInBounds_toArray, List.set]
    refine by_rung (by rfl) (.bool true) (fun _ h => by simp [execOp, go_sem]) ?_
    simp only [Act.put, List.setIfInBounds_toArray, List.set]
    refine by_setv rfl rfl _ rfl (.bool true) rfl ⟨fun _ => B3, ?_⟩
    refine by_nil ?_
    go_wp2
    go_ret
    exact ⟨rfl, b0⟩
set_option maxRecDepth 100000 in
theorem walk (a0 : Option Addr) (len0 cap0 : Nat) (z0 : List Int) (w : World) (w0 : IsRow .u8 w a0 len0 cap0 z0) :
    Calls Try.prog 13 #[.slice a0 len0 cap0] w fun e w' => e = .returned (.bool true) ∧ Below w.heap.size w w' := by
  by_cases hs0 : (1048576 : Int) < (len0 : Int)
  · go_enter Try.func13, Try.ntmps13
    go_wp2
    go_ret
    exact ⟨rfl, Below.refl _ _⟩
  obtain ⟨cz, hR0, _⟩ := w0.rd (by omega)
  exact small a0 len0 cap0 cz w hs0 hR0
end Go.Proofs.Ytaoafikkamnjlaa.fnJoinOk
