/- Who hears, and who grants, is ok: of both. -/
import Derived.Test.YtpdndapegiglcaaJoin
import Derived.Test.YtpdndapegiglcaaNum
import Derived.Test.YtpdndapegiglcaaBoxLaw
import Derived.Test.YtpdndapegiglcaaOpenGuard
namespace Go.Proofs.Ytpdndapegiglcaa
open Go.RowKit
section
variable {ops : Array Oper} {C : World → Prop} {Q : Exit → Act → World → Prop} {R : Act → World → Prop} {n i : Nat} {o : Oper} {rest : List (Nat × Bool × Oper)} {a : Act} {w : World}
theorem by_skipr (hw : Region.wanted o (yielded ops a.tmps) = false) (h : wpBy Try.prog ops C n Q R rest (a.put o.dst undef) w) : wpBy Try.prog ops C n Q R ((i, true, o) :: rest) a w :=
  ⟨undef, .inr ⟨hw, rfl⟩, h⟩
theorem by_skipw (ho : ops[i]? = some o) (hw : Region.wanted o (yielded ops a.tmps) = false) (hC : i < n → C w) (h : wpBy Try.prog ops C n Q R rest (a.put o.dst undef) w) : wpBy Try.prog ops C n Q R ((i, false, o) :: rest) a w := by
  show wpOp Try.prog ops Q i _ a w
  unfold wpOp
  simp only [ho]
  rw [if_neg (by rw [hw]; simp)]
  exact ⟨hC, h⟩
end
section
variable {ρ : Operand → Value} {w : World} {d : Option Tmp} {t : TypeId} {pos : String} {af : Array Edge} {gd : Option (Nat × Bool)} {x y z : Operand}
theorem run_ldp {ty : TypeId} {g k : Nat} {cs : Array Value} {e : TypeDesc} (hx : ρ x = .pointer (some ⟨g, k, none⟩)) (hr : w.rangeAt g k cs.toList) (hu : Try.prog.underlying ty = some e) (hd : e.isRow = true) (hi : (Try.prog.info? ty).map (·.size) = some cs.size) : (execOp ρ ⟨d, .load ty x, t, pos, af, gd⟩).run Try.prog w = .ok (.value (.agg cs)) w := by
  have e := run_loadVar_mid (P := Try.prog) w g k ty cs.toList e hr hu hd (by simpa using hi)
  rw [Array.toArray_toList] at e
  unfold execOp
  simp only [hx, Instr.loadAt, Instr.sureAddr, Sem.run_bind, Sem.run_pure, Result.andThen_ok, e]
theorem run_mv {v : Value} (h : ρ x = v) : (execOp ρ ⟨d, .move x, t, pos, af, gd⟩).run Try.prog w = .ok (.value v) w := by
  simp [execOp, h]
theorem run_lc {g k : Nat} {v : Int} (hx : ρ x = .pointer (some ⟨g, k, none⟩)) (hv : w.cell? ⟨g, k, none⟩ = some (.int .i64 v)) : (execOp ρ ⟨d, .load 3 x, t, pos, af, gd⟩).run Try.prog w = .ok (.value (.int .i64 v)) w := by
  simp [execOp, hx, hv, go_sem]
theorem run_c1 {f : FuncId} {u : Value} {ty : Array TypeId} (hf : ρ (.func f) = .func (.func f) #[] #[]) (h1 : ρ x = u) (hc : ∀ (args : Array Value) (w : World), (callFunc f args).run Try.prog w = .ok (.enter f args) w) : (execOp ρ ⟨d, .call { callee := .value (.func f), args := #[x], argTypes := ty }, t, pos, af, gd⟩).run Try.prog w = .ok (.enter f #[u]) w := by
  simp [execOp, resolve, invoke, hf, h1, hc, go_sem]
theorem run_c2 {f : FuncId} {u v : Value} {ty : Array TypeId} (hf : ρ (.func f) = .func (.func f) #[] #[]) (h1 : ρ x = u) (h2 : ρ y = v) (hc : ∀ (args : Array Value) (w : World), (callFunc f args).run Try.prog w = .ok (.enter f args) w) : (execOp ρ ⟨d, .call { callee := .value (.func f), args := #[x, y], argTypes := ty }, t, pos, af, gd⟩).run Try.prog w = .ok (.enter f #[u, v]) w := by
  simp [execOp, resolve, invoke, hf, h1, h2, hc, go_sem]
theorem run_c3 {f : FuncId} {u v s : Value} {ty : Array TypeId} (hf : ρ (.func f) = .func (.func f) #[] #[]) (h1 : ρ x = u) (h2 : ρ y = v) (h3 : ρ z = s) (hc : ∀ (args : Array Value) (w : World), (callFunc f args).run Try.prog w = .ok (.enter f args) w) : (execOp ρ ⟨d, .call { callee := .value (.func f), args := #[x, y, z], argTypes := ty }, t, pos, af, gd⟩).run Try.prog w = .ok (.enter f #[u, v, s]) w := by
  simp [execOp, resolve, invoke, hf, h1, h2, h3, hc, go_sem]
end
theorem noneTo_any (n hi : Int) (w : World) :
    Calls Try.prog 26 #[.int .i64 n, .int .i64 hi] w fun e w' => e = .returned (.bool (inB n 0 hi)) ∧ w' = w := by
  go_enter Try.func26, Try.ntmps26
  go_wp2
  all_goals
    go_ret
    refine ⟨ret_bool ?_, rfl⟩
    go_light
    rw [Bool.eq_iff_iff]
    simp only [inB_iff]
    grind
def rxB (ex ct len : Int) (n : Nat) : Bool := inB ct 0 9999 && (ct % 8 == ex) && joinB len n
set_option maxRecDepth 100000 in
set_option maxHeartbeats 4000000 in
theorem impl_rx (ex ct len : Int) (a : Option Addr) (n cap : Nat) (ag bu de : Bool) (w : World) :
    Calls Try.prog 11 #[.agg #[.int .i64 ex, .int .i64 ct, .int .i64 len, .slice a n cap, .bool ag, .bool bu, .bool de]] w fun e w' => e = .returned (.bool (rxB ex ct len n)) ∧ Below w.heap.size w w' := by
  have b0 : Below w.heap.size w w := Below.refl _ _
  cases h1 : inB ct 0 9999
  · go_enter Try.func11, Try.ntmps11
    go_wp2_with (first
      | ((with_reducible refine at_box 1 26 ?_); refine box_box (d := 1) rfl rfl 26 _ rfl _ rfl ?_; intro w' B1 bb; have n1 := b0.size;    replace b0 := bchain b0 bb;  clear bb; skip))
    replace b0 := b0.drew
    replace B1 := B1.drew
    refine region_by (fun wx => Bl wx w.heap.size #[.int .i64 ex, .int .i64 ct, .int .i64 len, .slice a n cap, .bool ag, .bool bu, .bool de] 26) 17 [(0, true), (1, true), (2, false), (3, true), (4, true), (5, true), (7, true), (8, true), (6, false), (9, true), (10, true), (11, true), (12, true), (13, true), (14, false), (15, true), (16, false)] ⟨none, .assign (.tmp 0), 0, "", #[], none⟩ (by kernel_rfl) (by kernel_rfl) B1 (fun x _ _ _ _ h => by cases x <;> exact h) ?_
    simp only [arrange, List.map_cons, List.map_nil, List.getD_cons_zero, List.getD_cons_succ]
    generalize World.drew _ = dw at b0 B1 ⊢
    refine by_rung (by rfl) (.pointer (some ⟨w.heap.size, 1, none⟩)) (fun _ h => by simp [execOp, go_sem]) ?_
    simp only [Act.put, List.setIfInBounds_toArray, List.set]
    refine by_rung (by rfl) (.int .i64 ct) (fun _ h => run_lc rfl ((h.k 1).trans rfl)) ?_
    simp only [Act.put, List.setIfInBounds_toArray, List.set]
    refine by_wpg rfl (by rfl) ?_
    unfold Oper.wp
    rw [run_c2 rfl rfl rfl (fun _ _ => by kernel_rfl)]
    refine (noneTo_any _ _ _).mono ?_
    rintro e w' ⟨rfl, rfl⟩
    rw [h1]
    refine ⟨fun _ => B1, ?_⟩
    simp only [Act.put, List.setIfInBounds_toArray, List.set]
    refine by_rung (by rfl) (.bool false) (fun _ h => run_mv rfl) ?_
    simp only [Act.put, List.setIfInBounds_toArray, List.set]
    refine by_skipr (by rfl) ?_
    simp only [Act.put, List.setIfInBounds_toArray, List.set]
    refine by_skipr (by rfl) ?_
    simp only [Act.put, List.setIfInBounds_toArray, List.set]
    refine by_skipr (by rfl) ?_
    simp only [Act.put, List.setIfInBounds_toArray, List.set]
    refine by_skipr (by rfl) ?_
    simp only [Act.put, List.setIfInBounds_toArray, List.set]
    refine by_skipw rfl (by rfl) (fun _ => B1) ?_
    simp only [Act.put, List.setIfInBounds_toArray, List.set]
    refine by_skipr (by rfl) ?_
    simp only [Act.put, List.setIfInBounds_toArray, List.set]
    refine by_rung (by rfl) (.bool false) (fun _ h => by simp [execOp, go_sem]) ?_
    simp only [Act.put, List.setIfInBounds_toArray, List.set]
    refine by_rung (by rfl) (.bool false) (fun _ h => run_mv rfl) ?_
    simp only [Act.put, List.setIfInBounds_toArray, List.set]
    refine by_skipr (by rfl) ?_
    simp only [Act.put, List.setIfInBounds_toArray, List.set]
    refine by_skipr (by rfl) ?_
    simp only [Act.put, List.setIfInBounds_toArray, List.set]
    refine by_skipw rfl (by rfl) (fun _ => B1) ?_
    simp only [Act.put, List.setIfInBounds_toArray, List.set]
    refine by_rung (by rfl) (.bool false) (fun _ h => by simp [execOp, go_sem]) ?_
    simp only [Act.put, List.setIfInBounds_toArray, List.set]
    refine by_setv rfl rfl _ rfl (.bool false) rfl ⟨fun _ => B1, ?_⟩
    refine by_nil ?_
    go_wp2
    go_ret
    refine ⟨ret_bool ?_, b0⟩
    simp [rxB, h1]
  have hc := (inB_iff ct 0 9999).1 h1
  cases h2 : (ct % 8 == ex)
  · go_enter Try.func11, Try.ntmps11
    go_wp2_with (first
      | ((with_reducible refine at_box 1 26 ?_); refine box_box (d := 1) rfl rfl 26 _ rfl _ rfl ?_; intro w' B1 bb; have n1 := b0.size;    replace b0 := bchain b0 bb;  clear bb; skip))
    replace b0 := b0.drew
    replace B1 := B1.drew
    refine region_by (fun wx => Bl wx w.heap.size #[.int .i64 ex, .int .i64 ct, .int .i64 len, .slice a n cap, .bool ag, .bool bu, .bool de] 26) 17 [(0, true), (1, true), (2, false), (3, true), (4, true), (5, true), (7, true), (8, true), (6, false), (9, true), (10, true), (11, true), (12, true), (13, true), (14, false), (15, true), (16, false)] ⟨none, .assign (.tmp 0), 0, "", #[], none⟩ (by kernel_rfl) (by kernel_rfl) B1 (fun x _ _ _ _ h => by cases x <;> exact h) ?_
    simp only [arrange, List.map_cons, List.map_nil, List.getD_cons_zero, List.getD_cons_succ]
    generalize World.drew _ = dw at b0 B1 ⊢
    refine by_rung (by rfl) (.pointer (some ⟨w.heap.size, 1, none⟩)) (fun _ h => by simp [execOp, go_sem]) ?_
    simp only [Act.put, List.setIfInBounds_toArray, List.set]
    refine by_rung (by rfl) (.int .i64 ct) (fun _ h => run_lc rfl ((h.k 1).trans rfl)) ?_
    simp only [Act.put, List.setIfInBounds_toArray, List.set]
    refine by_wpg rfl (by rfl) ?_
    unfold Oper.wp
    rw [run_c2 rfl rfl rfl (fun _ _ => by kernel_rfl)]
    refine (noneTo_any _ _ _).mono ?_
    rintro e w' ⟨rfl, rfl⟩
    rw [h1]
    refine ⟨fun _ => B1, ?_⟩
    simp only [Act.put, List.setIfInBounds_toArray, List.set]
    refine by_rung (by rfl) (.bool true) (fun _ h => run_mv rfl) ?_
    simp only [Act.put, List.setIfInBounds_toArray, List.set]
    refine by_rung (by rfl) (.pointer (some ⟨w.heap.size, 1, none⟩)) (fun _ h => by simp [execOp, go_sem]) ?_
    simp only [Act.put, List.setIfInBounds_toArray, List.set]
    refine by_rung (by rfl) (.int .i64 ct) (fun _ h => run_lc rfl ((h.k 1).trans rfl)) ?_
    simp only [Act.put, List.setIfInBounds_toArray, List.set]
    refine by_rung (by rfl) (.pointer (some ⟨w.heap.size, 0, none⟩)) (fun _ h => by simp [execOp, go_sem]) ?_
    simp only [Act.put, List.setIfInBounds_toArray, List.set]
    refine by_rung (by rfl) (.int .i64 ex) (fun _ h => run_lc rfl ((h.k 0).trans rfl)) ?_
    simp only [Act.put, List.setIfInBounds_toArray, List.set]
    refine by_wpg rfl (by rfl) ?_
    unfold Oper.wp
    rw [run_c1 rfl rfl (fun _ _ => by kernel_rfl)]
    refine (impl_numof _ (by omega) _).mono ?_
    rintro e w' ⟨rfl, rfl⟩
    refine ⟨fun _ => B1, ?_⟩
    simp only [Act.put, List.setIfInBounds_toArray, List.set]
    refine by_rung (by rfl) (.bool false) (fun _ h => by simp [execOp, go_sem, h2]) ?_
    simp only [Act.put, List.setIfInBounds_toArray, List.set]
    refine by_rung (by rfl) (.bool false) (fun _ h => by simp [execOp, go_sem]) ?_
    simp only [Act.put, List.setIfInBounds_toArray, List.set]
    refine by_rung (by rfl) (.bool false) (fun _ h => run_mv rfl) ?_
    simp only [Act.put, List.setIfInBounds_toArray, List.set]
    refine by_skipr (by rfl) ?_
    simp only [Act.put, List.setIfInBounds_toArray, List.set]
    refine by_skipr (by rfl) ?_
    simp only [Act.put, List.setIfInBounds_toArray, List.set]
    refine by_skipw rfl (by rfl) (fun _ => B1) ?_
    simp only [Act.put, List.setIfInBounds_toArray, List.set]
    refine by_rung (by rfl) (.bool false) (fun _ h => by simp [execOp, go_sem]) ?_
    simp only [Act.put, List.setIfInBounds_toArray, List.set]
    refine by_setv rfl rfl _ rfl (.bool false) rfl ⟨fun _ => B1, ?_⟩
    refine by_nil ?_
    go_wp2
    go_ret
    refine ⟨ret_bool ?_, b0⟩
    simp [rxB, h2]
  · go_enter Try.func11, Try.ntmps11
    go_wp2_with (first
      | ((with_reducible refine at_box 1 26 ?_); refine box_box (d := 1) rfl rfl 26 _ rfl _ rfl ?_; intro w' B1 bb; have n1 := b0.size;    replace b0 := bchain b0 bb;  clear bb; skip))
    replace b0 := b0.drew
    replace B1 := B1.drew
    refine region_by (fun wx => Bl wx w.heap.size #[.int .i64 ex, .int .i64 ct, .int .i64 len, .slice a n cap, .bool ag, .bool bu, .bool de] 26) 17 [(0, true), (1, true), (2, false), (3, true), (4, true), (5, true), (7, true), (8, true), (6, false), (9, true), (10, true), (11, true), (12, true), (13, true), (14, false), (15, true), (16, false)] ⟨none, .assign (.tmp 0), 0, "", #[], none⟩ (by kernel_rfl) (by kernel_rfl) B1 (fun x _ _ _ _ h => by cases x <;> exact h) ?_
    simp only [arrange, List.map_cons, List.map_nil, List.getD_cons_zero, List.getD_cons_succ]
    generalize World.drew _ = dw at b0 B1 ⊢
    refine by_rung (by rfl) (.pointer (some ⟨w.heap.size, 1, none⟩)) (fun _ h => by simp [execOp, go_sem]) ?_
    simp only [Act.put, List.setIfInBounds_toArray, List.set]
    refine by_rung (by rfl) (.int .i64 ct) (fun _ h => run_lc rfl ((h.k 1).trans rfl)) ?_
    simp only [Act.put, List.setIfInBounds_toArray, List.set]
    refine by_wpg rfl (by rfl) ?_
    unfold Oper.wp
    rw [run_c2 rfl rfl rfl (fun _ _ => by kernel_rfl)]
    refine (noneTo_any _ _ _).mono ?_
    rintro e w' ⟨rfl, rfl⟩
    rw [h1]
    refine ⟨fun _ => B1, ?_⟩
    simp only [Act.put, List.setIfInBounds_toArray, List.set]
    refine by_rung (by rfl) (.bool true) (fun _ h => run_mv rfl) ?_
    simp only [Act.put, List.setIfInBounds_toArray, List.set]
    refine by_rung (by rfl) (.pointer (some ⟨w.heap.size, 1, none⟩)) (fun _ h => by simp [execOp, go_sem]) ?_
    simp only [Act.put, List.setIfInBounds_toArray, List.set]
    refine by_rung (by rfl) (.int .i64 ct) (fun _ h => run_lc rfl ((h.k 1).trans rfl)) ?_
    simp only [Act.put, List.setIfInBounds_toArray, List.set]
    refine by_rung (by rfl) (.pointer (some ⟨w.heap.size, 0, none⟩)) (fun _ h => by simp [execOp, go_sem]) ?_
    simp only [Act.put, List.setIfInBounds_toArray, List.set]
    refine by_rung (by rfl) (.int .i64 ex) (fun _ h => run_lc rfl ((h.k 0).trans rfl)) ?_
    simp only [Act.put, List.setIfInBounds_toArray, List.set]
    refine by_wpg rfl (by rfl) ?_
    unfold Oper.wp
    rw [run_c1 rfl rfl (fun _ _ => by kernel_rfl)]
    refine (impl_numof _ (by omega) _).mono ?_
    rintro e w' ⟨rfl, rfl⟩
    refine ⟨fun _ => B1, ?_⟩
    simp only [Act.put, List.setIfInBounds_toArray, List.set]
    refine by_rung (by rfl) (.bool true) (fun _ h => by simp [execOp, go_sem, h2]) ?_
    simp only [Act.put, List.setIfInBounds_toArray, List.set]
    refine by_rung (by rfl) (.bool true) (fun _ h => by simp [execOp, go_sem]) ?_
    simp only [Act.put, List.setIfInBounds_toArray, List.set]
    refine by_rung (by rfl) (.bool true) (fun _ h => run_mv rfl) ?_
    simp only [Act.put, List.setIfInBounds_toArray, List.set]
    refine by_rung (by rfl) (.pointer (some ⟨w.heap.size, 2, none⟩)) (fun _ h => by simp [execOp, go_sem]) ?_
    simp only [Act.put, List.setIfInBounds_toArray, List.set]
    refine by_rung (by rfl) (.agg #[.int .i64 len, .slice a n cap]) (fun _ h => run_ldp (cs := #[.int .i64 len, .slice a n cap]) rfl (bl_range h 2 _ (fun j v e => by match j, e with | 0, e => exact e | 1, e => exact e | (j + 2), e => simp at e)) Try.underlying24 rfl (by kernel_rfl)) ?_
    simp only [Act.put, List.setIfInBounds_toArray, List.set]
    refine by_wpg rfl (by rfl) ?_
    unfold Oper.wp
    rw [run_c1 rfl rfl (fun _ _ => by kernel_rfl)]
    refine (impl_join _ _ _ _ _).mono ?_
    rintro e w' ⟨rfl, bb⟩
    replace b0 := bchain b0 bb
    replace B1 := B1.kept bb
    clear bb
    refine ⟨fun _ => B1, ?_⟩
    simp only [Act.put, List.setIfInBounds_toArray, List.set]
    refine by_rung (by rfl) (.bool (joinB len n)) (fun _ h => by simp [execOp, go_sem]) ?_
    simp only [Act.put, List.setIfInBounds_toArray, List.set]
    refine by_setv rfl rfl _ rfl (.bool (joinB len n)) rfl ⟨fun _ => B1, ?_⟩
    refine by_nil ?_
    go_wp2
    go_ret
    refine ⟨ret_bool ?_, b0⟩
    simp [rxB, h1, h2]
set_option maxRecDepth 100000 in
set_option maxHeartbeats 4000000 in
theorem spec_rx (ex ct len : Int) (a : Option Addr) (n cap : Nat) (ag bu de : Bool) (w : World) :
    Calls Try.prog 9 #[.agg #[.int .i64 ex, .int .i64 ct, .int .i64 len, .slice a n cap, .bool ag, .bool bu, .bool de]] w fun e w' => e = .returned (.bool (rxB ex ct len n)) ∧ Below w.heap.size w w' := by
  have b0 : Below w.heap.size w w := Below.refl _ _
  cases h0 : inB ex 0 7
  · have hz : rxB ex ct len n = false := by
      rw [← Bool.not_eq_true]
      intro h
      simp only [rxB, Bool.and_eq_true, beq_iff_eq] at h
      have : inB ex 0 7 = true := by rw [inB_iff]; omega
      rw [h0] at this
      cases this
    go_enter Try.func9, Try.ntmps9
    go_wp2_with (first
      | ((with_reducible refine at_box 1 26 ?_); refine box_box (d := 1) rfl rfl 26 _ rfl _ rfl ?_; intro w' B1 bb; have n1 := b0.size;    replace b0 := bchain b0 bb;  clear bb; skip))
    replace b0 := b0.drew
    replace B1 := B1.drew
    refine region_by (fun wx => Bl wx w.heap.size #[.int .i64 ex, .int .i64 ct, .int .i64 len, .slice a n cap, .bool ag, .bool bu, .bool de] 26) 22 [(0, true), (1, true), (2, false), (3, true), (4, true), (5, true), (6, false), (7, true), (8, true), (9, true), (10, true), (12, true), (13, true), (11, false), (14, true), (15, true), (16, true), (17, true), (18, true), (19, false), (20, true), (21, false)] ⟨none, .assign (.tmp 0), 0, "", #[], none⟩ (by kernel_rfl) (by kernel_rfl) B1 (fun x _ _ _ _ h => by cases x <;> exact h) ?_
    simp only [arrange, List.map_cons, List.map_nil, List.getD_cons_zero, List.getD_cons_succ]
    generalize World.drew _ = dw at b0 B1 ⊢
    refine by_rung (by rfl) (.pointer (some ⟨w.heap.size, 0, none⟩)) (fun _ h => by simp [execOp, go_sem]) ?_
    simp only [Act.put, List.setIfInBounds_toArray, List.set]
    refine by_rung (by rfl) (.int .i64 ex) (fun _ h => run_lc rfl ((h.k 0).trans rfl)) ?_
    simp only [Act.put, List.setIfInBounds_toArray, List.set]
    refine by_wpg rfl (by rfl) ?_
    unfold Oper.wp
    rw [run_c3 rfl rfl rfl rfl (fun _ _ => by kernel_rfl)]
    refine (in_any _ _ _ _).mono ?_
    rintro e w' ⟨rfl, rfl⟩
    rw [h0]
    refine ⟨fun _ => B1, ?_⟩
    simp only [Act.put, List.setIfInBounds_toArray, List.set]
    refine by_rung (by rfl) (.bool false) (fun _ h => run_mv rfl) ?_
    simp only [Act.put, List.setIfInBounds_toArray, List.set]
    refine by_skipr (by rfl) ?_
    simp only [Act.put, List.setIfInBounds_toArray, List.set]
    refine by_skipr (by rfl) ?_
    simp only [Act.put, List.setIfInBounds_toArray, List.set]
    refine by_skipw rfl (by rfl) (fun _ => B1) ?_
    simp only [Act.put, List.setIfInBounds_toArray, List.set]
    refine by_rung (by rfl) (.bool false) (fun _ h => by simp [execOp, go_sem]) ?_
    simp only [Act.put, List.setIfInBounds_toArray, List.set]
    refine by_rung (by rfl) (.bool false) (fun _ h => run_mv rfl) ?_
    simp only [Act.put, List.setIfInBounds_toArray, List.set]
    refine by_skipr (by rfl) ?_
    simp only [Act.put, List.setIfInBounds_toArray, List.set]
    refine by_skipr (by rfl) ?_
    simp only [Act.put, List.setIfInBounds_toArray, List.set]
    refine by_skipr (by rfl) ?_
    simp only [Act.put, List.setIfInBounds_toArray, List.set]
    refine by_skipr (by rfl) ?_
    simp only [Act.put, List.setIfInBounds_toArray, List.set]
    refine by_skipw rfl (by rfl) (fun _ => B1) ?_
    simp only [Act.put, List.setIfInBounds_toArray, List.set]
    refine by_skipr (by rfl) ?_
    simp only [Act.put, List.setIfInBounds_toArray, List.set]
    refine by_rung (by rfl) (.bool false) (fun _ h => by simp [execOp, go_sem]) ?_
    simp only [Act.put, List.setIfInBounds_toArray, List.set]
    refine by_rung (by rfl) (.bool false) (fun _ h => run_mv rfl) ?_
    simp only [Act.put, List.setIfInBounds_toArray, List.set]
    refine by_skipr (by rfl) ?_
    simp only [Act.put, List.setIfInBounds_toArray, List.set]
    refine by_skipr (by rfl) ?_
    simp only [Act.put, List.setIfInBounds_toArray, List.set]
    refine by_skipw rfl (by rfl) (fun _ => B1) ?_
    simp only [Act.put, List.setIfInBounds_toArray, List.set]
    refine by_rung (by rfl) (.bool false) (fun _ h => by simp [execOp, go_sem]) ?_
    simp only [Act.put, List.setIfInBounds_toArray, List.set]
    refine by_setv rfl rfl _ rfl (.bool false) rfl ⟨fun _ => B1, ?_⟩
    refine by_nil ?_
    go_wp2
    go_ret
    refine ⟨ret_bool ?_, b0⟩
    rw [hz]
  cases h1 : inB ct 0 9999
  · go_enter Try.func9, Try.ntmps9
    go_wp2_with (first
      | ((with_reducible refine at_box 1 26 ?_); refine box_box (d := 1) rfl rfl 26 _ rfl _ rfl ?_; intro w' B1 bb; have n1 := b0.size;    replace b0 := bchain b0 bb;  clear bb; skip))
    replace b0 := b0.drew
    replace B1 := B1.drew
    refine region_by (fun wx => Bl wx w.heap.size #[.int .i64 ex, .int .i64 ct, .int .i64 len, .slice a n cap, .bool ag, .bool bu, .bool de] 26) 22 [(0, true), (1, true), (2, false), (3, true), (4, true), (5, true), (6, false), (7, true), (8, true), (9, true), (10, true), (12, true), (13, true), (11, false), (14, true), (15, true), (16, true), (17, true), (18, true), (19, false), (20, true), (21, false)] ⟨none, .assign (.tmp 0), 0, "", #[], none⟩ (by kernel_rfl) (by kernel_rfl) B1 (fun x _ _ _ _ h => by cases x <;> exact h) ?_
    simp only [arrange, List.map_cons, List.map_nil, List.getD_cons_zero, List.getD_cons_succ]
    generalize World.drew _ = dw at b0 B1 ⊢
    refine by_rung (by rfl) (.pointer (some ⟨w.heap.size, 0, none⟩)) (fun _ h => by simp [execOp, go_sem]) ?_
    simp only [Act.put, List.setIfInBounds_toArray, List.set]
    refine by_rung (by rfl) (.int .i64 ex) (fun _ h => run_lc rfl ((h.k 0).trans rfl)) ?_
    simp only [Act.put, List.setIfInBounds_toArray, List.set]
    refine by_wpg rfl (by rfl) ?_
    unfold Oper.wp
    rw [run_c3 rfl rfl rfl rfl (fun _ _ => by kernel_rfl)]
    refine (in_any _ _ _ _).mono ?_
    rintro e w' ⟨rfl, rfl⟩
    rw [h0]
    refine ⟨fun _ => B1, ?_⟩
    simp only [Act.put, List.setIfInBounds_toArray, List.set]
    refine by_rung (by rfl) (.bool true) (fun _ h => run_mv rfl) ?_
    simp only [Act.put, List.setIfInBounds_toArray, List.set]
    refine by_rung (by rfl) (.pointer (some ⟨w.heap.size, 1, none⟩)) (fun _ h => by simp [execOp, go_sem]) ?_
    simp only [Act.put, List.setIfInBounds_toArray, List.set]
    refine by_rung (by rfl) (.int .i64 ct) (fun _ h => run_lc rfl ((h.k 1).trans rfl)) ?_
    simp only [Act.put, List.setIfInBounds_toArray, List.set]
    refine by_wpg rfl (by rfl) ?_
    unfold Oper.wp
    rw [run_c3 rfl rfl rfl rfl (fun _ _ => by kernel_rfl)]
    refine (in_any _ _ _ _).mono ?_
    rintro e w' ⟨rfl, rfl⟩
    rw [h1]
    refine ⟨fun _ => B1, ?_⟩
    simp only [Act.put, List.setIfInBounds_toArray, List.set]
    refine by_rung (by rfl) (.bool false) (fun _ h => by simp [execOp, go_sem]) ?_
    simp only [Act.put, List.setIfInBounds_toArray, List.set]
    refine by_rung (by rfl) (.bool false) (fun _ h => run_mv rfl) ?_
    simp only [Act.put, List.setIfInBounds_toArray, List.set]
    refine by_skipr (by rfl) ?_
    simp only [Act.put, List.setIfInBounds_toArray, List.set]
    refine by_skipr (by rfl) ?_
    simp only [Act.put, List.setIfInBounds_toArray, List.set]
    refine by_skipr (by rfl) ?_
    simp only [Act.put, List.setIfInBounds_toArray, List.set]
    refine by_skipr (by rfl) ?_
    simp only [Act.put, List.setIfInBounds_toArray, List.set]
    refine by_skipw rfl (by rfl) (fun _ => B1) ?_
    simp only [Act.put, List.setIfInBounds_toArray, List.set]
    refine by_skipr (by rfl) ?_
    simp only [Act.put, List.setIfInBounds_toArray, List.set]
    refine by_rung (by rfl) (.bool false) (fun _ h => by simp [execOp, go_sem]) ?_
    simp only [Act.put, List.setIfInBounds_toArray, List.set]
    refine by_rung (by rfl) (.bool false) (fun _ h => run_mv rfl) ?_
    simp only [Act.put, List.setIfInBounds_toArray, List.set]
    refine by_skipr (by rfl) ?_
    simp only [Act.put, List.setIfInBounds_toArray, List.set]
    refine by_skipr (by rfl) ?_
    simp only [Act.put, List.setIfInBounds_toArray, List.set]
    refine by_skipw rfl (by rfl) (fun _ => B1) ?_
    simp only [Act.put, List.setIfInBounds_toArray, List.set]
    refine by_rung (by rfl) (.bool false) (fun _ h => by simp [execOp, go_sem]) ?_
    simp only [Act.put, List.setIfInBounds_toArray, List.set]
    refine by_setv rfl rfl _ rfl (.bool false) rfl ⟨fun _ => B1, ?_⟩
    refine by_nil ?_
    go_wp2
    go_ret
    refine ⟨ret_bool ?_, b0⟩
    simp [rxB, h1]
  have hc := (inB_iff ct 0 9999).1 h1
  cases h2 : (ct % 8 == ex)
  · go_enter Try.func9, Try.ntmps9
    go_wp2_with (first
      | ((with_reducible refine at_box 1 26 ?_); refine box_box (d := 1) rfl rfl 26 _ rfl _ rfl ?_; intro w' B1 bb; have n1 := b0.size;    replace b0 := bchain b0 bb;  clear bb; skip))
    replace b0 := b0.drew
    replace B1 := B1.drew
    refine region_by (fun wx => Bl wx w.heap.size #[.int .i64 ex, .int .i64 ct, .int .i64 len, .slice a n cap, .bool ag, .bool bu, .bool de] 26) 22 [(0, true), (1, true), (2, false), (3, true), (4, true), (5, true), (6, false), (7, true), (8, true), (9, true), (10, true), (12, true), (13, true), (11, false), (14, true), (15, true), (16, true), (17, true), (18, true), (19, false), (20, true), (21, false)] ⟨none, .assign (.tmp 0), 0, "", #[], none⟩ (by kernel_rfl) (by kernel_rfl) B1 (fun x _ _ _ _ h => by cases x <;> exact h) ?_
    simp only [arrange, List.map_cons, List.map_nil, List.getD_cons_zero, List.getD_cons_succ]
    generalize World.drew _ = dw at b0 B1 ⊢
    refine by_rung (by rfl) (.pointer (some ⟨w.heap.size, 0, none⟩)) (fun _ h => by simp [execOp, go_sem]) ?_
    simp only [Act.put, List.setIfInBounds_toArray, List.set]
    refine by_rung (by rfl) (.int .i64 ex) (fun _ h => run_lc rfl ((h.k 0).trans rfl)) ?_
    simp only [Act.put, List.setIfInBounds_toArray, List.set]
    refine by_wpg rfl (by rfl) ?_
    unfold Oper.wp
    rw [run_c3 rfl rfl rfl rfl (fun _ _ => by kernel_rfl)]
    refine (in_any _ _ _ _).mono ?_
    rintro e w' ⟨rfl, rfl⟩
    rw [h0]
    refine ⟨fun _ => B1, ?_⟩
    simp only [Act.put, List.setIfInBounds_toArray, List.set]
    refine by_rung (by rfl) (.bool true) (fun _ h => run_mv rfl) ?_
    simp only [Act.put, List.setIfInBounds_toArray, List.set]
    refine by_rung (by rfl) (.pointer (some ⟨w.heap.size, 1, none⟩)) (fun _ h => by simp [execOp, go_sem]) ?_
    simp only [Act.put, List.setIfInBounds_toArray, List.set]
    refine by_rung (by rfl) (.int .i64 ct) (fun _ h => run_lc rfl ((h.k 1).trans rfl)) ?_
    simp only [Act.put, List.setIfInBounds_toArray, List.set]
    refine by_wpg rfl (by rfl) ?_
    unfold Oper.wp
    rw [run_c3 rfl rfl rfl rfl (fun _ _ => by kernel_rfl)]
    refine (in_any _ _ _ _).mono ?_
    rintro e w' ⟨rfl, rfl⟩
    rw [h1]
    refine ⟨fun _ => B1, ?_⟩
    simp only [Act.put, List.setIfInBounds_toArray, List.set]
    refine by_rung (by rfl) (.bool true) (fun _ h => by simp [execOp, go_sem]) ?_
    simp only [Act.put, List.setIfInBounds_toArray, List.set]
    refine by_rung (by rfl) (.bool true) (fun _ h => run_mv rfl) ?_
    simp only [Act.put, List.setIfInBounds_toArray, List.set]
    refine by_rung (by rfl) (.pointer (some ⟨w.heap.size, 1, none⟩)) (fun _ h => by simp [execOp, go_sem]) ?_
    simp only [Act.put, List.setIfInBounds_toArray, List.set]
    refine by_rung (by rfl) (.int .i64 ct) (fun _ h => run_lc rfl ((h.k 1).trans rfl)) ?_
    simp only [Act.put, List.setIfInBounds_toArray, List.set]
    refine by_rung (by rfl) (.pointer (some ⟨w.heap.size, 0, none⟩)) (fun _ h => by simp [execOp, go_sem]) ?_
    simp only [Act.put, List.setIfInBounds_toArray, List.set]
    refine by_rung (by rfl) (.int .i64 ex) (fun _ h => run_lc rfl ((h.k 0).trans rfl)) ?_
    simp only [Act.put, List.setIfInBounds_toArray, List.set]
    refine by_wpg rfl (by rfl) ?_
    unfold Oper.wp
    rw [run_c1 rfl rfl (fun _ _ => by kernel_rfl)]
    refine (spec_numof _ (by omega) _).mono ?_
    rintro e w' ⟨rfl, rfl⟩
    refine ⟨fun _ => B1, ?_⟩
    simp only [Act.put, List.setIfInBounds_toArray, List.set]
    refine by_rung (by rfl) (.bool false) (fun _ h => by simp [execOp, go_sem, h2]) ?_
    simp only [Act.put, List.setIfInBounds_toArray, List.set]
    refine by_rung (by rfl) (.bool false) (fun _ h => by simp [execOp, go_sem]) ?_
    simp only [Act.put, List.setIfInBounds_toArray, List.set]
    refine by_rung (by rfl) (.bool false) (fun _ h => run_mv rfl) ?_
    simp only [Act.put, List.setIfInBounds_toArray, List.set]
    refine by_skipr (by rfl) ?_
    simp only [Act.put, List.setIfInBounds_toArray, List.set]
    refine by_skipr (by rfl) ?_
    simp only [Act.put, List.setIfInBounds_toArray, List.set]
    refine by_skipw rfl (by rfl) (fun _ => B1) ?_
    simp only [Act.put, List.setIfInBounds_toArray, List.set]
    refine by_rung (by rfl) (.bool false) (fun _ h => by simp [execOp, go_sem]) ?_
    simp only [Act.put, List.setIfInBounds_toArray, List.set]
    refine by_setv rfl rfl _ rfl (.bool false) rfl ⟨fun _ => B1, ?_⟩
    refine by_nil ?_
    go_wp2
    go_ret
    refine ⟨ret_bool ?_, b0⟩
    simp [rxB, h2]
  · go_enter Try.func9, Try.ntmps9
    go_wp2_with (first
      | ((with_reducible refine at_box 1 26 ?_); refine box_box (d := 1) rfl rfl 26 _ rfl _ rfl ?_; intro w' B1 bb; have n1 := b0.size;    replace b0 := bchain b0 bb;  clear bb; skip))
    replace b0 := b0.drew
    replace B1 := B1.drew
    refine region_by (fun wx => Bl wx w.heap.size #[.int .i64 ex, .int .i64 ct, .int .i64 len, .slice a n cap, .bool ag, .bool bu, .bool de] 26) 22 [(0, true), (1, true), (2, false), (3, true), (4, true), (5, true), (6, false), (7, true), (8, true), (9, true), (10, true), (12, true), (13, true), (11, false), (14, true), (15, true), (16, true), (17, true), (18, true), (19, false), (20, true), (21, false)] ⟨none, .assign (.tmp 0), 0, "", #[], none⟩ (by kernel_rfl) (by kernel_rfl) B1 (fun x _ _ _ _ h => by cases x <;> exact h) ?_
    simp only [arrange, List.map_cons, List.map_nil, List.getD_cons_zero, List.getD_cons_succ]
    generalize World.drew _ = dw at b0 B1 ⊢
    refine by_rung (by rfl) (.pointer (some ⟨w.heap.size, 0, none⟩)) (fun _ h => by simp [execOp, go_sem]) ?_
    simp only [Act.put, List.setIfInBounds_toArray, List.set]
    refine by_rung (by rfl) (.int .i64 ex) (fun _ h => run_lc rfl ((h.k 0).trans rfl)) ?_
    simp only [Act.put, List.setIfInBounds_toArray, List.set]
    refine by_wpg rfl (by rfl) ?_
    unfold Oper.wp
    rw [run_c3 rfl rfl rfl rfl (fun _ _ => by kernel_rfl)]
    refine (in_any _ _ _ _).mono ?_
    rintro e w' ⟨rfl, rfl⟩
    rw [h0]
    refine ⟨fun _ => B1, ?_⟩
    simp only [Act.put, List.setIfInBounds_toArray, List.set]
    refine by_rung (by rfl) (.bool true) (fun _ h => run_mv rfl) ?_
    simp only [Act.put, List.setIfInBounds_toArray, List.set]
    refine by_rung (by rfl) (.pointer (some ⟨w.heap.size, 1, none⟩)) (fun _ h => by simp [execOp, go_sem]) ?_
    simp only [Act.put, List.setIfInBounds_toArray, List.set]
    refine by_rung (by rfl) (.int .i64 ct) (fun _ h => run_lc rfl ((h.k 1).trans rfl)) ?_
    simp only [Act.put, List.setIfInBounds_toArray, List.set]
    refine by_wpg rfl (by rfl) ?_
    unfold Oper.wp
    rw [run_c3 rfl rfl rfl rfl (fun _ _ => by kernel_rfl)]
    refine (in_any _ _ _ _).mono ?_
    rintro e w' ⟨rfl, rfl⟩
    rw [h1]
    refine ⟨fun _ => B1, ?_⟩
    simp only [Act.put, List.setIfInBounds_toArray, List.set]
    refine by_rung (by rfl) (.bool true) (fun _ h => by simp [execOp, go_sem]) ?_
    simp only [Act.put, List.setIfInBounds_toArray, List.set]
    refine by_rung (by rfl) (.bool true) (fun _ h => run_mv rfl) ?_
    simp only [Act.put, List.setIfInBounds_toArray, List.set]
    refine by_rung (by rfl) (.pointer (some ⟨w.heap.size, 1, none⟩)) (fun _ h => by simp [execOp, go_sem]) ?_
    simp only [Act.put, List.setIfInBounds_toArray, List.set]
    refine by_rung (by rfl) (.int .i64 ct) (fun _ h => run_lc rfl ((h.k 1).trans rfl)) ?_
    simp only [Act.put, List.setIfInBounds_toArray, List.set]
    refine by_rung (by rfl) (.pointer (some ⟨w.heap.size, 0, none⟩)) (fun _ h => by simp [execOp, go_sem]) ?_
    simp only [Act.put, List.setIfInBounds_toArray, List.set]
    refine by_rung (by rfl) (.int .i64 ex) (fun _ h => run_lc rfl ((h.k 0).trans rfl)) ?_
    simp only [Act.put, List.setIfInBounds_toArray, List.set]
    refine by_wpg rfl (by rfl) ?_
    unfold Oper.wp
    rw [run_c1 rfl rfl (fun _ _ => by kernel_rfl)]
    refine (spec_numof _ (by omega) _).mono ?_
    rintro e w' ⟨rfl, rfl⟩
    refine ⟨fun _ => B1, ?_⟩
    simp only [Act.put, List.setIfInBounds_toArray, List.set]
    refine by_rung (by rfl) (.bool true) (fun _ h => by simp [execOp, go_sem, h2]) ?_
    simp only [Act.put, List.setIfInBounds_toArray, List.set]
    refine by_rung (by rfl) (.bool true) (fun _ h => by simp [execOp, go_sem]) ?_
    simp only [Act.put, List.setIfInBounds_toArray, List.set]
    refine by_rung (by rfl) (.bool true) (fun _ h => run_mv rfl) ?_
    simp only [Act.put, List.setIfInBounds_toArray, List.set]
    refine by_rung (by rfl) (.pointer (some ⟨w.heap.size, 2, none⟩)) (fun _ h => by simp [execOp, go_sem]) ?_
    simp only [Act.put, List.setIfInBounds_toArray, List.set]
    refine by_rung (by rfl) (.agg #[.int .i64 len, .slice a n cap]) (fun _ h => run_ldp (cs := #[.int .i64 len, .slice a n cap]) rfl (bl_range h 2 _ (fun j v e => by match j, e with | 0, e => exact e | 1, e => exact e | (j + 2), e => simp at e)) Try.underlying24 rfl (by kernel_rfl)) ?_
    simp only [Act.put, List.setIfInBounds_toArray, List.set]
    refine by_wpg rfl (by rfl) ?_
    unfold Oper.wp
    rw [run_c1 rfl rfl (fun _ _ => by kernel_rfl)]
    refine (spec_join _ _ _ _ _).mono ?_
    rintro e w' ⟨rfl, bb⟩
    replace b0 := bchain b0 bb
    replace B1 := B1.kept bb
    clear bb
    refine ⟨fun _ => B1, ?_⟩
    simp only [Act.put, List.setIfInBounds_toArray, List.set]
    refine by_rung (by rfl) (.bool (joinB len n)) (fun _ h => by simp [execOp, go_sem]) ?_
    simp only [Act.put, List.setIfInBounds_toArray, List.set]
    refine by_setv rfl rfl _ rfl (.bool (joinB len n)) rfl ⟨fun _ => B1, ?_⟩
    refine by_nil ?_
    go_wp2
    go_ret
    refine ⟨ret_bool ?_, b0⟩
    simp [rxB, h1, h2]
end Go.Proofs.Ytpdndapegiglcaa
