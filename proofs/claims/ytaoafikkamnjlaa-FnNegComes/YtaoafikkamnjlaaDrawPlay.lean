/- What two want, and what happens, drawn. -/
import Derived.Test.YtaoafikkamnjlaaDrawMeet
import Derived.Laws.OwnMore
namespace Go.Proofs.Ytaoafikkamnjlaa
open Go.RowKit
/-- The call owns, from block B on, these numbers. -/
def OwnI (w : World) (B : Nat) (v : Value) (ks : List Nat) : Prop := w.ownsRow B 3 1 v ks.length (ks.map fun (k : Nat) => Value.int .i64 (k : Int))
theorem OwnI.by {w w' : World} {B : Nat} {v : Value} {ks : List Nat} {g : Nat} (h : OwnI w B v ks) (k : w.grownBy w' (some g)) (hg : g < B) : OwnI w' B v ks :=
  World.ownsRow.kept h k (by
    cases e : v.ownBlock with
    | none => exact .inl rfl
    | some j =>
      refine .inr (fun e' => ?_)
      have := (World.ownsRow.lt h j e).1
      cases e'
      omega)
theorem OwnI.kept {w w' : World} {B : Nat} {v : Value} {ks : List Nat} (h : OwnI w B v ks) (hb : Below w.heap.size w w') : OwnI w' B v ks :=
  World.ownsRow.kept h (below_grown hb) (by cases v.ownBlock <;> simp)
theorem OwnI.drew {w : World} {B : Nat} {v : Value} {ks : List Nat} (h : OwnI w B v ks) : OwnI w.drew B v ks := h
theorem OwnI.base {w : World} {B C : Nat} {v : Value} {ks : List Nat} (h : OwnI w B v ks) (hc : C ≤ B) : OwnI w C v ks := by
  refine ⟨h.1, ?_⟩
  rcases h.2 with h0 | ⟨g, cap, cur, e, hb, r⟩
  · exact .inl h0
  · exact .inr ⟨g, cap, cur, e, Nat.le_trans hc hb, r⟩
theorem OwnI.form {w : World} {B : Nat} {v : Value} {ks : List Nat} (h : OwnI w B v ks) : ∃ a c, v = .slice a ks.length c := by
  rcases h.2 with ⟨h, h0⟩ | ⟨g, cap, cur, h, _⟩
  · exact ⟨_, _, by rw [h, h0]⟩
  · exact ⟨_, _, h⟩
theorem OwnI.at {w : World} {B : Nat} {v : Value} {ks : List Nat} (h : OwnI w B v ks) (j : Nat) (hj : j < ks.length) : ∃ g c, v = .slice (some ⟨g, 0, none⟩) ks.length c ∧ w.cell? ⟨g, j, none⟩ = some (.int .i64 (ks[j] : Int)) := by
  have h0 := h
  rcases h.2 with ⟨_, h0⟩ | ⟨g, cap, cur, e, _⟩
  · omega
  · subst e
    refine ⟨g, cap, rfl, ?_⟩
    rw [World.ownsRow.cellAt h0 j (by omega)]
    simp [hj]
theorem ownI_empty (w : World) (B : Nat) (hB : B ≤ w.heap.size) : OwnI (w.alloc (.cells #[] 3)) B (.slice (some ⟨w.heap.size, 0, none⟩) 0 0) [] :=
  World.ownsRow_lit (base := B) (e := 3) (size := 1) w #[] 0 hB (by unfold maxLen; omega) rfl
theorem Try.infoI : (Try.prog.info? 3).map (fun i => (i.zero, i.size, i.bytes)) = some (some (.int .i64 0), 1, 8) := by kernel_rfl
theorem wpList_appI {w : World} {ops : Array Oper} {rest : List Oper} {o : Oper} {a : Act} {Q : Exit → Act → World → Prop} (hgd : o.guard = none) (s x : Operand)
    (ho : o.op = .call { callee := .builtin .append, args := #[s, x], argTypes := #[39, 39] }) (B : Nat) (v : Value) (ks : List Nat) (hs : a.eval s = v) (hown : OwnI w B v ks)
    (g c k : Nat) (hx : a.eval x = .slice (some ⟨g, 0, none⟩) 1 c) (hc : w.cell? ⟨g, 0, none⟩ = some (.int .i64 (k : Int))) (hl : ks.length ≤ 1000000) (hB : B ≤ w.heap.size)
    (h : ∀ v' w', OwnI w' B v' (ks ++ [k]) → w.grownBy w' v.ownBlock → wpList Try.prog ops Q rest (a.put o.dst v') w') : wpList Try.prog ops Q (o :: rest) a w := by
  obtain ⟨i0, hi, hz0, hz1, hz2⟩ := info_parts Try.infoI
  refine wpList_append_own w hgd s x 39 ho B 3 i0 _ 1 8 Try.underlying39 hi hz0 hz1 hz2 rfl (by decide) v ks.length _ hs hown ⟨g, 0, none⟩ 1 c [.int .i64 (k : Int)] hx rfl ?_ ?_ (by unfold maxLen; omega) (by omega) hB ?_
  · intro j u hj
    rw [add_at, Nat.zero_add]
    match j, hj with
    | 0, hj => rw [hc]; simpa using hj
    | (i + 1), hj => simp at hj
  · intro u hu
    simp only [List.mem_singleton] at hu
    subst hu
    rfl
  · intro v' w' h1 h2 _
    refine h v' w' ?_ h2
    unfold OwnI
    rw [List.length_append, List.map_append]
    exact h1
theorem Rdr.names {w : World} {B g p : Nat} {zs : List Nat} (_h : Rdr w B g p zs) : ∃ g', g' = g := ⟨g, rfl⟩
set_option maxRecDepth 100000 in
set_option maxHeartbeats 4000000 in
theorem play_any (v : Value) (zs : List Nat) (w : World) (h : Rd w v zs) :
    Calls Try.prog 22 #[v] w fun e w' => ∃ (a1 a2 a3 a4 a5 b1 b2 b3 b4 b5 : Int) (v' : Value) (ks : List Nat), e = .returned (.tuple #[.agg #[.int .i64 a1, .int .i64 a2, .int .i64 a3, .int .i64 a4, .int .i64 a5], .agg #[.int .i64 b1, .int .i64 b2, .int .i64 b3, .int .i64 b4, .int .i64 b5], v']) ∧ Opt.ok ⟨a1, a2, a3, a4, a5⟩ = true ∧ Opt.ok ⟨b1, b2, b3, b4, b5⟩ = true ∧ (∀ k ∈ ks, k < 12) ∧ ks.length < 50 ∧ OwnI w' w.heap.size v' ks ∧ Below w.heap.size w w' := by
  have b0 : Below w.heap.size w w := Below.refl _ _
  go_enter Try.func22, Try.ntmps22
  go_wp2_with (first
    | ((with_reducible refine at_new 2 24 ?_); refine box_new (d := 2) rfl rfl 24 rfl _ zero_cfg ?_; intro w' B2 bb; have n2 := b0.size; (try have lr_2 := r.lt); (try have l3_2 := B3.lt); (try have l6_2 := B6.lt); (try have l7_2 := B7.lt); (try clear k6); (try clear k7); replace b0 := bchain b0 bb; (try replace r := r.kept bb);  (try replace B3 := B3.kept bb); (try replace B6 := B6.kept bb); (try replace B7 := B7.kept bb); clear bb; (try have k6 := B6.k); (try have k7 := B7.k))
    | ((with_reducible refine at_new 3 24 ?_); refine box_new (d := 3) rfl rfl 24 rfl _ zero_cfg ?_; intro w' B3 bb; have n3 := b0.size; (try have lr_3 := r.lt); (try have l2_3 := B2.lt); (try have l6_3 := B6.lt); (try have l7_3 := B7.lt); (try clear k6); (try clear k7); replace b0 := bchain b0 bb; (try replace r := r.kept bb); (try replace B2 := B2.kept bb);  (try replace B6 := B6.kept bb); (try replace B7 := B7.kept bb); clear bb; (try have k6 := B6.k); (try have k7 := B7.k))
    | ((with_reducible refine at_new 6 24 ?_); refine box_new (d := 6) rfl rfl 24 rfl _ zero_cfg ?_; intro w' B6 bb; have n6 := b0.size; (try have lr_6 := r.lt); (try have l2_6 := B2.lt); (try have l3_6 := B3.lt); (try have l7_6 := B7.lt); (try clear k6); (try clear k7); replace b0 := bchain b0 bb; (try replace r := r.kept bb); (try replace B2 := B2.kept bb); (try replace B3 := B3.kept bb);  (try replace B7 := B7.kept bb); clear bb; (try have k6 := B6.k); (try have k7 := B7.k))
    | ((with_reducible refine at_new 7 24 ?_); refine box_new (d := 7) rfl rfl 24 rfl _ zero_cfg ?_; intro w' B7 bb; have n7 := b0.size; (try have lr_7 := r.lt); (try have l2_7 := B2.lt); (try have l3_7 := B3.lt); (try have l6_7 := B6.lt); (try clear k6); (try clear k7); replace b0 := bchain b0 bb; (try replace r := r.kept bb); (try replace B2 := B2.kept bb); (try replace B3 := B3.kept bb); (try replace B6 := B6.kept bb);  clear bb; (try have k6 := B6.k); (try have k7 := B7.k))
    | ((with_reducible refine at_store 24 ?_); refine box_store rfl 24 _ _ rfl _ _ rfl rfl (by with_reducible exact B6) (by kernel_rfl) (by rfl) (by simp [Value.oneCell']) ?_; clear B6; intro w' B6 gg; (try clear k6); (try clear k7); replace b0 := below_at b0 gg b0.size n6; (try replace r := r.at gg (Nat.le_trans r.1 (Nat.le_of_lt lr_6)) (Nat.ne_of_gt lr_6)); (try replace B2 := B2.grown gg (Nat.ne_of_lt l2_6)); (try replace B3 := B3.grown gg (Nat.ne_of_lt l3_6)); (try replace B7 := B7.grown gg (Nat.ne_of_gt l6_7)); clear gg; (try have k6 := B6.k); (try have k7 := B7.k))
    | ((with_reducible refine at_store 24 ?_); refine box_store rfl 24 _ _ rfl _ _ rfl rfl (by with_reducible exact B7) (by kernel_rfl) (by rfl) (by simp [Value.oneCell']) ?_; clear B7; intro w' B7 gg; (try clear k6); (try clear k7); replace b0 := below_at b0 gg b0.size n7; (try replace r := r.at gg (Nat.le_trans r.1 (Nat.le_of_lt lr_7)) (Nat.ne_of_gt lr_7)); (try replace B2 := B2.grown gg (Nat.ne_of_lt l2_7)); (try replace B3 := B3.grown gg (Nat.ne_of_lt l3_7)); (try replace B6 := B6.grown gg (Nat.ne_of_lt l6_7)); clear gg; (try have k6 := B6.k); (try have k7 := B7.k))
    | ((with_reducible refine at_store 3 ?_); refine box_int rfl _ _ rfl _ _ _ rfl rfl (by with_reducible exact B7) (by simp) ?_; clear B7; intro w' B7 gg; simp only [List.setIfInBounds_toArray, List.set] at B7; (try clear k6); (try clear k7); replace b0 := below_at b0 gg b0.size n7; (try replace r := r.at gg (Nat.le_trans r.1 (Nat.le_of_lt lr_7)) (Nat.ne_of_gt lr_7)); (try replace B2 := B2.grown gg (Nat.ne_of_lt l2_7)); (try replace B3 := B3.grown gg (Nat.ne_of_lt l3_7)); (try replace B6 := B6.grown gg (Nat.ne_of_lt l6_7)); clear gg; (try have k6 := B6.k); (try have k7 := B7.k)))
  refine (open_any v zs _ (h.kept b0)).mono ?_
  have nr := b0.size
  have l2_r := B2.lt
  have l3_r := B3.lt
  rintro e w' ⟨rfl, ⟨cs, r⟩, bb⟩
  (try clear k6)
  (try clear k7)
  replace b0 := bchain b0 bb
  (try replace B2 := B2.kept bb)
  (try replace B3 := B3.kept bb)
  (try replace B6 := B6.kept bb)
  (try replace B7 := B7.kept bb)
  clear bb
  (try have k6 := B6.k)
  (try have k7 := B7.k)
  go_wp2_with (first
    | ((with_reducible refine at_new 2 24 ?_); refine box_new (d := 2) rfl rfl 24 rfl _ zero_cfg ?_; intro w' B2 bb; have n2 := b0.size; (try have lr_2 := r.lt); (try have l3_2 := B3.lt); (try have l6_2 := B6.lt); (try have l7_2 := B7.lt); (try clear k6); (try clear k7); replace b0 := bchain b0 bb; (try replace r := r.kept bb);  (try replace B3 := B3.kept bb); (try replace B6 := B6.kept bb); (try replace B7 := B7.kept bb); clear bb; (try have k6 := B6.k); (try have k7 := B7.k))
    | ((with_reducible refine at_new 3 24 ?_); refine box_new (d := 3) rfl rfl 24 rfl _ zero_cfg ?_; intro w' B3 bb; have n3 := b0.size; (try have lr_3 := r.lt); (try have l2_3 := B2.lt); (try have l6_3 := B6.lt); (try have l7_3 := B7.lt); (try clear k6); (try clear k7); replace b0 := bchain b0 bb; (try replace r := r.kept bb); (try replace B2 := B2.kept bb);  (try replace B6 := B6.kept bb); (try replace B7 := B7.kept bb); clear bb; (try have k6 := B6.k); (try have k7 := B7.k))
    | ((with_reducible refine at_new 6 24 ?_); refine box_new (d := 6) rfl rfl 24 rfl _ zero_cfg ?_; intro w' B6 bb; have n6 := b0.size; (try have lr_6 := r.lt); (try have l2_6 := B2.lt); (try have l3_6 := B3.lt); (try have l7_6 := B7.lt); (try clear k6); (try clear k7); replace b0 := bchain b0 bb; (try replace r := r.kept bb); (try replace B2 := B2.kept bb); (try replace B3 := B3.kept bb);  (try replace B7 := B7.kept bb); clear bb; (try have k6 := B6.k); (try have k7 := B7.k))
    | ((with_reducible refine at_new 7 24 ?_); refine box_new (d := 7) rfl rfl 24 rfl _ zero_cfg ?_; intro w' B7 bb; have n7 := b0.size; (try have lr_7 := r.lt); (try have l2_7 := B2.lt); (try have l3_7 := B3.lt); (try have l6_7 := B6.lt); (try clear k6); (try clear k7); replace b0 := bchain b0 bb; (try replace r := r.kept bb); (try replace B2 := B2.kept bb); (try replace B3 := B3.kept bb); (try replace B6 := B6.kept bb);  clear bb; (try have k6 := B6.k); (try have k7 := B7.k))
    | ((with_reducible refine at_store 24 ?_); refine box_store rfl 24 _ _ rfl _ _ rfl rfl (by with_reducible exact B6) (by kernel_rfl) (by rfl) (by simp [Value.oneCell']) ?_; clear B6; intro w' B6 gg; (try clear k6); (try clear k7); replace b0 := below_at b0 gg b0.size n6; (try replace r := r.at gg (Nat.le_trans r.1 (Nat.le_of_lt lr_6)) (Nat.ne_of_gt lr_6)); (try replace B2 := B2.grown gg (Nat.ne_of_lt l2_6)); (try replace B3 := B3.grown gg (Nat.ne_of_lt l3_6)); (try replace B7 := B7.grown gg (Nat.ne_of_gt l6_7)); clear gg; (try have k6 := B6.k); (try have k7 := B7.k))
    | ((with_reducible refine at_store 24 ?_); refine box_store rfl 24 _ _ rfl _ _ rfl rfl (by with_reducible exact B7) (by kernel_rfl) (by rfl) (by simp [Value.oneCell']) ?_; clear B7; intro w' B7 gg; (try clear k6); (try clear k7); replace b0 := below_at b0 gg b0.size n7; (try replace r := r.at gg (Nat.le_trans r.1 (Nat.le_of_lt lr_7)) (Nat.ne_of_gt lr_7)); (try replace B2 := B2.grown gg (Nat.ne_of_lt l2_7)); (try replace B3 := B3.grown gg (Nat.ne_of_lt l3_7)); (try replace B6 := B6.grown gg (Nat.ne_of_lt l6_7)); clear gg; (try have k6 := B6.k); (try have k7 := B7.k))
    | ((with_reducible refine at_store 3 ?_); refine box_int rfl _ _ rfl _ _ _ rfl rfl (by with_reducible exact B7) (by simp) ?_; clear B7; intro w' B7 gg; simp only [List.setIfInBounds_toArray, List.set] at B7; (try clear k6); (try clear k7); replace b0 := below_at b0 gg b0.size n7; (try replace r := r.at gg (Nat.le_trans r.1 (Nat.le_of_lt lr_7)) (Nat.ne_of_gt lr_7)); (try replace B2 := B2.grown gg (Nat.ne_of_lt l2_7)); (try replace B3 := B3.grown gg (Nat.ne_of_lt l3_7)); (try replace B6 := B6.grown gg (Nat.ne_of_lt l6_7)); clear gg; (try have k6 := B6.k); (try have k7 := B7.k)))
  refine (cfg_any _ _ _ cs 0 _ r (by omega) (by omega)).mono ?_
  clear r
  rintro e w' ⟨a1, a2, a3, a4, a5, p1, rfl, _, hA, _, hp1, r, gg⟩
  (try clear k6)
  (try clear k7)
  replace b0 := below_at b0 gg b0.size (by omega)
  (try replace B2 := B2.grown gg (by omega))
  (try replace B3 := B3.grown gg (by omega))
  (try replace B6 := B6.grown gg (by omega))
  (try replace B7 := B7.grown gg (by omega))
  clear gg
  (try have k6 := B6.k)
  (try have k7 := B7.k)
  replace hA := hA rfl
  go_wp2_with (first
    | ((with_reducible refine at_new 2 24 ?_); refine box_new (d := 2) rfl rfl 24 rfl _ zero_cfg ?_; intro w' B2 bb; have n2 := b0.size; (try have lr_2 := r.lt); (try have l3_2 := B3.lt); (try have l6_2 := B6.lt); (try have l7_2 := B7.lt); (try clear k6); (try clear k7); replace b0 := bchain b0 bb; (try replace r := r.kept bb);  (try replace B3 := B3.kept bb); (try replace B6 := B6.kept bb); (try replace B7 := B7.kept bb); clear bb; (try have k6 := B6.k); (try have k7 := B7.k))
    | ((with_reducible refine at_new 3 24 ?_); refine box_new (d := 3) rfl rfl 24 rfl _ zero_cfg ?_; intro w' B3 bb; have n3 := b0.size; (try have lr_3 := r.lt); (try have l2_3 := B2.lt); (try have l6_3 := B6.lt); (try have l7_3 := B7.lt); (try clear k6); (try clear k7); replace b0 := bchain b0 bb; (try replace r := r.kept bb); (try replace B2 := B2.kept bb);  (try replace B6 := B6.kept bb); (try replace B7 := B7.kept bb); clear bb; (try have k6 := B6.k); (try have k7 := B7.k))
    | ((with_reducible refine at_new 6 24 ?_); refine box_new (d := 6) rfl rfl 24 rfl _ zero_cfg ?_; intro w' B6 bb; have n6 := b0.size; (try have lr_6 := r.lt); (try have l2_6 := B2.lt); (try have l3_6 := B3.lt); (try have l7_6 := B7.lt); (try clear k6); (try clear k7); replace b0 := bchain b0 bb; (try replace r := r.kept bb); (try replace B2 := B2.kept bb); (try replace B3 := B3.kept bb);  (try replace B7 := B7.kept bb); clear bb; (try have k6 := B6.k); (try have k7 := B7.k))
    | ((with_reducible refine at_new 7 24 ?_); refine box_new (d := 7) rfl rfl 24 rfl _ zero_cfg ?_; intro w' B7 bb; have n7 := b0.size; (try have lr_7 := r.lt); (try have l2_7 := B2.lt); (try have l3_7 := B3.lt); (try have l6_7 := B6.lt); (try clear k6); (try clear k7); replace b0 := bchain b0 bb; (try replace r := r.kept bb); (try replace B2 := B2.kept bb); (try replace B3 := B3.kept bb); (try replace B6 := B6.kept bb);  clear bb; (try have k6 := B6.k); (try have k7 := B7.k))
    | ((with_reducible refine at_store 24 ?_); refine box_store rfl 24 _ _ rfl _ _ rfl rfl (by with_reducible exact B6) (by kernel_rfl) (by rfl) (by simp [Value.oneCell']) ?_; clear B6; intro w' B6 gg; (try clear k6); (try clear k7); replace b0 := below_at b0 gg b0.size n6; (try replace r := r.at gg (Nat.le_trans r.1 (Nat.le_of_lt lr_6)) (Nat.ne_of_gt lr_6)); (try replace B2 := B2.grown gg (Nat.ne_of_lt l2_6)); (try replace B3 := B3.grown gg (Nat.ne_of_lt l3_6)); (try replace B7 := B7.grown gg (Nat.ne_of_gt l6_7)); clear gg; (try have k6 := B6.k); (try have k7 := B7.k))
    | ((with_reducible refine at_store 24 ?_); refine box_store rfl 24 _ _ rfl _ _ rfl rfl (by with_reducible exact B7) (by kernel_rfl) (by rfl) (by simp [Value.oneCell']) ?_; clear B7; intro w' B7 gg; (try clear k6); (try clear k7); replace b0 := below_at b0 gg b0.size n7; (try replace r := r.at gg (Nat.le_trans r.1 (Nat.le_of_lt lr_7)) (Nat.ne_of_gt lr_7)); (try replace B2 := B2.grown gg (Nat.ne_of_lt l2_7)); (try replace B3 := B3.grown gg (Nat.ne_of_lt l3_7)); (try replace B6 := B6.grown gg (Nat.ne_of_lt l6_7)); clear gg; (try have k6 := B6.k); (try have k7 := B7.k))
    | ((with_reducible refine at_store 3 ?_); refine box_int rfl _ _ rfl _ _ _ rfl rfl (by with_reducible exact B7) (by simp) ?_; clear B7; intro w' B7 gg; simp only [List.setIfInBounds_toArray, List.set] at B7; (try clear k6); (try clear k7); replace b0 := below_at b0 gg b0.size n7; (try replace r := r.at gg (Nat.le_trans r.1 (Nat.le_of_lt lr_7)) (Nat.ne_of_gt lr_7)); (try replace B2 := B2.grown gg (Nat.ne_of_lt l2_7)); (try replace B3 := B3.grown gg (Nat.ne_of_lt l3_7)); (try replace B6 := B6.grown gg (Nat.ne_of_lt l6_7)); clear gg; (try have k6 := B6.k); (try have k7 := B7.k)))
  refine (cfg_any _ _ _ cs 0 _ r (by omega) (by omega)).mono ?_
  clear r
  rintro e w' ⟨b1, b2, b3, b4, b5, p2, rfl, _, hB, _, hp2, r, gg⟩
  (try clear k6)
  (try clear k7)
  replace b0 := below_at b0 gg b0.size (by omega)
  (try replace B2 := B2.grown gg (by omega))
  (try replace B3 := B3.grown gg (by omega))
  (try replace B6 := B6.grown gg (by omega))
  (try replace B7 := B7.grown gg (by omega))
  clear gg
  (try have k6 := B6.k)
  (try have k7 := B7.k)
  replace hB := hB rfl
  go_wp2_with (first
    | ((with_reducible refine at_new 2 24 ?_); refine box_new (d := 2) rfl rfl 24 rfl _ zero_cfg ?_; intro w' B2 bb; have n2 := b0.size; (try have lr_2 := r.lt); (try have l3_2 := B3.lt); (try have l6_2 := B6.lt); (try have l7_2 := B7.lt); (try clear k6); (try clear k7); replace b0 := bchain b0 bb; (try replace r := r.kept bb);  (try replace B3 := B3.kept bb); (try replace B6 := B6.kept bb); (try replace B7 := B7.kept bb); clear bb; (try have k6 := B6.k); (try have k7 := B7.k))
    | ((with_reducible refine at_new 3 24 ?_); refine box_new (d := 3) rfl rfl 24 rfl _ zero_cfg ?_; intro w' B3 bb; have n3 := b0.size; (try have lr_3 := r.lt); (try have l2_3 := B2.lt); (try have l6_3 := B6.lt); (try have l7_3 := B7.lt); (try clear k6); (try clear k7); replace b0 := bchain b0 bb; (try replace r := r.kept bb); (try replace B2 := B2.kept bb);  (try replace B6 := B6.kept bb); (try replace B7 := B7.kept bb); clear bb; (try have k6 := B6.k); (try have k7 := B7.k))
    | ((with_reducible refine at_new 6 24 ?_); refine box_new (d := 6) rfl rfl 24 rfl _ zero_cfg ?_; intro w' B6 bb; have n6 := b0.size; (try have lr_6 := r.lt); (try have l2_6 := B2.lt); (try have l3_6 := B3.lt); (try have l7_6 := B7.lt); (try clear k6); (try clear k7); replace b0 := bchain b0 bb; (try replace r := r.kept bb); (try replace B2 := B2.kept bb); (try replace B3 := B3.kept bb);  (try replace B7 := B7.kept bb); clear bb; (try have k6 := B6.k); (try have k7 := B7.k))
    | ((with_reducible refine at_new 7 24 ?_); refine box_new (d := 7) rfl rfl 24 rfl _ zero_cfg ?_; intro w' B7 bb; have n7 := b0.size; (try have lr_7 := r.lt); (try have l2_7 := B2.lt); (try have l3_7 := B3.lt); (try have l6_7 := B6.lt); (try clear k6); (try clear k7); replace b0 := bchain b0 bb; (try replace r := r.kept bb); (try replace B2 := B2.kept bb); (try replace B3 := B3.kept bb); (try replace B6 := B6.kept bb);  clear bb; (try have k6 := B6.k); (try have k7 := B7.k))
    | ((with_reducible refine at_store 24 ?_); refine box_store rfl 24 _ _ rfl _ _ rfl rfl (by with_reducible exact B6) (by kernel_rfl) (by rfl) (by simp [Value.oneCell']) ?_; clear B6; intro w' B6 gg; (try clear k6); (try clear k7); replace b0 := below_at b0 gg b0.size n6; (try replace r := r.at gg (Nat.le_trans r.1 (Nat.le_of_lt lr_6)) (Nat.ne_of_gt lr_6)); (try replace B2 := B2.grown gg (Nat.ne_of_lt l2_6)); (try replace B3 := B3.grown gg (Nat.ne_of_lt l3_6)); (try replace B7 := B7.grown gg (Nat.ne_of_gt l6_7)); clear gg; (try have k6 := B6.k); (try have k7 := B7.k))
    | ((with_reducible refine at_store 24 ?_); refine box_store rfl 24 _ _ rfl _ _ rfl rfl (by with_reducible exact B7) (by kernel_rfl) (by rfl) (by simp [Value.oneCell']) ?_; clear B7; intro w' B7 gg; (try clear k6); (try clear k7); replace b0 := below_at b0 gg b0.size n7; (try replace r := r.at gg (Nat.le_trans r.1 (Nat.le_of_lt lr_7)) (Nat.ne_of_gt lr_7)); (try replace B2 := B2.grown gg (Nat.ne_of_lt l2_7)); (try replace B3 := B3.grown gg (Nat.ne_of_lt l3_7)); (try replace B6 := B6.grown gg (Nat.ne_of_lt l6_7)); clear gg; (try have k6 := B6.k); (try have k7 := B7.k))
    | ((with_reducible refine at_store 3 ?_); refine box_int rfl _ _ rfl _ _ _ rfl rfl (by with_reducible exact B7) (by simp) ?_; clear B7; intro w' B7 gg; simp only [List.setIfInBounds_toArray, List.set] at B7; (try clear k6); (try clear k7); replace b0 := below_at b0 gg b0.size n7; (try replace r := r.at gg (Nat.le_trans r.1 (Nat.le_of_lt lr_7)) (Nat.ne_of_gt lr_7)); (try replace B2 := B2.grown gg (Nat.ne_of_lt l2_7)); (try replace B3 := B3.grown gg (Nat.ne_of_lt l3_7)); (try replace B6 := B6.grown gg (Nat.ne_of_lt l6_7)); clear gg; (try have k6 := B6.k); (try have k7 := B7.k)))
  refine (pick_any _ _ _ cs 5 _ r (by omega) (by omega)).mono ?_
  clear r
  rintro e w' ⟨q, rfl, hq, r, gg⟩
  (try clear k6)
  (try clear k7)
  replace b0 := below_at b0 gg b0.size (by omega)
  (try replace B2 := B2.grown gg (by omega))
  (try replace B3 := B3.grown gg (by omega))
  (try replace B6 := B6.grown gg (by omega))
  (try replace B7 := B7.grown gg (by omega))
  clear gg
  (try have k6 := B6.k)
  (try have k7 := B7.k)
  by_cases hq0 : 0 < q
  · have hq1 : (0 : Int) < (q : Int) := by omega
    have hBB : Opt.ok ⟨a1, b2, b3, b4, b5⟩ = true := by
      simp only [Opt.ok, Bool.and_eq_true] at hA hB ⊢
      exact ⟨⟨⟨⟨hA.1.1.1.1, hB.1.1.1.2⟩, hB.1.1.2⟩, hB.1.2⟩, hB.2⟩
    go_wp2_with (first
      | ((with_reducible refine at_new 2 24 ?_); refine box_new (d := 2) rfl rfl 24 rfl _ zero_cfg ?_; intro w' B2 bb; have n2 := b0.size; (try have lr_2 := r.lt); (try have l3_2 := B3.lt); (try have l6_2 := B6.lt); (try have l7_2 := B7.lt); (try clear k6); (try clear k7); replace b0 := bchain b0 bb; (try replace r := r.kept bb);  (try replace B3 := B3.kept bb); (try replace B6 := B6.kept bb); (try replace B7 := B7.kept bb); clear bb; (try have k6 := B6.k); (try have k7 := B7.k))
      | ((with_reducible refine at_new 3 24 ?_); refine box_new (d := 3) rfl rfl 24 rfl _ zero_cfg ?_; intro w' B3 bb; have n3 := b0.size; (try have lr_3 := r.lt); (try have l2_3 := B2.lt); (try have l6_3 := B6.lt); (try have l7_3 := B7.lt); (try clear k6); (try clear k7); replace b0 := bchain b0 bb; (try replace r := r.kept bb); (try replace B2 := B2.kept bb);  (try replace B6 := B6.kept bb); (try replace B7 := B7.kept bb); clear bb; (try have k6 := B6.k); (try have k7 := B7.k))
      | ((with_reducible refine at_new 6 24 ?_); refine box_new (d := 6) rfl rfl 24 rfl _ zero_cfg ?_; intro w' B6 bb; have n6 := b0.size; (try have lr_6 := r.lt); (try have l2_6 := B2.lt); (try have l3_6 := B3.lt); (try have l7_6 := B7.lt); (try clear k6); (try clear k7); replace b0 := bchain b0 bb; (try replace r := r.kept bb); (try replace B2 := B2.kept bb); (try replace B3 := B3.kept bb);  (try replace B7 := B7.kept bb); clear bb; (try have k6 := B6.k); (try have k7 := B7.k))
      | ((with_reducible refine at_new 7 24 ?_); refine box_new (d := 7) rfl rfl 24 rfl _ zero_cfg ?_; intro w' B7 bb; have n7 := b0.size; (try have lr_7 := r.lt); (try have l2_7 := B2.lt); (try have l3_7 := B3.lt); (try have l6_7 := B6.lt); (try clear k6); (try clear k7); replace b0 := bchain b0 bb; (try replace r := r.kept bb); (try replace B2 := B2.kept bb); (try replace B3 := B3.kept bb); (try replace B6 := B6.kept bb);  clear bb; (try have k6 := B6.k); (try have k7 := B7.k))
      | ((with_reducible refine at_store 24 ?_); refine box_store rfl 24 _ _ rfl _ _ rfl rfl (by with_reducible exact B6) (by kernel_rfl) (by rfl) (by simp [Value.oneCell']) ?_; clear B6; intro w' B6 gg; (try clear k6); (try clear k7); replace b0 := below_at b0 gg b0.size n6; (try replace r := r.at gg (Nat.le_trans r.1 (Nat.le_of_lt lr_6)) (Nat.ne_of_gt lr_6)); (try replace B2 := B2.grown gg (Nat.ne_of_lt l2_6)); (try replace B3 := B3.grown gg (Nat.ne_of_lt l3_6)); (try replace B7 := B7.grown gg (Nat.ne_of_gt l6_7)); clear gg; (try have k6 := B6.k); (try have k7 := B7.k))
      | ((with_reducible refine at_store 24 ?_); refine box_store rfl 24 _ _ rfl _ _ rfl rfl (by with_reducible exact B7) (by kernel_rfl) (by rfl) (by simp [Value.oneCell']) ?_; clear B7; intro w' B7 gg; (try clear k6); (try clear k7); replace b0 := below_at b0 gg b0.size n7; (try replace r := r.at gg (Nat.le_trans r.1 (Nat.le_of_lt lr_7)) (Nat.ne_of_gt lr_7)); (try replace B2 := B2.grown gg (Nat.ne_of_lt l2_7)); (try replace B3 := B3.grown gg (Nat.ne_of_lt l3_7)); (try replace B6 := B6.grown gg (Nat.ne_of_lt l6_7)); clear gg; (try have k6 := B6.k); (try have k7 := B7.k))
      | ((with_reducible refine at_store 3 ?_); refine box_int rfl _ _ rfl _ _ _ rfl rfl (by with_reducible exact B7) (by simp) ?_; clear B7; intro w' B7 gg; simp only [List.setIfInBounds_toArray, List.set] at B7; (try clear k6); (try clear k7); replace b0 := below_at b0 gg b0.size n7; (try replace r := r.at gg (Nat.le_trans r.1 (Nat.le_of_lt lr_7)) (Nat.ne_of_gt lr_7)); (try replace B2 := B2.grown gg (Nat.ne_of_lt l2_7)); (try replace B3 := B3.grown gg (Nat.ne_of_lt l3_7)); (try replace B6 := B6.grown gg (Nat.ne_of_lt l6_7)); clear gg; (try have k6 := B6.k); (try have k7 := B7.k)))
    clear k6 k7
    obtain ⟨gR, eg⟩ := r.names
    rw [← eg] at r nr l2_r l3_r lr_6 lr_7
    have hgr := r.lt
    have hb2 := B2.lt
    have hb3 := B3.lt
    have hNN := b0.size
    have gz := grown_alloc w' (.cells #[] 3) (some gR)
    have O0 := ownI_empty w' w'.heap.size (Nat.le_refl _)
    replace r := r.kept (bo_alloc w' (.cells #[] 3))
    generalize w'.alloc (.cells #[] 3) = w5 at O0 gz r ⊢
    rw [eg] at r
    refine (pick_any _ _ _ cs 50 _ r (by omega) (by omega)).mono ?_
    clear r
    rintro e w6 ⟨k0, rfl, hk0, r, gg⟩
    rw [← eg] at r gg
    replace O0 := O0.by gg hgr
    replace gz := grown_trans gz gg
    clear gg
    go_wp2_with fail
    go_loopw [8, 9] (fun v t wr => ∃ (k : Nat) (ks : List Nat) (p' : Nat), t = .int .i64 k ∧ k + ks.length < 50 ∧ (∀ x ∈ ks, x < 12) ∧ p' + k ≤ 1000 ∧ OwnI wr w'.heap.size v ks ∧ Rdr wr gR gR p' cs ∧ w'.grownBy wr (some gR)) (fun _ t _ => (intOf t).toNat)
    case atStart => exact ⟨k0, [], _, rfl, by simp; omega, by simp, by omega, O0, r, gz⟩
    case round =>
      clear O0 r gz
      obtain ⟨k, ks, p', rfl, hkn, hks, hpp, O0, r, gz⟩ := hrel
      have hzs := gz.size
      by_cases hk : 0 < k
      · have hkk : (0 : Int) < (k : Int) := by omega
        go_wp2_with fail
        rw [eg] at r
        refine (pick_any _ _ _ cs 12 _ r (by omega) (by omega)).mono ?_
        clear r
        rintro e w7 ⟨x, rfl, hx, r, gg⟩
        rw [← eg] at r gg
        replace O0 := O0.by gg hgr
        replace gz := grown_trans gz gg
        clear gg hzs
        have hzs := gz.size
        have o6 := O0.kept (bo_alloc w7 (.cells #[.int .i64 (x : Int)] 3))
        have r6 := r.kept (bo_alloc w7 (.cells #[.int .i64 (x : Int)] 3))
        have g6 := grown_trans gz (grown_alloc w7 (.cells #[.int .i64 (x : Int)] 3) (some gR))
        go_wp2_with (at_builtin; refine wpList_appI rfl (.tmp 29) (.tmp 32) rfl w'.heap.size _ ks rfl o6 _ _ x rfl (by simp) (by omega) (by simp; omega) ?_)
        intro v8 w8 o8 g8
        have hne := fun q e => (World.ownsRow.lt o6 q e).1
        have g9 := grown_new g6 g8 hne
        have r9 := r6.other g8 (fun q e => by have := hne q e; omega)
        go_wp2
        go_roundw
        case rel => exact ⟨k - 1, ks ++ [x], _, by go_num, by simp; omega, fun y hy => by simp at hy; rcases hy with hy | rfl; exact hks y hy; omega, by omega, o8, r9, g9⟩
        case measure => simp [intOf]; omega
      · obtain rfl : k = 0 := by omega
        replace b0 := b0.grown gz b0.size (fun q e => by cases e; exact nr)
        replace B2 := B2.grown gz (by omega)
        replace B3 := B3.grown gz (by omega)
        replace B6 := B6.grown gz (by omega)
        replace B7 := B7.grown gz (by omega)
        clear gz
        have k6 := B6.k
        have k7 := B7.k
        go_wp2_with fail
        clear k6 k7
        replace O0 := O0.drew
        replace b0 := b0.drew
        replace B2 := B2.drew
        replace B3 := B3.drew
        replace B6 := B6.drew
        replace B7 := B7.drew
        refine region_by (fun w' => Bl w' _ #[.int .i64 a1, .int .i64 a2, .int .i64 a3, .int .i64 a4, .int .i64 a5] 24 ∧ Bl w' _ #[.int .i64 a1, .int .i64 b2, .int .i64 b3, .int .i64 b4, .int .i64 b5] 24) 6 [(0, true), (1, true), (2, true), (3, false), (4, false), (5, false)] ⟨none, .assign (.tmp 0), 0, "", #[], none⟩ (by kernel_rfl) (by kernel_rfl) ⟨B6, B7⟩ (fun x _ _ _ _ h => by cases x <;> exact h) ?_
        simp only [arrange, List.map_cons, List.map_nil, List.getD_cons_zero, List.getD_cons_succ]
        generalize World.drew _ = dw at O0 b0 B2 B3 B6 B7 ⊢
        refine by_load rfl 24 _ rfl _ rfl (fun _ h => h.1) Try.underlying24 rfl (by kernel_rfl) ?_
        refine by_load rfl 24 _ rfl _ rfl (fun _ h => h.2) Try.underlying24 rfl (by kernel_rfl) ?_
        refine by_run rfl _ (fun _ _ => run_move rfl) ?_
        refine by_store rfl rfl 24 _ _ rfl _ _ rfl rfl B2 (by kernel_rfl) rfl (by simp [Value.oneCell']) ?_
        clear B2
        intro w' B2 gg
        replace O0 := O0.by gg hb2
        replace b0 := below_at b0 gg b0.size n2
        replace B3 := B3.grown gg (Nat.ne_of_gt l2_3)
        replace B6 := B6.grown gg (Nat.ne_of_gt l2_6)
        replace B7 := B7.grown gg (Nat.ne_of_gt l2_7)
        clear gg
        refine ⟨fun _ => ⟨B6, B7⟩, ?_⟩
        refine by_store rfl rfl 24 _ _ rfl _ _ rfl rfl B3 (by kernel_rfl) rfl (by simp [Value.oneCell']) ?_
        clear B3
        intro w' B3 gg
        replace O0 := O0.by gg hb3
        replace b0 := below_at b0 gg b0.size n3
        replace B2 := B2.grown gg (Nat.ne_of_lt l2_3)
        replace B6 := B6.grown gg (Nat.ne_of_gt l3_6)
        replace B7 := B7.grown gg (Nat.ne_of_gt l3_7)
        clear gg
        refine ⟨fun _ => ⟨B6, B7⟩, ?_⟩
        refine by_set rfl rfl _ rfl ⟨fun _ => ⟨B6, B7⟩, ?_⟩
        refine by_nil ?_
        have k6 := B6.k
        have k7 := B7.k
        go_wp2
        refine bodyPost_ret (results_cct rfl _ _ _ _ _ rfl B2 Try.underlying24 rfl (by kernel_rfl) _ _ _ rfl B3 Try.underlying24 rfl (by kernel_rfl)) rfl ?_
        exact ⟨_, _, _, _, _, _, _, _, _, _, _, ks, rfl, hA, hBB, hks, by omega, O0.base hNN, b0⟩
  · obtain rfl : q = 0 := by omega
    go_wp2_with (first
      | ((with_reducible refine at_new 2 24 ?_); refine box_new (d := 2) rfl rfl 24 rfl _ zero_cfg ?_; intro w' B2 bb; have n2 := b0.size; (try have lr_2 := r.lt); (try have l3_2 := B3.lt); (try have l6_2 := B6.lt); (try have l7_2 := B7.lt); (try clear k6); (try clear k7); replace b0 := bchain b0 bb; (try replace r := r.kept bb);  (try replace B3 := B3.kept bb); (try replace B6 := B6.kept bb); (try replace B7 := B7.kept bb); clear bb; (try have k6 := B6.k); (try have k7 := B7.k))
      | ((with_reducible refine at_new 3 24 ?_); refine box_new (d := 3) rfl rfl 24 rfl _ zero_cfg ?_; intro w' B3 bb; have n3 := b0.size; (try have lr_3 := r.lt); (try have l2_3 := B2.lt); (try have l6_3 := B6.lt); (try have l7_3 := B7.lt); (try clear k6); (try clear k7); replace b0 := bchain b0 bb; (try replace r := r.kept bb); (try replace B2 := B2.kept bb);  (try replace B6 := B6.kept bb); (try replace B7 := B7.kept bb); clear bb; (try have k6 := B6.k); (try have k7 := B7.k))
      | ((with_reducible refine at_new 6 24 ?_); refine box_new (d := 6) rfl rfl 24 rfl _ zero_cfg ?_; intro w' B6 bb; have n6 := b0.size; (try have lr_6 := r.lt); (try have l2_6 := B2.lt); (try have l3_6 := B3.lt); (try have l7_6 := B7.lt); (try clear k6); (try clear k7); replace b0 := bchain b0 bb; (try replace r := r.kept bb); (try replace B2 := B2.kept bb); (try replace B3 := B3.kept bb);  (try replace B7 := B7.kept bb); clear bb; (try have k6 := B6.k); (try have k7 := B7.k))
      | ((with_reducible refine at_new 7 24 ?_); refine box_new (d := 7) rfl rfl 24 rfl _ zero_cfg ?_; intro w' B7 bb; have n7 := b0.size; (try have lr_7 := r.lt); (try have l2_7 := B2.lt); (try have l3_7 := B3.lt); (try have l6_7 := B6.lt); (try clear k6); (try clear k7); replace b0 := bchain b0 bb; (try replace r := r.kept bb); (try replace B2 := B2.kept bb); (try replace B3 := B3.kept bb); (try replace B6 := B6.kept bb);  clear bb; (try have k6 := B6.k); (try have k7 := B7.k))
      | ((with_reducible refine at_store 24 ?_); refine box_store rfl 24 _ _ rfl _ _ rfl rfl (by with_reducible exact B6) (by kernel_rfl) (by rfl) (by simp [Value.oneCell']) ?_; clear B6; intro w' B6 gg; (try clear k6); (try clear k7); replace b0 := below_at b0 gg b0.size n6; (try replace r := r.at gg (Nat.le_trans r.1 (Nat.le_of_lt lr_6)) (Nat.ne_of_gt lr_6)); (try replace B2 := B2.grown gg (Nat.ne_of_lt l2_6)); (try replace B3 := B3.grown gg (Nat.ne_of_lt l3_6)); (try replace B7 := B7.grown gg (Nat.ne_of_gt l6_7)); clear gg; (try have k6 := B6.k); (try have k7 := B7.k))
      | ((with_reducible refine at_store 24 ?_); refine box_store rfl 24 _ _ rfl _ _ rfl rfl (by with_reducible exact B7) (by kernel_rfl) (by rfl) (by simp [Value.oneCell']) ?_; clear B7; intro w' B7 gg; (try clear k6); (try clear k7); replace b0 := below_at b0 gg b0.size n7; (try replace r := r.at gg (Nat.le_trans r.1 (Nat.le_of_lt lr_7)) (Nat.ne_of_gt lr_7)); (try replace B2 := B2.grown gg (Nat.ne_of_lt l2_7)); (try replace B3 := B3.grown gg (Nat.ne_of_lt l3_7)); (try replace B6 := B6.grown gg (Nat.ne_of_lt l6_7)); clear gg; (try have k6 := B6.k); (try have k7 := B7.k))
      | ((with_reducible refine at_store 3 ?_); refine box_int rfl _ _ rfl _ _ _ rfl rfl (by with_reducible exact B7) (by simp) ?_; clear B7; intro w' B7 gg; simp only [List.setIfInBounds_toArray, List.set] at B7; (try clear k6); (try clear k7); replace b0 := below_at b0 gg b0.size n7; (try replace r := r.at gg (Nat.le_trans r.1 (Nat.le_of_lt lr_7)) (Nat.ne_of_gt lr_7)); (try replace B2 := B2.grown gg (Nat.ne_of_lt l2_7)); (try replace B3 := B3.grown gg (Nat.ne_of_lt l3_7)); (try replace B6 := B6.grown gg (Nat.ne_of_lt l6_7)); clear gg; (try have k6 := B6.k); (try have k7 := B7.k)))
    clear k6 k7
    obtain ⟨gR, eg⟩ := r.names
    rw [← eg] at r nr l2_r l3_r lr_6 lr_7
    have hgr := r.lt
    have hb2 := B2.lt
    have hb3 := B3.lt
    have hNN := b0.size
    have gz := grown_alloc w' (.cells #[] 3) (some gR)
    have O0 := ownI_empty w' w'.heap.size (Nat.le_refl _)
    replace r := r.kept (bo_alloc w' (.cells #[] 3))
    generalize w'.alloc (.cells #[] 3) = w5 at O0 gz r ⊢
    rw [eg] at r
    refine (pick_any _ _ _ cs 50 _ r (by omega) (by omega)).mono ?_
    clear r
    rintro e w6 ⟨k0, rfl, hk0, r, gg⟩
    rw [← eg] at r gg
    replace O0 := O0.by gg hgr
    replace gz := grown_trans gz gg
    clear gg
    go_wp2_with fail
    go_loopw [8, 9] (fun v t wr => ∃ (k : Nat) (ks : List Nat) (p' : Nat), t = .int .i64 k ∧ k + ks.length < 50 ∧ (∀ x ∈ ks, x < 12) ∧ p' + k ≤ 1000 ∧ OwnI wr w'.heap.size v ks ∧ Rdr wr gR gR p' cs ∧ w'.grownBy wr (some gR)) (fun _ t _ => (intOf t).toNat)
    case atStart => exact ⟨k0, [], _, rfl, by simp; omega, by simp, by omega, O0, r, gz⟩
    case round =>
      clear O0 r gz
      obtain ⟨k, ks, p', rfl, hkn, hks, hpp, O0, r, gz⟩ := hrel
      have hzs := gz.size
      by_cases hk : 0 < k
      · have hkk : (0 : Int) < (k : Int) := by omega
        go_wp2_with fail
        rw [eg] at r
        refine (pick_any _ _ _ cs 12 _ r (by omega) (by omega)).mono ?_
        clear r
        rintro e w7 ⟨x, rfl, hx, r, gg⟩
        rw [← eg] at r gg
        replace O0 := O0.by gg hgr
        replace gz := grown_trans gz gg
        clear gg hzs
        have hzs := gz.size
        have o6 := O0.kept (bo_alloc w7 (.cells #[.int .i64 (x : Int)] 3))
        have r6 := r.kept (bo_alloc w7 (.cells #[.int .i64 (x : Int)] 3))
        have g6 := grown_trans gz (grown_alloc w7 (.cells #[.int .i64 (x : Int)] 3) (some gR))
        go_wp2_with (at_builtin; refine wpList_appI rfl (.tmp 29) (.tmp 32) rfl w'.heap.size _ ks rfl o6 _ _ x rfl (by simp) (by omega) (by simp; omega) ?_)
        intro v8 w8 o8 g8
        have hne := fun q e => (World.ownsRow.lt o6 q e).1
        have g9 := grown_new g6 g8 hne
        have r9 := r6.other g8 (fun q e => by have := hne q e; omega)
        go_wp2
        go_roundw
        case rel => exact ⟨k - 1, ks ++ [x], _, by go_num, by simp; omega, fun y hy => by simp at hy; rcases hy with hy | rfl; exact hks y hy; omega, by omega, o8, r9, g9⟩
        case measure => simp [intOf]; omega
      · obtain rfl : k = 0 := by omega
        replace b0 := b0.grown gz b0.size (fun q e => by cases e; exact nr)
        replace B2 := B2.grown gz (by omega)
        replace B3 := B3.grown gz (by omega)
        replace B6 := B6.grown gz (by omega)
        replace B7 := B7.grown gz (by omega)
        clear gz
        have k6 := B6.k
        have k7 := B7.k
        go_wp2_with fail
        clear k6 k7
        replace O0 := O0.drew
        replace b0 := b0.drew
        replace B2 := B2.drew
        replace B3 := B3.drew
        replace B6 := B6.drew
        replace B7 := B7.drew
        refine region_by (fun w' => Bl w' _ #[.int .i64 a1, .int .i64 a2, .int .i64 a3, .int .i64 a4, .int .i64 a5] 24 ∧ Bl w' _ #[.int .i64 b1, .int .i64 b2, .int .i64 b3, .int .i64 b4, .int .i64 b5] 24) 6 [(0, true), (1, true), (2, true), (3, false), (4, false), (5, false)] ⟨none, .assign (.tmp 0), 0, "", #[], none⟩ (by kernel_rfl) (by kernel_rfl) ⟨B6, B7⟩ (fun x _ _ _ _ h => by cases x <;> exact h) ?_
        simp only [arrange, List.map_cons, List.map_nil, List.getD_cons_zero, List.getD_cons_succ]
        generalize World.drew _ = dw at O0 b0 B2 B3 B6 B7 ⊢
        refine by_load rfl 24 _ rfl _ rfl (fun _ h => h.1) Try.underlying24 rfl (by kernel_rfl) ?_
        refine by_load rfl 24 _ rfl _ rfl (fun _ h => h.2) Try.underlying24 rfl (by kernel_rfl) ?_
        refine by_run rfl _ (fun _ _ => run_move rfl) ?_
        refine by_store rfl rfl 24 _ _ rfl _ _ rfl rfl B2 (by kernel_rfl) rfl (by simp [Value.oneCell']) ?_
        clear B2
        intro w' B2 gg
        replace O0 := O0.by gg hb2
        replace b0 := below_at b0 gg b0.size n2
        replace B3 := B3.grown gg (Nat.ne_of_gt l2_3)
        replace B6 := B6.grown gg (Nat.ne_of_gt l2_6)
        replace B7 := B7.grown gg (Nat.ne_of_gt l2_7)
        clear gg
        refine ⟨fun _ => ⟨B6, B7⟩, ?_⟩
        refine by_store rfl rfl 24 _ _ rfl _ _ rfl rfl B3 (by kernel_rfl) rfl (by simp [Value.oneCell']) ?_
        clear B3
        intro w' B3 gg
        replace O0 := O0.by gg hb3
        replace b0 := below_at b0 gg b0.size n3
        replace B2 := B2.grown gg (Nat.ne_of_lt l2_3)
        replace B6 := B6.grown gg (Nat.ne_of_gt l3_6)
        replace B7 := B7.grown gg (Nat.ne_of_gt l3_7)
        clear gg
        refine ⟨fun _ => ⟨B6, B7⟩, ?_⟩
        refine by_set rfl rfl _ rfl ⟨fun _ => ⟨B6, B7⟩, ?_⟩
        refine by_nil ?_
        have k6 := B6.k
        have k7 := B7.k
        go_wp2
        refine bodyPost_ret (results_cct rfl _ _ _ _ _ rfl B2 Try.underlying24 rfl (by kernel_rfl) _ _ _ rfl B3 Try.underlying24 rfl (by kernel_rfl)) rfl ?_
        exact ⟨_, _, _, _, _, _, _, _, _, _, _, ks, rfl, hA, hB, hks, by omega, O0.base hNN, b0⟩
end Go.Proofs.Ytaoafikkamnjlaa
