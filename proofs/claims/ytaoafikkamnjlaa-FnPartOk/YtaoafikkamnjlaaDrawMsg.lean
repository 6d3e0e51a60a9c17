/- What the other one says, drawn. -/
import Derived.Test.YtaoafikkamnjlaaDrawMeet
import Derived.Test.YtaoafikkamnjlaaCallRow
import Derived.Test.YtaoafikkamnjlaaOpenLate
namespace Go.Proofs.Ytaoafikkamnjlaa
open Go.RowKit
theorem grown_below {w w' : World} (hb : Below w.heap.size w w') (q : Option Nat) : w.grownBy w' q := ⟨hb.os, hb.tape, hb.output, hb.size, fun k hk _ => hb.block k hk⟩
theorem Gd.kept {w0 w w' : World} {B g p0 c : Nat} {cs : List Nat} (h : Gd w0 B g p0 cs c w) (hb : Below w.heap.size w w') : Gd w0 B g p0 cs (c + 1) w' := by
  obtain ⟨p, h1, h2, h3⟩ := h
  exact ⟨p, by omega, h2.kept hb, grown_trans h3 (grown_below hb _)⟩
/-- A new box of a statement that draws. -/
def DBox (B : Nat) (cs : Array Value) (t : TypeId) (v : Value) (w : World) : Prop := ∃ b, v = .pointer (some ⟨b, 0, none⟩) ∧ B ≤ b ∧ Bl w b cs t
theorem DBox.mono {B g : Nat} {cs : Array Value} {t : TypeId} {v : Value} {w w' : World} (h : DBox B cs t v w) (k : w.grownBy w' (some g)) (hg : g < B) : DBox B cs t v w' := by
  obtain ⟨b, h1, h2, h3⟩ := h
  exact ⟨b, h1, h2, h3.grown k (by omega)⟩
section
variable {Q : Exit → Act → World → Prop} {o : Oper} {a : Act} {w w0 : World} {B g p0 c : Nat} {cs : List Nat} {PR : Value → World → Prop}
theorem st_box {ty : TypeId} {zs : Array Value} (ho : o.op = .alloc ty) (hz : ∀ w, (zeroValue ty).run Try.prog w = .ok (.agg zs) w) (hG : Gd w0 B g p0 cs c w) :
    o.wp Try.prog a w (fun a' w' => ∃ v, a' = a.put o.dst v ∧ DBox w0.heap.size zs ty v w' ∧ Gd w0 B g p0 cs (c + 1) w' ∧ w.grownBy w' (some g)) Q :=
  wp_box_new ty ho zs hz (fun _ h1 h2 => ⟨_, rfl, ⟨_, rfl, hG.lt.2, h1⟩, hG.kept h2, grown_below h2 _⟩)
theorem st_call {f : FuncId} {args : Array Value} (ho : (execOp a.eval o).run Try.prog w = .ok (.enter f args) w) (hG : Gd w0 B g p0 cs c w)
    (hc : Calls Try.prog f args w (fun e w' => ∃ v, e = .returned v ∧ PR v w' ∧ Below w.heap.size w w')) :
    o.wp Try.prog a w (fun a' w' => ∃ v, a' = a.put o.dst v ∧ PR v w' ∧ Gd w0 B g p0 cs (c + 1) w' ∧ w.grownBy w' (some g)) Q := by
  unfold Oper.wp
  rw [ho]
  refine hc.mono ?_
  rintro e w' ⟨v, rfl, h1, h2⟩
  exact ⟨v, rfl, h1, hG.kept h2, grown_below h2 _⟩
end
section
variable {ρ : Operand → Value} {w : World} {d : Option Tmp} {t : TypeId} {pos : String} {af : Array Edge} {gd : Option (Nat × Bool)} {x y : Operand}
theorem run_msgv {k a1 a2 a3 a4 a5 : Int} (hk : ρ x = .int .i64 k) (h : ρ y = .agg #[.int .i64 a1, .int .i64 a2, .int .i64 a3, .int .i64 a4, .int .i64 a5]) : (execOp ρ ⟨d, .build 28 #[(0, x), (1, y)], t, pos, af, gd⟩).run Try.prog w = .ok (.value (.agg #[.int .i64 k, .int .i64 a1, .int .i64 a2, .int .i64 a3, .int .i64 a4, .int .i64 a5])) w := by
  simp [execOp, hk, h, go_sem]
end
set_option maxRecDepth 100000 in
set_option maxHeartbeats 2000000 in
theorem msg_any (B g p : Nat) (zs : List Nat) (a1 a2 a3 a4 a5 : Int) (n : Nat) (w : World) (h : Rdr w B g p zs) (hp : p ≤ 700000000) (hn : n < 1000000) :
    Calls Try.prog 50 #[.pointer (some ⟨g, 0, none⟩), .agg #[.int .i64 a1, .int .i64 a2, .int .i64 a3, .int .i64 a4, .int .i64 a5], .int .i64 n] w fun e w' => ∃ (k x1 x2 x3 x4 x5 : Int) (p' : Nat), e = .returned (.agg #[.int .i64 k, .int .i64 x1, .int .i64 x2, .int .i64 x3, .int .i64 x4, .int .i64 x5]) ∧ (1 ≤ k ∧ k ≤ 3) ∧ p' ≤ p + 50 ∧ Rdr w' B g p' zs ∧ w.grownBy w' (some g) := by
  have hg := h.lt
  have hB := h.1
  have r := h
  have gw := grown_refl w (some g)
  clear h
  go_enter Try.func50, Try.ntmps50
  go_wp2_with (first
    | ((with_reducible refine at_box 4 24 ?_); refine box_box (d := 4) rfl rfl 24 _ rfl _ rfl ?_; intro w' B4 bb; have n4 := gw.size; (try have lr_4 := r.lt); (try have l6_4 := B6.lt); (try have l7_4 := B7.lt); (try clear k4); replace gw := grown_trans gw (grown_below bb _); (try replace r := r.kept bb);  (try replace B6 := B6.kept bb); (try replace B7 := B7.kept bb); clear bb; (try have k4 := B4.k))
    | ((with_reducible refine at_new 6 28 ?_); refine box_new (d := 6) rfl rfl 28 rfl _ zero_msg ?_; intro w' B6 bb; have n6 := gw.size; (try have lr_6 := r.lt); (try have l4_6 := B4.lt); (try have l7_6 := B7.lt); (try clear k4); replace gw := grown_trans gw (grown_below bb _); (try replace r := r.kept bb); (try replace B4 := B4.kept bb);  (try replace B7 := B7.kept bb); clear bb; (try have k4 := B4.k))
    | ((with_reducible refine at_load 28 ?_); refine box_load rfl 28 _ rfl _ rfl (by with_reducible assumption) Try.underlying28 rfl (by kernel_rfl) ?_)
    | ((with_reducible refine at_store 24 ?_); refine box_part rfl 24 _ _ rfl _ _ _ rfl rfl (by with_reducible exact B7) (by kernel_rfl) (by simp) (by simp [Value.oneCell']) ?_; clear B7; intro w' B7 gg; simp only [putAt, List.setIfInBounds_toArray, List.set, Nat.reduceAdd] at B7; (try clear k4); replace gw := grown_new gw gg (fun q e => by cases e; exact n7); (try replace r := r.at gg (by omega) (by omega)); (try replace B4 := B4.grown gg (Nat.ne_of_lt l4_7)); (try replace B6 := B6.grown gg (Nat.ne_of_lt l6_7)); clear gg; (try have k4 := B4.k))
    | ((with_reducible refine at_store 3 ?_); refine box_int rfl _ _ rfl _ _ _ rfl rfl (by with_reducible exact B7) (by simp) ?_; clear B7; intro w' B7 gg; simp only [List.setIfInBounds_toArray, List.set] at B7; (try clear k4); replace gw := grown_new gw gg (fun q e => by cases e; exact n7); (try replace r := r.at gg (by omega) (by omega)); (try replace B4 := B4.grown gg (Nat.ne_of_lt l4_7)); (try replace B6 := B6.grown gg (Nat.ne_of_lt l6_7)); clear gg; (try have k4 := B4.k))
    | ((with_reducible refine at_store 28 ?_); refine box_store rfl 28 _ _ rfl _ _ rfl rfl (by with_reducible exact B6) (by kernel_rfl) (by rfl) (by simp [Value.oneCell']) ?_; clear B6; intro w' B6 gg; (try clear k4); replace gw := grown_new gw gg (fun q e => by cases e; exact n6); (try replace r := r.at gg (by omega) (by omega)); (try replace B4 := B4.grown gg (Nat.ne_of_lt l4_6)); (try replace B7 := B7.grown gg (Nat.ne_of_gt l6_7)); clear gg; (try have k4 := B4.k)))
  clear k4
  have G0 : Gd w'.drew B g p zs 0 w'.drew := ⟨p, by omega, r.drew, grown_refl _ _⟩
  have hgw : g < w'.drew.heap.size := r.lt
  refine region_tail 6 [8, 9, 10, 11, 12, 7] [6] (fun i v wx => match i with | 0 => v = .pointer (some ⟨g, 0, none⟩) | 1 => PInt 0 (3 - 1) v | 2 => PInt 1 3 v | 3 => v = .agg #[.int .i64 a1, .int .i64 a2, .int .i64 a3, .int .i64 a4, .int .i64 a5] | 4 => (∃ k : Int, v = .agg #[.int .i64 k, .int .i64 a1, .int .i64 a2, .int .i64 a3, .int .i64 a4, .int .i64 a5] ∧ 1 ≤ k ∧ k ≤ 3) | 5 => DBox w'.drew.heap.size #[.int .i64 0, .int .i64 0, .int .i64 0, .int .i64 0, .int .i64 0, .int .i64 0] 28 v wx | _ => True) (Gd w'.drew B g p zs) (fun w1 w2 => w1.grownBy w2 (some g)) (by kernel_rfl) (by kernel_rfl) (dsts_in (by kernel_rfl)) G0 ?hT ?step ?fin
  case hT =>
    intro j v w1 w2 h k
    match j, h with
    | 0, h => exact h
    | 1, h => exact h
    | 2, h => exact h
    | 3, h => exact h
    | 4, h => exact h
    | 5, h => exact DBox.mono h k hgw
    | _ + 6, _ => exact trivial
  case step =>
    intro i o hi ho a wx c hc hG hk
    match i, hi with
    | 0, _ =>
      cases ho
      have e0 : a.eval (.tmp 0) = .pointer (some ⟨g, 0, none⟩) := hk.was 0 (by kernel_rfl)
      exact st_val (PR := fun v _ => v = .pointer (some ⟨g, 0, none⟩)) (run_move e0) hG rfl
    | 1, _ =>
      cases ho
      have e8 : a.eval (.tmp 8) = .pointer (some ⟨g, 0, none⟩) := hk.has 0 8 (by kernel_rfl) (by simp [size_put])
      exact st_pick (n := 3) (run_call rfl e8 rfl) hG (by omega) (by omega)
    | 2, _ =>
      cases ho
      obtain ⟨k9, e9, l9, u9⟩ : PInt 0 (3 - 1) (a.eval (.tmp 9)) := hk.has 1 9 (by kernel_rfl) (by simp [size_put])
      exact st_val (PR := fun v _ => PInt 1 3 v) (v := .int .i64 (1 + k9)) (run_add rfl e9 (by omega)) hG ⟨_, rfl, by omega, by omega⟩
    | 3, _ =>
      cases ho
      have e4 : a.eval (.tmp 4) = .pointer (some ⟨_, 0, none⟩) := hk.was 4 (by kernel_rfl)
      obtain ⟨p1, hp1, r1, g1⟩ := hG
      exact st_val (PR := fun v _ => v = .agg #[.int .i64 a1, .int .i64 a2, .int .i64 a3, .int .i64 a4, .int .i64 a5]) (run_load_row 24 _ rfl _ e4 (B4.drew.grown g1 (by omega)) Try.underlying24 rfl (by kernel_rfl)) ⟨p1, hp1, r1, g1⟩ rfl
    | 4, _ =>
      cases ho
      obtain ⟨k10, e10, l10, u10⟩ : PInt 1 3 (a.eval (.tmp 10)) := hk.has 2 10 (by kernel_rfl) (by simp [size_put])
      have e11 : a.eval (.tmp 11) = .agg #[.int .i64 a1, .int .i64 a2, .int .i64 a3, .int .i64 a4, .int .i64 a5] := hk.has 3 11 (by kernel_rfl) (by simp [size_put])
      exact st_val (PR := fun v _ => ∃ k : Int, v = .agg #[.int .i64 k, .int .i64 a1, .int .i64 a2, .int .i64 a3, .int .i64 a4, .int .i64 a5] ∧ 1 ≤ k ∧ k ≤ 3) (run_msgv e10 e11) hG ⟨k10, rfl, l10, u10⟩
    | 5, _ =>
      cases ho
      exact st_box rfl zero_msg hG
    | k + 6, hi => omega
  intro vals wx hG hv
  have v0 : vals 0 = .pointer (some ⟨g, 0, none⟩) := hv 0 (by omega)
  obtain ⟨q1, v1, _, _⟩ : PInt 0 (3 - 1) (vals 1) := hv 1 (by omega)
  obtain ⟨q2, v2, _, _⟩ : PInt 1 3 (vals 2) := hv 2 (by omega)
  have v3 : vals 3 = .agg #[.int .i64 a1, .int .i64 a2, .int .i64 a3, .int .i64 a4, .int .i64 a5] := hv 3 (by omega)
  obtain ⟨k, v4, hk1, hk3⟩ : ∃ k : Int, vals 4 = .agg #[.int .i64 k, .int .i64 a1, .int .i64 a2, .int .i64 a3, .int .i64 a4, .int .i64 a5] ∧ 1 ≤ k ∧ k ≤ 3 := hv 4 (by omega)
  obtain ⟨g7, v5, m7, B7⟩ : DBox w'.drew.heap.size #[.int .i64 0, .int .i64 0, .int .i64 0, .int .i64 0, .int .i64 0, .int .i64 0] 28 (vals 5) wx := hv 5 (by omega)
  clear hv
  simp only [putsL, Act.put, v0, v1, v2, v3, v4, v5, List.setIfInBounds_toArray, List.set_cons_zero, List.set_cons_succ]
  clear v0 v1 v2 v3 v4 v5
  obtain ⟨p1, hp1, r1, g1⟩ := hG
  have n7 : w.heap.size ≤ g7 := Nat.le_trans gw.size m7
  have l4_7 := Nat.lt_of_lt_of_le B4.lt m7
  have l6_7 := Nat.lt_of_lt_of_le B6.lt m7
  have lr_7 := Nat.lt_of_lt_of_le hgw m7
  have gd : w.grownBy w'.drew (some g) := grown_trans gw ⟨rfl, rfl, rfl, Nat.le_refl _, fun _ _ _ => rfl⟩
  replace gw := grown_trans gd g1
  clear gd r
  have r := r1
  replace B4 := B4.drew.grown g1 (by omega)
  replace B6 := B6.drew.grown g1 (by omega)
  clear r1 g1 G0 hgw
  refine tail_one rfl rfl ?_
  refine wp_box_store 28 _ _ rfl _ _ rfl rfl B7 (by kernel_rfl) rfl (by simp [Value.oneCell']) ?_
  clear B7
  intro w' B7 gg
  replace gw := grown_new gw gg (fun q e => by cases e; exact n7)
  replace r := r.at gg (by omega) (by omega)
  replace B4 := B4.grown gg (by omega)
  replace B6 := B6.grown gg (by omega)
  clear gg
  have k4 := B4.k
  go_wp2_with fail
  refine (pick_any _ _ _ zs 3 _ r (by omega) (by omega)).mono ?_
  clear r
  rintro e w' ⟨q, rfl, hq, r, gg⟩
  (try clear k4)
  replace gw := grown_trans gw gg
  (try replace B4 := B4.grown gg (by omega))
  (try replace B6 := B6.grown gg (by omega))
  (try replace B7 := B7.grown gg (by omega))
  clear gg
  (try have k4 := B4.k)
  by_cases hq0 : (0 : Int) < (q : Int)
  case neg =>
    go_wp2_with (first
      | ((with_reducible refine at_box 4 24 ?_); refine box_box (d := 4) rfl rfl 24 _ rfl _ rfl ?_; intro w' B4 bb; have n4 := gw.size; (try have lr_4 := r.lt); (try have l6_4 := B6.lt); (try have l7_4 := B7.lt); (try clear k4); replace gw := grown_trans gw (grown_below bb _); (try replace r := r.kept bb);  (try replace B6 := B6.kept bb); (try replace B7 := B7.kept bb); clear bb; (try have k4 := B4.k))
      | ((with_reducible refine at_new 6 28 ?_); refine box_new (d := 6) rfl rfl 28 rfl _ zero_msg ?_; intro w' B6 bb; have n6 := gw.size; (try have lr_6 := r.lt); (try have l4_6 := B4.lt); (try have l7_6 := B7.lt); (try clear k4); replace gw := grown_trans gw (grown_below bb _); (try replace r := r.kept bb); (try replace B4 := B4.kept bb);  (try replace B7 := B7.kept bb); clear bb; (try have k4 := B4.k))
      | ((with_reducible refine at_load 28 ?_); refine box_load rfl 28 _ rfl _ rfl (by with_reducible assumption) Try.underlying28 rfl (by kernel_rfl) ?_)
      | ((with_reducible refine at_store 24 ?_); refine box_part rfl 24 _ _ rfl _ _ _ rfl rfl (by with_reducible exact B7) (by kernel_rfl) (by simp) (by simp [Value.oneCell']) ?_; clear B7; intro w' B7 gg; simp only [putAt, List.setIfInBounds_toArray, List.set, Nat.reduceAdd] at B7; (try clear k4); replace gw := grown_new gw gg (fun q e => by cases e; exact n7); (try replace r := r.at gg (by omega) (by omega)); (try replace B4 := B4.grown gg (Nat.ne_of_lt l4_7)); (try replace B6 := B6.grown gg (Nat.ne_of_lt l6_7)); clear gg; (try have k4 := B4.k))
      | ((with_reducible refine at_store 3 ?_); refine box_int rfl _ _ rfl _ _ _ rfl rfl (by with_reducible exact B7) (by simp) ?_; clear B7; intro w' B7 gg; simp only [List.setIfInBounds_toArray, List.set] at B7; (try clear k4); replace gw := grown_new gw gg (fun q e => by cases e; exact n7); (try replace r := r.at gg (by omega) (by omega)); (try replace B4 := B4.grown gg (Nat.ne_of_lt l4_7)); (try replace B6 := B6.grown gg (Nat.ne_of_lt l6_7)); clear gg; (try have k4 := B4.k))
      | ((with_reducible refine at_store 28 ?_); refine box_store rfl 28 _ _ rfl _ _ rfl rfl (by with_reducible exact B6) (by kernel_rfl) (by rfl) (by simp [Value.oneCell']) ?_; clear B6; intro w' B6 gg; (try clear k4); replace gw := grown_new gw gg (fun q e => by cases e; exact n6); (try replace r := r.at gg (by omega) (by omega)); (try replace B4 := B4.grown gg (Nat.ne_of_lt l4_6)); (try replace B7 := B7.grown gg (Nat.ne_of_gt l6_7)); clear gg; (try have k4 := B4.k)))
    refine bodyPost_ret (results_cell_row rfl _ _ _ _ _ _ _ rfl B6 Try.underlying28 rfl (by kernel_rfl)) rfl ?_
    exact ⟨_, _, _, _, _, _, _, rfl, ⟨by omega, by omega⟩, by omega, r, gw⟩
  go_wp2_with (first
    | ((with_reducible refine at_box 4 24 ?_); refine box_box (d := 4) rfl rfl 24 _ rfl _ rfl ?_; intro w' B4 bb; have n4 := gw.size; (try have lr_4 := r.lt); (try have l6_4 := B6.lt); (try have l7_4 := B7.lt); (try clear k4); replace gw := grown_trans gw (grown_below bb _); (try replace r := r.kept bb);  (try replace B6 := B6.kept bb); (try replace B7 := B7.kept bb); clear bb; (try have k4 := B4.k))
    | ((with_reducible refine at_new 6 28 ?_); refine box_new (d := 6) rfl rfl 28 rfl _ zero_msg ?_; intro w' B6 bb; have n6 := gw.size; (try have lr_6 := r.lt); (try have l4_6 := B4.lt); (try have l7_6 := B7.lt); (try clear k4); replace gw := grown_trans gw (grown_below bb _); (try replace r := r.kept bb); (try replace B4 := B4.kept bb);  (try replace B7 := B7.kept bb); clear bb; (try have k4 := B4.k))
    | ((with_reducible refine at_load 28 ?_); refine box_load rfl 28 _ rfl _ rfl (by with_reducible assumption) Try.underlying28 rfl (by kernel_rfl) ?_)
    | ((with_reducible refine at_store 24 ?_); refine box_part rfl 24 _ _ rfl _ _ _ rfl rfl (by with_reducible exact B7) (by kernel_rfl) (by simp) (by simp [Value.oneCell']) ?_; clear B7; intro w' B7 gg; simp only [putAt, List.setIfInBounds_toArray, List.set, Nat.reduceAdd] at B7; (try clear k4); replace gw := grown_new gw gg (fun q e => by cases e; exact n7); (try replace r := r.at gg (by omega) (by omega)); (try replace B4 := B4.grown gg (Nat.ne_of_lt l4_7)); (try replace B6 := B6.grown gg (Nat.ne_of_lt l6_7)); clear gg; (try have k4 := B4.k))
    | ((with_reducible refine at_store 3 ?_); refine box_int rfl _ _ rfl _ _ _ rfl rfl (by with_reducible exact B7) (by simp) ?_; clear B7; intro w' B7 gg; simp only [List.setIfInBounds_toArray, List.set] at B7; (try clear k4); replace gw := grown_new gw gg (fun q e => by cases e; exact n7); (try replace r := r.at gg (by omega) (by omega)); (try replace B4 := B4.grown gg (Nat.ne_of_lt l4_7)); (try replace B6 := B6.grown gg (Nat.ne_of_lt l6_7)); clear gg; (try have k4 := B4.k))
    | ((with_reducible refine at_store 28 ?_); refine box_store rfl 28 _ _ rfl _ _ rfl rfl (by with_reducible exact B6) (by kernel_rfl) (by rfl) (by simp [Value.oneCell']) ?_; clear B6; intro w' B6 gg; (try clear k4); replace gw := grown_new gw gg (fun q e => by cases e; exact n6); (try replace r := r.at gg (by omega) (by omega)); (try replace B4 := B4.grown gg (Nat.ne_of_lt l4_6)); (try replace B7 := B7.grown gg (Nat.ne_of_gt l6_7)); clear gg; (try have k4 := B4.k)))
  refine (cfg_any _ _ _ zs n _ r (by omega) hn).mono ?_
  clear r
  rintro e w' ⟨x1, x2, x3, x4, x5, p2, rfl, hx, _, _, hp2, r, gg⟩
  (try clear k4)
  replace gw := grown_trans gw gg
  (try replace B4 := B4.grown gg (by omega))
  (try replace B6 := B6.grown gg (by omega))
  (try replace B7 := B7.grown gg (by omega))
  clear gg
  (try have k4 := B4.k)
  go_wp2_with (first
    | ((with_reducible refine at_box 4 24 ?_); refine box_box (d := 4) rfl rfl 24 _ rfl _ rfl ?_; intro w' B4 bb; have n4 := gw.size; (try have lr_4 := r.lt); (try have l6_4 := B6.lt); (try have l7_4 := B7.lt); (try clear k4); replace gw := grown_trans gw (grown_below bb _); (try replace r := r.kept bb);  (try replace B6 := B6.kept bb); (try replace B7 := B7.kept bb); clear bb; (try have k4 := B4.k))
    | ((with_reducible refine at_new 6 28 ?_); refine box_new (d := 6) rfl rfl 28 rfl _ zero_msg ?_; intro w' B6 bb; have n6 := gw.size; (try have lr_6 := r.lt); (try have l4_6 := B4.lt); (try have l7_6 := B7.lt); (try clear k4); replace gw := grown_trans gw (grown_below bb _); (try replace r := r.kept bb); (try replace B4 := B4.kept bb);  (try replace B7 := B7.kept bb); clear bb; (try have k4 := B4.k))
    | ((with_reducible refine at_load 28 ?_); refine box_load rfl 28 _ rfl _ rfl (by with_reducible assumption) Try.underlying28 rfl (by kernel_rfl) ?_)
    | ((with_reducible refine at_store 24 ?_); refine box_part rfl 24 _ _ rfl _ _ _ rfl rfl (by with_reducible exact B7) (by kernel_rfl) (by simp) (by simp [Value.oneCell']) ?_; clear B7; intro w' B7 gg; simp only [putAt, List.setIfInBounds_toArray, List.set, Nat.reduceAdd] at B7; (try clear k4); replace gw := grown_new gw gg (fun q e => by cases e; exact n7); (try replace r := r.at gg (by omega) (by omega)); (try replace B4 := B4.grown gg (Nat.ne_of_lt l4_7)); (try replace B6 := B6.grown gg (Nat.ne_of_lt l6_7)); clear gg; (try have k4 := B4.k))
    | ((with_reducible refine at_store 3 ?_); refine box_int rfl _ _ rfl _ _ _ rfl rfl (by with_reducible exact B7) (by simp) ?_; clear B7; intro w' B7 gg; simp only [List.setIfInBounds_toArray, List.set] at B7; (try clear k4); replace gw := grown_new gw gg (fun q e => by cases e; exact n7); (try replace r := r.at gg (by omega) (by omega)); (try replace B4 := B4.grown gg (Nat.ne_of_lt l4_7)); (try replace B6 := B6.grown gg (Nat.ne_of_lt l6_7)); clear gg; (try have k4 := B4.k))
    | ((with_reducible refine at_store 28 ?_); refine box_store rfl 28 _ _ rfl _ _ rfl rfl (by with_reducible exact B6) (by kernel_rfl) (by rfl) (by simp [Value.oneCell']) ?_; clear B6; intro w' B6 gg; (try clear k4); replace gw := grown_new gw gg (fun q e => by cases e; exact n6); (try replace r := r.at gg (by omega) (by omega)); (try replace B4 := B4.grown gg (Nat.ne_of_lt l4_6)); (try replace B7 := B7.grown gg (Nat.ne_of_gt l6_7)); clear gg; (try have k4 := B4.k)))
  refine (pick_any _ _ _ zs 4 _ r (by omega) (by omega)).mono ?_
  clear r
  rintro e w' ⟨j, rfl, hj, r, gg⟩
  (try clear k4)
  replace gw := grown_trans gw gg
  (try replace B4 := B4.grown gg (by omega))
  (try replace B6 := B6.grown gg (by omega))
  (try replace B7 := B7.grown gg (by omega))
  clear gg
  (try have k4 := B4.k)
  by_cases hj0 : (0 : Int) < (j : Int)
  · go_wp2_with (first
      | ((with_reducible refine at_box 4 24 ?_); refine box_box (d := 4) rfl rfl 24 _ rfl _ rfl ?_; intro w' B4 bb; have n4 := gw.size; (try have lr_4 := r.lt); (try have l6_4 := B6.lt); (try have l7_4 := B7.lt); (try clear k4); replace gw := grown_trans gw (grown_below bb _); (try replace r := r.kept bb);  (try replace B6 := B6.kept bb); (try replace B7 := B7.kept bb); clear bb; (try have k4 := B4.k))
      | ((with_reducible refine at_new 6 28 ?_); refine box_new (d := 6) rfl rfl 28 rfl _ zero_msg ?_; intro w' B6 bb; have n6 := gw.size; (try have lr_6 := r.lt); (try have l4_6 := B4.lt); (try have l7_6 := B7.lt); (try clear k4); replace gw := grown_trans gw (grown_below bb _); (try replace r := r.kept bb); (try replace B4 := B4.kept bb);  (try replace B7 := B7.kept bb); clear bb; (try have k4 := B4.k))
      | ((with_reducible refine at_load 28 ?_); refine box_load rfl 28 _ rfl _ rfl (by with_reducible assumption) Try.underlying28 rfl (by kernel_rfl) ?_)
      | ((with_reducible refine at_store 24 ?_); refine box_part rfl 24 _ _ rfl _ _ _ rfl rfl (by with_reducible exact B7) (by kernel_rfl) (by simp) (by simp [Value.oneCell']) ?_; clear B7; intro w' B7 gg; simp only [putAt, List.setIfInBounds_toArray, List.set, Nat.reduceAdd] at B7; (try clear k4); replace gw := grown_new gw gg (fun q e => by cases e; exact n7); (try replace r := r.at gg (by omega) (by omega)); (try replace B4 := B4.grown gg (Nat.ne_of_lt l4_7)); (try replace B6 := B6.grown gg (Nat.ne_of_lt l6_7)); clear gg; (try have k4 := B4.k))
      | ((with_reducible refine at_store 3 ?_); refine box_int rfl _ _ rfl _ _ _ rfl rfl (by with_reducible exact B7) (by simp) ?_; clear B7; intro w' B7 gg; simp only [List.setIfInBounds_toArray, List.set] at B7; (try clear k4); replace gw := grown_new gw gg (fun q e => by cases e; exact n7); (try replace r := r.at gg (by omega) (by omega)); (try replace B4 := B4.grown gg (Nat.ne_of_lt l4_7)); (try replace B6 := B6.grown gg (Nat.ne_of_lt l6_7)); clear gg; (try have k4 := B4.k))
      | ((with_reducible refine at_store 28 ?_); refine box_store rfl 28 _ _ rfl _ _ rfl rfl (by with_reducible exact B6) (by kernel_rfl) (by rfl) (by simp [Value.oneCell']) ?_; clear B6; intro w' B6 gg; (try clear k4); replace gw := grown_new gw gg (fun q e => by cases e; exact n6); (try replace r := r.at gg (by omega) (by omega)); (try replace B4 := B4.grown gg (Nat.ne_of_lt l4_6)); (try replace B7 := B7.grown gg (Nat.ne_of_gt l6_7)); clear gg; (try have k4 := B4.k)))
    refine bodyPost_ret (results_cell_row rfl _ _ _ _ _ _ _ rfl B6 Try.underlying28 rfl (by kernel_rfl)) rfl ?_
    exact ⟨_, _, _, _, _, _, _, rfl, ⟨by omega, by omega⟩, by omega, r, gw⟩
  · go_wp2_with (first
      | ((with_reducible refine at_box 4 24 ?_); refine box_box (d := 4) rfl rfl 24 _ rfl _ rfl ?_; intro w' B4 bb; have n4 := gw.size; (try have lr_4 := r.lt); (try have l6_4 := B6.lt); (try have l7_4 := B7.lt); (try clear k4); replace gw := grown_trans gw (grown_below bb _); (try replace r := r.kept bb);  (try replace B6 := B6.kept bb); (try replace B7 := B7.kept bb); clear bb; (try have k4 := B4.k))
      | ((with_reducible refine at_new 6 28 ?_); refine box_new (d := 6) rfl rfl 28 rfl _ zero_msg ?_; intro w' B6 bb; have n6 := gw.size; (try have lr_6 := r.lt); (try have l4_6 := B4.lt); (try have l7_6 := B7.lt); (try clear k4); replace gw := grown_trans gw (grown_below bb _); (try replace r := r.kept bb); (try replace B4 := B4.kept bb);  (try replace B7 := B7.kept bb); clear bb; (try have k4 := B4.k))
      | ((with_reducible refine at_load 28 ?_); refine box_load rfl 28 _ rfl _ rfl (by with_reducible assumption) Try.underlying28 rfl (by kernel_rfl) ?_)
      | ((with_reducible refine at_store 24 ?_); refine box_part rfl 24 _ _ rfl _ _ _ rfl rfl (by with_reducible exact B7) (by kernel_rfl) (by simp) (by simp [Value.oneCell']) ?_; clear B7; intro w' B7 gg; simp only [putAt, List.setIfInBounds_toArray, List.set, Nat.reduceAdd] at B7; (try clear k4); replace gw := grown_new gw gg (fun q e => by cases e; exact n7); (try replace r := r.at gg (by omega) (by omega)); (try replace B4 := B4.grown gg (Nat.ne_of_lt l4_7)); (try replace B6 := B6.grown gg (Nat.ne_of_lt l6_7)); clear gg; (try have k4 := B4.k))
      | ((with_reducible refine at_store 3 ?_); refine box_int rfl _ _ rfl _ _ _ rfl rfl (by with_reducible exact B7) (by simp) ?_; clear B7; intro w' B7 gg; simp only [List.setIfInBounds_toArray, List.set] at B7; (try clear k4); replace gw := grown_new gw gg (fun q e => by cases e; exact n7); (try replace r := r.at gg (by omega) (by omega)); (try replace B4 := B4.grown gg (Nat.ne_of_lt l4_7)); (try replace B6 := B6.grown gg (Nat.ne_of_lt l6_7)); clear gg; (try have k4 := B4.k))
      | ((with_reducible refine at_store 28 ?_); refine box_store rfl 28 _ _ rfl _ _ rfl rfl (by with_reducible exact B6) (by kernel_rfl) (by rfl) (by simp [Value.oneCell']) ?_; clear B6; intro w' B6 gg; (try clear k4); replace gw := grown_new gw gg (fun q e => by cases e; exact n6); (try replace r := r.at gg (by omega) (by omega)); (try replace B4 := B4.grown gg (Nat.ne_of_lt l4_6)); (try replace B7 := B7.grown gg (Nat.ne_of_gt l6_7)); clear gg; (try have k4 := B4.k)))
    refine bodyPost_ret (results_cell_row rfl _ _ _ _ _ _ _ rfl B6 Try.underlying28 rfl (by kernel_rfl)) rfl ?_
    exact ⟨_, _, _, _, _, _, _, rfl, ⟨by omega, by omega⟩, by omega, r, gw⟩
end Go.Proofs.Ytaoafikkamnjlaa
