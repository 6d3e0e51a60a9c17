/- One that agrees with another one, drawn: if it is ok it asks for its own mode. -/
import Derived.Test.YtaoafikkamnjlaaDrawMsg
import Derived.Test.YtaoafikkamnjlaaNegVal
namespace Go.Proofs.Ytaoafikkamnjlaa
open Go.RowKit
/-- Where the reader stands, at most sixty places on for each operation. -/
def Gq (w0 : World) (B g p0 : Nat) (cs : List Nat) (c : Nat) (w : World) : Prop := ∃ p, p ≤ p0 + 60 * c ∧ Rdr w B g p cs ∧ w0.grownBy w (some g)
section
variable {Q : Exit → Act → World → Prop} {o : Oper} {a : Act} {w w0 : World} {B g p0 c : Nat} {cs : List Nat} {PR : Value → World → Prop}
theorem kq_val {v : Value} (ho : (execOp a.eval o).run Try.prog w = .ok (.value v) w) (hG : Gq w0 B g p0 cs c w) (h : PR v w) :
    o.wp Try.prog a w (fun a' w' => ∃ v, a' = a.put o.dst v ∧ PR v w' ∧ Gq w0 B g p0 cs (c + 1) w' ∧ w.grownBy w' (some g)) Q := by
  obtain ⟨p, h1, h2, h3⟩ := hG
  unfold Oper.wp
  rw [ho]
  exact ⟨v, rfl, h, ⟨p, by omega, h2, h3⟩, grown_refl _ _⟩
theorem kq_call {f : FuncId} {args : Array Value} (ho : (execOp a.eval o).run Try.prog w = .ok (.enter f args) w) (hG : Gq w0 B g p0 cs c w)
    (hc : Calls Try.prog f args w (fun e w' => ∃ v, e = .returned v ∧ PR v w' ∧ Below w.heap.size w w')) :
    o.wp Try.prog a w (fun a' w' => ∃ v, a' = a.put o.dst v ∧ PR v w' ∧ Gq w0 B g p0 cs (c + 1) w' ∧ w.grownBy w' (some g)) Q := by
  obtain ⟨p, h1, h2, h3⟩ := hG
  unfold Oper.wp
  rw [ho]
  refine hc.mono ?_
  rintro e w' ⟨v, rfl, h4, h5⟩
  exact ⟨v, rfl, h4, ⟨p, by omega, h2.kept h5, grown_trans h3 (grown_below h5 _)⟩, grown_below h5 _⟩
theorem kq_draw {f : FuncId} {args : Array Value} (ho : (execOp a.eval o).run Try.prog w = .ok (.enter f args) w) (hG : Gq w0 B g p0 cs c w)
    (hc : ∀ p, p ≤ p0 + 60 * c → Rdr w B g p cs → Calls Try.prog f args w (fun e w' => ∃ v p', e = .returned v ∧ PR v w' ∧ p' ≤ p + 60 ∧ Rdr w' B g p' cs ∧ w.grownBy w' (some g))) :
    o.wp Try.prog a w (fun a' w' => ∃ v, a' = a.put o.dst v ∧ PR v w' ∧ Gq w0 B g p0 cs (c + 1) w' ∧ w.grownBy w' (some g)) Q := by
  obtain ⟨p, h1, h2, h3⟩ := hG
  unfold Oper.wp
  rw [ho]
  refine (hc p h1 h2).mono ?_
  rintro e w' ⟨v, p', rfl, h4, h5, h6, h7⟩
  exact ⟨v, rfl, h4, ⟨p', by omega, h6, grown_trans h3 h7⟩, h7⟩
theorem kq_new {ty : TypeId} {zs : Array Value} (ho : o.op = .alloc ty) (hz : ∀ w, (zeroValue ty).run Try.prog w = .ok (.agg zs) w) (hG : Gq w0 B g p0 cs c w) :
    o.wp Try.prog a w (fun a' w' => ∃ v, a' = a.put o.dst v ∧ DBox w0.heap.size zs ty v w' ∧ Gq w0 B g p0 cs (c + 1) w' ∧ w.grownBy w' (some g)) Q := by
  obtain ⟨p, h1, h2, h3⟩ := hG
  exact wp_box_new ty ho zs hz (fun _ h4 h5 => ⟨_, rfl, ⟨_, rfl, h3.size, h4⟩, ⟨p, by omega, h2.kept h5, grown_trans h3 (grown_below h5 _)⟩, grown_below h5 _⟩)
end
theorem run_call3 {ρ : Operand → Value} {w : World} {d : Option Tmp} {t : TypeId} {pos : String} {af : Array Edge} {gd : Option (Nat × Bool)} {x y z : Operand} {f : FuncId} {u v q : Value} {ty : Array TypeId} (hf : ρ (.func f) = .func (.func f) #[] #[]) (h1 : ρ x = u) (h2 : ρ y = v) (h3 : ρ z = q) (hc : ∀ (args : Array Value) (w : World), (callFunc f args).run Try.prog w = .ok (.enter f args) w) : (execOp ρ ⟨d, .call { callee := .value (.func f), args := #[x, y, z], argTypes := ty }, t, pos, af, gd⟩).run Try.prog w = .ok (.enter f #[u, v, q]) w := by
  simp [execOp, resolve, invoke, hf, h1, h2, h3, hc, go_sem]
set_option maxRecDepth 100000 in
set_option maxHeartbeats 4000000 in
theorem neg_any (B g p : Nat) (zs : List Nat) (n : Nat) (w : World) (h : Rdr w B g p zs) (hp : p ≤ 600000000) (hn : n < 1000000) :
    Calls Try.prog 49 #[.pointer (some ⟨g, 0, none⟩), .int .i64 n] w fun e w' => ∃ (s : Neg) (p' : Nat), e = .returned (.agg s.cs) ∧ (s.ok = true → s.asks.mode = s.own.mode) ∧ p' ≤ p + 5000 ∧ Rdr w' B g p' zs ∧ w.grownBy w' (some g) := by
  have hg := h.lt
  have hB := h.1
  have r := h
  have gw := grown_refl w (some g)
  clear h
  go_enter Try.func49, Try.ntmps49
  go_wp2_with (first
    | ((with_reducible refine at_new 4 26 ?_); refine box_new (d := 4) rfl rfl 26 rfl _ zero_neg ?_; intro w' B4 bb; have n4 := gw.size; (try have lr_4 := r.lt); (try have l5_4 := B5.lt); (try have l6_4 := B6.lt); (try have l8_4 := B8.lt); (try have l9_4 := B9.lt);  replace gw := grown_trans gw (grown_below bb _); (try replace r := r.kept bb);  (try replace B5 := B5.kept bb); (try replace B6 := B6.kept bb); (try replace B8 := B8.kept bb); (try replace B9 := B9.kept bb); clear bb; skip)
    | ((with_reducible refine at_new 5 24 ?_); refine box_new (d := 5) rfl rfl 24 rfl _ zero_cfg ?_; intro w' B5 bb; have n5 := gw.size; (try have lr_5 := r.lt); (try have l4_5 := B4.lt); (try have l6_5 := B6.lt); (try have l8_5 := B8.lt); (try have l9_5 := B9.lt);  replace gw := grown_trans gw (grown_below bb _); (try replace r := r.kept bb); (try replace B4 := B4.kept bb);  (try replace B6 := B6.kept bb); (try replace B8 := B8.kept bb); (try replace B9 := B9.kept bb); clear bb; skip)
    | ((with_reducible refine at_new 6 26 ?_); refine box_new (d := 6) rfl rfl 26 rfl _ zero_neg ?_; intro w' B6 bb; have n6 := gw.size; (try have lr_6 := r.lt); (try have l4_6 := B4.lt); (try have l5_6 := B5.lt); (try have l8_6 := B8.lt); (try have l9_6 := B9.lt);  replace gw := grown_trans gw (grown_below bb _); (try replace r := r.kept bb); (try replace B4 := B4.kept bb); (try replace B5 := B5.kept bb);  (try replace B8 := B8.kept bb); (try replace B9 := B9.kept bb); clear bb; skip)
    | ((with_reducible refine at_load 24 ?_); refine box_load rfl 24 _ rfl _ rfl (by with_reducible assumption) Try.underlying24 rfl (by kernel_rfl) ?_)
    | ((with_reducible refine at_load 26 ?_); refine box_load rfl 26 _ rfl _ rfl (by with_reducible assumption) Try.underlying26 rfl (by kernel_rfl) ?_)
    | ((with_reducible refine at_store 24 ?_); refine box_store rfl 24 _ _ rfl _ _ rfl rfl (by with_reducible exact B5) (by kernel_rfl) (by rfl) (by simp [Value.oneCell']) ?_; clear B5; intro w' B5 gg;  replace gw := grown_new gw gg (fun q e => by cases e; exact n5); (try replace r := r.at gg (by omega) (by omega)); (try replace B4 := B4.grown gg (Nat.ne_of_lt l4_5)); (try replace B6 := B6.grown gg (Nat.ne_of_gt l5_6)); (try replace B8 := B8.grown gg (Nat.ne_of_gt l5_8)); (try replace B9 := B9.grown gg (Nat.ne_of_gt l5_9)); clear gg; skip)
    | ((with_reducible refine at_store 26 ?_); refine box_store rfl 26 _ _ rfl _ _ rfl rfl (by with_reducible exact B6) (by kernel_rfl) (by rfl) (by simp [Value.oneCell']) ?_; clear B6; intro w' B6 gg;  replace gw := grown_new gw gg (fun q e => by cases e; exact n6); (try replace r := r.at gg (by omega) (by omega)); (try replace B4 := B4.grown gg (Nat.ne_of_lt l4_6)); (try replace B5 := B5.grown gg (Nat.ne_of_lt l5_6)); (try replace B8 := B8.grown gg (Nat.ne_of_gt l6_8)); (try replace B9 := B9.grown gg (Nat.ne_of_gt l6_9)); clear gg; skip))
  refine (cfg_any _ _ _ zs 0 _ r (by omega) (by omega)).mono ?_
  clear r
  rintro e w' ⟨x1, x2, x3, x4, x5, p1, rfl, _, hx0, _, hp1, r, gg⟩
  replace gw := grown_trans gw gg
  (try replace B4 := B4.grown gg (by omega))
  (try replace B5 := B5.grown gg (by omega))
  (try replace B6 := B6.grown gg (by omega))
  (try replace B8 := B8.grown gg (by omega))
  (try replace B9 := B9.grown gg (by omega))
  clear gg
  skip
  have hx := hx0 rfl
  clear hx0
  go_wp2_with (first
    | ((with_reducible refine at_new 4 26 ?_); refine box_new (d := 4) rfl rfl 26 rfl _ zero_neg ?_; intro w' B4 bb; have n4 := gw.size; (try have lr_4 := r.lt); (try have l5_4 := B5.lt); (try have l6_4 := B6.lt); (try have l8_4 := B8.lt); (try have l9_4 := B9.lt);  replace gw := grown_trans gw (grown_below bb _); (try replace r := r.kept bb);  (try replace B5 := B5.kept bb); (try replace B6 := B6.kept bb); (try replace B8 := B8.kept bb); (try replace B9 := B9.kept bb); clear bb; skip)
    | ((with_reducible refine at_new 5 24 ?_); refine box_new (d := 5) rfl rfl 24 rfl _ zero_cfg ?_; intro w' B5 bb; have n5 := gw.size; (try have lr_5 := r.lt); (try have l4_5 := B4.lt); (try have l6_5 := B6.lt); (try have l8_5 := B8.lt); (try have l9_5 := B9.lt);  replace gw := grown_trans gw (grown_below bb _); (try replace r := r.kept bb); (try replace B4 := B4.kept bb);  (try replace B6 := B6.kept bb); (try replace B8 := B8.kept bb); (try replace B9 := B9.kept bb); clear bb; skip)
    | ((with_reducible refine at_new 6 26 ?_); refine box_new (d := 6) rfl rfl 26 rfl _ zero_neg ?_; intro w' B6 bb; have n6 := gw.size; (try have lr_6 := r.lt); (try have l4_6 := B4.lt); (try have l5_6 := B5.lt); (try have l8_6 := B8.lt); (try have l9_6 := B9.lt);  replace gw := grown_trans gw (grown_below bb _); (try replace r := r.kept bb); (try replace B4 := B4.kept bb); (try replace B5 := B5.kept bb);  (try replace B8 := B8.kept bb); (try replace B9 := B9.kept bb); clear bb; skip)
    | ((with_reducible refine at_load 24 ?_); refine box_load rfl 24 _ rfl _ rfl (by with_reducible assumption) Try.underlying24 rfl (by kernel_rfl) ?_)
    | ((with_reducible refine at_load 26 ?_); refine box_load rfl 26 _ rfl _ rfl (by with_reducible assumption) Try.underlying26 rfl (by kernel_rfl) ?_)
    | ((with_reducible refine at_store 24 ?_); refine box_store rfl 24 _ _ rfl _ _ rfl rfl (by with_reducible exact B5) (by kernel_rfl) (by rfl) (by simp [Value.oneCell']) ?_; clear B5; intro w' B5 gg;  replace gw := grown_new gw gg (fun q e => by cases e; exact n5); (try replace r := r.at gg (by omega) (by omega)); (try replace B4 := B4.grown gg (Nat.ne_of_lt l4_5)); (try replace B6 := B6.grown gg (Nat.ne_of_gt l5_6)); (try replace B8 := B8.grown gg (Nat.ne_of_gt l5_8)); (try replace B9 := B9.grown gg (Nat.ne_of_gt l5_9)); clear gg; skip)
    | ((with_reducible refine at_store 26 ?_); refine box_store rfl 26 _ _ rfl _ _ rfl rfl (by with_reducible exact B6) (by kernel_rfl) (by rfl) (by simp [Value.oneCell']) ?_; clear B6; intro w' B6 gg;  replace gw := grown_new gw gg (fun q e => by cases e; exact n6); (try replace r := r.at gg (by omega) (by omega)); (try replace B4 := B4.grown gg (Nat.ne_of_lt l4_6)); (try replace B5 := B5.grown gg (Nat.ne_of_lt l5_6)); (try replace B8 := B8.grown gg (Nat.ne_of_gt l6_8)); (try replace B9 := B9.grown gg (Nat.ne_of_gt l6_9)); clear gg; skip))
  refine (spec_new_yes _ _ _ _ _ hx _).mono ?_
  rintro e w' ⟨rfl, bb⟩
  replace gw := grown_trans gw (grown_below bb _)
  (try replace r := r.kept bb)
  (try replace B4 := B4.kept bb)
  (try replace B5 := B5.kept bb)
  (try replace B6 := B6.kept bb)
  (try replace B8 := B8.kept bb)
  (try replace B9 := B9.kept bb)
  clear bb
  skip
  go_wp2_with (first
    | ((with_reducible refine at_new 4 26 ?_); refine box_new (d := 4) rfl rfl 26 rfl _ zero_neg ?_; intro w' B4 bb; have n4 := gw.size; (try have lr_4 := r.lt); (try have l5_4 := B5.lt); (try have l6_4 := B6.lt); (try have l8_4 := B8.lt); (try have l9_4 := B9.lt);  replace gw := grown_trans gw (grown_below bb _); (try replace r := r.kept bb);  (try replace B5 := B5.kept bb); (try replace B6 := B6.kept bb); (try replace B8 := B8.kept bb); (try replace B9 := B9.kept bb); clear bb; skip)
    | ((with_reducible refine at_new 5 24 ?_); refine box_new (d := 5) rfl rfl 24 rfl _ zero_cfg ?_; intro w' B5 bb; have n5 := gw.size; (try have lr_5 := r.lt); (try have l4_5 := B4.lt); (try have l6_5 := B6.lt); (try have l8_5 := B8.lt); (try have l9_5 := B9.lt);  replace gw := grown_trans gw (grown_below bb _); (try replace r := r.kept bb); (try replace B4 := B4.kept bb);  (try replace B6 := B6.kept bb); (try replace B8 := B8.kept bb); (try replace B9 := B9.kept bb); clear bb; skip)
    | ((with_reducible refine at_new 6 26 ?_); refine box_new (d := 6) rfl rfl 26 rfl _ zero_neg ?_; intro w' B6 bb; have n6 := gw.size; (try have lr_6 := r.lt); (try have l4_6 := B4.lt); (try have l5_6 := B5.lt); (try have l8_6 := B8.lt); (try have l9_6 := B9.lt);  replace gw := grown_trans gw (grown_below bb _); (try replace r := r.kept bb); (try replace B4 := B4.kept bb); (try replace B5 := B5.kept bb);  (try replace B8 := B8.kept bb); (try replace B9 := B9.kept bb); clear bb; skip)
    | ((with_reducible refine at_load 24 ?_); refine box_load rfl 24 _ rfl _ rfl (by with_reducible assumption) Try.underlying24 rfl (by kernel_rfl) ?_)
    | ((with_reducible refine at_load 26 ?_); refine box_load rfl 26 _ rfl _ rfl (by with_reducible assumption) Try.underlying26 rfl (by kernel_rfl) ?_)
    | ((with_reducible refine at_store 24 ?_); refine box_store rfl 24 _ _ rfl _ _ rfl rfl (by with_reducible exact B5) (by kernel_rfl) (by rfl) (by simp [Value.oneCell']) ?_; clear B5; intro w' B5 gg;  replace gw := grown_new gw gg (fun q e => by cases e; exact n5); (try replace r := r.at gg (by omega) (by omega)); (try replace B4 := B4.grown gg (Nat.ne_of_lt l4_5)); (try replace B6 := B6.grown gg (Nat.ne_of_gt l5_6)); (try replace B8 := B8.grown gg (Nat.ne_of_gt l5_8)); (try replace B9 := B9.grown gg (Nat.ne_of_gt l5_9)); clear gg; skip)
    | ((with_reducible refine at_store 26 ?_); refine box_store rfl 26 _ _ rfl _ _ rfl rfl (by with_reducible exact B6) (by kernel_rfl) (by rfl) (by simp [Value.oneCell']) ?_; clear B6; intro w' B6 gg;  replace gw := grown_new gw gg (fun q e => by cases e; exact n6); (try replace r := r.at gg (by omega) (by omega)); (try replace B4 := B4.grown gg (Nat.ne_of_lt l4_6)); (try replace B5 := B5.grown gg (Nat.ne_of_lt l5_6)); (try replace B8 := B8.grown gg (Nat.ne_of_gt l6_8)); (try replace B9 := B9.grown gg (Nat.ne_of_gt l6_9)); clear gg; skip))
  refine (pick_any _ _ _ zs 6 _ r (by omega) (by omega)).mono ?_
  clear r
  rintro e w' ⟨k0, rfl, hk0, r, gg⟩
  replace gw := grown_trans gw gg
  (try replace B4 := B4.grown gg (by omega))
  (try replace B5 := B5.grown gg (by omega))
  (try replace B6 := B6.grown gg (by omega))
  (try replace B8 := B8.grown gg (by omega))
  (try replace B9 := B9.grown gg (by omega))
  clear gg
  skip
  obtain ⟨g4, e4⟩ : ∃ y, y = w.heap.size := ⟨_, rfl⟩
  go_wp2_with fail
  go_loopw [7] (fun t wr => ∃ (k : Nat) (s : Neg) (p' : Nat), t = .int .i64 k ∧ k ≤ 5 ∧ p' + 700 * k ≤ p + 4000 ∧ Bl wr _ s.cs 26 ∧ s.asks.mode = s.own.mode ∧ Bl wr _ #[.int .i64 0, .int .i64 0, .int .i64 0, .int .i64 0, .int .i64 0, .int .i64 0, .int .i64 0, .int .i64 0, .int .i64 0, .int .i64 0, .int .i64 0, .int .i64 0, .int .i64 0, .int .i64 0, .int .i64 0, .int .i64 0, .int .i64 0, .int .i64 0, .int .i64 0, .int .i64 0, .bool false] 26 ∧ Bl wr _ #[.int .i64 x1, .int .i64 x2, .int .i64 x3, .int .i64 x4, .int .i64 x5] 24 ∧ Rdr wr B g p' zs ∧ w.grownBy wr (some g)) (fun t _ => (intOf t).toNat)
  case atStart => exact ⟨k0, ⟨⟨x1, x2, x3, x4, x5⟩, ⟨x1, x2, x3, x4, x5⟩, ⟨0, 0, 0, 0, 0⟩, ⟨0, 0, 0, 0, 0⟩, false⟩, _, rfl, by omega, by omega, B6, rfl, B4, B5, r, gw⟩
  case round =>
    clear B4 B5 B6 r gw
    obtain ⟨k, s, p', rfl, hk5, hpp, B6, hJ, B4, B5, r, gw⟩ := hrel
    by_cases hk : 0 < k
    · have hkk : (0 : Int) < (k : Int) := by omega
      go_wp2_with fail
      have G0 : Gq wr.drew B g p' zs 0 wr.drew := ⟨p', by omega, r.drew, grown_refl _ _⟩
      have hgw : g < wr.drew.heap.size := r.lt
      refine region_lates 11 [22, 23, 24, 25, 26, 21, 27, 28, 29, 8, 9] [11, 12, 13] (fun i v wx => match i with | 0 => v = .agg s.cs | 1 => v = .pointer (some ⟨g, 0, none⟩) | 2 => v = .agg #[.int .i64 x1, .int .i64 x2, .int .i64 x3, .int .i64 x4, .int .i64 x5] | 3 => (∃ m : Msg, v = .agg m.cs) | 4 => (∃ m : Msg, v = .tuple #[.agg (sHear s m).1.cs, .agg (sHear s m).2.1.cs, .bool (sHear s m).2.2]) | 5 => (∃ m : Msg, v = .tuple #[.agg (sHear s m).1.cs, .agg (sHear s m).2.1.cs, .bool (sHear s m).2.2]) | 6 => (∃ m : Msg, v = .agg (sHear s m).1.cs) | 7 => (∃ m : Msg, v = .agg (sHear s m).2.1.cs) | 8 => (∃ b : Bool, v = .bool b) | 9 => DBox wr.drew.heap.size #[.int .i64 0, .int .i64 0, .int .i64 0, .int .i64 0, .int .i64 0, .int .i64 0, .int .i64 0, .int .i64 0, .int .i64 0, .int .i64 0, .int .i64 0, .int .i64 0, .int .i64 0, .int .i64 0, .int .i64 0, .int .i64 0, .int .i64 0, .int .i64 0, .int .i64 0, .int .i64 0, .bool false] 26 v wx | 10 => DBox wr.drew.heap.size #[.int .i64 0, .int .i64 0, .int .i64 0, .int .i64 0, .int .i64 0, .int .i64 0] 28 v wx | _ => True) (Gq wr.drew B g p' zs) (fun w1 w2 => w1.grownBy w2 (some g)) (by kernel_rfl) [7, 8] (by kernel_rfl) (fun x _ _ _ _ h => by cases x <;> exact h) (dsts_in (by kernel_rfl)) G0 ?hT ?step ?lst ?fin
      case hT =>
        intro j v w1 w2 h k
        match j, h with
        | 0, h => exact h
        | 1, h => exact h
        | 2, h => exact h
        | 3, h => exact h
        | 4, h => exact h
        | 5, h => exact h
        | 6, h => exact h
        | 7, h => exact h
        | 8, h => exact h
        | 9, h => exact DBox.mono h k hgw
        | 10, h => exact DBox.mono h k hgw
        | _ + 11, _ => exact trivial
      case step =>
        intro i o hi ho a wx c hc hG hk
        match i, hi with
        | 0, _ =>
          cases ho
          have e6 : a.eval (.tmp 6) = .pointer (some ⟨_, 0, none⟩) := hk.was 6 (by kernel_rfl)
          obtain ⟨p1, hp1, r1, g1⟩ := hG
          exact kq_val (PR := fun v _ => v = .agg s.cs) (run_load_row 26 _ rfl _ e6 (B6.drew.grown g1 (by omega)) Try.underlying26 rfl (by kernel_rfl)) ⟨p1, hp1, r1, g1⟩ rfl
        | 1, _ =>
          cases ho
          have e0 : a.eval (.tmp 0) = .pointer (some ⟨g, 0, none⟩) := hk.was 0 (by kernel_rfl)
          exact kq_val (PR := fun v _ => v = .pointer (some ⟨g, 0, none⟩)) (run_move e0) hG rfl
        | 2, _ =>
          cases ho
          have e5 : a.eval (.tmp 5) = .pointer (some ⟨_, 0, none⟩) := hk.was 5 (by kernel_rfl)
          obtain ⟨p1, hp1, r1, g1⟩ := hG
          exact kq_val (PR := fun v _ => v = .agg #[.int .i64 x1, .int .i64 x2, .int .i64 x3, .int .i64 x4, .int .i64 x5]) (run_load_row 24 _ rfl _ e5 (B5.drew.grown g1 (by omega)) Try.underlying24 rfl (by kernel_rfl)) ⟨p1, hp1, r1, g1⟩ rfl
        | 3, _ =>
          cases ho
          have e23 : a.eval (.tmp 23) = .pointer (some ⟨g, 0, none⟩) := hk.has 1 23 (by kernel_rfl) (by simp)
          have e24 : a.eval (.tmp 24) = .agg #[.int .i64 x1, .int .i64 x2, .int .i64 x3, .int .i64 x4, .int .i64 x5] := hk.has 2 24 (by kernel_rfl) (by simp)
          refine kq_draw (PR := fun v _ => (∃ m : Msg, v = .agg m.cs)) (run_call3 rfl e23 e24 rfl (fun _ _ => by kernel_rfl)) hG (fun p1 hp1 r1 => ?_)
          refine (msg_any B g p1 zs x1 x2 x3 x4 x5 0 wx r1 (by omega) (by omega)).mono ?_
          rintro e w1 ⟨k1, z1, z2, z3, z4, z5, p2, rfl, hk1, hp2, r2, g2⟩
          exact ⟨_, p2, rfl, ⟨⟨k1, ⟨z1, z2, z3, z4, z5⟩⟩, rfl⟩, by omega, r2, g2⟩
        | 4, _ =>
          cases ho
          have e22 : a.eval (.tmp 22) = .agg s.cs := hk.has 0 22 (by kernel_rfl) (by simp)
          obtain ⟨m, e25⟩ : ∃ m : Msg, a.eval (.tmp 25) = .agg m.cs := hk.has 3 25 (by kernel_rfl) (by simp)
          exact kq_call (PR := fun v _ => (∃ m : Msg, v = .tuple #[.agg (sHear s m).1.cs, .agg (sHear s m).2.1.cs, .bool (sHear s m).2.2])) (run_call2 rfl e22 e25 (fun _ _ => by kernel_rfl)) hG ((spec_hear s m wx).mono (fun _ _ hh => ⟨_, hh.1, ⟨m, rfl⟩, hh.2⟩))
        | 5, _ =>
          cases ho
          obtain ⟨m, e26⟩ : ∃ m : Msg, a.eval (.tmp 26) = .tuple #[.agg (sHear s m).1.cs, .agg (sHear s m).2.1.cs, .bool (sHear s m).2.2] := hk.has 4 26 (by kernel_rfl) (by simp)
          exact kq_val (PR := fun v _ => (∃ m : Msg, v = .tuple #[.agg (sHear s m).1.cs, .agg (sHear s m).2.1.cs, .bool (sHear s m).2.2])) (run_move e26) hG ⟨m, rfl⟩
        | 6, _ =>
          cases ho
          obtain ⟨m, e21⟩ : ∃ m : Msg, a.eval (.tmp 21) = .tuple #[.agg (sHear s m).1.cs, .agg (sHear s m).2.1.cs, .bool (sHear s m).2.2] := hk.has 5 21 (by kernel_rfl) (by simp)
          exact kq_val (PR := fun v _ => (∃ m : Msg, v = .agg (sHear s m).1.cs)) (run_extract e21 rfl) hG ⟨m, rfl⟩
        | 7, _ =>
          cases ho
          obtain ⟨m, e21⟩ : ∃ m : Msg, a.eval (.tmp 21) = .tuple #[.agg (sHear s m).1.cs, .agg (sHear s m).2.1.cs, .bool (sHear s m).2.2] := hk.has 5 21 (by kernel_rfl) (by simp)
          exact kq_val (PR := fun v _ => (∃ m : Msg, v = .agg (sHear s m).2.1.cs)) (run_extract e21 rfl) hG ⟨m, rfl⟩
        | 8, _ =>
          cases ho
          obtain ⟨m, e21⟩ : ∃ m : Msg, a.eval (.tmp 21) = .tuple #[.agg (sHear s m).1.cs, .agg (sHear s m).2.1.cs, .bool (sHear s m).2.2] := hk.has 5 21 (by kernel_rfl) (by simp)
          exact kq_val (PR := fun v _ => (∃ b : Bool, v = .bool b)) (run_extract e21 rfl) hG ⟨_, rfl⟩
        | 9, _ =>
          cases ho
          exact kq_new rfl zero_neg hG
        | 10, _ =>
          cases ho
          exact kq_new rfl zero_msg hG
        | k + 11, hi => omega
      case lst =>
        intro i o hi ho a wx c hG hk
        simp only [List.mem_cons, List.not_mem_nil, or_false] at hi
        rcases hi with rfl | rfl
        · cases ho
          obtain ⟨m, e21⟩ : ∃ m : Msg, a.eval (.tmp 21) = .tuple #[.agg (sHear s m).1.cs, .agg (sHear s m).2.1.cs, .bool (sHear s m).2.2] := hk.has 5 21 (by kernel_rfl) (by simp)
          obtain ⟨p1, hp1, r1, g1⟩ := hG
          exact ⟨_, fun _ => run_extract e21 rfl, ⟨m, rfl⟩, ⟨p1, by omega, r1, g1⟩⟩
        · cases ho
          obtain ⟨m, e21⟩ : ∃ m : Msg, a.eval (.tmp 21) = .tuple #[.agg (sHear s m).1.cs, .agg (sHear s m).2.1.cs, .bool (sHear s m).2.2] := hk.has 5 21 (by kernel_rfl) (by simp)
          obtain ⟨p1, hp1, r1, g1⟩ := hG
          exact ⟨_, fun _ => run_extract e21 rfl, ⟨_, rfl⟩, ⟨p1, by omega, r1, g1⟩⟩
      intro vals wx hG hv
      have v0 : vals 0 = .agg s.cs := hv 0 (by omega)
      have v1 : vals 1 = .pointer (some ⟨g, 0, none⟩) := hv 1 (by omega)
      have v2 : vals 2 = .agg #[.int .i64 x1, .int .i64 x2, .int .i64 x3, .int .i64 x4, .int .i64 x5] := hv 2 (by omega)
      obtain ⟨q3, v3⟩ : ∃ m : Msg, vals 3 = .agg m.cs := hv 3 (by omega)
      obtain ⟨q4, v4⟩ : ∃ m : Msg, vals 4 = .tuple #[.agg (sHear s m).1.cs, .agg (sHear s m).2.1.cs, .bool (sHear s m).2.2] := hv 4 (by omega)
      obtain ⟨q5, v5⟩ : ∃ m : Msg, vals 5 = .tuple #[.agg (sHear s m).1.cs, .agg (sHear s m).2.1.cs, .bool (sHear s m).2.2] := hv 5 (by omega)
      obtain ⟨q6, v6⟩ : ∃ m : Msg, vals 6 = .agg (sHear s m).1.cs := hv 6 (by omega)
      obtain ⟨q7, v7⟩ : ∃ m : Msg, vals 7 = .agg (sHear s m).2.1.cs := hv 7 (by omega)
      obtain ⟨q8, v8⟩ : ∃ b : Bool, vals 8 = .bool b := hv 8 (by omega)
      obtain ⟨g8, v9, m8, B8⟩ : DBox wr.drew.heap.size #[.int .i64 0, .int .i64 0, .int .i64 0, .int .i64 0, .int .i64 0, .int .i64 0, .int .i64 0, .int .i64 0, .int .i64 0, .int .i64 0, .int .i64 0, .int .i64 0, .int .i64 0, .int .i64 0, .int .i64 0, .int .i64 0, .int .i64 0, .int .i64 0, .int .i64 0, .int .i64 0, .bool false] 26 (vals 9) wx := hv 9 (by omega)
      obtain ⟨g9, v10, m9, B9⟩ : DBox wr.drew.heap.size #[.int .i64 0, .int .i64 0, .int .i64 0, .int .i64 0, .int .i64 0, .int .i64 0] 28 (vals 10) wx := hv 10 (by omega)
      clear hv
      simp only [putsL, Act.put, v0, v1, v2, v3, v4, v5, v6, v7, v8, v9, v10, List.setIfInBounds_toArray, List.set_cons_zero, List.set_cons_succ]
      clear v0 v1 v2 v3 v4 v5 v6 v7 v8 v9 v10
      obtain ⟨p1, hp1, r1, g1⟩ := hG
      have n8 : w.heap.size ≤ g8 := Nat.le_trans gw.size m8
      have n9 : w.heap.size ≤ g9 := Nat.le_trans gw.size m9
      have l4_8 := Nat.lt_of_lt_of_le B4.lt m8
      have l5_8 := Nat.lt_of_lt_of_le B5.lt m8
      have l6_8 := Nat.lt_of_lt_of_le B6.lt m8
      have l4_9 := Nat.lt_of_lt_of_le B4.lt m9
      have l5_9 := Nat.lt_of_lt_of_le B5.lt m9
      have l6_9 := Nat.lt_of_lt_of_le B6.lt m9
      have ne89 : g8 ≠ g9 := B8.ne B9 (by decide)
      have gd : w.grownBy wr.drew (some g) := grown_trans gw ⟨rfl, rfl, rfl, Nat.le_refl _, fun _ _ _ => rfl⟩
      replace gw := grown_trans gd g1
      clear gd r
      have r := r1
      replace B4 := B4.drew.grown g1 (by omega)
      replace B5 := B5.drew.grown g1 (by omega)
      replace B6 := B6.drew.grown g1 (by omega)
      clear r1 g1 G0 hgw
      refine tail_cons rfl rfl ?_
      refine wp_box_store 26 _ _ rfl _ _ rfl rfl B8 (by kernel_rfl) rfl (by simp [Neg.cs, Value.oneCell']) ?_
      clear B8
      intro w' B8 gg
      replace gw := grown_new gw gg (fun q e => by cases e; exact n8)
      replace r := r.at gg (by omega) (by omega)
      replace B4 := B4.grown gg (by omega)
      replace B5 := B5.grown gg (by omega)
      replace B6 := B6.grown gg (by omega)
      replace B9 := B9.grown gg (Ne.symm ne89)
      clear gg
      refine tail_cons rfl rfl ?_
      refine wp_box_store 28 _ _ rfl _ _ rfl rfl B9 (by kernel_rfl) rfl (by simp [Msg.cs, Value.oneCell']) ?_
      clear B9
      intro w' B9 gg
      replace gw := grown_new gw gg (fun q e => by cases e; exact n9)
      replace r := r.at gg (by omega) (by omega)
      replace B4 := B4.grown gg (by omega)
      replace B5 := B5.grown gg (by omega)
      replace B6 := B6.grown gg (by omega)
      replace B8 := B8.grown gg ne89
      clear gg
      refine tail_one rfl rfl ?_
      go_simp
      go_wp2_with (first
        | ((with_reducible refine at_load 26 ?_); refine box_load rfl 26 _ rfl _ rfl (by with_reducible assumption) Try.underlying26 rfl (by kernel_rfl) ?_)
        | ((with_reducible refine at_store 26 ?_); refine box_store rfl 26 _ _ rfl _ _ rfl rfl (by with_reducible exact B6) (by kernel_rfl) (by rfl) (by simp [Neg.cs, Value.oneCell']) ?_; clear B6; intro w' B6 gg;  replace gw := grown_new gw gg (fun q e => by cases e; exact n6); (try replace r := r.at gg (by omega) (by omega)); (try replace B4 := B4.grown gg (Nat.ne_of_lt l4_6)); (try replace B5 := B5.grown gg (Nat.ne_of_lt l5_6)); (try replace B8 := B8.grown gg (Nat.ne_of_gt l6_8)); (try replace B9 := B9.grown gg (Nat.ne_of_gt l6_9)); clear gg; skip))
      go_roundw
      case rel => exact ⟨k - 1, (sHear s q6).1, p1, by go_num, by omega, by omega, B6, sHear_mode s q6 hJ, B4, B5, r, gw⟩
      case measure => simp [intOf]; omega
    · obtain rfl : k = 0 := by omega
      obtain ⟨⟨o1, o2, o3, o4, o5⟩, ⟨a1, a2, a3, a4, a5⟩, ⟨m1, m2, m3, m4, m5⟩, ⟨y1, y2, y3, y4, y5⟩, f⟩ := s
      have B6 : Bl wr _ #[.int .i64 o1, .int .i64 o2, .int .i64 o3, .int .i64 o4, .int .i64 o5, .int .i64 a1, .int .i64 a2, .int .i64 a3, .int .i64 a4, .int .i64 a5, .int .i64 m1, .int .i64 m2, .int .i64 m3, .int .i64 m4, .int .i64 m5, .int .i64 y1, .int .i64 y2, .int .i64 y3, .int .i64 y4, .int .i64 y5, .bool f] 26 := B6
      have hJ : a1 = o1 := hJ
      go_wp2_with fail
      refine (odd_any _ _ _ zs n _ r (by omega) hn).mono ?_
      clear r
      rintro e w' ⟨wrong, p3, rfl, _, _, hp3, r, gg⟩
      replace gw := grown_trans gw gg
      (try replace B4 := B4.grown gg (by omega))
      (try replace B5 := B5.grown gg (by omega))
      (try replace B6 := B6.grown gg (by omega))
      clear gg
      skip
      cases wrong
      · go_wp2_with (first
          | ((with_reducible refine at_load 26 ?_); refine box_load rfl 26 _ rfl _ rfl (by with_reducible assumption) Try.underlying26 rfl (by kernel_rfl) ?_)
          | ((with_reducible refine at_store 24 ?_); refine box_part rfl 24 _ _ rfl _ _ _ rfl rfl (by with_reducible exact B6) (by kernel_rfl) (by simp) (by simp [Value.oneCell']) ?_; clear B6; intro w' B6 gg; simp only [putAt, List.setIfInBounds_toArray, List.set, Nat.reduceAdd] at B6;  replace gw := grown_new gw gg (fun q e => by cases e; exact n6); (try replace r := r.at gg (by omega) (by omega)); (try replace B4 := B4.grown gg (Nat.ne_of_lt l4_6)); (try replace B5 := B5.grown gg (Nat.ne_of_lt l5_6)); clear gg; skip)
          | ((with_reducible refine at_store 26 ?_); refine box_store rfl 26 _ _ rfl _ _ rfl rfl (by with_reducible exact B4) (by kernel_rfl) (by rfl) (by simp [Value.oneCell']) ?_; clear B4; intro w' B4 gg;  replace gw := grown_new gw gg (fun q e => by cases e; exact n4); (try replace r := r.at gg (by omega) (by omega)); (try replace B5 := B5.grown gg (Nat.ne_of_gt l4_5)); (try replace B6 := B6.grown gg (Nat.ne_of_gt l4_6)); clear gg; skip))
        refine bodyPost_ret (results_cell_row rfl _ _ _ _ _ _ _ rfl B4 Try.underlying26 rfl (by kernel_rfl)) rfl ?_
        exact ⟨⟨⟨o1, o2, o3, o4, o5⟩, ⟨a1, a2, a3, a4, a5⟩, ⟨m1, m2, m3, m4, m5⟩, ⟨y1, y2, y3, y4, y5⟩, f⟩, _, rfl, (fun _ => hJ), by omega, r, gw⟩
      go_wp2_with (first
        | ((with_reducible refine at_load 26 ?_); refine box_load rfl 26 _ rfl _ rfl (by with_reducible assumption) Try.underlying26 rfl (by kernel_rfl) ?_)
        | ((with_reducible refine at_store 24 ?_); refine box_part rfl 24 _ _ rfl _ _ _ rfl rfl (by with_reducible exact B6) (by kernel_rfl) (by simp) (by simp [Value.oneCell']) ?_; clear B6; intro w' B6 gg; simp only [putAt, List.setIfInBounds_toArray, List.set, Nat.reduceAdd] at B6;  replace gw := grown_new gw gg (fun q e => by cases e; exact n6); (try replace r := r.at gg (by omega) (by omega)); (try replace B4 := B4.grown gg (Nat.ne_of_lt l4_6)); (try replace B5 := B5.grown gg (Nat.ne_of_lt l5_6)); clear gg; skip)
        | ((with_reducible refine at_store 26 ?_); refine box_store rfl 26 _ _ rfl _ _ rfl rfl (by with_reducible exact B4) (by kernel_rfl) (by rfl) (by simp [Value.oneCell']) ?_; clear B4; intro w' B4 gg;  replace gw := grown_new gw gg (fun q e => by cases e; exact n4); (try replace r := r.at gg (by omega) (by omega)); (try replace B5 := B5.grown gg (Nat.ne_of_gt l4_5)); (try replace B6 := B6.grown gg (Nat.ne_of_gt l4_6)); clear gg; skip))
      refine (pick_any _ _ _ zs 4 _ r (by omega) (by omega)).mono ?_
      clear r
      rintro e w' ⟨j, rfl, hj, r, gg⟩
      replace gw := grown_trans gw gg
      (try replace B4 := B4.grown gg (by omega))
      (try replace B5 := B5.grown gg (by omega))
      (try replace B6 := B6.grown gg (by omega))
      clear gg
      skip
      rcases (show j = 0 ∨ j = 1 ∨ j = 2 ∨ j = 3 by omega) with rfl | rfl | rfl | rfl
      · go_wp2_with (first
          | ((with_reducible refine at_load 26 ?_); refine box_load rfl 26 _ rfl _ rfl (by with_reducible assumption) Try.underlying26 rfl (by kernel_rfl) ?_)
          | ((with_reducible refine at_store 24 ?_); refine box_part rfl 24 _ _ rfl _ _ _ rfl rfl (by with_reducible exact B6) (by kernel_rfl) (by simp) (by simp [Value.oneCell']) ?_; clear B6; intro w' B6 gg; simp only [putAt, List.setIfInBounds_toArray, List.set, Nat.reduceAdd] at B6;  replace gw := grown_new gw gg (fun q e => by cases e; exact n6); (try replace r := r.at gg (by omega) (by omega)); (try replace B4 := B4.grown gg (Nat.ne_of_lt l4_6)); (try replace B5 := B5.grown gg (Nat.ne_of_lt l5_6)); clear gg; skip)
          | ((with_reducible refine at_store 26 ?_); refine box_store rfl 26 _ _ rfl _ _ rfl rfl (by with_reducible exact B4) (by kernel_rfl) (by rfl) (by simp [Value.oneCell']) ?_; clear B4; intro w' B4 gg;  replace gw := grown_new gw gg (fun q e => by cases e; exact n4); (try replace r := r.at gg (by omega) (by omega)); (try replace B5 := B5.grown gg (Nat.ne_of_gt l4_5)); (try replace B6 := B6.grown gg (Nat.ne_of_gt l4_6)); clear gg; skip))
        refine (cfg_any _ _ _ zs 1 _ r (by omega) (by omega)).mono ?_
        clear r
        rintro e w' ⟨z1, z2, z3, z4, z5, p4, rfl, _, _, hw, hp4, r, gg⟩
        replace gw := grown_trans gw gg
        (try replace B4 := B4.grown gg (by omega))
        (try replace B5 := B5.grown gg (by omega))
        (try replace B6 := B6.grown gg (by omega))
        clear gg
        skip
        have hbad := hw rfl
        clear hw
        go_wp2_with (first
          | ((with_reducible refine at_load 26 ?_); refine box_load rfl 26 _ rfl _ rfl (by with_reducible assumption) Try.underlying26 rfl (by kernel_rfl) ?_)
          | ((with_reducible refine at_store 24 ?_); refine box_part rfl 24 _ _ rfl _ _ _ rfl rfl (by with_reducible exact B6) (by kernel_rfl) (by simp) (by simp [Value.oneCell']) ?_; clear B6; intro w' B6 gg; simp only [putAt, List.setIfInBounds_toArray, List.set, Nat.reduceAdd] at B6;  replace gw := grown_new gw gg (fun q e => by cases e; exact n6); (try replace r := r.at gg (by omega) (by omega)); (try replace B4 := B4.grown gg (Nat.ne_of_lt l4_6)); (try replace B5 := B5.grown gg (Nat.ne_of_lt l5_6)); clear gg; skip)
          | ((with_reducible refine at_store 26 ?_); refine box_store rfl 26 _ _ rfl _ _ rfl rfl (by with_reducible exact B4) (by kernel_rfl) (by rfl) (by simp [Value.oneCell']) ?_; clear B4; intro w' B4 gg;  replace gw := grown_new gw gg (fun q e => by cases e; exact n4); (try replace r := r.at gg (by omega) (by omega)); (try replace B5 := B5.grown gg (Nat.ne_of_gt l4_5)); (try replace B6 := B6.grown gg (Nat.ne_of_gt l4_6)); clear gg; skip))
        refine bodyPost_ret (results_cell_row rfl _ _ _ _ _ _ _ rfl B4 Try.underlying26 rfl (by kernel_rfl)) rfl ?_
        exact ⟨⟨⟨z1, z2, z3, z4, z5⟩, ⟨a1, a2, a3, a4, a5⟩, ⟨m1, m2, m3, m4, m5⟩, ⟨y1, y2, y3, y4, y5⟩, f⟩, _, rfl, (fun hk => absurd hk (by rw [show Neg.ok ⟨⟨z1, z2, z3, z4, z5⟩, ⟨a1, a2, a3, a4, a5⟩, ⟨m1, m2, m3, m4, m5⟩, ⟨y1, y2, y3, y4, y5⟩, f⟩ = false by simp only [Neg.ok]; rw [hbad]; simp]; simp)), by omega, r, gw⟩
      · go_wp2_with (first
          | ((with_reducible refine at_load 26 ?_); refine box_load rfl 26 _ rfl _ rfl (by with_reducible assumption) Try.underlying26 rfl (by kernel_rfl) ?_)
          | ((with_reducible refine at_store 24 ?_); refine box_part rfl 24 _ _ rfl _ _ _ rfl rfl (by with_reducible exact B6) (by kernel_rfl) (by simp) (by simp [Value.oneCell']) ?_; clear B6; intro w' B6 gg; simp only [putAt, List.setIfInBounds_toArray, List.set, Nat.reduceAdd] at B6;  replace gw := grown_new gw gg (fun q e => by cases e; exact n6); (try replace r := r.at gg (by omega) (by omega)); (try replace B4 := B4.grown gg (Nat.ne_of_lt l4_6)); (try replace B5 := B5.grown gg (Nat.ne_of_lt l5_6)); clear gg; skip)
          | ((with_reducible refine at_store 26 ?_); refine box_store rfl 26 _ _ rfl _ _ rfl rfl (by with_reducible exact B4) (by kernel_rfl) (by rfl) (by simp [Value.oneCell']) ?_; clear B4; intro w' B4 gg;  replace gw := grown_new gw gg (fun q e => by cases e; exact n4); (try replace r := r.at gg (by omega) (by omega)); (try replace B5 := B5.grown gg (Nat.ne_of_gt l4_5)); (try replace B6 := B6.grown gg (Nat.ne_of_gt l4_6)); clear gg; skip))
        refine (cfg_any _ _ _ zs 1 _ r (by omega) (by omega)).mono ?_
        clear r
        rintro e w' ⟨z1, z2, z3, z4, z5, p4, rfl, _, _, hw, hp4, r, gg⟩
        replace gw := grown_trans gw gg
        (try replace B4 := B4.grown gg (by omega))
        (try replace B5 := B5.grown gg (by omega))
        (try replace B6 := B6.grown gg (by omega))
        clear gg
        skip
        have hbad := hw rfl
        clear hw
        go_wp2_with (first
          | ((with_reducible refine at_load 26 ?_); refine box_load rfl 26 _ rfl _ rfl (by with_reducible assumption) Try.underlying26 rfl (by kernel_rfl) ?_)
          | ((with_reducible refine at_store 24 ?_); refine box_part rfl 24 _ _ rfl _ _ _ rfl rfl (by with_reducible exact B6) (by kernel_rfl) (by simp) (by simp [Value.oneCell']) ?_; clear B6; intro w' B6 gg; simp only [putAt, List.setIfInBounds_toArray, List.set, Nat.reduceAdd] at B6;  replace gw := grown_new gw gg (fun q e => by cases e; exact n6); (try replace r := r.at gg (by omega) (by omega)); (try replace B4 := B4.grown gg (Nat.ne_of_lt l4_6)); (try replace B5 := B5.grown gg (Nat.ne_of_lt l5_6)); clear gg; skip)
          | ((with_reducible refine at_store 26 ?_); refine box_store rfl 26 _ _ rfl _ _ rfl rfl (by with_reducible exact B4) (by kernel_rfl) (by rfl) (by simp [Value.oneCell']) ?_; clear B4; intro w' B4 gg;  replace gw := grown_new gw gg (fun q e => by cases e; exact n4); (try replace r := r.at gg (by omega) (by omega)); (try replace B5 := B5.grown gg (Nat.ne_of_gt l4_5)); (try replace B6 := B6.grown gg (Nat.ne_of_gt l4_6)); clear gg; skip))
        refine bodyPost_ret (results_cell_row rfl _ _ _ _ _ _ _ rfl B4 Try.underlying26 rfl (by kernel_rfl)) rfl ?_
        exact ⟨⟨⟨o1, o2, o3, o4, o5⟩, ⟨z1, z2, z3, z4, z5⟩, ⟨m1, m2, m3, m4, m5⟩, ⟨y1, y2, y3, y4, y5⟩, f⟩, _, rfl, (fun hk => absurd hk (by rw [show Neg.ok ⟨⟨o1, o2, o3, o4, o5⟩, ⟨z1, z2, z3, z4, z5⟩, ⟨m1, m2, m3, m4, m5⟩, ⟨y1, y2, y3, y4, y5⟩, f⟩ = false by simp only [Neg.ok]; rw [hbad]; simp]; simp)), by omega, r, gw⟩
      · go_wp2_with (first
          | ((with_reducible refine at_load 26 ?_); refine box_load rfl 26 _ rfl _ rfl (by with_reducible assumption) Try.underlying26 rfl (by kernel_rfl) ?_)
          | ((with_reducible refine at_store 24 ?_); refine box_part rfl 24 _ _ rfl _ _ _ rfl rfl (by with_reducible exact B6) (by kernel_rfl) (by simp) (by simp [Value.oneCell']) ?_; clear B6; intro w' B6 gg; simp only [putAt, List.setIfInBounds_toArray, List.set, Nat.reduceAdd] at B6;  replace gw := grown_new gw gg (fun q e => by cases e; exact n6); (try replace r := r.at gg (by omega) (by omega)); (try replace B4 := B4.grown gg (Nat.ne_of_lt l4_6)); (try replace B5 := B5.grown gg (Nat.ne_of_lt l5_6)); clear gg; skip)
          | ((with_reducible refine at_store 26 ?_); refine box_store rfl 26 _ _ rfl _ _ rfl rfl (by with_reducible exact B4) (by kernel_rfl) (by rfl) (by simp [Value.oneCell']) ?_; clear B4; intro w' B4 gg;  replace gw := grown_new gw gg (fun q e => by cases e; exact n4); (try replace r := r.at gg (by omega) (by omega)); (try replace B5 := B5.grown gg (Nat.ne_of_gt l4_5)); (try replace B6 := B6.grown gg (Nat.ne_of_gt l4_6)); clear gg; skip))
        refine (cfg_any _ _ _ zs 2 _ r (by omega) (by omega)).mono ?_
        clear r
        rintro e w' ⟨z1, z2, z3, z4, z5, p4, rfl, _, _, hw, hp4, r, gg⟩
        replace gw := grown_trans gw gg
        (try replace B4 := B4.grown gg (by omega))
        (try replace B5 := B5.grown gg (by omega))
        (try replace B6 := B6.grown gg (by omega))
        clear gg
        skip
        skip
        clear hw
        go_wp2_with (first
          | ((with_reducible refine at_load 26 ?_); refine box_load rfl 26 _ rfl _ rfl (by with_reducible assumption) Try.underlying26 rfl (by kernel_rfl) ?_)
          | ((with_reducible refine at_store 24 ?_); refine box_part rfl 24 _ _ rfl _ _ _ rfl rfl (by with_reducible exact B6) (by kernel_rfl) (by simp) (by simp [Value.oneCell']) ?_; clear B6; intro w' B6 gg; simp only [putAt, List.setIfInBounds_toArray, List.set, Nat.reduceAdd] at B6;  replace gw := grown_new gw gg (fun q e => by cases e; exact n6); (try replace r := r.at gg (by omega) (by omega)); (try replace B4 := B4.grown gg (Nat.ne_of_lt l4_6)); (try replace B5 := B5.grown gg (Nat.ne_of_lt l5_6)); clear gg; skip)
          | ((with_reducible refine at_store 26 ?_); refine box_store rfl 26 _ _ rfl _ _ rfl rfl (by with_reducible exact B4) (by kernel_rfl) (by rfl) (by simp [Value.oneCell']) ?_; clear B4; intro w' B4 gg;  replace gw := grown_new gw gg (fun q e => by cases e; exact n4); (try replace r := r.at gg (by omega) (by omega)); (try replace B5 := B5.grown gg (Nat.ne_of_gt l4_5)); (try replace B6 := B6.grown gg (Nat.ne_of_gt l4_6)); clear gg; skip))
        refine bodyPost_ret (results_cell_row rfl _ _ _ _ _ _ _ rfl B4 Try.underlying26 rfl (by kernel_rfl)) rfl ?_
        exact ⟨⟨⟨o1, o2, o3, o4, o5⟩, ⟨a1, a2, a3, a4, a5⟩, ⟨z1, z2, z3, z4, z5⟩, ⟨y1, y2, y3, y4, y5⟩, f⟩, _, rfl, (fun _ => hJ), by omega, r, gw⟩
      · go_wp2_with (first
          | ((with_reducible refine at_load 26 ?_); refine box_load rfl 26 _ rfl _ rfl (by with_reducible assumption) Try.underlying26 rfl (by kernel_rfl) ?_)
          | ((with_reducible refine at_store 24 ?_); refine box_part rfl 24 _ _ rfl _ _ _ rfl rfl (by with_reducible exact B6) (by kernel_rfl) (by simp) (by simp [Value.oneCell']) ?_; clear B6; intro w' B6 gg; simp only [putAt, List.setIfInBounds_toArray, List.set, Nat.reduceAdd] at B6;  replace gw := grown_new gw gg (fun q e => by cases e; exact n6); (try replace r := r.at gg (by omega) (by omega)); (try replace B4 := B4.grown gg (Nat.ne_of_lt l4_6)); (try replace B5 := B5.grown gg (Nat.ne_of_lt l5_6)); clear gg; skip)
          | ((with_reducible refine at_store 26 ?_); refine box_store rfl 26 _ _ rfl _ _ rfl rfl (by with_reducible exact B4) (by kernel_rfl) (by rfl) (by simp [Value.oneCell']) ?_; clear B4; intro w' B4 gg;  replace gw := grown_new gw gg (fun q e => by cases e; exact n4); (try replace r := r.at gg (by omega) (by omega)); (try replace B5 := B5.grown gg (Nat.ne_of_gt l4_5)); (try replace B6 := B6.grown gg (Nat.ne_of_gt l4_6)); clear gg; skip))
        refine (cfg_any _ _ _ zs 2 _ r (by omega) (by omega)).mono ?_
        clear r
        rintro e w' ⟨z1, z2, z3, z4, z5, p4, rfl, _, _, hw, hp4, r, gg⟩
        replace gw := grown_trans gw gg
        (try replace B4 := B4.grown gg (by omega))
        (try replace B5 := B5.grown gg (by omega))
        (try replace B6 := B6.grown gg (by omega))
        clear gg
        skip
        skip
        clear hw
        go_wp2_with (first
          | ((with_reducible refine at_load 26 ?_); refine box_load rfl 26 _ rfl _ rfl (by with_reducible assumption) Try.underlying26 rfl (by kernel_rfl) ?_)
          | ((with_reducible refine at_store 24 ?_); refine box_part rfl 24 _ _ rfl _ _ _ rfl rfl (by with_reducible exact B6) (by kernel_rfl) (by simp) (by simp [Value.oneCell']) ?_; clear B6; intro w' B6 gg; simp only [putAt, List.setIfInBounds_toArray, List.set, Nat.reduceAdd] at B6;  replace gw := grown_new gw gg (fun q e => by cases e; exact n6); (try replace r := r.at gg (by omega) (by omega)); (try replace B4 := B4.grown gg (Nat.ne_of_lt l4_6)); (try replace B5 := B5.grown gg (Nat.ne_of_lt l5_6)); clear gg; skip)
          | ((with_reducible refine at_store 26 ?_); refine box_store rfl 26 _ _ rfl _ _ rfl rfl (by with_reducible exact B4) (by kernel_rfl) (by rfl) (by simp [Value.oneCell']) ?_; clear B4; intro w' B4 gg;  replace gw := grown_new gw gg (fun q e => by cases e; exact n4); (try replace r := r.at gg (by omega) (by omega)); (try replace B5 := B5.grown gg (Nat.ne_of_gt l4_5)); (try replace B6 := B6.grown gg (Nat.ne_of_gt l4_6)); clear gg; skip))
        refine bodyPost_ret (results_cell_row rfl _ _ _ _ _ _ _ rfl B4 Try.underlying26 rfl (by kernel_rfl)) rfl ?_
        exact ⟨⟨⟨o1, o2, o3, o4, o5⟩, ⟨a1, a2, a3, a4, a5⟩, ⟨m1, m2, m3, m4, m5⟩, ⟨z1, z2, z3, z4, z5⟩, f⟩, _, rfl, (fun _ => hJ), by omega, r, gw⟩
end Go.Proofs.Ytaoafikkamnjlaa
