/- Two who agree behind one thing, in memory. -/
import Derived.Test.YtaoafikkamnjlaaMsgList
import Derived.Test.YtaoafikkamnjlaaNegLaw
import Derived.Test.YtaoafikkamnjlaaOpenLate
import Derived.Test.YtaoafikkamnjlaaOpenGuard
namespace Go.Proofs.Ytaoafikkamnjlaa
open Go.RowKit
theorem range_kept {w w' : World} {g o : Nat} {vs : List Value} (h : w.rangeAt g o vs) (hb : Below w.heap.size w w') (hg : g < w.heap.size) : w'.rangeAt g o vs := fun j v e => (hb.cell (p := ⟨g, o + j, none⟩) hg).trans (h j v e)
theorem range_by {w w' : World} {g o : Nat} {vs : List Value} {r : Option Nat} (h : w.rangeAt g o vs) (hb : w.grownBy w' r) (hg : g < w.heap.size) (hr : some g ≠ r) : w'.rangeAt g o vs := fun j v e => (World.cell?_of_block (hb.block g hg hr)).trans (h j v e)
theorem range_bl {w : World} {g : Nat} {cs : Array Value} {t : TypeId} (h : Bl w g cs t) : w.rangeAt g 0 cs.toList := bl_range h 0 cs.toList (fun j v e => by simpa using e)
theorem range_fst {w : World} {g : Nat} {a b : Neg} {t : TypeId} (h : Bl w g (a.cs ++ b.cs) t) : w.rangeAt g 0 a.cs.toList := bl_range h 0 _ (fun j v e => by
  have hj : j < 21 := by
    have := (List.getElem?_eq_some_iff.1 e).1
    simpa [Neg.cs] using this
  rw [Nat.zero_add, Array.getElem?_append_left (by simpa [Neg.cs] using hj)]
  simpa using e)
theorem range_snd {w : World} {g : Nat} {a b : Neg} {t : TypeId} (h : Bl w g (a.cs ++ b.cs) t) : w.rangeAt g 21 b.cs.toList := bl_range h 21 _ (fun j v e => by
  rw [Array.getElem?_append_right (by simp [Neg.cs])]
  simpa [Neg.cs] using e)
theorem put_fst (a b c : Neg) : putAt (a.cs ++ b.cs) 0 c.cs.toList = c.cs ++ b.cs := by simp [Neg.cs, putAt]
theorem put_snd (a b c : Neg) : putAt (a.cs ++ b.cs) 21 c.cs.toList = a.cs ++ c.cs := by simp [Neg.cs, putAt]
theorem neg_one (s : Neg) : s.cs.all (·.oneCell') = true := by simp [Neg.cs, Value.oneCell']
theorem msg_one (m : Msg) : m.cs.all (·.oneCell') = true := by simp [Msg.cs, Value.oneCell']
theorem impl_says (s : Neg) (w : World) : Calls Try.prog 66 #[.agg s.cs] w fun e w' => e = .returned (.tuple #[.agg (sayM s).cs, .bool (says s)]) ∧ Below w.heap.size w w' := by
  obtain ⟨⟨o1, o2, o3, o4, o5⟩, ⟨a1, a2, a3, a4, a5⟩, ⟨m1, m2, m3, m4, m5⟩, ⟨y1, y2, y3, y4, y5⟩, f⟩ := s
  cases h : says ⟨⟨o1, o2, o3, o4, o5⟩, ⟨a1, a2, a3, a4, a5⟩, ⟨m1, m2, m3, m4, m5⟩, ⟨y1, y2, y3, y4, y5⟩, f⟩
  · rw [show sayM ⟨⟨o1, o2, o3, o4, o5⟩, ⟨a1, a2, a3, a4, a5⟩, ⟨m1, m2, m3, m4, m5⟩, ⟨y1, y2, y3, y4, y5⟩, f⟩ = Msg.zero by simp [sayM, h]]
    exact impl_say_no o1 o2 o3 o4 o5 a1 a2 a3 a4 a5 m1 m2 m3 m4 m5 y1 y2 y3 y4 y5 f h w
  · rw [show sayM ⟨⟨o1, o2, o3, o4, o5⟩, ⟨a1, a2, a3, a4, a5⟩, ⟨m1, m2, m3, m4, m5⟩, ⟨y1, y2, y3, y4, y5⟩, f⟩ = ⟨1, ⟨a1, a2, a3, a4, a5⟩⟩ by simp [sayM, h]]
    exact impl_say_yes o1 o2 o3 o4 o5 a1 a2 a3 a4 a5 m1 m2 m3 m4 m5 y1 y2 y3 y4 y5 f h w
section
variable {ρ : Operand → Value} {w : World} {d : Option Tmp} {t : TypeId} {pos : String} {af : Array Edge} {gd : Option (Nat × Bool)} {x y : Operand}
theorem run_idx_s {g m c k : Nat} (h1 : ρ x = .slice (some ⟨g, 0, none⟩) m c) (h2 : ρ y = .int .i64 k) (hk : k < m) : (execOp ρ ⟨d, .indexAddr 46 x y, t, pos, af, gd⟩).run Try.prog w = .ok (.value (.pointer (some ⟨g, k * 21, none⟩))) w := by
  have hu := Try.underlying46
  have hk' : (k : Int) < (m : Int) := by omega
  simp [execOp, h1, h2, go_sem, hu]
  intro h
  omega
theorem run_idx_m {g m c k : Nat} (h1 : ρ x = .slice (some ⟨g, 0, none⟩) m c) (h2 : ρ y = .int .i64 k) (hk : k < m) : (execOp ρ ⟨d, .indexAddr 49 x y, t, pos, af, gd⟩).run Try.prog w = .ok (.value (.pointer (some ⟨g, k * 6, none⟩))) w := by
  have hu := Try.underlying49
  have hk' : (k : Int) < (m : Int) := by omega
  simp [execOp, h1, h2, go_sem, hu]
  intro h
  omega
theorem run_idx_n {g m c k : Nat} (h1 : ρ x = .slice (some ⟨g, 0, none⟩) m c) (h2 : ρ y = .int .i64 k) (hk : k < m) : (execOp ρ ⟨d, .indexAddr 42 x y, t, pos, af, gd⟩).run Try.prog w = .ok (.value (.pointer (some ⟨g, k, none⟩))) w := by
  have hu := Try.underlying42
  have hk' : (k : Int) < (m : Int) := by omega
  simp [execOp, h1, h2, go_sem, hu]
  intro h
  omega
theorem run_ldr {ty : TypeId} {g k : Nat} {cs : Array Value} {e : TypeDesc} (hx : ρ x = .pointer (some ⟨g, k, none⟩)) (hr : w.rangeAt g k cs.toList) (hu : Try.prog.underlying ty = some e) (hd : e.isRow = true) (hi : (Try.prog.info? ty).map (·.size) = some cs.size) : (execOp ρ ⟨d, .load ty x, t, pos, af, gd⟩).run Try.prog w = .ok (.value (.agg cs)) w := by
  have e := run_loadVar_mid (P := Try.prog) w g k ty cs.toList e hr hu hd (by simpa using hi)
  rw [Array.toArray_toList] at e
  unfold execOp
  simp only [hx, Instr.loadAt, Instr.sureAddr, Sem.run_bind, Sem.run_pure, Result.andThen_ok, e]
theorem run_lds {g k n c : Nat} {a : Option Addr} (hx : ρ x = .pointer (some ⟨g, k, none⟩)) (hr : w.cell? ⟨g, k, none⟩ = some (.slice a n c)) : (execOp ρ ⟨d, .load 49 x, t, pos, af, gd⟩).run Try.prog w = .ok (.value (.slice a n c)) w := by
  simp [execOp, hx, hr, go_sem]
theorem run_lit {m : Msg} (hx : ρ x = .agg m.cs) : (execOp ρ ⟨d, .buildSlice 49 1 #[(0, x)], t, pos, af, gd⟩).run Try.prog w = .ok (.value (.slice (some ⟨w.heap.size, 0, none⟩) 1 1)) (w.alloc (.cells m.cs 28)) := by
  simp [execOp, hx, Msg.cs, go_sem]
theorem run_none : (execOp ρ ⟨d, .buildSlice 49 0 #[], t, pos, af, gd⟩).run Try.prog w = .ok (.value (.slice (some ⟨w.heap.size, 0, none⟩) 0 0)) (w.alloc (.cells #[] 28)) := by
  simp [execOp, go_sem]
end
section
variable {ops : Array Oper} {rest : List Oper} {o : Oper} {a : Act} {w : World} {Q : Exit → Act → World → Prop} {K : Act → World → Prop}
theorem ld_range (hgd : o.guard = none) (ty : TypeId) (x : Operand) (ho : o.op = .load ty x) (g k : Nat) (hx : a.eval x = .pointer (some ⟨g, k, none⟩)) {cs : Array Value} {d : TypeDesc} (hr : w.rangeAt g k cs.toList)
    (hu : Try.prog.underlying ty = some d) (hd : d.isRow = true) (hi : (Try.prog.info? ty).map (·.size) = some cs.size) (h : wpList Try.prog ops Q rest (a.put o.dst (.agg cs)) w) : wpList Try.prog ops Q (o :: rest) a w := by
  have e := wpList_load_mid (P := Try.prog) (ops := ops) (rest := rest) (w := w) (Q := Q) hgd ty x ho g k hx cs.toList d hr hu hd (by simpa using hi)
  rw [Array.toArray_toList] at e
  exact e h
/-- A store of a list into a box. -/
theorem wp_box_sl (x y : Operand) (ho : o.op = .store 49 x y) (g i : Nat) (ad : Option Addr) (n c : Nat) (hx : a.eval x = .pointer (some ⟨g, i, none⟩)) (hy : a.eval y = .slice ad n c)
    {t : TypeId} {old : Array Value} (hg : Bl w g old t) (hold : i < old.size)
    (h : ∀ w', Bl w' g (old.setIfInBounds i (.slice ad n c)) t → w.grownBy w' (some g) → K (a.put o.dst undef) w') : o.wp Try.prog a w K Q := by
  have k1 : w.cell? ⟨g, i, none⟩ = some old[i] := by rw [hg.k]; simp [hold]
  have k2 := hg.f i
  have hh := h _ (heap_setCell_same w g i old t (.slice ad n c) hg) (grown_setCell w g i _)
  unfold Oper.wp execOp
  simp only [ho, hx, hy]
  simp [go_sem, k1, k2]
  exact hh
theorem box_sl (hgd : o.guard = none) (x y : Operand) (ho : o.op = .store 49 x y) (g i : Nat) (ad : Option Addr) (n c : Nat) (hx : a.eval x = .pointer (some ⟨g, i, none⟩)) (hy : a.eval y = .slice ad n c)
    {t : TypeId} {old : Array Value} (hg : Bl w g old t) (hold : i < old.size)
    (h : ∀ w', Bl w' g (old.setIfInBounds i (.slice ad n c)) t → w.grownBy w' (some g) → wpList Try.prog ops Q rest (a.put o.dst undef) w') : wpList Try.prog ops Q (o :: rest) a w :=
  wpList_plain hgd fun _ hK => wp_box_sl x y ho g i ad n c hx hy hg hold (fun w' h1 h2 => hK _ _ (h w' h1 h2))
end
theorem below_le {m n : Nat} {w w' : World} (h : Below n w w') (hm : m ≤ n) : Below m w w' := ⟨h.os, h.tape, h.output, h.size, fun k hk => h.block k (by omega)⟩
theorem range_one {w : World} {g : Nat} {m : Msg} {t : TypeId} (h : Bl w g m.cs t) : w.rangeAt g 0 (mcells [m]) := by
  have := range_bl h
  simpa [mcells] using this
theorem At.swap {w : World} {B gs gn : Nat} {v0 v1 : Value} {p : Two} (h : At w B gs gn v0 v1 p) : ∀ k, v1.ownBlock = some k → v0.ownBlock ≠ some k := fun k e1 e2 => h.ap k e2 e1
/-- The other list grew. -/
theorem At.grow0 {w w' : World} {B gs gn : Nat} {v0 v1 v' : Value} {p : Two} (h : At w B gs gn v0 v1 p) (k : w.grownBy w' v0.ownBlock) (hv : v'.ownBlock = v0.ownBlock ∨ v'.ownBlock = some w.heap.size) :
    Bl w' gs (p.x.cs ++ p.y.cs) 26 ∧ Bl w' gn #[v0, v1] 49 ∧ OwnM w' B v1 p.ny ∧ ∀ k, v'.ownBlock = some k → v1.ownBlock ≠ some k := by
  have n1 := h.o0.ne h.s (by decide)
  have n2 := h.o0.ne h.n (by decide)
  refine ⟨(k.block gs h.s.lt (fun e => n1 e.symm)).trans h.s, (k.block gn h.n.lt (fun e => n2 e.symm)).trans h.n, h.o1.by k ?_, ?_⟩
  · cases e : v1.ownBlock with
    | none => exact .inl rfl
    | some j => exact .inr (fun e' => h.ap j e'.symm e)
  · intro j e' e
    rcases hv with hv | hv
    · exact h.ap j (hv ▸ e') e
    · have := (World.ownsRow.lt h.o1 j e).2
      rw [hv] at e'
      cases e'
      omega
theorem below_own {n : Nat} {w w1 w2 : World} {B : Nat} {v : Value} {ms : List Msg} (h : Below n w w1) (k : w1.grownBy w2 v.ownBlock) (ho : OwnM w1 B v ms) (hn : n ≤ w1.heap.size) (hB : n ≤ B) : Below n w w2 :=
  h.grown k hn (fun q e => Nat.le_trans hB (World.ownsRow.lt ho q e).1)
theorem first_cut {w : World} {g c : Nat} {rest : List Msg} (hc : rest.length + 1 ≤ c) (h : w.rangeAt g 6 (mcells rest)) : ∃ i, (if c = 1 then some (⟨g, 0, none⟩ : Addr) else some ⟨g, 6, none⟩) = some ⟨g, i, none⟩ ∧ w.rangeAt g i (mcells rest) := by
  by_cases e : c = 1
  · obtain rfl : rest = [] := List.length_eq_zero_iff.1 (by omega)
    exact ⟨0, if_pos e, fun j v h => by simp [mcells] at h⟩
  · exact ⟨6, if_neg e, h⟩
theorem wpList_appM {w : World} {ops : Array Oper} {rest : List Oper} {o : Oper} {a : Act} {Q : Exit → Act → World → Prop} (hgd : o.guard = none) (s x : Operand)
    (ho : o.op = .call { callee := .builtin .append, args := #[s, x], argTypes := #[49, 49] }) (B : Nat) (v : Value) (ms : List Msg) (hs : a.eval s = v) (hown : OwnM w B v ms)
    (g i n c : Nat) (ns : List Msg) (hx : a.eval x = .slice (some ⟨g, i, none⟩) n c) (hn : n = ns.length) (hr : w.rangeAt g i (mcells ns)) (hl : ms.length + ns.length ≤ 1000000) (hB : B ≤ w.heap.size)
    (h : ∀ v' w', OwnM w' B v' (ms ++ ns) → w.grownBy w' v.ownBlock → (v'.ownBlock = v.ownBlock ∨ v'.ownBlock = some w.heap.size) → wpList Try.prog ops Q rest (a.put o.dst v') w') : wpList Try.prog ops Q (o :: rest) a w :=
  wpList_plain hgd fun _ hK => wp_appM s x ho B v ms hs hown g i n c ns hx hn hr hl hB fun v' w' h1 h2 h3 => hK _ _ (h v' w' h1 h2 h3)
theorem OwnM.base {w : World} {B C : Nat} {v : Value} {ms : List Msg} (h : OwnM w B v ms) (hc : C ≤ B) : OwnM w C v ms := by
  refine ⟨h.1, ?_⟩
  rcases h.2 with h0 | ⟨g, cap, cur, e, hb, r⟩
  · exact .inl h0
  · exact .inr ⟨g, cap, cur, e, Nat.le_trans hc hb, r⟩
theorem below_trans {n : Nat} {w w1 w2 : World} (h : Below n w w1) (k : Below n w1 w2) : Below n w w2 := ⟨k.os.trans h.os, k.tape.trans h.tape, k.output.trans h.output, Nat.le_trans h.size k.size, fun i hi => (k.block i hi).trans (h.block i hi)⟩
set_option maxRecDepth 100000 in
set_option maxHeartbeats 4000000 in
theorem do_say_0 {B gs gn : Nat} {v0 v1 : Value} {s0 s1 : Neg} {n0 n1 : List Msg} {what : Int} (hw : what < 2) (w : World) (H : At w B gs gn v0 v1 ⟨s0, s1, n0, n1⟩) (hB : B ≤ w.heap.size) (hl : n0.length + n1.length ≤ 100000) :
    Calls Try.prog 25 #[.slice (some ⟨gs, 0, none⟩) 2 2, .slice (some ⟨gn, 0, none⟩) 2 2, .int .i64 0, .int .i64 what] w fun e w' => e = .returned (.tuple #[.slice (some ⟨gs, 0, none⟩) 2 2, .slice (some ⟨gn, 0, none⟩) 2 2]) ∧ (∃ v0' v1', At w' B gs gn v0' v1' (if says s0 = true then ⟨s0, s1, n0, n1 ++ [⟨1, s0.asks⟩]⟩ else ⟨s0, s1, n0, n1⟩)) ∧ Below B w w' := by
  cases hs : says s0
  · rw [if_neg (by simp)]
    obtain ⟨a0, c0, e0⟩ := H.o0.form
    obtain ⟨a1, c1, e1⟩ := H.o1.form
    subst e0 e1
    have b0 : Below w.heap.size w w := Below.refl _ _
    have kn := H.n.k
    go_enter Try.func25, Try.ntmps25
    go_wp2_with (first
      | ((with_reducible refine at_load 26 ?_); refine ld_range rfl 26 _ rfl _ _ rfl (range_fst H.s) Try.underlying26 rfl (by kernel_rfl) ?_)
      | ((with_reducible refine at_new 11 28 ?_); refine box_new (d := 11) rfl rfl 28 rfl _ zero_msg ?_; intro w' B11 bb; have n11 := b0.size;    replace b0 := bchain b0 bb;  clear bb; skip)
      | ((with_reducible refine at_store 28 ?_); refine box_store rfl 28 _ _ rfl _ _ rfl rfl (by with_reducible exact B11) (by kernel_rfl) (by rfl) (by simp [Msg.cs, Value.oneCell']) ?_; clear B11; intro w' B11 gg;  replace b0 := below_at b0 gg b0.size n11;  clear gg; skip))
    refine (impl_says s0 _).mono ?_
    rintro e w' ⟨rfl, bb⟩
    rw [hs]
    replace b0 := bchain b0 bb
    (try replace B11 := B11.kept bb)
    clear bb
    skip
    go_wp2_with (first
      | ((with_reducible refine at_load 26 ?_); refine ld_range rfl 26 _ rfl _ _ rfl (range_fst H.s) Try.underlying26 rfl (by kernel_rfl) ?_)
      | ((with_reducible refine at_new 11 28 ?_); refine box_new (d := 11) rfl rfl 28 rfl _ zero_msg ?_; intro w' B11 bb; have n11 := b0.size;    replace b0 := bchain b0 bb;  clear bb; skip)
      | ((with_reducible refine at_store 28 ?_); refine box_store rfl 28 _ _ rfl _ _ rfl rfl (by with_reducible exact B11) (by kernel_rfl) (by rfl) (by simp [Msg.cs, Value.oneCell']) ?_; clear B11; intro w' B11 gg;  replace b0 := below_at b0 gg b0.size n11;  clear gg; skip))
    refine bodyPost_ret (v := .tuple #[.slice (some ⟨gs, 0, none⟩) 2 2, .slice (some ⟨gn, 0, none⟩) 2 2]) (by simp [results, Try.results25, go_sem]) rfl ?_
    exact ⟨rfl, ⟨_, _, H.kept b0⟩, below_le b0 hB⟩
  · rw [if_pos rfl]
    have hm : sayM s0 = ⟨1, s0.asks⟩ := by simp [sayM, hs]
    obtain ⟨a0, c0, e0⟩ := H.o0.form
    obtain ⟨a1, c1, e1⟩ := H.o1.form
    subst e0 e1
    have b0 : Below w.heap.size w w := Below.refl _ _
    have kn := H.n.k
    go_enter Try.func25, Try.ntmps25
    go_wp2_with (first
      | ((with_reducible refine at_load 26 ?_); refine ld_range rfl 26 _ rfl _ _ rfl (range_fst H.s) Try.underlying26 rfl (by kernel_rfl) ?_)
      | ((with_reducible refine at_new 11 28 ?_); refine box_new (d := 11) rfl rfl 28 rfl _ zero_msg ?_; intro w' B11 bb; have n11 := b0.size;    replace b0 := bchain b0 bb;  clear bb; skip)
      | ((with_reducible refine at_store 28 ?_); refine box_store rfl 28 _ _ rfl _ _ rfl rfl (by with_reducible exact B11) (by kernel_rfl) (by rfl) (by simp [Msg.cs, Value.oneCell']) ?_; clear B11; intro w' B11 gg;  replace b0 := below_at b0 gg b0.size n11;  clear gg; skip))
    refine (impl_says s0 _).mono ?_
    rintro e w' ⟨rfl, bb⟩
    rw [hs, hm]
    replace b0 := bchain b0 bb
    (try replace B11 := B11.kept bb)
    clear bb
    skip
    go_wp2_with (first
      | ((with_reducible refine at_load 26 ?_); refine ld_range rfl 26 _ rfl _ _ rfl (range_fst H.s) Try.underlying26 rfl (by kernel_rfl) ?_)
      | ((with_reducible refine at_new 11 28 ?_); refine box_new (d := 11) rfl rfl 28 rfl _ zero_msg ?_; intro w' B11 bb; have n11 := b0.size;    replace b0 := bchain b0 bb;  clear bb; skip)
      | ((with_reducible refine at_store 28 ?_); refine box_store rfl 28 _ _ rfl _ _ rfl rfl (by with_reducible exact B11) (by kernel_rfl) (by rfl) (by simp [Msg.cs, Value.oneCell']) ?_; clear B11; intro w' B11 gg;  replace b0 := below_at b0 gg b0.size n11;  clear gg; skip))
    replace b0 := b0.drew
    replace B11 := B11.drew
    have H1 := H.kept b0
    refine region_by (fun w' => Bl w' gn #[(.slice a0 n0.length c0), (.slice a1 n1.length c1)] 49 ∧ Bl w' _ (Msg.mk 1 s0.asks).cs 28) 12 [(0, true), (1, true), (2, true), (3, true), (4, true), (5, true), (6, true), (7, true), (8, true), (9, false), (10, false), (11, true), (12, false)] ⟨none, .assign (.tmp 0), 0, "", #[], none⟩ (by kernel_rfl) (by kernel_rfl) ⟨H1.n, B11⟩ (fun x _ _ _ _ h => by cases x <;> exact h) ?_
    simp only [arrange, List.map_cons, List.map_nil, List.getD_cons_zero, List.getD_cons_succ]
    generalize World.drew _ = dw at b0 B11 H1 ⊢
    refine by_run rfl (.slice (some ⟨gn, 0, none⟩) 2 2) (fun _ _ => run_move rfl) ?_
    simp only [Act.put, List.setIfInBounds_toArray, List.set]
    refine by_run rfl (.int .i64 0) (fun _ _ => run_move rfl) ?_
    simp only [Act.put, List.setIfInBounds_toArray, List.set]
    refine by_run rfl (.int .i64 1) (fun _ _ => by simp [execOp, go_sem]; try rfl) ?_
    simp only [Act.put, List.setIfInBounds_toArray, List.set]
    refine by_run rfl (.slice (some ⟨gn, 0, none⟩) 2 2) (fun _ _ => run_move rfl) ?_
    simp only [Act.put, List.setIfInBounds_toArray, List.set]
    refine by_run rfl (.int .i64 0) (fun _ _ => run_move rfl) ?_
    simp only [Act.put, List.setIfInBounds_toArray, List.set]
    refine by_run rfl (.int .i64 1) (fun _ _ => by simp [execOp, go_sem]; try rfl) ?_
    simp only [Act.put, List.setIfInBounds_toArray, List.set]
    refine by_run rfl (.pointer (some ⟨gn, 1, none⟩)) (fun _ _ => run_idx_n (k := 1) rfl rfl (by omega)) ?_
    simp only [Act.put, List.setIfInBounds_toArray, List.set]
    refine by_run rfl (.slice a1 n1.length c1) (fun _ h => run_lds rfl ((h.1.k 1).trans rfl)) ?_
    simp only [Act.put, List.setIfInBounds_toArray, List.set]
    refine by_load rfl 28 _ rfl _ rfl (fun _ h => h.2) Try.underlying28 rfl (by kernel_rfl) ?_
    simp only [Act.put, List.setIfInBounds_toArray, List.set]
    refine by_wp rfl rfl ?_
    unfold Oper.wp
    rw [run_lit rfl]
    have BL := bl_new dw (Msg.mk 1 s0.asks).cs 28
    have bb := bo_alloc dw (.cells (Msg.mk 1 s0.asks).cs 28)
    replace b0 := bchain b0 bb
    replace H1 := H1.kept bb
    replace B11 := B11.kept bb
    refine ⟨fun _ => ⟨H1.n, B11⟩, ?_⟩
    simp only [Act.put, List.setIfInBounds_toArray, List.set]
    clear bb
    refine by_wp rfl rfl ?_
    refine wp_appM _ _ rfl B _ n1 rfl H1.o1 _ 0 1 1 [(Msg.mk 1 s0.asks)] rfl rfl (range_one BL) (by simp; omega) (Nat.le_trans hB b0.size) ?_
    intro v' w2 o2 g2 at2
    obtain ⟨h1, h2, h3, h4⟩ := H1.grow1 g2 at2
    have B112 : Bl w2 _ (Msg.mk 1 s0.asks).cs 28 := (g2.block _ B11.lt (fun e => by have := (World.ownsRow.lt H.o1 _ e.symm).2; have := n11; omega)).trans B11
    have b2 := below_own (below_le b0 hB) g2 H1.o1 (Nat.le_trans hB b0.size) (Nat.le_refl B)
    refine ⟨fun _ => ⟨h2, B112⟩, ?_⟩
    simp only [Act.put, List.setIfInBounds_toArray, List.set]
    refine by_run rfl (.pointer (some ⟨gn, 1, none⟩)) (fun _ _ => run_idx_n (k := 1) rfl rfl (by omega)) ?_
    simp only [Act.put, List.setIfInBounds_toArray, List.set]
    obtain ⟨ar, cr, er⟩ := o2.form
    subst er
    refine by_wp rfl rfl ?_
    refine wp_box_sl _ _ rfl gn 1 _ _ _ rfl rfl h2 (by simp) ?_
    intro w3 h5 g3
    simp only [List.setIfInBounds_toArray, List.set] at h5
    have hsn : gs ≠ gn := H.s.ne H.n (by decide)
    replace h1 := h1.grown g3 hsn
    replace o2 := o2.grown g3 h2 (by decide)
    replace h3 := h3.grown g3 h2 (by decide)
    have b3 := below_at b2 g3 (Nat.le_trans hB (Nat.le_trans b0.size g2.size)) H.bn
    refine ⟨fun h => absurd h (by omega), ?_⟩
    refine by_nil ?_
    go_wp2
    refine bodyPost_ret (v := .tuple #[.slice (some ⟨gs, 0, none⟩) 2 2, .slice (some ⟨gn, 0, none⟩) 2 2]) (by simp [results, Try.results25, go_sem]) rfl ?_
    exact ⟨rfl, ⟨_, _, ⟨h1, h5, h3, o2, h4, H.bs, H.bn⟩⟩, b3⟩
set_option maxRecDepth 100000 in
set_option maxHeartbeats 4000000 in
theorem do_say_1 {B gs gn : Nat} {v0 v1 : Value} {s0 s1 : Neg} {n0 n1 : List Msg} {what : Int} (hw : what < 2) (w : World) (H : At w B gs gn v0 v1 ⟨s0, s1, n0, n1⟩) (hB : B ≤ w.heap.size) (hl : n0.length + n1.length ≤ 100000) :
    Calls Try.prog 25 #[.slice (some ⟨gs, 0, none⟩) 2 2, .slice (some ⟨gn, 0, none⟩) 2 2, .int .i64 1, .int .i64 what] w fun e w' => e = .returned (.tuple #[.slice (some ⟨gs, 0, none⟩) 2 2, .slice (some ⟨gn, 0, none⟩) 2 2]) ∧ (∃ v0' v1', At w' B gs gn v0' v1' (if says s1 = true then ⟨s0, s1, n0 ++ [⟨1, s1.asks⟩], n1⟩ else ⟨s0, s1, n0, n1⟩)) ∧ Below B w w' := by
  cases hs : says s1
  · rw [if_neg (by simp)]
    obtain ⟨a0, c0, e0⟩ := H.o0.form
    obtain ⟨a1, c1, e1⟩ := H.o1.form
    subst e0 e1
    have b0 : Below w.heap.size w w := Below.refl _ _
    have kn := H.n.k
    go_enter Try.func25, Try.ntmps25
    go_wp2_with (first
      | ((with_reducible refine at_load 26 ?_); refine ld_range rfl 26 _ rfl _ _ rfl (range_snd H.s) Try.underlying26 rfl (by kernel_rfl) ?_)
      | ((with_reducible refine at_new 11 28 ?_); refine box_new (d := 11) rfl rfl 28 rfl _ zero_msg ?_; intro w' B11 bb; have n11 := b0.size;    replace b0 := bchain b0 bb;  clear bb; skip)
      | ((with_reducible refine at_store 28 ?_); refine box_store rfl 28 _ _ rfl _ _ rfl rfl (by with_reducible exact B11) (by kernel_rfl) (by rfl) (by simp [Msg.cs, Value.oneCell']) ?_; clear B11; intro w' B11 gg;  replace b0 := below_at b0 gg b0.size n11;  clear gg; skip))
    refine (impl_says s1 _).mono ?_
    rintro e w' ⟨rfl, bb⟩
    rw [hs]
    replace b0 := bchain b0 bb
    (try replace B11 := B11.kept bb)
    clear bb
    skip
    go_wp2_with (first
      | ((with_reducible refine at_load 26 ?_); refine ld_range rfl 26 _ rfl _ _ rfl (range_snd H.s) Try.underlying26 rfl (by kernel_rfl) ?_)
      | ((with_reducible refine at_new 11 28 ?_); refine box_new (d := 11) rfl rfl 28 rfl _ zero_msg ?_; intro w' B11 bb; have n11 := b0.size;    replace b0 := bchain b0 bb;  clear bb; skip)
      | ((with_reducible refine at_store 28 ?_); refine box_store rfl 28 _ _ rfl _ _ rfl rfl (by with_reducible exact B11) (by kernel_rfl) (by rfl) (by simp [Msg.cs, Value.oneCell']) ?_; clear B11; intro w' B11 gg;  replace b0 := below_at b0 gg b0.size n11;  clear gg; skip))
    refine bodyPost_ret (v := .tuple #[.slice (some ⟨gs, 0, none⟩) 2 2, .slice (some ⟨gn, 0, none⟩) 2 2]) (by simp [results, Try.results25, go_sem]) rfl ?_
    exact ⟨rfl, ⟨_, _, H.kept b0⟩, below_le b0 hB⟩
  · rw [if_pos rfl]
    have hm : sayM s1 = ⟨1, s1.asks⟩ := by simp [sayM, hs]
    obtain ⟨a0, c0, e0⟩ := H.o0.form
    obtain ⟨a1, c1, e1⟩ := H.o1.form
    subst e0 e1
    have b0 : Below w.heap.size w w := Below.refl _ _
    have kn := H.n.k
    go_enter Try.func25, Try.ntmps25
    go_wp2_with (first
      | ((with_reducible refine at_load 26 ?_); refine ld_range rfl 26 _ rfl _ _ rfl (range_snd H.s) Try.underlying26 rfl (by kernel_rfl) ?_)
      | ((with_reducible refine at_new 11 28 ?_); refine box_new (d := 11) rfl rfl 28 rfl _ zero_msg ?_; intro w' B11 bb; have n11 := b0.size;    replace b0 := bchain b0 bb;  clear bb; skip)
      | ((with_reducible refine at_store 28 ?_); refine box_store rfl 28 _ _ rfl _ _ rfl rfl (by with_reducible exact B11) (by kernel_rfl) (by rfl) (by simp [Msg.cs, Value.oneCell']) ?_; clear B11; intro w' B11 gg;  replace b0 := below_at b0 gg b0.size n11;  clear gg; skip))
    refine (impl_says s1 _).mono ?_
    rintro e w' ⟨rfl, bb⟩
    rw [hs, hm]
    replace b0 := bchain b0 bb
    (try replace B11 := B11.kept bb)
    clear bb
    skip
    go_wp2_with (first
      | ((with_reducible refine at_load 26 ?_); refine ld_range rfl 26 _ rfl _ _ rfl (range_snd H.s) Try.underlying26 rfl (by kernel_rfl) ?_)
      | ((with_reducible refine at_new 11 28 ?_); refine box_new (d := 11) rfl rfl 28 rfl _ zero_msg ?_; intro w' B11 bb; have n11 := b0.size;    replace b0 := bchain b0 bb;  clear bb; skip)
      | ((with_reducible refine at_store 28 ?_); refine box_store rfl 28 _ _ rfl _ _ rfl rfl (by with_reducible exact B11) (by kernel_rfl) (by rfl) (by simp [Msg.cs, Value.oneCell']) ?_; clear B11; intro w' B11 gg;  replace b0 := below_at b0 gg b0.size n11;  clear gg; skip))
    replace b0 := b0.drew
    replace B11 := B11.drew
    have H1 := H.kept b0
    refine region_by (fun w' => Bl w' gn #[(.slice a0 n0.length c0), (.slice a1 n1.length c1)] 49 ∧ Bl w' _ (Msg.mk 1 s1.asks).cs 28) 12 [(0, true), (1, true), (2, true), (3, true), (4, true), (5, true), (6, true), (7, true), (8, true), (9, false), (10, false), (11, true), (12, false)] ⟨none, .assign (.tmp 0), 0, "", #[], none⟩ (by kernel_rfl) (by kernel_rfl) ⟨H1.n, B11⟩ (fun x _ _ _ _ h => by cases x <;> exact h) ?_
    simp only [arrange, List.map_cons, List.map_nil, List.getD_cons_zero, List.getD_cons_succ]
    generalize World.drew _ = dw at b0 B11 H1 ⊢
    refine by_run rfl (.slice (some ⟨gn, 0, none⟩) 2 2) (fun _ _ => run_move rfl) ?_
    simp only [Act.put, List.setIfInBounds_toArray, List.set]
    refine by_run rfl (.int .i64 1) (fun _ _ => run_move rfl) ?_
    simp only [Act.put, List.setIfInBounds_toArray, List.set]
    refine by_run rfl (.int .i64 0) (fun _ _ => by simp [execOp, go_sem]; try rfl) ?_
    simp only [Act.put, List.setIfInBounds_toArray, List.set]
    refine by_run rfl (.slice (some ⟨gn, 0, none⟩) 2 2) (fun _ _ => run_move rfl) ?_
    simp only [Act.put, List.setIfInBounds_toArray, List.set]
    refine by_run rfl (.int .i64 1) (fun _ _ => run_move rfl) ?_
    simp only [Act.put, List.setIfInBounds_toArray, List.set]
    refine by_run rfl (.int .i64 0) (fun _ _ => by simp [execOp, go_sem]; try rfl) ?_
    simp only [Act.put, List.setIfInBounds_toArray, List.set]
    refine by_run rfl (.pointer (some ⟨gn, 0, none⟩)) (fun _ _ => run_idx_n (k := 0) rfl rfl (by omega)) ?_
    simp only [Act.put, List.setIfInBounds_toArray, List.set]
    refine by_run rfl (.slice a0 n0.length c0) (fun _ h => run_lds rfl ((h.1.k 0).trans rfl)) ?_
    simp only [Act.put, List.setIfInBounds_toArray, List.set]
    refine by_load rfl 28 _ rfl _ rfl (fun _ h => h.2) Try.underlying28 rfl (by kernel_rfl) ?_
    simp only [Act.put, List.setIfInBounds_toArray, List.set]
    refine by_wp rfl rfl ?_
    unfold Oper.wp
    rw [run_lit rfl]
    have BL := bl_new dw (Msg.mk 1 s1.asks).cs 28
    have bb := bo_alloc dw (.cells (Msg.mk 1 s1.asks).cs 28)
    replace b0 := bchain b0 bb
    replace H1 := H1.kept bb
    replace B11 := B11.kept bb
    refine ⟨fun _ => ⟨H1.n, B11⟩, ?_⟩
    simp only [Act.put, List.setIfInBounds_toArray, List.set]
    clear bb
    refine by_wp rfl rfl ?_
    refine wp_appM _ _ rfl B _ n0 rfl H1.o0 _ 0 1 1 [(Msg.mk 1 s1.asks)] rfl rfl (range_one BL) (by simp; omega) (Nat.le_trans hB b0.size) ?_
    intro v' w2 o2 g2 at2
    obtain ⟨h1, h2, h3, h4⟩ := H1.grow0 g2 at2
    have B112 : Bl w2 _ (Msg.mk 1 s1.asks).cs 28 := (g2.block _ B11.lt (fun e => by have := (World.ownsRow.lt H.o0 _ e.symm).2; have := n11; omega)).trans B11
    have b2 := below_own (below_le b0 hB) g2 H1.o0 (Nat.le_trans hB b0.size) (Nat.le_refl B)
    refine ⟨fun _ => ⟨h2, B112⟩, ?_⟩
    simp only [Act.put, List.setIfInBounds_toArray, List.set]
    refine by_run rfl (.pointer (some ⟨gn, 0, none⟩)) (fun _ _ => run_idx_n (k := 0) rfl rfl (by omega)) ?_
    simp only [Act.put, List.setIfInBounds_toArray, List.set]
    obtain ⟨ar, cr, er⟩ := o2.form
    subst er
    refine by_wp rfl rfl ?_
    refine wp_box_sl _ _ rfl gn 0 _ _ _ rfl rfl h2 (by simp) ?_
    intro w3 h5 g3
    simp only [List.setIfInBounds_toArray, List.set] at h5
    have hsn : gs ≠ gn := H.s.ne H.n (by decide)
    replace h1 := h1.grown g3 hsn
    replace o2 := o2.grown g3 h2 (by decide)
    replace h3 := h3.grown g3 h2 (by decide)
    have b3 := below_at b2 g3 (Nat.le_trans hB (Nat.le_trans b0.size g2.size)) H.bn
    refine ⟨fun h => absurd h (by omega), ?_⟩
    refine by_nil ?_
    go_wp2
    refine bodyPost_ret (v := .tuple #[.slice (some ⟨gs, 0, none⟩) 2 2, .slice (some ⟨gn, 0, none⟩) 2 2]) (by simp [results, Try.results25, go_sem]) rfl ?_
    exact ⟨rfl, ⟨_, _, ⟨h1, h5, o2, h3, h4, H.bs, H.bn⟩⟩, b3⟩
set_option maxRecDepth 100000 in
set_option maxHeartbeats 4000000 in
theorem do_none_0 {B gs gn : Nat} {v0 v1 : Value} {s0 s1 : Neg} {n1 : List Msg} {what : Int} (hw : ¬ what < 2) (w : World) (H : At w B gs gn v0 v1 ⟨s0, s1, [], n1⟩)  :
    Calls Try.prog 25 #[.slice (some ⟨gs, 0, none⟩) 2 2, .slice (some ⟨gn, 0, none⟩) 2 2, .int .i64 0, .int .i64 what] w fun e w' => e = .returned (.tuple #[.slice (some ⟨gs, 0, none⟩) 2 2, .slice (some ⟨gn, 0, none⟩) 2 2]) ∧ (∃ v0' v1', At w' B gs gn v0' v1' ⟨s0, s1, [], n1⟩) ∧ Below B w w' := by
  obtain ⟨a0, c0, e0⟩ := H.o0.form
  obtain ⟨a1, c1, e1⟩ := H.o1.form
  subst e0 e1
  have kn := H.n.k
  go_enter Try.func25, Try.ntmps25
  simp only [List.length_nil] at kn
  go_wp2
  refine bodyPost_ret (v := .tuple #[.slice (some ⟨gs, 0, none⟩) 2 2, .slice (some ⟨gn, 0, none⟩) 2 2]) (by simp [results, Try.results25, go_sem]) rfl ?_
  exact ⟨rfl, ⟨_, _, H⟩, Below.refl _ _⟩
set_option maxRecDepth 100000 in
set_option maxHeartbeats 4000000 in
theorem do_none_1 {B gs gn : Nat} {v0 v1 : Value} {s0 s1 : Neg} {n0 : List Msg} {what : Int} (hw : ¬ what < 2) (w : World) (H : At w B gs gn v0 v1 ⟨s0, s1, n0, []⟩)  :
    Calls Try.prog 25 #[.slice (some ⟨gs, 0, none⟩) 2 2, .slice (some ⟨gn, 0, none⟩) 2 2, .int .i64 1, .int .i64 what] w fun e w' => e = .returned (.tuple #[.slice (some ⟨gs, 0, none⟩) 2 2, .slice (some ⟨gn, 0, none⟩) 2 2]) ∧ (∃ v0' v1', At w' B gs gn v0' v1' ⟨s0, s1, n0, []⟩) ∧ Below B w w' := by
  obtain ⟨a0, c0, e0⟩ := H.o0.form
  obtain ⟨a1, c1, e1⟩ := H.o1.form
  subst e0 e1
  have kn := H.n.k
  go_enter Try.func25, Try.ntmps25
  simp only [List.length_nil] at kn
  go_wp2
  refine bodyPost_ret (v := .tuple #[.slice (some ⟨gs, 0, none⟩) 2 2, .slice (some ⟨gn, 0, none⟩) 2 2]) (by simp [results, Try.results25, go_sem]) rfl ?_
  exact ⟨rfl, ⟨_, _, H⟩, Below.refl _ _⟩
set_option maxRecDepth 100000 in
set_option maxHeartbeats 4000000 in
theorem do_lose_0 {B gs gn : Nat} {v0 v1 : Value} {s0 s1 : Neg} {n1 : List Msg} {m : Msg} {rest : List Msg} (w : World) (H : At w B gs gn v0 v1 ⟨s0, s1, m :: rest, n1⟩) (hB : B ≤ w.heap.size) (hl : rest.length + n1.length ≤ 100000) :
    Calls Try.prog 25 #[.slice (some ⟨gs, 0, none⟩) 2 2, .slice (some ⟨gn, 0, none⟩) 2 2, .int .i64 0, .int .i64 4] w fun e w' => e = .returned (.tuple #[.slice (some ⟨gs, 0, none⟩) 2 2, .slice (some ⟨gn, 0, none⟩) 2 2]) ∧ (∃ v0' v1', At w' B gs gn v0' v1' ⟨s0, s1, rest, n1⟩) ∧ Below B w w' := by
  obtain ⟨g, c, e0, hBg, hgw, hcc, hcm, R1, R2⟩ := H.o0.range
  obtain ⟨a1, c1, e1⟩ := H.o1.form
  subst e0 e1
  have b0 : Below w.heap.size w w := Below.refl _ _
  have kn := H.n.k
  go_enter Try.func25, Try.ntmps25
  have bB0 := b0
  obtain ⟨i, ei, Ri⟩ := first_cut (w := w) hcc R2
  clear R2
  go_wp2_with (at_builtin; refine Hid.out ?_)
  unfold Hid
  refine wpList_appM rfl _ _ rfl w.heap.size _ [] rfl (ownM_empty w w.heap.size (Nat.le_refl _)) g i rest.length (c - 1) rest rfl rfl (range_kept Ri (bo_alloc _ _) hgw) (by simp; omega) (by simp) ?_
  intro v' w2 o2 g2 at2
  have bc : Below w.heap.size w w2 := (bo_alloc w (.cells #[] 28)).grown g2 (by simp) (fun q e => by cases e; exact Nat.le_refl _)
  have H2 := H.kept bc
  clear g2
  obtain ⟨ar, cr, er⟩ := o2.form
  subst er
  have av : ∀ k, (Value.slice a1 n1.length c1).ownBlock = some k → (Value.slice ar ([] ++ rest).length cr).ownBlock ≠ some k := by
    intro k e1 e2
    have := (World.ownsRow.lt H.o1 k e1).2
    rcases at2 with h | h
    · rw [e2] at h
      have h9 : k = w.heap.size := Option.some.inj h
      omega
    · rw [e2] at h
      have h9 := Option.some.inj h
      simp at h9
      omega
  clear at2
  go_wp2_with ((with_reducible refine at_store 49 ?_); refine box_sl rfl _ _ rfl gn 0 _ _ _ rfl rfl H2.n (by simp) ?_; intro w3 h5 g3)
  simp only [List.setIfInBounds_toArray, List.set] at h5
  have hsn : gs ≠ gn := H2.s.ne H2.n (by decide)
  have h1 := H2.s.grown g3 hsn
  replace o2 := (o2.grown g3 H2.n (by decide)).base (C := B) (Nat.le_trans hB bB0.size)
  have h3 := H2.o1.grown g3 H2.n (by decide)
  have b3 := below_at (below_le bc (Nat.le_trans hB bB0.size)) g3 (Nat.le_trans hB (Nat.le_trans bB0.size bc.size)) H2.bn
  simp only [List.nil_append] at o2 av
  have H4 : At w3 B gs gn (.slice ar rest.length cr) (.slice a1 n1.length c1) ⟨s0, s1, rest, n1⟩ := ⟨h1, h5, o2, h3, fun k e1 e2 => av k e2 e1, H2.bs, H2.bn⟩
  go_wp2
  refine bodyPost_ret (v := .tuple #[.slice (some ⟨gs, 0, none⟩) 2 2, .slice (some ⟨gn, 0, none⟩) 2 2]) (by simp [results, Try.results25, go_sem]) rfl ?_
  exact ⟨rfl, ⟨_, _, H4⟩, b3⟩
set_option maxRecDepth 100000 in
set_option maxHeartbeats 4000000 in
theorem do_lose_1 {B gs gn : Nat} {v0 v1 : Value} {s0 s1 : Neg} {n0 : List Msg} {m : Msg} {rest : List Msg} (w : World) (H : At w B gs gn v0 v1 ⟨s0, s1, n0, m :: rest⟩) (hB : B ≤ w.heap.size) (hl : rest.length + n0.length ≤ 100000) :
    Calls Try.prog 25 #[.slice (some ⟨gs, 0, none⟩) 2 2, .slice (some ⟨gn, 0, none⟩) 2 2, .int .i64 1, .int .i64 4] w fun e w' => e = .returned (.tuple #[.slice (some ⟨gs, 0, none⟩) 2 2, .slice (some ⟨gn, 0, none⟩) 2 2]) ∧ (∃ v0' v1', At w' B gs gn v0' v1' ⟨s0, s1, n0, rest⟩) ∧ Below B w w' := by
  obtain ⟨a0, c0, e0⟩ := H.o0.form
  obtain ⟨g, c, e1, hBg, hgw, hcc, hcm, R1, R2⟩ := H.o1.range
  subst e0 e1
  have b0 : Below w.heap.size w w := Below.refl _ _
  have kn := H.n.k
  go_enter Try.func25, Try.ntmps25
  have bB0 := b0
  obtain ⟨i, ei, Ri⟩ := first_cut (w := w) hcc R2
  clear R2
  go_wp2_with (at_builtin; refine Hid.out ?_)
  unfold Hid
  refine wpList_appM rfl _ _ rfl w.heap.size _ [] rfl (ownM_empty w w.heap.size (Nat.le_refl _)) g i rest.length (c - 1) rest rfl rfl (range_kept Ri (bo_alloc _ _) hgw) (by simp; omega) (by simp) ?_
  intro v' w2 o2 g2 at2
  have bc : Below w.heap.size w w2 := (bo_alloc w (.cells #[] 28)).grown g2 (by simp) (fun q e => by cases e; exact Nat.le_refl _)
  have H2 := H.kept bc
  clear g2
  obtain ⟨ar, cr, er⟩ := o2.form
  subst er
  have av : ∀ k, (Value.slice a0 n0.length c0).ownBlock = some k → (Value.slice ar ([] ++ rest).length cr).ownBlock ≠ some k := by
    intro k e1 e2
    have := (World.ownsRow.lt H.o0 k e1).2
    rcases at2 with h | h
    · rw [e2] at h
      have h9 : k = w.heap.size := Option.some.inj h
      omega
    · rw [e2] at h
      have h9 := Option.some.inj h
      simp at h9
      omega
  clear at2
  go_wp2_with ((with_reducible refine at_store 49 ?_); refine box_sl rfl _ _ rfl gn 1 _ _ _ rfl rfl H2.n (by simp) ?_; intro w3 h5 g3)
  simp only [List.setIfInBounds_toArray, List.set] at h5
  have hsn : gs ≠ gn := H2.s.ne H2.n (by decide)
  have h1 := H2.s.grown g3 hsn
  replace o2 := (o2.grown g3 H2.n (by decide)).base (C := B) (Nat.le_trans hB bB0.size)
  have h3 := H2.o0.grown g3 H2.n (by decide)
  have b3 := below_at (below_le bc (Nat.le_trans hB bB0.size)) g3 (Nat.le_trans hB (Nat.le_trans bB0.size bc.size)) H2.bn
  simp only [List.nil_append] at o2 av
  have H4 : At w3 B gs gn (.slice a0 n0.length c0) (.slice ar rest.length cr) ⟨s0, s1, n0, rest⟩ := ⟨h1, h5, h3, o2, av, H2.bs, H2.bn⟩
  go_wp2
  refine bodyPost_ret (v := .tuple #[.slice (some ⟨gs, 0, none⟩) 2 2, .slice (some ⟨gn, 0, none⟩) 2 2]) (by simp [results, Try.results25, go_sem]) rfl ?_
  exact ⟨rfl, ⟨_, _, H4⟩, b3⟩
set_option maxRecDepth 100000 in
set_option maxHeartbeats 4000000 in
theorem do_twice_0 {B gs gn : Nat} {v0 v1 : Value} {s0 s1 : Neg} {n1 : List Msg} {m : Msg} {rest : List Msg} (w : World) (H : At w B gs gn v0 v1 ⟨s0, s1, m :: rest, n1⟩) (hB : B ≤ w.heap.size) (hl : rest.length + n1.length ≤ 100000) :
    Calls Try.prog 25 #[.slice (some ⟨gs, 0, none⟩) 2 2, .slice (some ⟨gn, 0, none⟩) 2 2, .int .i64 0, .int .i64 5] w fun e w' => e = .returned (.tuple #[.slice (some ⟨gs, 0, none⟩) 2 2, .slice (some ⟨gn, 0, none⟩) 2 2]) ∧ (∃ v0' v1', At w' B gs gn v0' v1' ⟨s0, s1, m :: rest ++ [m], n1⟩) ∧ Below B w w' := by
  obtain ⟨g, c, e0, hBg, hgw, hcc, hcm, R1, R2⟩ := H.o0.range
  obtain ⟨a1, c1, e1⟩ := H.o1.form
  subst e0 e1
  have b0 : Below w.heap.size w w := Below.refl _ _
  have kn := H.n.k
  go_enter Try.func25, Try.ntmps25
  go_wp2_with fail
  replace b0 := b0.drew
  have H1 := H.kept b0
  have R := range_kept R1 b0 hgw
  refine region_by (fun w' => Bl w' gn #[(.slice (some ⟨g, 0, none⟩) (rest.length + 1) c), (.slice a1 n1.length c1)] 49) 12 [(0, true), (1, true), (2, true), (3, true), (4, true), (5, true), (6, true), (7, true), (8, false), (9, false), (10, false), (11, true), (12, false)] ⟨none, .assign (.tmp 0), 0, "", #[], none⟩ (by kernel_rfl) (by kernel_rfl) H1.n (fun x _ _ _ _ h => by cases x <;> exact h) ?_
  simp only [arrange, List.map_cons, List.map_nil, List.getD_cons_zero, List.getD_cons_succ]
  generalize World.drew _ = dw at b0 H1 R ⊢
  refine by_run rfl (.slice (some ⟨gn, 0, none⟩) 2 2) (fun _ _ => run_move rfl) ?_
  simp only [Act.put, List.setIfInBounds_toArray, List.set]
  refine by_run rfl (.int .i64 0) (fun _ _ => run_move rfl) ?_
  simp only [Act.put, List.setIfInBounds_toArray, List.set]
  refine by_run rfl (.slice (some ⟨gn, 0, none⟩) 2 2) (fun _ _ => run_move rfl) ?_
  simp only [Act.put, List.setIfInBounds_toArray, List.set]
  refine by_run rfl (.int .i64 0) (fun _ _ => run_move rfl) ?_
  simp only [Act.put, List.setIfInBounds_toArray, List.set]
  refine by_run rfl (.pointer (some ⟨gn, 0, none⟩)) (fun _ _ => run_idx_n (k := 0) rfl rfl (by omega)) ?_
  simp only [Act.put, List.setIfInBounds_toArray, List.set]
  refine by_run rfl (.slice (some ⟨g, 0, none⟩) (rest.length + 1) c) (fun _ h => run_lds rfl ((h.k 0).trans rfl)) ?_
  simp only [Act.put, List.setIfInBounds_toArray, List.set]
  refine by_run rfl (.slice (some ⟨g, 0, none⟩) (rest.length + 1) c) (fun _ _ => run_move rfl) ?_
  simp only [Act.put, List.setIfInBounds_toArray, List.set]
  refine by_run rfl (.pointer (some ⟨g, 0, none⟩)) (fun _ _ => run_idx_m (k := 0) rfl rfl (by omega)) ?_
  simp only [Act.put, List.setIfInBounds_toArray, List.set]
  refine by_wp rfl rfl ?_
  unfold Oper.wp
  rw [run_ldr rfl R Try.underlying28 rfl (by kernel_rfl)]
  refine ⟨fun _ => H1.n, ?_⟩
  simp only [Act.put, List.setIfInBounds_toArray, List.set]
  refine by_wp rfl rfl ?_
  unfold Oper.wp
  rw [run_lit rfl]
  have BL := bl_new dw m.cs 28
  have bb := bo_alloc dw (.cells m.cs 28)
  replace b0 := bchain b0 bb
  replace H1 := H1.kept bb
  refine ⟨fun _ => H1.n, ?_⟩
  simp only [Act.put, List.setIfInBounds_toArray, List.set]
  clear bb
  refine by_wp rfl rfl ?_
  refine wp_appM _ _ rfl B _ (m :: rest) rfl H1.o0 _ 0 1 1 [m] rfl rfl (range_one BL) (by simp; omega) (Nat.le_trans hB b0.size) ?_
  intro v' w2 o2 g2 at2
  obtain ⟨h1, h2, h3, h4⟩ := H1.grow0 g2 at2
  have b2 := below_own (below_le b0 hB) g2 H1.o0 (Nat.le_trans hB b0.size) (Nat.le_refl B)
  refine ⟨fun _ => h2, ?_⟩
  simp only [Act.put, List.setIfInBounds_toArray, List.set]
  refine by_run rfl (.pointer (some ⟨gn, 0, none⟩)) (fun _ _ => run_idx_n (k := 0) rfl rfl (by omega)) ?_
  simp only [Act.put, List.setIfInBounds_toArray, List.set]
  obtain ⟨ar, cr, er⟩ := o2.form
  subst er
  refine by_wp rfl rfl ?_
  refine wp_box_sl _ _ rfl gn 0 _ _ _ rfl rfl h2 (by simp) ?_
  intro w3 h5 g3
  simp only [List.setIfInBounds_toArray, List.set] at h5
  have hsn : gs ≠ gn := H.s.ne H.n (by decide)
  replace h1 := h1.grown g3 hsn
  replace o2 := o2.grown g3 h2 (by decide)
  replace h3 := h3.grown g3 h2 (by decide)
  have b3 := below_at b2 g3 (Nat.le_trans hB (Nat.le_trans b0.size g2.size)) H.bn
  refine ⟨fun h => absurd h (by omega), ?_⟩
  refine by_nil ?_
  go_wp2
  refine bodyPost_ret (v := .tuple #[.slice (some ⟨gs, 0, none⟩) 2 2, .slice (some ⟨gn, 0, none⟩) 2 2]) (by simp [results, Try.results25, go_sem]) rfl ?_
  exact ⟨rfl, ⟨_, _, h1, h5, o2, h3, h4, H.bs, H.bn⟩, b3⟩
set_option maxRecDepth 100000 in
set_option maxHeartbeats 4000000 in
theorem do_twice_1 {B gs gn : Nat} {v0 v1 : Value} {s0 s1 : Neg} {n0 : List Msg} {m : Msg} {rest : List Msg} (w : World) (H : At w B gs gn v0 v1 ⟨s0, s1, n0, m :: rest⟩) (hB : B ≤ w.heap.size) (hl : rest.length + n0.length ≤ 100000) :
    Calls Try.prog 25 #[.slice (some ⟨gs, 0, none⟩) 2 2, .slice (some ⟨gn, 0, none⟩) 2 2, .int .i64 1, .int .i64 5] w fun e w' => e = .returned (.tuple #[.slice (some ⟨gs, 0, none⟩) 2 2, .slice (some ⟨gn, 0, none⟩) 2 2]) ∧ (∃ v0' v1', At w' B gs gn v0' v1' ⟨s0, s1, n0, m :: rest ++ [m]⟩) ∧ Below B w w' := by
  obtain ⟨a0, c0, e0⟩ := H.o0.form
  obtain ⟨g, c, e1, hBg, hgw, hcc, hcm, R1, R2⟩ := H.o1.range
  subst e0 e1
  have b0 : Below w.heap.size w w := Below.refl _ _
  have kn := H.n.k
  go_enter Try.func25, Try.ntmps25
  go_wp2_with fail
  replace b0 := b0.drew
  have H1 := H.kept b0
  have R := range_kept R1 b0 hgw
  refine region_by (fun w' => Bl w' gn #[(.slice a0 n0.length c0), (.slice (some ⟨g, 0, none⟩) (rest.length + 1) c)] 49) 12 [(0, true), (1, true), (2, true), (3, true), (4, true), (5, true), (6, true), (7, true), (8, false), (9, false), (10, false), (11, true), (12, false)] ⟨none, .assign (.tmp 0), 0, "", #[], none⟩ (by kernel_rfl) (by kernel_rfl) H1.n (fun x _ _ _ _ h => by cases x <;> exact h) ?_
  simp only [arrange, List.map_cons, List.map_nil, List.getD_cons_zero, List.getD_cons_succ]
  generalize World.drew _ = dw at b0 H1 R ⊢
  refine by_run rfl (.slice (some ⟨gn, 0, none⟩) 2 2) (fun _ _ => run_move rfl) ?_
  simp only [Act.put, List.setIfInBounds_toArray, List.set]
  refine by_run rfl (.int .i64 1) (fun _ _ => run_move rfl) ?_
  simp only [Act.put, List.setIfInBounds_toArray, List.set]
  refine by_run rfl (.slice (some ⟨gn, 0, none⟩) 2 2) (fun _ _ => run_move rfl) ?_
  simp only [Act.put, List.setIfInBounds_toArray, List.set]
  refine by_run rfl (.int .i64 1) (fun _ _ => run_move rfl) ?_
  simp only [Act.put, List.setIfInBounds_toArray, List.set]
  refine by_run rfl (.pointer (some ⟨gn, 1, none⟩)) (fun _ _ => run_idx_n (k := 1) rfl rfl (by omega)) ?_
  simp only [Act.put, List.setIfInBounds_toArray, List.set]
  refine by_run rfl (.slice (some ⟨g, 0, none⟩) (rest.length + 1) c) (fun _ h => run_lds rfl ((h.k 1).trans rfl)) ?_
  simp only [Act.put, List.setIfInBounds_toArray, List.set]
  refine by_run rfl (.slice (some ⟨g, 0, none⟩) (rest.length + 1) c) (fun _ _ => run_move rfl) ?_
  simp only [Act.put, List.setIfInBounds_toArray, List.set]
  refine by_run rfl (.pointer (some ⟨g, 0, none⟩)) (fun _ _ => run_idx_m (k := 0) rfl rfl (by omega)) ?_
  simp only [Act.put, List.setIfInBounds_toArray, List.set]
  refine by_wp rfl rfl ?_
  unfold Oper.wp
  rw [run_ldr rfl R Try.underlying28 rfl (by kernel_rfl)]
  refine ⟨fun _ => H1.n, ?_⟩
  simp only [Act.put, List.setIfInBounds_toArray, List.set]
  refine by_wp rfl rfl ?_
  unfold Oper.wp
  rw [run_lit rfl]
  have BL := bl_new dw m.cs 28
  have bb := bo_alloc dw (.cells m.cs 28)
  replace b0 := bchain b0 bb
  replace H1 := H1.kept bb
  refine ⟨fun _ => H1.n, ?_⟩
  simp only [Act.put, List.setIfInBounds_toArray, List.set]
  clear bb
  refine by_wp rfl rfl ?_
  refine wp_appM _ _ rfl B _ (m :: rest) rfl H1.o1 _ 0 1 1 [m] rfl rfl (range_one BL) (by simp; omega) (Nat.le_trans hB b0.size) ?_
  intro v' w2 o2 g2 at2
  obtain ⟨h1, h2, h3, h4⟩ := H1.grow1 g2 at2
  have b2 := below_own (below_le b0 hB) g2 H1.o1 (Nat.le_trans hB b0.size) (Nat.le_refl B)
  refine ⟨fun _ => h2, ?_⟩
  simp only [Act.put, List.setIfInBounds_toArray, List.set]
  refine by_run rfl (.pointer (some ⟨gn, 1, none⟩)) (fun _ _ => run_idx_n (k := 1) rfl rfl (by omega)) ?_
  simp only [Act.put, List.setIfInBounds_toArray, List.set]
  obtain ⟨ar, cr, er⟩ := o2.form
  subst er
  refine by_wp rfl rfl ?_
  refine wp_box_sl _ _ rfl gn 1 _ _ _ rfl rfl h2 (by simp) ?_
  intro w3 h5 g3
  simp only [List.setIfInBounds_toArray, List.set] at h5
  have hsn : gs ≠ gn := H.s.ne H.n (by decide)
  replace h1 := h1.grown g3 hsn
  replace o2 := o2.grown g3 h2 (by decide)
  replace h3 := h3.grown g3 h2 (by decide)
  have b3 := below_at b2 g3 (Nat.le_trans hB (Nat.le_trans b0.size g2.size)) H.bn
  refine ⟨fun h => absurd h (by omega), ?_⟩
  refine by_nil ?_
  go_wp2
  refine bodyPost_ret (v := .tuple #[.slice (some ⟨gs, 0, none⟩) 2 2, .slice (some ⟨gn, 0, none⟩) 2 2]) (by simp [results, Try.results25, go_sem]) rfl ?_
  exact ⟨rfl, ⟨_, _, h1, h5, h3, o2, h4, H.bs, H.bn⟩, b3⟩
end Go.Proofs.Ytaoafikkamnjlaa
