/- Two who agree from their beginning on, behind what happens. -/
import Derived.Test.YtaoafikkamnjlaaNegDoHear
import Derived.Test.YtaoafikkamnjlaaDrawPlay
namespace Go.Proofs.Ytaoafikkamnjlaa
open Go.RowKit
/-- What holds of them, whether they want one mode or two. -/
def Holds (a b : Opt) (p : Two) : Prop := (a.mode = b.mode → Inv a b p) ∧ (a.mode ≠ b.mode → Fars a b p)
theorem Holds.act {a b : Opt} {p : Two} (ha : a.ok = true) (hb : b.ok = true) (h : Holds a b p) (who what : Int) : Holds a b (p.act who what) :=
  ⟨fun hm => (h.1 hm).act hm ha hb who what, fun hm => (h.2 hm).act hm ha hb who what⟩
theorem holds_new (a b : Opt) (ha : a.ok = true) (hb : b.ok = true) : Holds a b ⟨⟨a, a, Opt.zero, Opt.zero, false⟩, ⟨b, b, Opt.zero, Opt.zero, false⟩, [], []⟩ :=
  ⟨fun hm => inv_new a b hm ha hb, fun _ => fars_new a b⟩
theorem at_two (w : World) {B gs : Nat} {x y : Neg} (S : Bl w gs (x.cs ++ y.cs) 26) (hg : B ≤ gs) (hB : B ≤ w.heap.size) : At (((w.alloc (.cells #[] 28)).alloc (.cells #[] 28)).alloc (.cells #[.slice (some ⟨w.heap.size, 0, none⟩) 0 0, .slice (some ⟨w.heap.size + 1, 0, none⟩) 0 0] 49)) B gs (w.heap.size + 1 + 1) (.slice (some ⟨w.heap.size, 0, none⟩) 0 0) (.slice (some ⟨w.heap.size + 1, 0, none⟩) 0 0) ⟨x, y, [], []⟩ ∧ Below w.heap.size w (((w.alloc (.cells #[] 28)).alloc (.cells #[] 28)).alloc (.cells #[.slice (some ⟨w.heap.size, 0, none⟩) 0 0, .slice (some ⟨w.heap.size + 1, 0, none⟩) 0 0] 49)) := by
  have b1 := bo_alloc w (.cells #[] 28)
  have b2 := bo_alloc (w.alloc (.cells #[] 28)) (.cells #[] 28)
  have b3 := bo_alloc ((w.alloc (.cells #[] 28)).alloc (.cells #[] 28)) (.cells #[.slice (some ⟨w.heap.size, 0, none⟩) 0 0, .slice (some ⟨w.heap.size + 1, 0, none⟩) 0 0] 49)
  have h0 := (ownM_empty w B hB).kept (bchain b2 b3)
  have h1 := (ownM_empty (w.alloc (.cells #[] 28)) B (Nat.le_trans hB b1.size)).kept b3
  have n := bl_new ((w.alloc (.cells #[] 28)).alloc (.cells #[] 28)) #[.slice (some ⟨w.heap.size, 0, none⟩) 0 0, .slice (some ⟨w.heap.size + 1, 0, none⟩) 0 0] 49
  have es : (w.alloc (.cells #[] 28)).heap.size = w.heap.size + 1 := by simp
  have es2 : ((w.alloc (.cells #[] 28)).alloc (.cells #[] 28)).heap.size = w.heap.size + 1 + 1 := by simp
  rw [es] at h1
  rw [es2] at n
  refine ⟨⟨S.kept (bchain b1 (bchain b2 b3)), n, h0, h1, ?_, hg, ?_⟩, bchain b1 (bchain b2 b3)⟩
  · intro k e1 e2
    cases e1
    have := Option.some.inj e2
    simp at this
  · omega
theorem At.low {w w' : World} {B gs gn g : Nat} {v0 v1 : Value} {p : Two} (h : At w B gs gn v0 v1 p) (k : w.grownBy w' (some g)) (hg : g < B) : At w' B gs gn v0 v1 p := by
  have key : ∀ (v : Value) (ms : List Msg), OwnM w B v ms → v.ownBlock = none ∨ v.ownBlock ≠ some g := fun v ms ho => by
    cases e : v.ownBlock with
    | none => exact .inl rfl
    | some j =>
      refine .inr (fun e' => ?_)
      have := (World.ownsRow.lt ho j e).1
      cases e'
      omega
  exact ⟨h.s.grown k (by have := h.bs; omega), h.n.grown k (by have := h.bn; omega), h.o0.by k (key _ _ h.o0), h.o1.by k (key _ _ h.o1), h.ap, h.bs, h.bn⟩
theorem At.base {w : World} {B C gs gn : Nat} {v0 v1 : Value} {p : Two} (h : At w B gs gn v0 v1 p) (hc : C ≤ B) : At w C gs gn v0 v1 p :=
  ⟨h.s, h.n, h.o0.base hc, h.o1.base hc, h.ap, Nat.le_trans hc h.bs, Nat.le_trans hc h.bn⟩
theorem At.drew {w : World} {B gs gn : Nat} {v0 v1 : Value} {p : Two} (h : At w B gs gn v0 v1 p) : At w.drew B gs gn v0 v1 p := ⟨h.s, h.n, h.o0, h.o1, h.ap, h.bs, h.bn⟩
set_option maxHeartbeats 1000000 in
theorem run_lit2 {ρ : Operand → Value} {w : World} {d : Option Tmp} {t : TypeId} {pos : String} {af : Array Edge} {gd : Option (Nat × Bool)} {x y : Operand} {a b : Neg} (hx : ρ x = .agg a.cs) (hy : ρ y = .agg b.cs) : (execOp ρ ⟨d, .buildSlice 46 2 #[(0, x), (1, y)], t, pos, af, gd⟩).run Try.prog w = .ok (.value (.slice (some ⟨w.heap.size, 0, none⟩) 2 2)) (w.alloc (.cells (a.cs ++ b.cs) 26)) := by
  simp [execOp, hx, hy, Neg.cs, go_sem]
set_option maxRecDepth 100000 in
set_option maxHeartbeats 4000000 in
theorem run_any (a1 a2 a3 a4 a5 b1 b2 b3 b4 b5 : Int) (v : Value) (ks : List Nat) (Bk : Nat) (w : World) (hA : Opt.ok ⟨a1, a2, a3, a4, a5⟩ = true) (hB : Opt.ok ⟨b1, b2, b3, b4, b5⟩ = true) (O : OwnI w Bk v ks) (hk : ∀ k ∈ ks, k < 12) (hl : ks.length < 50) :
    Calls Try.prog 23 #[.agg #[.int .i64 a1, .int .i64 a2, .int .i64 a3, .int .i64 a4, .int .i64 a5], .agg #[.int .i64 b1, .int .i64 b2, .int .i64 b3, .int .i64 b4, .int .i64 b5], v] w fun e w' => ∃ (p : Two) (gs gn : Nat) (v0 v1 : Value), e = .returned (.tuple #[.agg p.x.cs, .agg p.y.cs, .slice (some ⟨gn, 0, none⟩) 2 2]) ∧ Holds ⟨a1, a2, a3, a4, a5⟩ ⟨b1, b2, b3, b4, b5⟩ p ∧ p.size < 50 ∧ At w' w.heap.size gs gn v0 v1 p ∧ Below w.heap.size w w' := by
  have b0 : Below w.heap.size w w := Below.refl _ _
  have new_a : ∀ w : World, Calls Try.prog 64 #[.agg #[.int .i64 a1, .int .i64 a2, .int .i64 a3, .int .i64 a4, .int .i64 a5]] w fun e w' => e = .returned (.agg (Neg.mk ⟨a1, a2, a3, a4, a5⟩ ⟨a1, a2, a3, a4, a5⟩ Opt.zero Opt.zero false).cs) ∧ Below w.heap.size w w' := fun w => impl_new_yes a1 a2 a3 a4 a5 hA w
  have new_b : ∀ w : World, Calls Try.prog 64 #[.agg #[.int .i64 b1, .int .i64 b2, .int .i64 b3, .int .i64 b4, .int .i64 b5]] w fun e w' => e = .returned (.agg (Neg.mk ⟨b1, b2, b3, b4, b5⟩ ⟨b1, b2, b3, b4, b5⟩ Opt.zero Opt.zero false).cs) ∧ Below w.heap.size w w' := fun w => impl_new_yes b1 b2 b3 b4 b5 hB w
  obtain ⟨va, vc, ev⟩ := O.form
  subst ev
  go_enter Try.func23, Try.ntmps23
  go_wp2_with (first
    | ((with_reducible refine at_box 3 24 ?_); refine box_box (d := 3) rfl rfl 24 _ rfl _ rfl ?_; intro w' B3 bb; have n3 := b0.size;  (try have l4_3 := B4.lt); (try have l6_3 := B6.lt); (try have l7_3 := B7.lt);  replace b0 := bchain b0 bb;  (try replace B4 := B4.kept bb); (try replace B6 := B6.kept bb); (try replace B7 := B7.kept bb); clear bb; skip)
    | ((with_reducible refine at_box 4 24 ?_); refine box_box (d := 4) rfl rfl 24 _ rfl _ rfl ?_; intro w' B4 bb; have n4 := b0.size;  (try have l3_4 := B3.lt); (try have l6_4 := B6.lt); (try have l7_4 := B7.lt);  replace b0 := bchain b0 bb; (try replace B3 := B3.kept bb);  (try replace B6 := B6.kept bb); (try replace B7 := B7.kept bb); clear bb; skip)
    | ((with_reducible refine at_new 6 26 ?_); refine box_new (d := 6) rfl rfl 26 rfl _ zero_neg ?_; intro w' B6 bb; have n6 := b0.size;  (try have l3_6 := B3.lt); (try have l4_6 := B4.lt); (try have l7_6 := B7.lt);  replace b0 := bchain b0 bb; (try replace B3 := B3.kept bb); (try replace B4 := B4.kept bb);  (try replace B7 := B7.kept bb); clear bb; skip)
    | ((with_reducible refine at_new 7 26 ?_); refine box_new (d := 7) rfl rfl 26 rfl _ zero_neg ?_; intro w' B7 bb; have n7 := b0.size;  (try have l3_7 := B3.lt); (try have l4_7 := B4.lt); (try have l6_7 := B6.lt);  replace b0 := bchain b0 bb; (try replace B3 := B3.kept bb); (try replace B4 := B4.kept bb); (try replace B6 := B6.kept bb);  clear bb; skip))
  replace b0 := b0.drew
  replace B3 := B3.drew
  replace B4 := B4.drew
  replace B6 := B6.drew
  replace B7 := B7.drew
  refine region_by (fun w' => Bl w' _ #[.int .i64 a1, .int .i64 a2, .int .i64 a3, .int .i64 a4, .int .i64 a5] 24 ∧ Bl w' _ #[.int .i64 b1, .int .i64 b2, .int .i64 b3, .int .i64 b4, .int .i64 b5] 24) 6 [(0, true), (2, true), (1, false), (3, false), (4, false), (5, false)] ⟨none, .assign (.tmp 0), 0, "", #[], none⟩ (by kernel_rfl) (by kernel_rfl) ⟨B3, B4⟩ (fun x _ _ _ _ h => by cases x <;> exact h) ?_
  simp only [arrange, List.map_cons, List.map_nil, List.getD_cons_zero, List.getD_cons_succ]
  generalize World.drew _ = dw at b0 B3 B4 B6 B7 ⊢
  refine by_load rfl 24 _ rfl _ rfl (fun _ h => h.1) Try.underlying24 rfl (by kernel_rfl) ?_
  simp only [Act.put, List.setIfInBounds_toArray, List.set]
  refine by_load rfl 24 _ rfl _ rfl (fun _ h => h.2) Try.underlying24 rfl (by kernel_rfl) ?_
  simp only [Act.put, List.setIfInBounds_toArray, List.set]
  refine by_wpg rfl (by rfl) ?_
  unfold Oper.wp
  rw [run_call1 rfl rfl (fun _ _ => by kernel_rfl)]
  refine (new_a _).mono ?_
  rintro e w' ⟨rfl, bb⟩
  replace b0 := bchain b0 bb
  replace B3 := B3.kept bb
  replace B4 := B4.kept bb
  replace B6 := B6.kept bb
  replace B7 := B7.kept bb
  clear bb
  refine ⟨fun _ => ⟨B3, B4⟩, ?_⟩
  (try simp only [Act.put, List.setIfInBounds_toArray, List.set])
  refine by_wpg rfl (by rfl) ?_
  unfold Oper.wp
  rw [run_call1 rfl rfl (fun _ _ => by kernel_rfl)]
  refine (new_b _).mono ?_
  rintro e w' ⟨rfl, bb⟩
  replace b0 := bchain b0 bb
  replace B3 := B3.kept bb
  replace B4 := B4.kept bb
  replace B6 := B6.kept bb
  replace B7 := B7.kept bb
  clear bb
  refine ⟨fun _ => ⟨B3, B4⟩, ?_⟩
  (try simp only [Act.put, List.setIfInBounds_toArray, List.set])
  refine by_wp rfl rfl ?_
  unfold Oper.wp
  rw [run_lit2 (a := (Neg.mk ⟨a1, a2, a3, a4, a5⟩ ⟨a1, a2, a3, a4, a5⟩ Opt.zero Opt.zero false)) (b := (Neg.mk ⟨b1, b2, b3, b4, b5⟩ ⟨b1, b2, b3, b4, b5⟩ Opt.zero Opt.zero false)) rfl rfl]
  have S0 := bl_new w' ((Neg.mk ⟨a1, a2, a3, a4, a5⟩ ⟨a1, a2, a3, a4, a5⟩ Opt.zero Opt.zero false).cs ++ (Neg.mk ⟨b1, b2, b3, b4, b5⟩ ⟨b1, b2, b3, b4, b5⟩ Opt.zero Opt.zero false).cs) 26
  have bb := bo_alloc w' (.cells ((Neg.mk ⟨a1, a2, a3, a4, a5⟩ ⟨a1, a2, a3, a4, a5⟩ Opt.zero Opt.zero false).cs ++ (Neg.mk ⟨b1, b2, b3, b4, b5⟩ ⟨b1, b2, b3, b4, b5⟩ Opt.zero Opt.zero false).cs) 26)
  refine ⟨fun _ => ⟨B3.kept bb, B4.kept bb⟩, ?_⟩
  simp only [Act.put, List.setIfInBounds_toArray, List.set]
  refine by_setv rfl rfl _ rfl (.slice (some ⟨w'.heap.size, 0, none⟩) 2 2) rfl ⟨fun _ => ⟨B3.kept bb, B4.kept bb⟩, ?_⟩
  simp only [Act.put, List.setIfInBounds_toArray, List.set]
  refine by_nil ?_
  generalize w'.alloc (.cells ((Neg.mk ⟨a1, a2, a3, a4, a5⟩ ⟨a1, a2, a3, a4, a5⟩ Opt.zero Opt.zero false).cs ++ (Neg.mk ⟨b1, b2, b3, b4, b5⟩ ⟨b1, b2, b3, b4, b5⟩ Opt.zero Opt.zero false).cs) 26) = w4 at S0 bb ⊢
  go_wp2_with fail
  obtain ⟨H0, bn⟩ := at_two w4 S0 (Nat.le_refl w'.heap.size) bb.size
  have bz := bchain bb bn
  generalize (((w4.alloc (.cells #[] 28)).alloc (.cells #[] 28)).alloc (.cells #[.slice (some ⟨w4.heap.size, 0, none⟩) 0 0, .slice (some ⟨w4.heap.size + 1, 0, none⟩) 0 0] 49)) = w6 at H0 bz ⊢
  clear S0 bb bn
  have O1 := O.kept b0
  have hwz := b0.size
  obtain ⟨gs, egs⟩ : ∃ g, g = w'.heap.size := ⟨_, rfl⟩
  obtain ⟨gn, egn⟩ : ∃ g, g = w4.heap.size + 1 + 1 := ⟨_, rfl⟩
  rw [← egs, ← egn] at H0
  go_loopw [9, 10, 11, 12] (fun s n t _ wr => ∃ (k : Nat) (p : Two) (v0 v1 : Value), s = .slice (some ⟨gs, 0, none⟩) 2 2 ∧ n = .slice (some ⟨gn, 0, none⟩) 2 2 ∧ t = .int .i64 k ∧ k ≤ ks.length ∧ Holds ⟨a1, a2, a3, a4, a5⟩ ⟨b1, b2, b3, b4, b5⟩ p ∧ p.size ≤ k ∧ At wr gs gs gn v0 v1 p ∧ Below w'.heap.size w' wr) (fun _ _ t _ _ => ks.length - (intOf t).toNat)
  case atStart => exact ⟨0, _, _, _, by rw [egs], by rw [egn], rfl, Nat.zero_le _, holds_new _ _ hA hB, by simp [Two.size], H0, bz⟩
  case round =>
    clear H0 bz
    obtain ⟨k, p, v0, v1, rfl, rfl, rfl, hkl, hh, hsz, H, bz⟩ := hrel
    subst egs egn
    have hBw := bz.size
    by_cases hk2 : k < ks.length
    · have hkk : (k : Int) < (ks.length : Int) := by omega
      obtain ⟨gk, ck, ev, hc⟩ := (O1.kept bz).at k hk2
      cases ev
      have hx : ks[k] < 12 := hk _ (List.getElem_mem hk2)
      generalize ks[k] = x at hc hx
      go_wp2_with fail
      refine (do_any p _ _ (by omega) wr H hBw (by omega)).mono ?_
      rintro e w7 ⟨rfl, ⟨u0, u1, H2⟩, bd⟩
      have hsa := p.size_act ((x : Int) % 2) ((x : Int) / 2)
      go_wp2
      go_roundw
      case rel => exact ⟨k + 1, _, u0, u1, rfl, rfl, by go_num, by omega, hh.act hA hB _ _, Nat.le_trans hsa (by omega), H2, below_trans bz bd⟩
      case measure => simp [intOf]; omega
    · obtain rfl : k = ks.length := by omega
      have hg6 := B6.lt
      have hg7 := B7.lt
      have hne := bz.size
      replace b0 := bchain b0 bz
      replace B6 := B6.kept bz
      replace B7 := B7.kept bz
      clear B3 B4
      go_wp2_with fail
      replace H := H.drew
      replace b0 := b0.drew
      replace B6 := B6.drew
      replace B7 := B7.drew
      refine region_by (fun wx => Bl wx _ (p.x.cs ++ p.y.cs) 26) 10 [(0, true), (1, true), (2, true), (3, true), (4, true), (5, true), (6, true), (7, false), (8, false), (9, false)] ⟨none, .assign (.tmp 0), 0, "", #[], none⟩ (by kernel_rfl) (by kernel_rfl) H.s (fun x _ _ _ _ h => by cases x <;> exact h) ?_
      simp only [arrange, List.map_cons, List.map_nil, List.getD_cons_zero, List.getD_cons_succ]
      generalize World.drew _ = dw at b0 H B6 B7 ⊢
      refine by_run rfl (.slice (some ⟨w'.heap.size, 0, none⟩) 2 2) (fun _ _ => run_move rfl) ?_
      simp only [Act.put, List.setIfInBounds_toArray, List.set]
      refine by_run rfl (.pointer (some ⟨w'.heap.size, 0 * 21, none⟩)) (fun _ _ => run_idx_s (k := 0) rfl rfl (by omega)) ?_
      simp only [Act.put, List.setIfInBounds_toArray, List.set]
      refine by_run rfl (.agg p.x.cs) (fun _ h => run_ldr rfl (range_fst h) Try.underlying26 rfl (by kernel_rfl)) ?_
      simp only [Act.put, List.setIfInBounds_toArray, List.set]
      refine by_run rfl (.slice (some ⟨w'.heap.size, 0, none⟩) 2 2) (fun _ _ => run_move rfl) ?_
      simp only [Act.put, List.setIfInBounds_toArray, List.set]
      refine by_run rfl (.pointer (some ⟨w'.heap.size, 1 * 21, none⟩)) (fun _ _ => run_idx_s (k := 1) rfl rfl (by omega)) ?_
      simp only [Act.put, List.setIfInBounds_toArray, List.set]
      refine by_run rfl (.agg p.y.cs) (fun _ h => run_ldr rfl (range_snd h) Try.underlying26 rfl (by kernel_rfl)) ?_
      simp only [Act.put, List.setIfInBounds_toArray, List.set]
      refine by_run rfl (_) (fun _ _ => run_move rfl) ?_
      simp only [Act.put, List.setIfInBounds_toArray, List.set]
      refine by_store rfl rfl 26 _ _ rfl _ _ rfl rfl B6 (by kernel_rfl) rfl (neg_one p.x) ?_
      clear B6
      intro wy B6 gg
      replace H := H.low gg hg6
      replace b0 := below_at b0 gg b0.size n6
      replace B7 := B7.grown gg (Nat.ne_of_gt l6_7)
      clear gg
      refine ⟨fun _ => H.s, ?_⟩
      simp only [Act.put]
      refine by_store rfl rfl 26 _ _ rfl _ _ rfl rfl B7 (by kernel_rfl) rfl (neg_one p.y) ?_
      clear B7
      intro wy B7 gg
      replace H := H.low gg hg7
      replace b0 := below_at b0 gg b0.size n7
      replace B6 := B6.grown gg (Nat.ne_of_lt l6_7)
      clear gg
      refine ⟨fun _ => H.s, ?_⟩
      simp only [Act.put]
      refine by_set rfl rfl _ rfl ⟨fun _ => H.s, ?_⟩
      simp only [Act.put, List.setIfInBounds_toArray, List.set]
      refine by_nil ?_
      go_wp2
      refine bodyPost_ret (results_cct rfl _ _ _ _ _ rfl B6 Try.underlying26 rfl (by kernel_rfl) _ _ _ rfl B7 Try.underlying26 rfl (by kernel_rfl)) rfl ?_
      exact ⟨p, _, _, v0, v1, rfl, hh, by omega, H.base hwz, b0⟩
end Go.Proofs.Ytaoafikkamnjlaa
