/- One more piece behind a list of them; a new piece. -/
import Derived.Test.YtaljdhcmikpmhaaPieces
import Derived.Test.YtaljdhcmikpmhaaRdMore
namespace Go.Proofs.Ytaljdhcmikpmhaa
open Go.RowKit

theorem Try.infoP : (Try.prog.info? 35).map (fun i => (i.zero, i.size, i.bytes)) = some (some (.agg #[.int .i64 0, .int .i64 0, .slice none 0 0]), 3, 40) := by kernel_rfl
theorem wpList_appP (w : World) {ops : Array Oper} {rest : List Oper} {o : Oper} {a : Act} {Q : Exit → Act → World → Prop} (hgd : o.guard = none) (s x : Operand)
    (ho : o.op = .call { callee := .builtin .append, args := #[s, x], argTypes := #[23, 23] }) (B : Nat) (v : Value) (qs : List Pc) (hs : a.eval s = v) (hown : OwnP w B v qs)
    (g c : Nat) (q : Pc) (hx : a.eval x = .slice (some ⟨g, 0, none⟩) 1 c) (c0 : w.cell? ⟨g, 0, none⟩ = some (.int .i64 q.seg)) (c1 : w.cell? ⟨g, 1, none⟩ = some (.int .i64 q.len)) (c2 : w.cell? ⟨g, 2, none⟩ = some q.u)
    (hq : Own w B q.u q.bs) (hap : ∀ p ∈ qs, Apart p.u q.u) (hl : qs.length ≤ 1000000) (hB : B ≤ w.heap.size)
    (h : ∀ v' w', OwnP w' B v' (qs ++ [q]) → Below B w w' → wpList Try.prog ops Q rest (a.put o.dst v') w') : wpList Try.prog ops Q (o :: rest) a w := by
  obtain ⟨i0, hi, hz0, hz1, hz2⟩ := info_parts Try.infoP
  obtain ⟨au, cu, hu⟩ := hq.form
  refine wpList_append_own w hgd s x 23 ho B 35 i0 (.agg #[.int .i64 0, .int .i64 0, .slice none 0 0]) 3 40 Try.underlying23 hi hz0 hz1 hz2 rfl (by decide) v qs.length (pcells qs) hs hown.1 ⟨g, 0, none⟩ 1 c q.cells hx rfl ?_ ?_ (by unfold maxLen; omega) (by omega) hB ?_
  · intro j u hj
    rw [add_at, Nat.zero_add]
    match j, hj with
    | 0, hj => rw [c0]; exact hj
    | 1, hj => rw [c1]; exact hj
    | 2, hj => rw [c2]; exact hj
    | (k + 3), hj => simp [Pc.cells] at hj
  · intro u hu'
    simp only [Pc.cells, List.mem_cons, List.not_mem_nil, or_false] at hu'
    rcases hu' with rfl | rfl | rfl
    · rfl
    · rfl
    · rw [hu]; rfl
  · intro v' w' h1 h2 _
    have key : ∀ p : Pc, Own w B p.u p.bs → Own w' B p.u p.bs := by
      intro p hp
      refine World.ownsRow.kept hp h2 ?_
      cases e : p.u.ownBlock with
      | none => exact .inl rfl
      | some k =>
        refine .inr (fun e' => ?_)
        rcases hown.1.2 with ⟨hv, _⟩ | ⟨g', cap', cur, hv, _, hg, _⟩
        · rw [hv] at e'; cases e'
        · have ht : Typ w g' 35 := ⟨cur, _, hg⟩
          have hne := ht.row hp (by decide)
          rw [hv] at e'
          exact hne (by rw [e, e']; rfl)
    refine h v' w' ⟨?_, ?_, ?_⟩ ((Below.refl _ _).grown h2 hB (fun k e => (World.ownsRow.lt hown.1 k e).1))
    · rw [pcells_append, List.length_append]
      simpa [pcells] using h1
    · intro p hp
      rcases List.mem_append.1 hp with hp | hp
      · exact key p (hown.2.1 p hp)
      · simp only [List.mem_singleton] at hp
        subst hp
        exact key p hq
    · rw [List.pairwise_append]
      refine ⟨hown.2.2, by simp, fun x hx y hy => ?_⟩
      simp only [List.mem_singleton] at hy
      subst hy
      exact hap x hx
/-- Rows that were there are not new ones. -/
theorem OwnP.apart {w w' : World} {B C : Nat} {v : Value} {qs : List Pc} {u : Value} {zs : List Nat} (h : OwnP w B v qs) (hC : w.heap.size ≤ C) (ho : Own w' C u zs) : ∀ p ∈ qs, Apart p.u u := fun p hp => own_apart (h.2.1 p hp) hC ho
set_option maxHeartbeats 1000000 in
theorem part_new (seg len : Int) (s : Value) (zs : List Nat) (w : World) (hs : Rd w s zs) (hl : zs.length ≤ 1000000) :
    Calls Try.prog 32 #[.int .i64 seg, .int .i64 len, s] w fun e w' => ∃ v', e = .returned (.agg #[.int .i64 seg, .int .i64 len, v']) ∧ Own w' w.heap.size v' zs ∧ Below w.heap.size w w' := by
  go_enter Try.func32, Try.ntmps32
  have bx := (celF_box w #[.int .i64 0, .int .i64 0, .slice none 0 0] 35)
  have tx := (typ_box w #[.int .i64 0, .int .i64 0, .slice none 0 0] 35)
  have b0 := (Below.refl w.heap.size w).alloc (Nat.le_refl _) (.cells #[.int .i64 0, .int .i64 0, .slice none 0 0] 35)
  have r0 := hs.kept b0
  go_wp2_with (at_builtin; refine wpList_app _ rfl (.const (.slice none 0 0)) (.tmp 9) rfl w.heap.size (.slice none 0 0) [] rfl (own_none _ _) _ zs rfl r0 (by simp; omega) (by simp) ?_)
  intro v1 w1 o1 g1
  have b1 := b0.grown g1 (by simp) (by simp [Value.ownBlock])
  have B1 := bx.other g1 (by simp [Value.ownBlock])
  have T1 := tx.other g1 (by simp [Value.ownBlock])
  obtain ⟨a1, c1, hv1⟩ := o1.form
  have ap := T1.row o1 (by decide)
  have kx := B1.2.1
  have fx := B1.2.2
  subst hv1
  clear g1 bx tx r0 b0
  go_wp2
  refine bodyPost_ret (v := .agg #[.int .i64 seg, .int .i64 len, .slice a1 zs.length c1]) (by simp [results, Try.results32, go_sem, kx]) rfl ⟨_, rfl, ?_, ?_⟩
  · exact ((o1.far _ _ _ ap).far _ _ _ ap).far _ _ _ ap
  · exact ((b1.setCell (Nat.le_refl _) _).setCell (Nat.le_refl _) _).setCell (Nat.le_refl _) _
end Go.Proofs.Ytaljdhcmikpmhaa
