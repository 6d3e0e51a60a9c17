/- Lists of what is said, in memory: rows of messages that the call owns; two who agree, in memory. -/
import Derived.Test.YtaoafikkamnjlaaNegPlay
import Derived.Test.YtaoafikkamnjlaaCallRow
import Derived.Laws.OwnMore
import Derived.Maps.AppendAt
namespace Go.Proofs.Ytaoafikkamnjlaa
open Go.RowKit
def mcells (ms : List Msg) : List Value := ms.flatMap fun m => m.cs.toList
theorem mcells_cons (m : Msg) (r : List Msg) : mcells (m :: r) = m.cs.toList ++ mcells r := by simp [mcells]
theorem mcells_append (a b : List Msg) : mcells (a ++ b) = mcells a ++ mcells b := by simp [mcells]
theorem mcells_length (ms : List Msg) : (mcells ms).length = ms.length * 6 := by
  induction ms with
  | nil => rfl
  | cons q r ih => rw [mcells_cons, List.length_append, ih]; simp [Msg.cs]; omega
theorem mcells_one (ms : List Msg) : ∀ u ∈ mcells ms, u.oneCell' = true := by
  intro u hu
  simp only [mcells, List.mem_flatMap] at hu
  obtain ⟨m, _, hm⟩ := hu
  simp only [Msg.cs, List.mem_cons, List.not_mem_nil, or_false] at hm
  rcases hm with rfl | rfl | rfl | rfl | rfl | rfl <;> rfl
/-- The call owns, from block B on, this list of what is said. -/
def OwnM (w : World) (B : Nat) (v : Value) (ms : List Msg) : Prop := w.ownsRow B 28 6 v ms.length (mcells ms)
theorem OwnM.by {w w' : World} {B : Nat} {v : Value} {ms : List Msg} {r : Option Nat} (h : OwnM w B v ms) (k : w.grownBy w' r) (hr : v.ownBlock = none ∨ v.ownBlock ≠ r) : OwnM w' B v ms := World.ownsRow.kept h k hr
theorem OwnM.kept {w w' : World} {B : Nat} {v : Value} {ms : List Msg} (h : OwnM w B v ms) (hb : Below w.heap.size w w') : OwnM w' B v ms :=
  World.ownsRow.kept h (below_grown hb) (by cases v.ownBlock <;> simp)
theorem OwnM.drew {w : World} {B : Nat} {v : Value} {ms : List Msg} (h : OwnM w B v ms) : OwnM w.drew B v ms := h
theorem OwnM.form {w : World} {B : Nat} {v : Value} {ms : List Msg} (h : OwnM w B v ms) : ∃ a c, v = .slice a ms.length c := by
  rcases h.2 with ⟨h, h0⟩ | ⟨g, cap, cur, h, _⟩
  · exact ⟨_, _, by rw [h, h0]⟩
  · exact ⟨_, _, h⟩
/-- A block of another type is none of its. -/
theorem OwnM.ne {w : World} {B g : Nat} {v : Value} {ms : List Msg} {cs : Array Value} {t : TypeId} (h : OwnM w B v ms) (hb : Bl w g cs t) (ht : t ≠ 28) : v.ownBlock ≠ some g := by
  rcases h.2 with ⟨h, h0⟩ | ⟨g', cap, cur, h, _, hg, _⟩
  · rw [h]; simp [Value.ownBlock]
  · rw [h]
    intro e
    simp only [Value.ownBlock, Option.some.injEq] at e
    subst e
    unfold Bl at hb
    rw [hg] at hb
    simp only [Option.some.injEq, Obj.cells.injEq] at hb
    exact ht hb.2.1.symm
theorem OwnM.grown {w w' : World} {B g : Nat} {v : Value} {ms : List Msg} {cs : Array Value} {t : TypeId} (h : OwnM w B v ms) (k : w.grownBy w' (some g)) (hb : Bl w g cs t) (ht : t ≠ 28) : OwnM w' B v ms := h.by k (.inr (h.ne hb ht))
theorem OwnM.range {w : World} {B : Nat} {v : Value} {ms : List Msg} {m : Msg} (h : OwnM w B v (m :: ms)) : ∃ g c, v = .slice (some ⟨g, 0, none⟩) (ms.length + 1) c ∧ B ≤ g ∧ g < w.heap.size ∧ ms.length + 1 ≤ c ∧ c ≤ maxLen ∧ w.rangeAt g 0 m.cs.toList ∧ w.rangeAt g 6 (mcells ms) := by
  have h0 := h
  rcases h.2 with ⟨_, h0⟩ | ⟨g, cap, cur, e, hB, hg, hc, hm, _, _⟩
  · simp at h0
  · subst e
    refine ⟨g, cap, rfl, hB, (Array.getElem?_eq_some_iff.1 hg).1, hc, hm, ?_, ?_⟩
    · intro j v e
      have hj : j < 6 := by
        have := (List.getElem?_eq_some_iff.1 e).1
        simpa [Msg.cs] using this
      rw [Nat.zero_add, World.ownsRow.cellAt h0 j (by simp; omega), mcells_cons, List.getElem?_append_left (by simpa [Msg.cs] using hj)]
      exact e
    · intro j v e
      have hj : j < ms.length * 6 := by
        have := (List.getElem?_eq_some_iff.1 e).1
        rwa [mcells_length] at this
      rw [World.ownsRow.cellAt h0 (6 + j) (by simp; omega), mcells_cons, List.getElem?_append_right (by simp [Msg.cs])]
      simpa [Msg.cs] using e
theorem ownM_empty (w : World) (B : Nat) (hB : B ≤ w.heap.size) : OwnM (w.alloc (.cells #[] 28)) B (.slice (some ⟨w.heap.size, 0, none⟩) 0 0) [] :=
  World.ownsRow_lit (base := B) (e := 28) (size := 6) w #[] 0 hB (by unfold maxLen; omega) rfl
theorem Try.infoM : (Try.prog.info? 28).map (fun i => (i.zero, i.size, i.bytes)) = some (some (.agg #[.int .i64 0, .int .i64 0, .int .i64 0, .int .i64 0, .int .i64 0, .int .i64 0]), 6, 48) := by kernel_rfl
/-- What is said behind a list. -/
theorem wp_appM {w : World} {o : Oper} {a : Act} {K : Act → World → Prop} {Q : Exit → Act → World → Prop} (s x : Operand)
    (ho : o.op = .call { callee := .builtin .append, args := #[s, x], argTypes := #[49, 49] }) (B : Nat) (v : Value) (ms : List Msg) (hs : a.eval s = v) (hown : OwnM w B v ms)
    (g i n c : Nat) (ns : List Msg) (hx : a.eval x = .slice (some ⟨g, i, none⟩) n c) (hn : n = ns.length) (hr : w.rangeAt g i (mcells ns)) (hl : ms.length + ns.length ≤ 1000000) (hB : B ≤ w.heap.size)
    (h : ∀ v' w', OwnM w' B v' (ms ++ ns) → w.grownBy w' v.ownBlock → (v'.ownBlock = v.ownBlock ∨ v'.ownBlock = some w.heap.size) → K (a.put o.dst v') w') : o.wp Try.prog a w K Q := by
  subst hn
  obtain ⟨i0, hi, hz0, hz1, hz2⟩ := info_parts Try.infoM
  obtain ⟨v', w', hr, h2, h3, _, h5⟩ := run_append_own_at (P := Try.prog) w B 49 o.type 28 i0 _ 6 48 Try.underlying49 hi hz0 hz1 hz2 rfl (by decide) v ms.length (mcells ms) hown ⟨g, i, none⟩ ns.length c (mcells ns) (mcells_length ns) (fun j u e => by rw [add_at]; exact hr j u e) (mcells_one ns) (by unfold maxLen; omega) (by omega) hB
  unfold Oper.wp execOp
  simp only [ho, resolve, invoke, builtin, Sem.run_bind, Sem.run_pure, Result.andThen_ok, List.map_toArray, List.map_cons, List.map_nil, hs, hx, hr]
  refine h v' w' ?_ h3 h5
  unfold OwnM
  rw [mcells_append, List.length_append]
  exact h2
/-- Two who agree, in memory. -/
structure At (w : World) (B gs gn : Nat) (v0 v1 : Value) (p : Two) : Prop where
  s : Bl w gs (p.x.cs ++ p.y.cs) 26
  n : Bl w gn #[v0, v1] 49
  o0 : OwnM w B v0 p.nx
  o1 : OwnM w B v1 p.ny
  ap : ∀ k, v0.ownBlock = some k → v1.ownBlock ≠ some k
  bs : B ≤ gs
  bn : B ≤ gn
theorem At.kept {w w' : World} {B gs gn : Nat} {v0 v1 : Value} {p : Two} (h : At w B gs gn v0 v1 p) (hb : Below w.heap.size w w') : At w' B gs gn v0 v1 p :=
  ⟨h.s.kept hb, h.n.kept hb, h.o0.kept hb, h.o1.kept hb, h.ap, h.bs, h.bn⟩
/-- A list of it grew. -/
theorem At.grow1 {w w' : World} {B gs gn : Nat} {v0 v1 v' : Value} {p : Two} (h : At w B gs gn v0 v1 p) (k : w.grownBy w' v1.ownBlock) (hv : v'.ownBlock = v1.ownBlock ∨ v'.ownBlock = some w.heap.size) :
    Bl w' gs (p.x.cs ++ p.y.cs) 26 ∧ Bl w' gn #[v0, v1] 49 ∧ OwnM w' B v0 p.nx ∧ ∀ k, v0.ownBlock = some k → v'.ownBlock ≠ some k := by
  have n1 := h.o1.ne h.s (by decide)
  have n2 := h.o1.ne h.n (by decide)
  refine ⟨(k.block gs h.s.lt (fun e => n1 e.symm)).trans h.s, (k.block gn h.n.lt (fun e => n2 e.symm)).trans h.n, h.o0.by k ?_, ?_⟩
  · cases e : v0.ownBlock with
    | none => exact .inl rfl
    | some j => exact .inr (fun e' => h.ap j e e'.symm)
  · intro j e e'
    rcases hv with hv | hv
    · exact h.ap j e (hv ▸ e')
    · have := (World.ownsRow.lt h.o0 j e).2
      rw [hv] at e'
      cases e'
      omega
end Go.Proofs.Ytaoafikkamnjlaa
