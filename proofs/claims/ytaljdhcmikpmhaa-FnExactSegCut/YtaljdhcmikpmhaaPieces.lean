/- Lists of pieces in memory: a row of structs that the call owns, each with a row of bytes that it owns, no two in one block. -/
import Derived.Test.YtaljdhcmikpmhaaOwnMore
namespace Go.Proofs.Ytaljdhcmikpmhaa
open Go.RowKit

/-- A piece as it lies in memory: what it is, how long the message is, where its bytes are, and these. -/
structure Pc where
  seg : Int
  len : Int
  u : Value
  bs : List Nat
/-- Its cells. -/
def Pc.cells (q : Pc) : List Value := [.int .i64 q.seg, .int .i64 q.len, q.u]
def pcells (qs : List Pc) : List Value := qs.flatMap Pc.cells
theorem pcells_cons (q : Pc) (qs : List Pc) : pcells (q :: qs) = q.cells ++ pcells qs := by simp [pcells]
theorem pcells_append (a b : List Pc) : pcells (a ++ b) = pcells a ++ pcells b := by simp [pcells]
theorem pcells_length (qs : List Pc) : (pcells qs).length = qs.length * 3 := by
  induction qs with
  | nil => rfl
  | cons q r ih => rw [pcells_cons, List.length_append, ih]; simp [Pc.cells]; omega
theorem pcells_at (a : List Pc) (q : Pc) (b : List Pc) (c : Nat) (hc : c < 3) : (pcells (a ++ q :: b))[a.length * 3 + c]? = q.cells[c]? := by
  rw [pcells_append, pcells_cons, List.getElem?_append_right (by rw [pcells_length]; omega), pcells_length, show a.length * 3 + c - a.length * 3 = c by omega, List.getElem?_append_left (by simpa [Pc.cells] using hc)]
theorem pcells_set (a : List Pc) (q q' : Pc) (b : List Pc) (c : Nat) (hc : c < 3) (x : Value) (h : q.cells.set c x = q'.cells) : (pcells (a ++ q :: b)).set (a.length * 3 + c) x = pcells (a ++ q' :: b) := by
  rw [pcells_append, pcells_cons, List.set_append_right _ _ (by rw [pcells_length]; omega), pcells_length, show a.length * 3 + c - a.length * 3 = c by omega, List.set_append_left _ _ (by simpa [Pc.cells] using hc), h, pcells_append, pcells_cons]
/-- No block bears both. -/
def Apart (v u : Value) : Prop := ∀ k, v.ownBlock = some k → u.ownBlock ≠ some k
theorem Apart.symm {v u : Value} (h : Apart v u) : Apart u v := fun k e1 e2 => h k e2 e1

/-- The call owns, from block B on, the list of pieces qs. -/
def OwnP (w : World) (B : Nat) (v : Value) (qs : List Pc) : Prop :=
  w.ownsRow B 35 3 v qs.length (pcells qs) ∧ (∀ q ∈ qs, Own w B q.u q.bs) ∧ qs.Pairwise fun p q => Apart p.u q.u
/-- What is told of pieces. -/
def Pc.dat (q : Pc) : Int × Int × List Nat := (q.seg, q.len, q.bs)

theorem OwnP.kept {w w' : World} {B : Nat} {v : Value} {qs : List Pc} (h : OwnP w B v qs) (hb : Below w.heap.size w w') : OwnP w' B v qs :=
  ⟨World.ownsRow.kept h.1 (below_grown hb) (by cases v.ownBlock <;> simp), fun q hq => (h.2.1 q hq).kept hb, h.2.2⟩
theorem OwnP.base {w : World} {B C : Nat} {v : Value} {qs : List Pc} (h : OwnP w B v qs) (hc : C ≤ B) : OwnP w C v qs := by
  refine ⟨⟨h.1.1, ?_⟩, fun q hq => (h.2.1 q hq).base hc, h.2.2⟩
  rcases h.1.2 with h0 | ⟨g, cap, cur, e, hb, r⟩
  · exact .inl h0
  · exact .inr ⟨g, cap, cur, e, Nat.le_trans hc hb, r⟩
/-- What lies below its blocks may change. -/
theorem OwnP.lower {w w' : World} {B : Nat} {v : Value} {qs : List Pc} {r : Option Nat} (h : OwnP w B v qs) (hg : w.grownBy w' r) (hr : ∀ k, r = some k → k < B) : OwnP w' B v qs := by
  have key : ∀ (u : Value), (∀ k, u.ownBlock = some k → B ≤ k) → u.ownBlock = none ∨ u.ownBlock ≠ r := by
    intro u hu
    cases e : u.ownBlock with
    | none => exact .inl rfl
    | some k =>
      refine .inr (fun e' => ?_)
      have a := hu k e
      have b := hr k e'.symm
      omega
  exact ⟨World.ownsRow.kept h.1 hg (key v fun k e => (World.ownsRow.lt h.1 k e).1), fun q hq => World.ownsRow.kept (h.2.1 q hq) hg (key q.u fun k e => (World.ownsRow.lt (h.2.1 q hq) k e).1), h.2.2⟩
/-- A row of bytes that is none of its own may change. -/
theorem OwnP.byRow {w w' : World} {B C : Nat} {v u : Value} {qs : List Pc} {zs : List Nat} (h : OwnP w B v qs) (ho : Own w C u zs) (hap : ∀ p ∈ qs, Apart p.u u) (hg : w.grownBy w' u.ownBlock) : OwnP w' B v qs := by
  refine ⟨World.ownsRow.kept h.1 hg ?_, fun q hq => World.ownsRow.kept (h.2.1 q hq) hg ?_, h.2.2⟩
  · rcases h.1.2 with ⟨hv, _⟩ | ⟨g, cap, cur, hv, _, hc, _⟩
    · exact .inl (by rw [hv]; rfl)
    · refine .inr (fun e => ?_)
      have ht : Typ w g 35 := ⟨cur, _, hc⟩
      exact ht.row ho (by decide) (by rw [← e, hv]; rfl)
  · cases e : q.u.ownBlock with
    | none => exact .inl rfl
    | some k => exact .inr (fun e' => hap q hq k e e'.symm)
theorem OwnP.form {w : World} {B : Nat} {v : Value} {qs : List Pc} (h : OwnP w B v qs) : ∃ a c, v = .slice a qs.length c := by
  rcases h.1.2 with ⟨h, h0⟩ | ⟨g, cap, cur, h, _⟩
  · exact ⟨_, _, by rw [h, h0]⟩
  · exact ⟨_, _, h⟩
theorem OwnP.typ {w : World} {B g n cap : Nat} {qs : List Pc} (h : OwnP w B (.slice (some ⟨g, 0, none⟩) n cap) qs) : Typ w g 35 := by
  rcases h.1.2 with ⟨e, _⟩ | ⟨g', cap', cur, e, _, hg, _⟩
  · cases e
  · simp only [Value.slice.injEq, Option.some.injEq, Addr.mk.injEq, and_true] at e
    obtain ⟨rfl, _⟩ := e
    exact ⟨cur, _, hg⟩
theorem OwnP.nonempty {w : World} {B : Nat} {v : Value} {qs : List Pc} (h : OwnP w B v qs) (hn : 0 < qs.length) : ∃ g cap, v = .slice (some ⟨g, 0, none⟩) qs.length cap ∧ B ≤ g ∧ qs.length ≤ cap := by
  rcases h.1.2 with ⟨_, h0⟩ | ⟨g, cap, cur, h, hB, _, hc, _⟩
  · omega
  · exact ⟨g, cap, h, hB, hc⟩
/-- A cell of the row. -/
theorem OwnP.cell {w : World} {B g n cap : Nat} {a b : List Pc} {q : Pc} (h : OwnP w B (.slice (some ⟨g, 0, none⟩) n cap) (a ++ q :: b)) (hn : n = (a ++ q :: b).length) (c : Nat) (hc : c < 3) : w.cell? ⟨g, a.length * 3 + c, none⟩ = q.cells[c]? := by
  subst hn
  rw [World.ownsRow.cellAt h.1 _ (by simp; omega), pcells_at a q b c hc]
theorem OwnP.frozen {w : World} {B g n cap : Nat} {qs : List Pc} (h : OwnP w B (.slice (some ⟨g, 0, none⟩) n cap) qs) (hn : n = qs.length) (j : Nat) : w.frozen? ⟨g, j, none⟩ = false := by
  subst hn
  exact World.ownsRow.frozenAt h.1 j
/-- A number of one piece is written. -/
theorem OwnP.write {w : World} {B g n cap : Nat} {a b : List Pc} {q q' : Pc} (h : OwnP w B (.slice (some ⟨g, 0, none⟩) n cap) (a ++ q :: b)) (hn : n = (a ++ q :: b).length) (c : Nat) (hc : c < 3) (x : Value) (hx : q.cells.set c x = q'.cells) (hu : q'.u = q.u) (hb : q'.bs = q.bs) :
    OwnP (w.setCell ⟨g, a.length * 3 + c, none⟩ x) B (.slice (some ⟨g, 0, none⟩) n cap) (a ++ q' :: b) := by
  have hT := h.typ
  obtain ⟨h1, h2, h3⟩ := h
  subst hn
  have hl : (a ++ q' :: b).length = (a ++ q :: b).length := by simp
  refine ⟨?_, ?_, ?_⟩
  · have S := (World.ownsRow.stored h1 (a.length * 3 + c) x).1
    rw [pcells_set a q q' b c hc x hx] at S
    rw [hl]
    exact S
  · intro p hp
    have key : ∀ p ∈ a ++ q :: b, Own (w.setCell ⟨g, a.length * 3 + c, none⟩ x) B p.u p.bs := fun p hp => (h2 p hp).far _ _ _ (hT.row (h2 p hp) (by decide))
    rcases List.mem_append.1 hp with hp | hp
    · exact key p (List.mem_append.2 (.inl hp))
    · rcases List.mem_cons.1 hp with rfl | hp
      · rw [hu, hb]; exact key q (by simp)
      · exact key p (by simp [hp])
  · rw [List.pairwise_append, List.pairwise_cons] at h3 ⊢
    obtain ⟨p1, ⟨p2, p3⟩, p4⟩ := h3
    refine ⟨p1, ⟨fun r hr => by rw [hu]; exact p2 r hr, p3⟩, fun r hr y hy => ?_⟩
    rcases List.mem_cons.1 hy with rfl | hy
    · rw [hu]; exact p4 r hr q (by simp)
    · exact p4 r hr y (by simp [hy])
/-- The bytes of one piece are written. -/
theorem OwnP.row {w w' : World} {B g n cap : Nat} {a b : List Pc} {q q' : Pc} (h : OwnP w B (.slice (some ⟨g, 0, none⟩) n cap) (a ++ q :: b)) (hn : n = (a ++ q :: b).length) (ho : Own w' B q'.u q'.bs) (hg : w.grownBy w' q.u.ownBlock) (hu : q'.u = q.u) (hc : q'.cells = q.cells) :
    OwnP w' B (.slice (some ⟨g, 0, none⟩) n cap) (a ++ q' :: b) := by
  have hT := h.typ
  obtain ⟨h1, h2, h3⟩ := h
  subst hn
  have hl : (a ++ q' :: b).length = (a ++ q :: b).length := by simp
  have ap := h3
  rw [List.pairwise_append, List.pairwise_cons] at h3
  obtain ⟨p1, ⟨p2, p3⟩, p4⟩ := h3
  refine ⟨?_, ?_, ?_⟩
  · have hne := hT.row (h2 q (by simp)) (by decide)
    have e : pcells (a ++ q' :: b) = pcells (a ++ q :: b) := by rw [pcells_append, pcells_cons, hc, pcells_append, pcells_cons]
    rw [hl, e]
    exact World.ownsRow.kept h1 hg (.inr hne)
  · have key : ∀ p ∈ a ++ q :: b, Apart p.u q.u → Own w' B p.u p.bs := fun p hp hap => by
      refine World.ownsRow.kept (h2 p hp) hg ?_
      cases e : p.u.ownBlock with
      | none => exact .inl rfl
      | some k => exact .inr (fun e' => hap k e e'.symm)
    intro p hp
    rcases List.mem_append.1 hp with hp | hp
    · exact key p (by simp [hp]) (p4 p hp q (by simp))
    · rcases List.mem_cons.1 hp with rfl | hp
      · exact ho
      · exact key p (by simp [hp]) (Apart.symm (p2 p hp))
  · rw [List.pairwise_append, List.pairwise_cons]
    refine ⟨p1, ⟨fun x hx => by rw [hu]; exact p2 x hx, p3⟩, fun x hx y hy => ?_⟩
    rcases List.mem_cons.1 hy with rfl | hy
    · rw [hu]; exact p4 x hx q (by simp)
    · exact p4 x hx y (by simp [hy])
theorem OwnP.at {w : World} {B : Nat} {v : Value} {a b : List Pc} {q : Pc} (h : OwnP w B v (a ++ q :: b)) : Own w B q.u q.bs := h.2.1 q (by simp)
/-- Nothing; one piece. -/
theorem ownP_none (w : World) (B : Nat) : OwnP w B (.slice none 0 0) [] := ⟨World.ownsRow_nil w B _ _, by simp, by simp⟩
theorem ownP_empty (w : World) (B : Nat) (hB : B ≤ w.heap.size) : OwnP (w.alloc (.cells #[] 35)) B (.slice (some ⟨w.heap.size, 0, none⟩) 0 0) [] :=
  ⟨World.ownsRow_lit (base := B) (e := 35) (size := 3) w #[] 0 hB (by unfold maxLen; omega) rfl, by simp, by simp⟩
theorem ownP_one (w : World) (B : Nat) (q : Pc) (hB : B ≤ w.heap.size) (ho : Own w B q.u q.bs) : OwnP (w.alloc (.cells #[.int .i64 q.seg, .int .i64 q.len, q.u] 35)) B (.slice (some ⟨w.heap.size, 0, none⟩) 1 1) [q] := by
  refine ⟨?_, ?_, by simp⟩
  · have := World.ownsRow_lit (base := B) (e := 35) (size := 3) w #[.int .i64 q.seg, .int .i64 q.len, q.u] 1 hB (by unfold maxLen; omega) rfl
    simpa [pcells, Pc.cells] using this
  · intro p hp
    simp only [List.mem_singleton] at hp
    subst hp
    exact ho.alloc _
end Go.Proofs.Ytaljdhcmikpmhaa
