/- More on rows of bytes that the call owns, on boxed variables, and on what lies in old blocks. -/
import Derived.Test.YteaamhjacjgacaaAppend
namespace Go.Proofs.Yteaamhjacjgacaa
open Go.RowKit

theorem Own.base {w : World} {B C : Nat} {v : Value} {zs : List Nat} (h : Own w B v zs) (hc : C ≤ B) : Own w C v zs := by
  refine ⟨h.1, ?_⟩
  rcases h.2 with h0 | ⟨g, cap, cur, e, hb, r⟩
  · exact .inl h0
  · exact .inr ⟨g, cap, cur, e, Nat.le_trans hc hb, r⟩
theorem Own.set {w : World} {B : Nat} {v : Value} {zs : List Nat} (h : Own w B v zs) (b o : Nat) (x : Value) (hb : b < B) : Own (w.setCell ⟨b, o, none⟩ x) B v zs := ownsRow_setCell_below h hb x
/-- Cells of old blocks behind a call. -/
theorem old_cell {W w1 : World} (hb : Below W.heap.size W w1) (b : Nat) (h : b < W.heap.size) : ∀ o, w1.cell? ⟨b, o, none⟩ = W.cell? ⟨b, o, none⟩ := fun o => hb.cell (p := ⟨b, o, none⟩) h
theorem old_frozen {W w1 : World} (hb : Below W.heap.size W w1) (b : Nat) (h : b < W.heap.size) : ∀ o, w1.frozen? ⟨b, o, none⟩ = W.frozen? ⟨b, o, none⟩ := fun o => hb.frozen (p := ⟨b, o, none⟩) h

theorem box_kept {w : World} {o : Obj} {w' : World} (h : Below (w.alloc o).heap.size (w.alloc o) w') : ∀ k, w'.cell? ⟨w.heap.size, k, none⟩ = (w.alloc o).cell? ⟨w.heap.size, k, none⟩ :=
  fun k => h.cell (p := ⟨w.heap.size, k, none⟩) (by simp)
theorem box_below {w : World} {o : Obj} {w' : World} (h : Below (w.alloc o).heap.size (w.alloc o) w') : Below w.heap.size w w' :=
  ((Below.refl _ _).alloc (Nat.le_refl _) _).trans (Below.mono h (by simp))
/-- The block b holds these cells. -/
def Cel (w : World) (b : Nat) (cs : Array Value) : Prop := b < w.heap.size ∧ ∀ k, w.cell? ⟨b, k, none⟩ = cs[k]?
theorem Cel.kept {w w' : World} {b : Nat} {cs : Array Value} (h : Cel w b cs) (hb : Below w.heap.size w w') : Cel w' b cs := ⟨Nat.lt_of_lt_of_le h.1 hb.size, fun k => (hb.cell (p := ⟨b, k, none⟩) h.1).trans (h.2 k)⟩
theorem Cel.other {w w' : World} {b : Nat} {cs : Array Value} {r : Option Nat} (h : Cel w b cs) (hg : w.grownBy w' r) (hne : some b ≠ r) : Cel w' b cs :=
  ⟨Nat.lt_of_lt_of_le h.1 hg.size, fun k => (World.cell?_of_block (a := ⟨b, k, none⟩) (hg.block b h.1 hne)).trans (h.2 k)⟩
theorem cel_box (w : World) (cs : Array Value) (t : TypeId) : Cel (w.alloc (.cells cs t)) w.heap.size cs := ⟨by simp, fun k => by simp⟩
theorem own_box_apart {w : World} {B : Nat} {v : Value} {zs : List Nat} (h : Own w B v zs) {b : Nat} (hb : b < B ∨ w.heap.size ≤ b) : some b ≠ v.ownBlock := by
  intro e
  have := World.ownsRow.lt h b e.symm
  omega

theorem rd_cells (w : World) (l : List Nat) (hb : Byt l) (hl : l.length ≤ 2000000) : Rd (w.alloc (.cells (bcells l).toArray 5)) (.slice (some ⟨w.heap.size, 0, none⟩) l.length l.length) l := by
  refine ⟨hb, hl, .inr ⟨w.heap.size, 0, l.length, rfl, Nat.le_refl _, by unfold maxLen; omega, by simp, fun j hj => ?_⟩⟩
  have := bcells_get l j hj
  simp [this]
theorem own_cells (w : World) (B : Nat) (l : List Nat) (hB : B ≤ w.heap.size) (hl : l.length ≤ 2000000) : Own (w.alloc (.cells (bcells l).toArray 5)) B (.slice (some ⟨w.heap.size, 0, none⟩) l.length l.length) l := by
  have := World.ownsRow_lit (base := B) (e := 5) (size := 1) w (bcells l).toArray l.length hB (by unfold maxLen; omega) (by simp [bcells_length])
  simpa [Own] using this
/-- The block b holds these cells, and they may be written. -/
def CelF (w : World) (b : Nat) (cs : Array Value) : Prop := b < w.heap.size ∧ (∀ k, w.cell? ⟨b, k, none⟩ = cs[k]?) ∧ ∀ k, w.frozen? ⟨b, k, none⟩ = false
theorem CelF.kept {w w' : World} {b : Nat} {cs : Array Value} (h : CelF w b cs) (hb : Below w.heap.size w w') : CelF w' b cs :=
  ⟨Nat.lt_of_lt_of_le h.1 hb.size, fun k => (hb.cell (p := ⟨b, k, none⟩) h.1).trans (h.2.1 k), fun k => (hb.frozen (p := ⟨b, k, none⟩) h.1).trans (h.2.2 k)⟩
theorem CelF.other {w w' : World} {b : Nat} {cs : Array Value} {r : Option Nat} (h : CelF w b cs) (hg : w.grownBy w' r) (hne : some b ≠ r) : CelF w' b cs :=
  ⟨Nat.lt_of_lt_of_le h.1 hg.size, fun k => (World.cell?_of_block (a := ⟨b, k, none⟩) (hg.block b h.1 hne)).trans (h.2.1 k), fun k => (World.frozen?_of_block (a := ⟨b, k, none⟩) (hg.block b h.1 hne)).trans (h.2.2 k)⟩
theorem celF_box (w : World) (cs : Array Value) (t : TypeId) : CelF (w.alloc (.cells cs t)) w.heap.size cs := ⟨by simp, fun k => by simp, fun k => by simp⟩
theorem grown_step {w0 w1 w2 : World} {r : Option Nat} (h : w0.grownBy w1 r) (k : w1.grownBy w2 r) : w0.grownBy w2 r :=
  ⟨k.os.trans h.os, k.tape.trans h.tape, k.output.trans h.output, Nat.le_trans h.size k.size, fun q hq hne => (k.block q (Nat.lt_of_lt_of_le hq h.size) hne).trans (h.block q hq hne)⟩
theorem grown_fresh {w0 w1 w2 : World} {r u : Option Nat} (h : w0.grownBy w1 r) (k : w1.grownBy w2 u) (hu : ∀ q, u = some q → w0.heap.size ≤ q) : w0.grownBy w2 r :=
  ⟨k.os.trans h.os, k.tape.trans h.tape, k.output.trans h.output, Nat.le_trans h.size k.size, fun q hq hne => (k.block q (Nat.lt_of_lt_of_le hq h.size) (fun e => by have := hu q e.symm; omega)).trans (h.block q hq hne)⟩
theorem grown_alloc' (w : World) (o : Obj) (r : Option Nat) : w.grownBy (w.alloc o) r := ⟨rfl, rfl, rfl, by simp, fun q hq _ => ((Below.refl w.heap.size w).alloc (Nat.le_refl _) o).block q hq⟩
theorem grown_set (w : World) (b o : Nat) (x : Value) : w.grownBy (w.setCell ⟨b, o, none⟩ x) (some b) :=
  ⟨rfl, rfl, rfl, by simp, fun k _ hne => Below.heap_setCell w _ x k (fun e => hne (by rw [e]))⟩
theorem cell_far {w : World} {p q : Addr} {x : Value} (h : p ≠ q) : (w.setCell p x).cell? q = w.cell? q := by
  apply World.cell?_setCell_other
  exact h
theorem cell_here {w : World} {p : Addr} {x u : Value} (h : w.cell? p = some u) : (w.setCell p x).cell? p = some x := by
  apply World.cell?_setCell_same
  exact h
theorem CelF.put {w : World} {b : Nat} {cs : Array Value} (h : CelF w b cs) (i : Nat) (hi : i < cs.size) (x : Value) : CelF (w.setCell ⟨b, i, none⟩ x) b (cs.setIfInBounds i x) := by
  refine ⟨by simpa using h.1, fun k => ?_, fun k => by simpa using h.2.2 k⟩
  by_cases e : k = i
  · subst e
    have : w.cell? ⟨b, k, none⟩ = some cs[k] := by rw [h.2.1 k]; exact Array.getElem?_eq_getElem hi
    rw [cell_here this]
    simp [hi]
  · rw [cell_far (by intro e'; simp only [Addr.mk.injEq] at e'; omega), h.2.1 k, Array.getElem?_setIfInBounds_ne (Ne.symm e)]
theorem Own.far {w : World} {B : Nat} {v : Value} {zs : List Nat} (h : Own w B v zs) (b o : Nat) (x : Value) (hne : some b ≠ v.ownBlock) : Own (w.setCell ⟨b, o, none⟩ x) B v zs :=
  h.other (u := .slice (some ⟨b, 0, none⟩) 0 0) (grown_set w b o x) (fun k e e' => hne (by rw [e, ← e']; rfl))
theorem CelF.far {w : World} {b : Nat} {cs : Array Value} (h : CelF w b cs) (c o : Nat) (x : Value) (hne : b ≠ c) : CelF (w.setCell ⟨c, o, none⟩ x) b cs :=
  h.other (grown_set w c o x) (fun e => hne (Option.some.inj e))
/-- A row of bytes is no block of another type. -/
theorem own_type {w : World} {B : Nat} {v : Value} {zs : List Nat} (h : Own w B v zs) {k t : Nat} {cs : Array Value} {f : Nat × Nat} (hk : w.heap[k]? = some (.cells cs t f)) (ht : t ≠ 5) : some k ≠ v.ownBlock := by
  intro e
  rcases h.2 with ⟨rfl, _⟩ | ⟨g, cap, cur, rfl, _, hg, _⟩
  · cases e
  · obtain rfl : k = g := Option.some.inj e
    rw [hg] at hk
    simp only [Option.some.injEq, Obj.cells.injEq] at hk
    exact ht hk.2.1.symm
theorem Own.form {w : World} {B : Nat} {v : Value} {zs : List Nat} (h : Own w B v zs) : ∃ a c, v = .slice a zs.length c := by
  rcases h.2 with ⟨h, h0⟩ | ⟨g, cap, cur, h, _⟩
  · exact ⟨_, _, by rw [h, h0]⟩
  · exact ⟨_, _, h⟩
/-- The block g holds cells of type t. -/
def Typ (w : World) (g t : Nat) : Prop := ∃ cs f, w.heap[g]? = some (.cells cs t f)
theorem Typ.lt {w : World} {g t : Nat} (h : Typ w g t) : g < w.heap.size := by
  obtain ⟨cs, f, h⟩ := h
  exact (Array.getElem?_eq_some_iff.1 h).1
theorem Typ.kept {w w' : World} {g t : Nat} (h : Typ w g t) (hb : Below w.heap.size w w') : Typ w' g t := by
  have hl := h.lt
  obtain ⟨cs, f, h⟩ := h
  exact ⟨cs, f, (hb.block g hl).trans h⟩
theorem Typ.below {w w' : World} {B g t : Nat} (h : Typ w g t) (hb : Below B w w') (hg : g < B) : Typ w' g t := by
  obtain ⟨cs, f, h⟩ := h
  exact ⟨cs, f, (hb.block g hg).trans h⟩
theorem Typ.other {w w' : World} {g t : Nat} {r : Option Nat} (h : Typ w g t) (hg : w.grownBy w' r) (hne : some g ≠ r) : Typ w' g t := by
  have hl := h.lt
  obtain ⟨cs, f, h⟩ := h
  exact ⟨cs, f, (hg.block g hl hne).trans h⟩
theorem Typ.set {w : World} {g t : Nat} (h : Typ w g t) (p : Addr) (x : Value) : Typ (w.setCell p x) g t := by
  obtain ⟨cs, f, h⟩ := h
  unfold Typ World.setCell
  simp only [Array.getElem?_modify]
  split
  · rw [h]; exact ⟨_, _, rfl⟩
  · exact ⟨cs, f, h⟩
theorem Typ.row {w : World} {g t B : Nat} {v : Value} {zs : List Nat} (h : Typ w g t) (ho : Own w B v zs) (ht : t ≠ 5) : some g ≠ v.ownBlock := by
  obtain ⟨cs, f, h⟩ := h
  exact own_type ho h ht
theorem typ_box (w : World) (cs : Array Value) (t : TypeId) : Typ (w.alloc (.cells cs t)) w.heap.size t := ⟨cs, (0, 0), by show (w.heap.push _)[w.heap.size]? = _; simp⟩
theorem heap_new (w : World) (cs : Array Value) (t : TypeId) : (w.alloc (.cells cs t)).heap[w.heap.size]? = some (.cells cs t (0, 0)) := by
  show (w.heap.push _)[w.heap.size]? = _
  simp
end Go.Proofs.Yteaamhjacjgacaa
