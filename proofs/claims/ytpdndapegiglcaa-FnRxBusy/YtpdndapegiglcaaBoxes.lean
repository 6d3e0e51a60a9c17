/- Boxed variables, whatever lies in them: a block that holds these cells and may be written. -/
import Derived.Test.YtpdndapegiglcaaBytes
import Derived.Laws.Tables
namespace Go.Proofs.Ytpdndapegiglcaa
open Go.RowKit

/-- The block b holds these cells, and they may be written. -/
def Bo (w : World) (b : Nat) (cs : Array Value) : Prop := b < w.heap.size ∧ (∀ k, w.cell? ⟨b, k, none⟩ = cs[k]?) ∧ ∀ k, w.frozen? ⟨b, k, none⟩ = false
theorem Bo.kept {w w' : World} {b : Nat} {cs : Array Value} (h : Bo w b cs) (hb : Below w.heap.size w w') : Bo w' b cs :=
  ⟨Nat.lt_of_lt_of_le h.1 hb.size, fun k => (hb.cell (p := ⟨b, k, none⟩) h.1).trans (h.2.1 k), fun k => (hb.frozen (p := ⟨b, k, none⟩) h.1).trans (h.2.2 k)⟩
theorem Bo.k {w : World} {b : Nat} {cs : Array Value} (h : Bo w b cs) : ∀ k, w.cell? ⟨b, k, none⟩ = cs[k]? := h.2.1
theorem Bo.f {w : World} {b : Nat} {cs : Array Value} (h : Bo w b cs) : ∀ k, w.frozen? ⟨b, k, none⟩ = false := h.2.2
theorem bo_far {w : World} {p q : Addr} {x : Value} (h : p ≠ q) : (w.setCell p x).cell? q = w.cell? q := by
  apply World.cell?_setCell_other
  exact h
theorem bo_here {w : World} {p : Addr} {x u : Value} (h : w.cell? p = some u) : (w.setCell p x).cell? p = some x := by
  apply World.cell?_setCell_same
  exact h
theorem Bo.put {w : World} {b : Nat} {cs : Array Value} (h : Bo w b cs) (i : Nat) (hi : i < cs.size) (x : Value) : Bo (w.setCell ⟨b, i, none⟩ x) b (cs.setIfInBounds i x) := by
  refine ⟨by simpa using h.1, fun k => ?_, fun k => by simpa using h.2.2 k⟩
  by_cases e : k = i
  · subst e
    have : w.cell? ⟨b, k, none⟩ = some cs[k] := by rw [h.2.1 k]; exact Array.getElem?_eq_getElem hi
    rw [bo_here this]
    simp [hi]
  · rw [bo_far (by intro e'; simp only [Addr.mk.injEq] at e'; omega), h.2.1 k, Array.getElem?_setIfInBounds_ne (Ne.symm e)]
theorem bo_new (w : World) (cs : Array Value) (t : TypeId) : Bo (w.alloc (.cells cs t)) w.heap.size cs := ⟨by simp, fun k => by simp, fun k => by simp⟩
theorem bo_alloc (w : World) (o : Obj) : Below w.heap.size w (w.alloc o) := (Below.refl _ _).alloc (Nat.le_refl _) o
theorem bo1 (w : World) (cs1 : Array Value) (t1 : TypeId) :
    ∃ w0, w.alloc (.cells cs1 t1) = w0 ∧ Bo w0 w.heap.size cs1 ∧ Below w.heap.size w w0 ∧ w.heap.size + 1 ≤ w0.heap.size := ⟨_, rfl, bo_new _ _ _, bo_alloc _ _, by simp⟩
theorem bo2 (w : World) (cs1 : Array Value) (t1 : TypeId) (cs2 : Array Value) (t2 : TypeId) :
    ∃ w0, (w.alloc (.cells cs1 t1)).alloc (.cells cs2 t2) = w0 ∧ Bo w0 w.heap.size cs1 ∧ Bo w0 (w.heap.size + 1) cs2 ∧ Below w.heap.size w w0 ∧ w.heap.size + 2 ≤ w0.heap.size := by
  refine ⟨_, rfl, (bo_new w cs1 t1).kept (bo_alloc _ _), ?_, bchain (bo_alloc _ _) (bo_alloc _ _), by simp⟩
  have := bo_new (w.alloc (.cells cs1 t1)) cs2 t2
  simpa using this
theorem bo3 (w : World) (cs1 : Array Value) (t1 : TypeId) (cs2 : Array Value) (t2 : TypeId) (cs3 : Array Value) (t3 : TypeId) :
    ∃ w0, ((w.alloc (.cells cs1 t1)).alloc (.cells cs2 t2)).alloc (.cells cs3 t3) = w0 ∧ Bo w0 w.heap.size cs1 ∧ Bo w0 (w.heap.size + 1) cs2 ∧ Bo w0 (w.heap.size + 1 + 1) cs3 ∧ Below w.heap.size w w0 ∧ w.heap.size + 3 ≤ w0.heap.size := by
  obtain ⟨w1, rfl, h1, h2, hb, hs⟩ := bo2 w cs1 t1 cs2 t2
  refine ⟨_, rfl, h1.kept (bo_alloc _ _), h2.kept (bo_alloc _ _), ?_, bchain hb (bo_alloc _ _), by simp⟩
  have := bo_new ((w.alloc (.cells cs1 t1)).alloc (.cells cs2 t2)) cs3 t3
  simpa using this
theorem bo4 (w : World) (cs1 : Array Value) (t1 : TypeId) (cs2 : Array Value) (t2 : TypeId) (cs3 : Array Value) (t3 : TypeId) (cs4 : Array Value) (t4 : TypeId) :
    ∃ w0, (((w.alloc (.cells cs1 t1)).alloc (.cells cs2 t2)).alloc (.cells cs3 t3)).alloc (.cells cs4 t4) = w0 ∧ Bo w0 w.heap.size cs1 ∧ Bo w0 (w.heap.size + 1) cs2 ∧ Bo w0 (w.heap.size + 1 + 1) cs3 ∧ Bo w0 (w.heap.size + 1 + 1 + 1) cs4 ∧ Below w.heap.size w w0 ∧ w.heap.size + 4 ≤ w0.heap.size := by
  obtain ⟨w1, rfl, h1, h2, h3, hb, hs⟩ := bo3 w cs1 t1 cs2 t2 cs3 t3
  refine ⟨_, rfl, h1.kept (bo_alloc _ _), h2.kept (bo_alloc _ _), h3.kept (bo_alloc _ _), ?_, bchain hb (bo_alloc _ _), by simp⟩
  have := bo_new (((w.alloc (.cells cs1 t1)).alloc (.cells cs2 t2)).alloc (.cells cs3 t3)) cs4 t4
  simpa using this
/-- The block b holds these cells of this type, whole, and may be written. -/
def Bl (w : World) (b : Nat) (cs : Array Value) (t : TypeId) : Prop := w.heap[b]? = some (.cells cs t (0, 0))
theorem Bl.lt {w : World} {b : Nat} {cs : Array Value} {t : TypeId} (h : Bl w b cs t) : b < w.heap.size := (Array.getElem?_eq_some_iff.1 h).1
theorem Bl.kept {w w' : World} {b : Nat} {cs : Array Value} {t : TypeId} (h : Bl w b cs t) (hb : Below w.heap.size w w') : Bl w' b cs t := (hb.block b h.lt).trans h
theorem Bl.k {w : World} {b : Nat} {cs : Array Value} {t : TypeId} (h : Bl w b cs t) : ∀ k, w.cell? ⟨b, k, none⟩ = cs[k]? := fun k => by
  unfold Bl at h
  simp [World.cell?, h]
theorem Bl.f {w : World} {b : Nat} {cs : Array Value} {t : TypeId} (h : Bl w b cs t) : ∀ k, w.frozen? ⟨b, k, none⟩ = false := fun k => by
  unfold Bl at h
  simp [World.frozen?, h]
theorem Bl.bo {w : World} {b : Nat} {cs : Array Value} {t : TypeId} (h : Bl w b cs t) : Bo w b cs := ⟨h.lt, h.k, h.f⟩
theorem bl_new (w : World) (cs : Array Value) (t : TypeId) : Bl (w.alloc (.cells cs t)) w.heap.size cs t := by
  unfold Bl World.alloc
  simp
/-- A block written whole. -/
theorem Bl.row {w : World} {b : Nat} {cs : Array Value} {t : TypeId} (h : Bl w b cs t) (ds : Array Value) : Bl (w.setRow b ds) b ds t := setRow_heap w b cs ds t (0, 0) h
theorem Bl.row_far {w : World} {b : Nat} {cs : Array Value} {t : TypeId} (h : Bl w b cs t) (g : Nat) (ds : Array Value) (hne : b ≠ g) : Bl (w.setRow g ds) b cs t := (setRow_other w g b ds hne).trans h
theorem below_row {n : Nat} {w w' : World} (h : Below n w w') (g : Nat) (ds : Array Value) (hg : n ≤ g) : Below n w (w'.setRow g ds) :=
  ⟨h.os, h.tape, h.output, by simpa using h.size, fun k hk => (setRow_other w' g k ds (by omega)).trans (h.block k hk)⟩
theorem bl1 (w : World) (cs1 : Array Value) (t1 : TypeId) :
    ∃ w0, w.alloc (.cells cs1 t1) = w0 ∧ Bl w0 w.heap.size cs1 t1 ∧ Below w.heap.size w w0 ∧ w.heap.size + 1 ≤ w0.heap.size := ⟨_, rfl, bl_new _ _ _, bo_alloc _ _, by simp⟩
theorem bl2 (w : World) (cs1 : Array Value) (t1 : TypeId) (cs2 : Array Value) (t2 : TypeId) :
    ∃ w0, (w.alloc (.cells cs1 t1)).alloc (.cells cs2 t2) = w0 ∧ Bl w0 w.heap.size cs1 t1 ∧ Bl w0 (w.heap.size + 1) cs2 t2 ∧ Below w.heap.size w w0 ∧ w.heap.size + 2 ≤ w0.heap.size := by
  refine ⟨_, rfl, (bl_new w cs1 t1).kept (bo_alloc _ _), ?_, bchain (bo_alloc _ _) (bo_alloc _ _), by simp⟩
  have := bl_new (w.alloc (.cells cs1 t1)) cs2 t2
  simpa using this
theorem bl3 (w : World) (cs1 : Array Value) (t1 : TypeId) (cs2 : Array Value) (t2 : TypeId) (cs3 : Array Value) (t3 : TypeId) :
    ∃ w0, ((w.alloc (.cells cs1 t1)).alloc (.cells cs2 t2)).alloc (.cells cs3 t3) = w0 ∧ Bl w0 w.heap.size cs1 t1 ∧ Bl w0 (w.heap.size + 1) cs2 t2 ∧ Bl w0 (w.heap.size + 1 + 1) cs3 t3 ∧ Below w.heap.size w w0 ∧ w.heap.size + 3 ≤ w0.heap.size := by
  obtain ⟨w1, rfl, h1, h2, hb, hs⟩ := bl2 w cs1 t1 cs2 t2
  refine ⟨_, rfl, h1.kept (bo_alloc _ _), h2.kept (bo_alloc _ _), ?_, bchain hb (bo_alloc _ _), by simp⟩
  have := bl_new ((w.alloc (.cells cs1 t1)).alloc (.cells cs2 t2)) cs3 t3
  simpa using this
theorem bl4 (w : World) (cs1 : Array Value) (t1 : TypeId) (cs2 : Array Value) (t2 : TypeId) (cs3 : Array Value) (t3 : TypeId) (cs4 : Array Value) (t4 : TypeId) :
    ∃ w0, (((w.alloc (.cells cs1 t1)).alloc (.cells cs2 t2)).alloc (.cells cs3 t3)).alloc (.cells cs4 t4) = w0 ∧ Bl w0 w.heap.size cs1 t1 ∧ Bl w0 (w.heap.size + 1) cs2 t2 ∧ Bl w0 (w.heap.size + 1 + 1) cs3 t3 ∧ Bl w0 (w.heap.size + 1 + 1 + 1) cs4 t4 ∧ Below w.heap.size w w0 ∧ w.heap.size + 4 ≤ w0.heap.size := by
  obtain ⟨w1, rfl, h1, h2, h3, hb, hs⟩ := bl3 w cs1 t1 cs2 t2 cs3 t3
  refine ⟨_, rfl, h1.kept (bo_alloc _ _), h2.kept (bo_alloc _ _), h3.kept (bo_alloc _ _), ?_, bchain hb (bo_alloc _ _), by simp⟩
  have := bl_new (((w.alloc (.cells cs1 t1)).alloc (.cells cs2 t2)).alloc (.cells cs3 t3)) cs4 t4
  simpa using this
end Go.Proofs.Ytpdndapegiglcaa
