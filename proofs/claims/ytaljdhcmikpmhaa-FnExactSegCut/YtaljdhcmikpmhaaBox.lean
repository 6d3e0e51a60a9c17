/- Boxed variables: a block that holds these cells, of a type that is no byte's. -/
import Derived.Test.YtaljdhcmikpmhaaOwnMore
namespace Go.Proofs.Ytaljdhcmikpmhaa
open Go.RowKit

/-- The block b holds these cells, they may be written, and their type is t. -/
def Bx (w : World) (b : Nat) (cs : Array Value) (t : Nat) : Prop := CelF w b cs ∧ Typ w b t
theorem Bx.kept {w w' : World} {b : Nat} {cs : Array Value} {t : Nat} (h : Bx w b cs t) (hb : Below w.heap.size w w') : Bx w' b cs t := ⟨h.1.kept hb, h.2.kept hb⟩
theorem Bx.k {w : World} {b : Nat} {cs : Array Value} {t : Nat} (h : Bx w b cs t) : ∀ k, w.cell? ⟨b, k, none⟩ = cs[k]? := h.1.2.1
theorem Bx.f {w : World} {b : Nat} {cs : Array Value} {t : Nat} (h : Bx w b cs t) : ∀ k, w.frozen? ⟨b, k, none⟩ = false := h.1.2.2
theorem Bx.lt {w : World} {b : Nat} {cs : Array Value} {t : Nat} (h : Bx w b cs t) : b < w.heap.size := h.1.1
/-- A row of bytes is no box. -/
theorem Bx.row {w : World} {b : Nat} {cs : Array Value} {t : Nat} {B : Nat} {v : Value} {zs : List Nat} (h : Bx w b cs t) (ho : Own w B v zs) (ht : t ≠ 5) : some b ≠ v.ownBlock := h.2.row ho ht
theorem Bx.mark {w w' : World} {b : Nat} {cs : Array Value} {t : Nat} {B : Nat} {v : Value} {zs : List Nat} (h : Bx w b cs t) (ho : Own w B v zs) (hg : w.grownBy w' v.ownBlock) (ht : t ≠ 5) : Bx w' b cs t :=
  ⟨h.1.other hg (h.row ho ht), h.2.other hg (h.row ho ht)⟩
theorem Bx.put {w : World} {b : Nat} {cs : Array Value} {t : Nat} (h : Bx w b cs t) (i : Nat) (hi : i < cs.size) (x : Value) : Bx (w.setCell ⟨b, i, none⟩ x) b (cs.setIfInBounds i x) t := ⟨h.1.put i hi x, h.2.set _ _⟩
theorem bx_new (w : World) (cs : Array Value) (t : TypeId) : Bx (w.alloc (.cells cs t)) w.heap.size cs t := ⟨celF_box _ _ _, typ_box _ _ _⟩
theorem below_alloc (w : World) (o : Obj) : Below w.heap.size w (w.alloc o) := (Below.refl _ _).alloc (Nat.le_refl _) o
theorem bx_made (w : World) (cs : Array Value) (t : TypeId) : ∃ w1, w.alloc (.cells cs t) = w1 ∧ Bx w1 w.heap.size cs t ∧ Below w.heap.size w w1 := ⟨_, rfl, bx_new _ _ _, below_alloc _ _⟩
/-- One, two, three boxes. -/
theorem one_box (w : World) (cs1 : Array Value) (t1 : TypeId) :
    ∃ w0, w.alloc (.cells cs1 t1) = w0 ∧ Bx w0 w.heap.size cs1 t1 ∧ Below w.heap.size w w0 ∧ w.heap.size + 1 ≤ w0.heap.size := ⟨_, rfl, bx_new _ _ _, below_alloc _ _, by simp⟩
theorem two_boxes (w : World) (cs1 : Array Value) (t1 : TypeId) (cs2 : Array Value) (t2 : TypeId) :
    ∃ w0, (w.alloc (.cells cs1 t1)).alloc (.cells cs2 t2) = w0 ∧ Bx w0 w.heap.size cs1 t1 ∧ Bx w0 (w.heap.size + 1) cs2 t2 ∧ Below w.heap.size w w0 ∧ w.heap.size + 2 ≤ w0.heap.size := by
  refine ⟨_, rfl, (bx_new w cs1 t1).kept (below_alloc _ _), ?_, bchain (below_alloc _ _) (below_alloc _ _), by simp⟩
  have := bx_new (w.alloc (.cells cs1 t1)) cs2 t2
  simpa using this
/-- A row that the call owns stays behind a write into a box. -/
theorem Own.box {w : World} {B : Nat} {v : Value} {zs : List Nat} (ho : Own w B v zs) {b : Nat} {cs : Array Value} {t : Nat} (h : Bx w b cs t) (ht : t ≠ 5) (i : Nat) (x : Value) : Own (w.setCell ⟨b, i, none⟩ x) B v zs := ho.far _ _ _ (h.row ho ht)
end Go.Proofs.Ytaljdhcmikpmhaa
