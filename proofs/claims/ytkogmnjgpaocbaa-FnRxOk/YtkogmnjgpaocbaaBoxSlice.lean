/- A slice put into a box; new rows as one operation. -/
import Derived.Test.YtkogmnjgpaocbaaBoxLaw
namespace Go.Proofs.Ytkogmnjgpaocbaa
open Go.RowKit
section
variable {ops : Array Oper} {rest : List Oper} {o : Oper} {a : Act} {w : World} {Q : Exit → Act → World → Prop} {K : Act → World → Prop}
theorem wp_box_bytes (x y : Operand) (ho : o.op = .store 22 x y) (g i : Nat) (ad : Option Addr) (n c : Nat) (hx : a.eval x = .pointer (some ⟨g, i, none⟩)) (hy : a.eval y = .slice ad n c)
    {t : TypeId} {old : Array Value} (hg : Bl w g old t) (hold : i < old.size)
    (h : ∀ w', Bl w' g (old.setIfInBounds i (.slice ad n c)) t → w.grownBy w' (some g) → K (a.put o.dst undef) w') : o.wp Try.prog a w K Q := by
  have k1 : w.cell? ⟨g, i, none⟩ = some old[i] := by rw [hg.k]; simp [hold]
  have k2 := hg.f i
  have hh := h _ (heap_setCell_same w g i old t (.slice ad n c) hg) (grown_setCell w g i _)
  unfold Oper.wp execOp
  simp only [ho, hx, hy]
  simp [go_sem, k1, k2]
  exact hh
theorem box_bytes (hgd : o.guard = none) (x y : Operand) (ho : o.op = .store 22 x y) (g i : Nat) (ad : Option Addr) (n c : Nat) (hx : a.eval x = .pointer (some ⟨g, i, none⟩)) (hy : a.eval y = .slice ad n c)
    {t : TypeId} {old : Array Value} (hg : Bl w g old t) (hold : i < old.size)
    (h : ∀ w', Bl w' g (old.setIfInBounds i (.slice ad n c)) t → w.grownBy w' (some g) → wpList Try.prog ops Q rest (a.put o.dst undef) w') : wpList Try.prog ops Q (o :: rest) a w :=
  wpList_plain hgd fun _ hK => wp_box_bytes x y ho g i ad n c hx hy hg hold (fun w' h1 h2 => hK _ _ (h w' h1 h2))
theorem at_litn (ty : TypeId) {d : Option Tmp} {n : Nat} {ps : Array (Nat × Operand)} {t : TypeId} {pos : String} {af : Array Edge} (h : wpList Try.prog ops Q (⟨d, .buildSlice ty n ps, t, pos, af, none⟩ :: rest) a w) : wpList Try.prog ops Q (⟨d, .buildSlice ty n ps, t, pos, af, none⟩ :: rest) a w := h
/-- A new row: its cells as they come. -/
theorem lit_row (hgd : o.guard = none) (n : Nat) (cs : Array Value) (t : TypeId) (hr : ∀ w, (execOp a.eval o).run Try.prog w = .ok (.value (.slice (some ⟨w.heap.size, 0, none⟩) n n)) (w.alloc (.cells cs t)))
    (h : ∀ w', Bl w' w.heap.size cs t → Below w.heap.size w w' → wpList Try.prog ops Q rest (a.put o.dst (.slice (some ⟨w.heap.size, 0, none⟩) n n)) w') : wpList Try.prog ops Q (o :: rest) a w :=
  wpList_plain hgd fun _ hK => by
    unfold Oper.wp
    rw [hr]
    exact hK _ _ (h _ (bl_new w cs t) (bo_alloc w _))
end
end Go.Proofs.Ytkogmnjgpaocbaa
