/- What the other one says, drawn. -/
import Derived.Test.YtkogmnjgpaocbaaDrawMeet
import Derived.Test.YtkogmnjgpaocbaaCallRow
import Derived.Test.YtkogmnjgpaocbaaOpenLate
namespace Go.Proofs.Ytkogmnjgpaocbaa
open Go.RowKit
theorem grown_below {w w' : World} (hb : Below w.heap.size w w') (q : Option Nat) : w.grownBy w' q := ⟨hb.os, hb.tape, hb.output, hb.size, fun k hk _ => hb.block k hk⟩
theorem Gd.kept {w0 w w' : World} {B g p0 c : Nat} {cs : List Nat} (h : Gd w0 B g p0 cs c w) (hb : Below w.heap.size w w') : Gd w0 B g p0 cs (c + 1) w' := by
  obtain ⟨p, h1, h2, h3⟩ := h
  exact ⟨p, by omega, h2.kept hb, grown_trans h3 (grown_below hb _)⟩
/-- A new box of a statement that draws. -/
def DBox (B : Nat) (cs : Array Value) (t : TypeId) (v : Value) (w : World) : Prop := ∃ b, v = .pointer (some ⟨b, 0, none⟩) ∧ B ≤ b ∧ Bl w b cs t
theorem DBox.mono {B g : Nat} {cs : Array Value} {t : TypeId} {v : Value} {w w' : World} (h : DBox B cs t v w) (k : w.grownBy w' (some g)) (hg : g < B) : DBox B cs t v w' := by
  obtain ⟨b, h1, h2, h3⟩ := h
  exact ⟨b, h1, h2, h3.grown k (by omega)⟩
section
variable {Q : Exit → Act → World → Prop} {o : Oper} {a : Act} {w w0 : World} {B g p0 c : Nat} {cs : List Nat} {PR : Value → World → Prop}
theorem st_box {ty : TypeId} {zs : Array Value} (ho : o.op = .alloc ty) (hz : ∀ w, (zeroValue ty).run Try.prog w = .ok (.agg zs) w) (hG : Gd w0 B g p0 cs c w) :
    o.wp Try.prog a w (fun a' w' => ∃ v, a' = a.put o.dst v ∧ DBox w0.heap.size zs ty v w' ∧ Gd w0 B g p0 cs (c + 1) w' ∧ w.grownBy w' (some g)) Q :=
  wp_box_new ty ho zs hz (fun _ h1 h2 => ⟨_, rfl, ⟨_, rfl, hG.lt.2, h1⟩, hG.kept h2, grown_below h2 _⟩)
theorem st_call {f : FuncId} {args : Array Value} (ho : (execOp a.eval o).run Try.prog w = .ok (.enter f args) w) (hG : Gd w0 B g p0 cs c w)
    (hc : Calls Try.prog f args w (fun e w' => ∃ v, e = .returned v ∧ PR v w' ∧ Below w.heap.size w w')) :
    o.wp Try.prog a w (fun a' w' => ∃ v, a' = a.put o.dst v ∧ PR v w' ∧ Gd w0 B g p0 cs (c + 1) w' ∧ w.grownBy w' (some g)) Q := by
  unfold Oper.wp
  rw [ho]
  refine hc.mono ?_
  rintro e w' ⟨v, rfl, h1, h2⟩
  exact ⟨v, rfl, h1, hG.kept h2, grown_below h2 _⟩
end
section
variable {ρ : Operand → Value} {w : World} {d : Option Tmp} {t : TypeId} {pos : String} {af : Array Edge} {gd : Option (Nat × Bool)} {x y : Operand}
end
end Go.Proofs.Ytkogmnjgpaocbaa
