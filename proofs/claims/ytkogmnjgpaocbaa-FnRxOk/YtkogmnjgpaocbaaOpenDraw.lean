/- Statements that draw, in whatever order: what picks, rows of numbers and boxes leave. -/
import Derived.Test.YtkogmnjgpaocbaaOpenAny
import Derived.Test.YtkogmnjgpaocbaaDrawBytes
import Derived.Test.YtkogmnjgpaocbaaBoxes
import Derived.Handy
namespace Go.Proofs.Ytkogmnjgpaocbaa
open Go.RowKit

/-- A number between two. -/
def PInt (lo hi : Int) (v : Value) : Prop := ∃ k : Int, v = .int .i64 k ∧ lo ≤ k ∧ k ≤ hi
/-- A new row of m numbers. -/
def PRow (g m : Nat) (lo hi : Int) (v : Value) (w : World) : Prop := ∃ b, v = .slice (some ⟨b, 0, none⟩) m m ∧ b ≠ g ∧ b < w.heap.size ∧ ∀ j, j < m → ∃ k : Int, w.cell? ⟨b, j, none⟩ = some (.int .i64 k) ∧ lo ≤ k ∧ k ≤ hi
/-- A place in a row of numbers. -/
def PCell (g : Nat) (lo hi : Int) (v : Value) (w : World) : Prop := ∃ b j, v = .pointer (some ⟨b, j, none⟩) ∧ b ≠ g ∧ b < w.heap.size ∧ ∃ k : Int, w.cell? ⟨b, j, none⟩ = some (.int .i64 k) ∧ lo ≤ k ∧ k ≤ hi
/-- A new box. -/
def PBox (B g : Nat) (cs : Array Value) (t : Nat) (v : Value) (w : World) : Prop := ∃ b, v = .pointer (some ⟨b, 0, none⟩) ∧ b ≠ g ∧ B ≤ b ∧ w.heap[b]? = some (.cells cs t (0, 0))
theorem grown_lt {w w' : World} {g b : Nat} (h : b < w.heap.size) (k : w.grownBy w' (some g)) : b < w'.heap.size := Nat.lt_of_lt_of_le h k.size
theorem PRow.mono {g m : Nat} {lo hi : Int} {v : Value} {w w' : World} (h : PRow g m lo hi v w) (k : w.grownBy w' (some g)) : PRow g m lo hi v w' := by
  obtain ⟨b, e, hg, hl, hc⟩ := h
  refine ⟨b, e, hg, grown_lt hl k, fun j hj => ?_⟩
  obtain ⟨x, h1, h2⟩ := hc j hj
  exact ⟨x, k.cell h1 (fun e => hg (Option.some.inj e)), h2⟩
theorem PCell.mono {g : Nat} {lo hi : Int} {v : Value} {w w' : World} (h : PCell g lo hi v w) (k : w.grownBy w' (some g)) : PCell g lo hi v w' := by
  obtain ⟨b, j, e, hg, hl, x, h1, h2⟩ := h
  exact ⟨b, j, e, hg, grown_lt hl k, x, k.cell h1 (fun e => hg (Option.some.inj e)), h2⟩
theorem PBox.mono {B g : Nat} {cs : Array Value} {t : Nat} {v : Value} {w w' : World} (h : PBox B g cs t v w) (k : w.grownBy w' (some g)) : PBox B g cs t v w' := by
  obtain ⟨b, e, hg, hB, hc⟩ := h
  exact ⟨b, e, hg, hB, (k.block b (Array.getElem?_eq_some_iff.1 hc).1 (fun e => hg (Option.some.inj e))).trans hc⟩
/-- Where the reader stands, at most so many places on. -/
def Gd (w0 : World) (B g p0 : Nat) (cs : List Nat) (c : Nat) (w : World) : Prop := ∃ p, p ≤ p0 + c ∧ Rdr w B g p cs ∧ w0.grownBy w (some g)
theorem Gd.more {w0 w : World} {B g p0 c : Nat} {cs : List Nat} (h : Gd w0 B g p0 cs c w) : Gd w0 B g p0 cs (c + 1) w := by
  obtain ⟨p, h1, h2⟩ := h
  exact ⟨p, by omega, h2⟩
theorem Gd.alloc {w0 w : World} {B g p0 c : Nat} {cs : List Nat} (h : Gd w0 B g p0 cs c w) (o : Obj) : Gd w0 B g p0 cs (c + 1) (w.alloc o) := by
  obtain ⟨p, h1, h2, h3⟩ := h
  exact ⟨p, by omega, h2.other (grown_alloc w o none) (fun q e => by cases e), grown_trans h3 (grown_alloc w o _)⟩
theorem Gd.lt {w0 w : World} {B g p0 c : Nat} {cs : List Nat} (h : Gd w0 B g p0 cs c w) : g < w.heap.size ∧ w0.heap.size ≤ w.heap.size := by
  obtain ⟨p, h1, h2, h3⟩ := h
  exact ⟨h2.lt, h3.size⟩

section
variable {Q : Exit → Act → World → Prop} {o : Oper} {a : Act} {w w0 : World} {B g p0 c : Nat} {cs : List Nat} {PR : Value → World → Prop}
theorem st_val {v : Value} (ho : (execOp a.eval o).run Try.prog w = .ok (.value v) w) (hG : Gd w0 B g p0 cs c w) (h : PR v w) :
    o.wp Try.prog a w (fun a' w' => ∃ v, a' = a.put o.dst v ∧ PR v w' ∧ Gd w0 B g p0 cs (c + 1) w' ∧ w.grownBy w' (some g)) Q := by
  unfold Oper.wp
  rw [ho]
  exact ⟨v, rfl, h, hG.more, grown_refl _ _⟩
theorem st_new {v : Value} {x : Obj} (ho : (execOp a.eval o).run Try.prog w = .ok (.value v) (w.alloc x)) (hG : Gd w0 B g p0 cs c w) (h : PR v (w.alloc x)) :
    o.wp Try.prog a w (fun a' w' => ∃ v, a' = a.put o.dst v ∧ PR v w' ∧ Gd w0 B g p0 cs (c + 1) w' ∧ w.grownBy w' (some g)) Q := by
  unfold Oper.wp
  rw [ho]
  exact ⟨v, rfl, h, hG.alloc x, grown_alloc _ _ _⟩
theorem st_pick {n : Int} (ho : (execOp a.eval o).run Try.prog w = .ok (.enter 71 #[.pointer (some ⟨g, 0, none⟩), .int .i64 n]) w) (hG : Gd w0 B g p0 cs c w) (hn : 1 ≤ n) (hp : p0 + c ≤ 1000000000) :
    o.wp Try.prog a w (fun a' w' => ∃ v, a' = a.put o.dst v ∧ PInt 0 (n - 1) v ∧ Gd w0 B g p0 cs (c + 1) w' ∧ w.grownBy w' (some g)) Q := by
  obtain ⟨p, h1, h2, h3⟩ := hG
  unfold Oper.wp
  rw [ho]
  refine (pick_any B g p cs n w h2 (by omega) hn).mono ?_
  rintro e w' ⟨k, rfl, hk, r, gr⟩
  exact ⟨_, rfl, ⟨k, rfl, by omega, by omega⟩, ⟨p + 1, by omega, r, grown_trans h3 gr⟩, gr⟩
end

section
variable {ρ : Operand → Value} {w : World} {d : Option Tmp} {t : TypeId} {pos : String} {af : Array Edge} {gd : Option (Nat × Bool)} {x y : Operand}
theorem run_move {v : Value} (h : ρ x = v) : (execOp ρ ⟨d, .move x, t, pos, af, gd⟩).run Try.prog w = .ok (.value v) w := by
  simp [execOp, h]
theorem run_assign {v : Value} (h : ρ x = v) : (execOp ρ ⟨d, .assign x, t, pos, af, gd⟩).run Try.prog w = .ok (.value v) w := by
  simp [execOp, h]
theorem run_call {u v : Value} {ty : Array TypeId} (hf : ρ (.func 71) = .func (.func 71) #[] #[]) (h1 : ρ x = u) (h2 : ρ y = v) : (execOp ρ ⟨d, .call { callee := .value (.func 71), args := #[x, y], argTypes := ty }, t, pos, af, gd⟩).run Try.prog w = .ok (.enter 71 #[u, v]) w := by
  have hc : ∀ args w, (callFunc 71 args).run Try.prog w = .ok (.enter 71 args) w := fun args w => by kernel_rfl
  simp [execOp, resolve, invoke, hf, h1, h2, hc, go_sem]
theorem run_add {a b : Int} (h1 : ρ x = .int .i64 a) (h2 : ρ y = .int .i64 b) (hb : -1000000 ≤ a ∧ a ≤ 1000000 ∧ -1000000 ≤ b ∧ b ≤ 1000000) : (execOp ρ ⟨d, .binOp .add 3 x y 3, t, pos, af, gd⟩).run Try.prog w = .ok (.value (.int .i64 (a + b))) w := by
  simp [execOp, h1, h2, go_sem]
  rw [IntKind.wrap_i64]; omega
theorem run_sub {a b : Int} (h1 : ρ x = .int .i64 a) (h2 : ρ y = .int .i64 b) (hb : -1000000 ≤ a ∧ a ≤ 1000000 ∧ -1000000 ≤ b ∧ b ≤ 1000000) : (execOp ρ ⟨d, .binOp .sub 3 x y 3, t, pos, af, gd⟩).run Try.prog w = .ok (.value (.int .i64 (a - b))) w := by
  simp [execOp, h1, h2, go_sem]
  rw [IntKind.wrap_i64]; omega
theorem run_mul {a : Int} (h1 : ρ x = .int .i64 a) (h2 : ρ y = .int .i64 256) (hb : -1000000 ≤ a ∧ a ≤ 1000000) : (execOp ρ ⟨d, .binOp .mul 3 x y 3, t, pos, af, gd⟩).run Try.prog w = .ok (.value (.int .i64 (a * 256))) w := by
  simp [execOp, h1, h2, go_sem]
  rw [IntKind.wrap_i64]; omega
theorem run_load {b j : Nat} {v : Value} (h1 : ρ x = .pointer (some ⟨b, j, none⟩)) (h2 : w.cell? ⟨b, j, none⟩ = some v) : (execOp ρ ⟨d, .load 3 x, t, pos, af, gd⟩).run Try.prog w = .ok (.value v) w := by
  simp [execOp, h1, h2, go_sem]
theorem run_index {b m i : Nat} (h1 : ρ x = .slice (some ⟨b, 0, none⟩) m m) (h2 : ρ y = .int .i64 (i : Int)) (hi : i < m) : (execOp ρ ⟨d, .indexAddr 102 x y, t, pos, af, gd⟩).run Try.prog w = .ok (.value (.pointer (some ⟨b, i, none⟩))) w := by
  simp [execOp, h1, h2, go_sem]
  intro hx
  omega
theorem run_conv {k : Int} (h1 : ρ x = .int .i64 k) (hb : 0 ≤ k ∧ k < 256) : (execOp ρ ⟨d, .convert 3 5 x, t, pos, af, gd⟩).run Try.prog w = .ok (.value (.int .u8 k)) w := by
  have hw : IntKind.u8.wrap k = k := by rw [IntKind.wrap_u8']; omega
  simp [execOp, h1, hw, go_sem]
theorem run_build2 {x0 x1 : Operand} {k0 k1 : Int} (h0 : ρ x0 = .int .i64 k0) (h1 : ρ x1 = .int .i64 k1) : (execOp ρ ⟨d, .buildSlice 102 2 #[(0, x0), (1, x1)], t, pos, af, gd⟩).run Try.prog w = .ok (.value (.slice (some ⟨w.heap.size, 0, none⟩) 2 2)) (w.alloc (.cells #[.int .i64 k0, .int .i64 k1] 3)) := by
  simp [execOp, h0, h1, go_sem]
theorem run_build3 {x0 x1 x2 : Operand} {k0 k1 k2 : Int} (h0 : ρ x0 = .int .i64 k0) (h1 : ρ x1 = .int .i64 k1) (h2 : ρ x2 = .int .i64 k2) : (execOp ρ ⟨d, .buildSlice 102 3 #[(0, x0), (1, x1), (2, x2)], t, pos, af, gd⟩).run Try.prog w = .ok (.value (.slice (some ⟨w.heap.size, 0, none⟩) 3 3)) (w.alloc (.cells #[.int .i64 k0, .int .i64 k1, .int .i64 k2] 3)) := by
  simp [execOp, h0, h1, h2, go_sem]
theorem run_build4 {x0 x1 x2 x3 : Operand} {k0 k1 k2 k3 : Int} (h0 : ρ x0 = .int .i64 k0) (h1 : ρ x1 = .int .i64 k1) (h2 : ρ x2 = .int .i64 k2) (h3 : ρ x3 = .int .i64 k3) : (execOp ρ ⟨d, .buildSlice 102 4 #[(0, x0), (1, x1), (2, x2), (3, x3)], t, pos, af, gd⟩).run Try.prog w = .ok (.value (.slice (some ⟨w.heap.size, 0, none⟩) 4 4)) (w.alloc (.cells #[.int .i64 k0, .int .i64 k1, .int .i64 k2, .int .i64 k3] 3)) := by
  simp [execOp, h0, h1, h2, h3, go_sem]
theorem run_build5 {x0 x1 x2 x3 x4 : Operand} {k0 k1 k2 k3 k4 : Int} (h0 : ρ x0 = .int .i64 k0) (h1 : ρ x1 = .int .i64 k1) (h2 : ρ x2 = .int .i64 k2) (h3 : ρ x3 = .int .i64 k3) (h4 : ρ x4 = .int .i64 k4) : (execOp ρ ⟨d, .buildSlice 102 5 #[(0, x0), (1, x1), (2, x2), (3, x3), (4, x4)], t, pos, af, gd⟩).run Try.prog w = .ok (.value (.slice (some ⟨w.heap.size, 0, none⟩) 5 5)) (w.alloc (.cells #[.int .i64 k0, .int .i64 k1, .int .i64 k2, .int .i64 k3, .int .i64 k4] 3)) := by
  simp [execOp, h0, h1, h2, h3, h4, go_sem]
theorem run_build7 {x0 x1 x2 x3 x4 x5 x6 : Operand} {k0 k1 k2 k3 k4 k5 k6 : Int} (h0 : ρ x0 = .int .i64 k0) (h1 : ρ x1 = .int .i64 k1) (h2 : ρ x2 = .int .i64 k2) (h3 : ρ x3 = .int .i64 k3) (h4 : ρ x4 = .int .i64 k4) (h5 : ρ x5 = .int .i64 k5) (h6 : ρ x6 = .int .i64 k6) : (execOp ρ ⟨d, .buildSlice 102 7 #[(0, x0), (1, x1), (2, x2), (3, x3), (4, x4), (5, x5), (6, x6)], t, pos, af, gd⟩).run Try.prog w = .ok (.value (.slice (some ⟨w.heap.size, 0, none⟩) 7 7)) (w.alloc (.cells #[.int .i64 k0, .int .i64 k1, .int .i64 k2, .int .i64 k3, .int .i64 k4, .int .i64 k5, .int .i64 k6] 3)) := by
  simp [execOp, h0, h1, h2, h3, h4, h5, h6, go_sem]
theorem run_struct5 {a b c e f : Operand} {A B C E F : Int} (h1 : ρ a = .int .i64 A) (h2 : ρ b = .int .i64 B) (h3 : ρ c = .int .i64 C) (h4 : ρ e = .int .i64 E) (h5 : ρ f = .int .i64 F) : (execOp ρ ⟨d, .build 53 #[(0, a), (1, b), (2, c), (3, e), (4, f)], t, pos, af, gd⟩).run Try.prog w = .ok (.value (.agg #[.int .i64 A, .int .i64 B, .int .i64 C, .int .i64 E, .int .i64 F])) w := by
  simp [execOp, h1, h2, h3, h4, h5, go_sem]
theorem run_alloc5 : (execOp ρ ⟨d, .alloc 53, t, pos, af, gd⟩).run Try.prog w = .ok (.value (.pointer (some ⟨w.heap.size, 0, none⟩))) (w.alloc (.cells #[.int .i64 0, .int .i64 0, .int .i64 0, .int .i64 0, .int .i64 0] 53)) := by
  simp [execOp, go_sem]
end
theorem grown_row {w wk : World} {r : Option Nat} (h : w.grownBy wk r) (b : Nat) (cs : Array Value) (hb : w.heap.size ≤ b) : w.grownBy (wk.setRow b cs) r :=
  have k := below_row (Below.refl w.heap.size wk) b cs hb
  ⟨k.os.trans h.os, k.tape.trans h.tape, k.output.trans h.output, Nat.le_trans h.size k.size, fun q hq hne => (k.block q hq).trans (h.block q hq hne)⟩
theorem grown_cell {w wk : World} {r : Option Nat} (h : w.grownBy wk r) (b f : Nat) (v : Value) (hb : w.heap.size ≤ b) : w.grownBy (wk.setCell ⟨b, f, none⟩ v) r :=
  have k := (Below.refl w.heap.size wk).setCell (p := ⟨b, f, none⟩) hb v
  ⟨k.os.trans h.os, k.tape.trans h.tape, k.output.trans h.output, Nat.le_trans h.size k.size, fun q hq hne => (k.block q hq).trans (h.block q hq hne)⟩
theorem Rdr.row {wk : World} {B g p : Nat} {zs : List Nat} (h : Rdr wk B g p zs) (b : Nat) (cs : Array Value) (hb : g < b) : Rdr (wk.setRow b cs) B g p zs := by
  have hB := h.1
  have k := below_row (Below.refl (g + 1) wk) b cs hb
  refine h.other (r := some b) ⟨k.os, k.tape, k.output, k.size, fun q _ hne => setRow_other wk b q cs (fun e => hne (by rw [e]))⟩ (fun q e => by cases e; omega)
theorem Rdr.cell {wk : World} {B g p : Nat} {zs : List Nat} (h : Rdr wk B g p zs) (b f : Nat) (v : Value) (hb : g < b) : Rdr (wk.setCell ⟨b, f, none⟩ v) B g p zs := by
  have hB := h.1
  refine h.other (r := some b) ⟨rfl, rfl, rfl, by simp [World.setCell], fun k _ hk => Below.heap_setCell _ _ _ _ (fun e => hk (by rw [e]))⟩ (fun q e => by cases e; omega)
theorem Bo.grown {w w' : World} {b g : Nat} {cs : Array Value} (h : Bo w b cs) (k : w.grownBy w' (some g)) (hb : b ≠ g) : Bo w' b cs := by
  have e := k.block b h.1 (fun e => hb (Option.some.inj e))
  refine ⟨Nat.lt_of_lt_of_le h.1 k.size, fun j => ?_, fun j => ?_⟩
  · rw [← h.k j]; simp only [World.cell?]; rw [e]
  · rw [← h.f j]; simp only [World.frozen?]; rw [e]
theorem odd_none (g : Nat) (w : World) :
    Calls Try.prog 91 #[.pointer (some ⟨g, 0, none⟩), .int .i64 0] w fun e w' => e = .returned (.bool false) ∧ w' = w := by
  go_enter Try.func91, Try.ntmps91
  go_wp2
  go_ret
  exact ⟨rfl, rfl⟩
theorem odd_some (B g p : Nat) (zs : List Nat) (n : Int) (w : World) (h : Rdr w B g p zs) (hp : p ≤ 1000000000) (hn : 1 ≤ n) (hm : n < 1000000) :
    Calls Try.prog 91 #[.pointer (some ⟨g, 0, none⟩), .int .i64 n] w fun e w' => (∃ x, e = .returned (.bool x) ∧ (n = 1 → x = true)) ∧ Rdr w' B g (p + 1) zs ∧ w.grownBy w' (some g) := by
  have h0 : 0 < n := by omega
  go_enter Try.func91, Try.ntmps91
  go_wp2_with (go_at_call 71; refine (pick_any B g p zs n w h hp hn).mono ?_; rintro e w' ⟨k, rfl, hk, r, gr⟩)
  all_goals
    go_ret
    refine ⟨⟨_, rfl, fun h1 => ?_⟩, r, gr⟩
    subst h1
    have hk0 : k = 0 := by omega
    subst hk0
    rfl
theorem odd_any (B g p : Nat) (zs : List Nat) (n : Nat) (w : World) (h : Rdr w B g p zs) (hp : p ≤ 900000000) (hm : n < 1000000) :
    Calls Try.prog 91 #[.pointer (some ⟨g, 0, none⟩), .int .i64 n] w fun e w' => ∃ x p', e = .returned (.bool x) ∧ (n = 0 → x = false) ∧ (n = 1 → x = true) ∧ p' ≤ p + 1 ∧ Rdr w' B g p' zs ∧ w.grownBy w' (some g) := by
  by_cases h0 : n = 0
  · subst h0
    refine (odd_none g w).mono ?_
    rintro e w' ⟨rfl, rfl⟩
    exact ⟨false, p, rfl, fun _ => rfl, fun h => absurd h (by omega), by omega, h, grown_refl _ _⟩
  · refine (odd_some B g p zs n w h (by omega) (by omega) (by omega)).mono ?_
    rintro e w' ⟨⟨x, rfl, hx⟩, r, gr⟩
    exact ⟨x, p + 1, rfl, fun h => absurd h h0, fun h => hx (by omega), by omega, r, gr⟩
end Go.Proofs.Ytkogmnjgpaocbaa
