/- The reader of a code: what a pick leaves, and that it answers a number below what was asked. -/
import Derived.Test.YtkogmnjgpaocbaaAppend
import Derived.Test.YtkogmnjgpaocbaaIn
namespace Go.Proofs.Ytkogmnjgpaocbaa
open Go.RowKit

/-- The slice v reads as zs, in memory below block B. -/
def RdB (w : World) (B : Nat) (v : Value) (zs : List Nat) : Prop :=
  Byt zs ∧ zs.length ≤ 2000 ∧ ((zs = [] ∧ ∃ a c, v = .slice a 0 c) ∨
    ∃ b off cap, v = .slice (some ⟨b, off, none⟩) zs.length cap ∧ b < B ∧ ∀ j, j < zs.length → w.cell? ⟨b, off + j, none⟩ = some (.int .u8 ((zs.getD j 0 : Nat) : Int)))
/-- The reader at block g stands at place p of the code zs, which lies below block B. -/
def Rdr (w : World) (B g p : Nat) (zs : List Nat) : Prop :=
  B ≤ g ∧ ∃ v t, RdB w B v zs ∧ w.heap[g]? = some (.cells #[v, .int .i64 (p : Int)] t (0, 0))
theorem RdB.kept {w w' : World} {B : Nat} {v : Value} {zs : List Nat} (h : RdB w B v zs) (hb : Below B w w') : RdB w' B v zs := by
  obtain ⟨h1, h2, h3⟩ := h
  refine ⟨h1, h2, ?_⟩
  rcases h3 with h3 | ⟨b, off, cap, e, h4, h5⟩
  · exact .inl h3
  · exact .inr ⟨b, off, cap, e, h4, fun j hj => (hb.cell (p := ⟨b, off + j, none⟩) h4).trans (h5 j hj)⟩
theorem Rdr.cells {w : World} {B g p : Nat} {zs : List Nat} (h : Rdr w B g p zs) : ∃ v, RdB w B v zs ∧ w.cell? ⟨g, 0, none⟩ = some v ∧ w.cell? ⟨g, 1, none⟩ = some (.int .i64 (p : Int)) ∧ w.frozen? ⟨g, 1, none⟩ = false := by
  obtain ⟨_, v, t, h1, h2⟩ := h
  exact ⟨v, h1, cell_of_row w g 0 _ t _ h2, cell_of_row w g 1 _ t _ h2, frozen_of_row w g 1 _ t h2⟩
/-- The reader is one place on. -/
def World.on (w : World) (g p : Nat) : World := w.setCell ⟨g, 1, none⟩ (.int .i64 ((p : Int) + 1))
theorem Rdr.next {w : World} {B g p : Nat} {zs : List Nat} (h : Rdr w B g p zs) (n : Nat) : Rdr ((w.setCell ⟨g, 1, none⟩ (.int .i64 ((p : Int) + 1))).drewN n) B g (p + 1) zs := by
  obtain ⟨h0, v, t, h1, h2⟩ := h
  refine ⟨h0, v, t, h1.kept (below_drewN ((Below.refl _ _).setCell h0 _) n), ?_⟩
  have := heap_setCell_same w g 1 _ t (.int .i64 ((p : Int) + 1)) h2
  rw [World.heap_drewN, this]
  rfl
theorem Rdr.grown {w : World} {g : Nat} (n : Nat) (u : Value) : w.grownBy ((w.setCell ⟨g, 1, none⟩ u).drewN n) (some g) :=
  ⟨rfl, rfl, rfl, by simp [World.setCell], fun k _ hk => Below.heap_setCell _ _ _ _ (fun e => hk (by rw [e]))⟩

set_option maxRecDepth 100000 in
set_option maxHeartbeats 2000000 in
theorem pick_zero (B g p : Nat) (zs : List Nat) (n : Int) (w : World) (h : Rdr w B g p zs) (hp : p ≤ 1000000000) (hn : n < 1) :
    Calls Try.prog 71 #[.pointer (some ⟨g, 0, none⟩), .int .i64 n] w fun e w' => e = .returned (.int .i64 0) ∧ ∃ m, w' = (w.setCell ⟨g, 1, none⟩ (.int .i64 ((p : Int) + 1))).drewN m := by
  obtain ⟨v, h1, c0, c1, f1⟩ := h.cells
  go_enter Try.func71, Try.ntmps71
  go_wp2
  go_ret
  exact ⟨rfl, 0, rfl⟩

set_option maxRecDepth 100000 in
set_option maxHeartbeats 2000000 in
theorem pick_empty (B g p : Nat) (n : Int) (w : World) (h : Rdr w B g p []) (hp : p ≤ 1000000000) (hn : 1 ≤ n) :
    Calls Try.prog 71 #[.pointer (some ⟨g, 0, none⟩), .int .i64 n] w fun e w' => e = .returned (.int .i64 0) ∧ ∃ m, w' = (w.setCell ⟨g, 1, none⟩ (.int .i64 ((p : Int) + 1))).drewN m := by
  obtain ⟨v, h1, c0, c1, f1⟩ := h.cells
  obtain ⟨a, c, rfl⟩ : ∃ a c, v = .slice a 0 c := by
    rcases h1.2.2 with ⟨_, a, c, rfl⟩ | ⟨b, off, cap, rfl, _⟩
    · exact ⟨_, _, rfl⟩
    · exact ⟨_, _, rfl⟩
  have hn' : ¬ n < 1 := by omega
  go_enter Try.func71, Try.ntmps71
  go_wp2
  go_ret
  exact ⟨rfl, 0, rfl⟩

set_option maxRecDepth 100000 in
set_option maxHeartbeats 2000000 in
theorem pick_here (B g p : Nat) (zs : List Nat) (n : Int) (w : World) (h : Rdr w B g p zs) (hn : 1 ≤ n) (hl : p < zs.length) :
    Calls Try.prog 71 #[.pointer (some ⟨g, 0, none⟩), .int .i64 n] w fun e w' => (∃ k : Nat, e = .returned (.int .i64 (k : Int)) ∧ (k : Int) < n) ∧ ∃ m, w' = (w.setCell ⟨g, 1, none⟩ (.int .i64 ((p : Int) + 1))).drewN m := by
  obtain ⟨v, h1, c0, c1, f1⟩ := h.cells
  have hB := h.1
  have hlen := h1.2.1
  have hbyte := h1.1.get p
  rcases h1.2.2 with ⟨rfl, _⟩ | ⟨b, off, cap, rfl, hb, hc⟩
  · simp at hl
  have hn' : ¬ n < 1 := by omega
  have c2 : (w.setCell ⟨g, 1, none⟩ (.int .i64 ((p : Int) + 1))).cell? ⟨b, off + p, none⟩ = some (.int .u8 ((zs.getD p 0 : Nat) : Int)) := by
    rw [((Below.refl _ _).setCell (B := B) hB _).cell hb]; exact hc p hl
  have hne : ((zs.length : Int) == 0) = false := beq_eq_false_iff_ne.2 (by omega)
  have hlt : (p : Int) < (zs.length : Int) := by omega
  have hmod : 0 ≤ ((zs.getD p 0 : Nat) : Int) % n ∧ ((zs.getD p 0 : Nat) : Int) % n < n := ⟨Int.emod_nonneg _ (by omega), Int.emod_lt_of_pos _ (by omega)⟩
  generalize zs.getD p 0 = x at *
  obtain ⟨k, hk⟩ := Int.eq_ofNat_of_zero_le hmod.1
  have HK : Hid ((x : Int) % n = (k : Int)) := hk
  have HL : Hid ((k : Int) < n) := by show _ < _; omega
  clear hc h1 hk hmod
  go_enter Try.func71, Try.ntmps71
  go_wp2
  go_ret
  exact ⟨⟨k, ret_int HK.out, HL.out⟩, 0, rfl⟩

theorem far_mod (X n : Int) (h : 0 ≤ X) (hX : X < 1000000000000) (hn : 1 ≤ n) : ∃ k : Nat, (bits .xor .i64 X (X / 64)).tmod n = (k : Int) ∧ (k : Int) < n := by
  obtain ⟨x, rfl⟩ := Int.eq_ofNat_of_zero_le h
  have e : bits .xor .i64 (x : Int) ((x : Int) / 64) = ((x ^^^ x / 64 : Nat) : Int) := i64_xor_nat x (x / 64) (by omega) (by omega)
  rw [e]
  obtain ⟨m, rfl⟩ := Int.eq_ofNat_of_zero_le (show 0 ≤ n by omega)
  refine ⟨(x ^^^ x / 64) % m, rfl, ?_⟩
  have := Nat.mod_lt (x ^^^ x / 64) (show 0 < m by omega)
  omega

set_option maxRecDepth 100000 in
set_option maxHeartbeats 4000000 in
theorem pick_far (B g p : Nat) (zs : List Nat) (n : Int) (w : World) (h : Rdr w B g p zs) (hp : p ≤ 1000000000) (hn : 1 ≤ n) (hl : zs.length ≤ p) (h0 : 0 < zs.length) :
    Calls Try.prog 71 #[.pointer (some ⟨g, 0, none⟩), .int .i64 n] w fun e w' => (∃ k : Nat, e = .returned (.int .i64 (k : Int)) ∧ (k : Int) < n) ∧ ∃ m, w' = (w.setCell ⟨g, 1, none⟩ (.int .i64 ((p : Int) + 1))).drewN m := by
  obtain ⟨v, h1, c0, c1, f1⟩ := h.cells
  have hB := h.1
  have hlen := h1.2.1
  have i1l : p % zs.length < zs.length := Nat.mod_lt _ h0
  have i2l : (p * 7 + 3) % zs.length < zs.length := Nat.mod_lt _ h0
  have ql : p / zs.length ≤ p := Nat.div_le_self _ _
  have e1 : (p : Int) % (zs.length : Int) = ((p % zs.length : Nat) : Int) := rfl
  have e2 : ((p : Int) * 7 + 3) % (zs.length : Int) = (((p * 7 + 3) % zs.length : Nat) : Int) := rfl
  have e3 : (p : Int) / (zs.length : Int) = ((p / zs.length : Nat) : Int) := rfl
  have b1 := h1.1.get (p % zs.length)
  have b2 := h1.1.get ((p * 7 + 3) % zs.length)
  rcases h1.2.2 with ⟨rfl, _⟩ | ⟨b, off, cap, rfl, hb, hc⟩
  · simp at h0
  have d1 := hc _ i1l
  have d2 := hc _ i2l
  clear hc
  generalize zs.getD (p % zs.length) 0 = x1 at *
  generalize zs.getD ((p * 7 + 3) % zs.length) 0 = x2 at *
  generalize p % zs.length = i1 at *
  generalize (p * 7 + 3) % zs.length = i2 at *
  generalize p / zs.length = q at *
  have hn' : ¬ n < 1 := by omega
  have c2 : (w.setCell ⟨g, 1, none⟩ (.int .i64 ((p : Int) + 1))).cell? ⟨b, off + i1, none⟩ = some (.int .u8 (x1 : Int)) := by
    rw [((Below.refl _ _).setCell (B := B) hB _).cell hb]; exact d1
  have c3 : (w.setCell ⟨g, 1, none⟩ (.int .i64 ((p : Int) + 1))).cell? ⟨b, off + i2, none⟩ = some (.int .u8 (x2 : Int)) := by
    rw [((Below.refl _ _).setCell (B := B) hB _).cell hb]; exact d2
  have hne : ((zs.length : Int) == 0) = false := beq_eq_false_iff_ne.2 (by omega)
  have hlt : ¬ (p : Int) < (zs.length : Int) := by omega
  have j1 : (i1 : Int) < (zs.length : Int) := by omega
  have j2 : (i2 : Int) < (zs.length : Int) := by omega
  have hlp : (0 : Int) < (zs.length : Int) := by omega
  clear h1 d1 d2 h
  go_enter Try.func71, Try.ntmps71
  go_wp2
  go_quiet (fail)
  go_wp2
  go_ret
  obtain ⟨k, hk, hk2⟩ := far_mod ((x1 : Int) * 131 + (x2 : Int) * 1117 + (p : Int) * 29 + (q : Int) * 53) n (by omega) (by omega) hn
  exact ⟨⟨k, ret_int hk, hk2⟩, nq, rfl⟩

/-- A pick answers a number below what was asked; the reader is one place on, and nothing else has turned. -/
theorem pick_any (B g p : Nat) (zs : List Nat) (n : Int) (w : World) (h : Rdr w B g p zs) (hp : p ≤ 1000000000) (hn : 1 ≤ n) :
    Calls Try.prog 71 #[.pointer (some ⟨g, 0, none⟩), .int .i64 n] w fun e w' => ∃ k : Nat, e = .returned (.int .i64 (k : Int)) ∧ (k : Int) < n ∧ Rdr w' B g (p + 1) zs ∧ w.grownBy w' (some g) := by
  by_cases h0 : zs.length = 0
  · obtain rfl := List.length_eq_zero_iff.1 h0
    refine (pick_empty B g p n w h hp hn).mono ?_
    rintro e w1 ⟨rfl, m, rfl⟩
    exact ⟨0, rfl, by omega, h.next m, Rdr.grown m _⟩
  · by_cases hl : p < zs.length
    · refine (pick_here B g p zs n w h hn hl).mono ?_
      rintro e w1 ⟨⟨k, rfl, hk⟩, m, rfl⟩
      exact ⟨k, rfl, hk, h.next m, Rdr.grown m _⟩
    · refine (pick_far B g p zs n w h hp hn (by omega) (by omega)).mono ?_
      rintro e w1 ⟨⟨k, rfl, hk⟩, m, rfl⟩
      exact ⟨k, rfl, hk, h.next m, Rdr.grown m _⟩
theorem pick_none (B g p : Nat) (zs : List Nat) (n : Int) (w : World) (h : Rdr w B g p zs) (hp : p ≤ 1000000000) (hn : n < 1) :
    Calls Try.prog 71 #[.pointer (some ⟨g, 0, none⟩), .int .i64 n] w fun e w' => e = .returned (.int .i64 0) ∧ Rdr w' B g (p + 1) zs ∧ w.grownBy w' (some g) := by
  refine (pick_zero B g p zs n w h hp hn).mono ?_
  rintro e w1 ⟨rfl, m, rfl⟩
  exact ⟨rfl, h.next m, Rdr.grown m _⟩

/-! What stays, and what goes on. -/
theorem grown_refl (w : World) (r : Option Nat) : w.grownBy w r := ⟨rfl, rfl, rfl, Nat.le_refl _, fun _ _ _ => rfl⟩
theorem grown_trans {w w1 w2 : World} {r : Option Nat} (h : w.grownBy w1 r) (k : w1.grownBy w2 r) : w.grownBy w2 r :=
  ⟨k.os.trans h.os, k.tape.trans h.tape, k.output.trans h.output, Nat.le_trans h.size k.size, fun q hq hne => (k.block q (Nat.lt_of_lt_of_le hq h.size) hne).trans (h.block q hq hne)⟩
theorem grown_alloc (w : World) (o : Obj) (r : Option Nat) : w.grownBy (w.alloc o) r :=
  ⟨rfl, rfl, rfl, by simp, fun k hk _ => Below.heap_alloc _ _ _ hk⟩
/-- A step that writes a row made since is a step that writes none of the old ones. -/
theorem grown_new {w w1 w2 : World} {r r' : Option Nat} (h : w.grownBy w1 r) (k : w1.grownBy w2 r') (hr : ∀ q, r' = some q → w.heap.size ≤ q) : w.grownBy w2 r :=
  ⟨k.os.trans h.os, k.tape.trans h.tape, k.output.trans h.output, Nat.le_trans h.size k.size, fun q hq hne => (k.block q (Nat.lt_of_lt_of_le hq h.size) (fun e => by have := hr q e.symm; omega)).trans (h.block q hq hne)⟩
theorem Rdr.lt {w : World} {B g p : Nat} {zs : List Nat} (h : Rdr w B g p zs) : g < w.heap.size := by
  obtain ⟨_, v, t, _, h2⟩ := h
  exact (Array.getElem?_eq_some_iff.1 h2).1
/-- The reader stays where another row, not below B, is written. -/
theorem Rdr.other {w w' : World} {B g p : Nat} {zs : List Nat} {r : Option Nat} (h : Rdr w B g p zs) (k : w.grownBy w' r) (hr : ∀ q, r = some q → B ≤ q ∧ q ≠ g) : Rdr w' B g p zs := by
  have hlt := h.lt
  obtain ⟨h0, v, t, h1, h2⟩ := h
  refine ⟨h0, v, t, h1.kept ⟨k.os, k.tape, k.output, k.size, fun q hq => k.block q (by omega) (fun e => by have := (hr q e.symm).1; omega)⟩, ?_⟩
  rw [k.block g hlt (fun e => (hr g e.symm).2 rfl)]
  exact h2
theorem Rdr.drew {w : World} {B g p : Nat} {zs : List Nat} (h : Rdr w B g p zs) : Rdr w.drew B g p zs :=
  h.other (r := none) ⟨rfl, rfl, rfl, Nat.le_refl _, fun _ _ _ => rfl⟩ (fun q e => by cases e)
theorem ownsRow_mono {w : World} {B B' : Nat} {v : Value} {zs : List Nat} (h : Own w B v zs) (hb : B' ≤ B) : Own w B' v zs := by
  refine ⟨h.1, ?_⟩
  rcases h.2 with h1 | ⟨g, cap, cur, e, h1, h2⟩
  · exact .inl h1
  · exact .inr ⟨g, cap, cur, e, Nat.le_trans hb h1, h2⟩
theorem Own.since {w w' : World} {B : Nat} {v : Value} {zs : List Nat} {r : Option Nat} (h : Own w B v zs) (k : w.grownBy w' r) (hr : ∀ q, r = some q → q < B) : Own w' B v zs :=
  World.ownsRow.kept h k (by
    cases e : v.ownBlock with
    | none => exact .inl rfl
    | some q => exact .inr (fun e' => by
        have := (World.ownsRow.lt h q e).1
        have := hr q e'.symm
        omega))
end Go.Proofs.Ytkogmnjgpaocbaa
