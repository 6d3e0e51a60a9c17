/- Laws and contracts that the proof stands on: In, Bytes, Boxes, Cfg, LiOk, Append, FrmMath, OwnMore, Piece, Dat, IsNum, Num, NumNext, Pieces, RdMore, PieceNew, Box, ImplSegCut, SpecSegCut, SpecFrm. -/
import Derived.Test.YtdjadeegjbhihaaRows
import Derived.WalkKit
import Derived.WalkLawsBesides
import Derived.WalkSpells
import Derived.WalkSmall
import Derived.Deep.OwnRows
import Derived.Deep.QuietTactic
import Derived.BigQuiet
import Derived.Laws.Tables
import Derived.Deep.Light
import Derived.Laws.StructEq
import Derived.Handy
import Derived.Laws.AppendOwnNone
/- Whether a number lies between two bounds: the specification's own test. -/
namespace Go.Proofs.Ytdjadeegjbhihaa
open Go.RowKit

def inB (n lo hi : Int) : Bool := decide (lo ≤ n) && decide (n ≤ hi)
theorem inB_iff (n lo hi : Int) : inB n lo hi = true ↔ lo ≤ n ∧ n ≤ hi := by simp [inB]
theorem inB_not (n lo hi : Int) : inB n lo hi = false ↔ n < lo ∨ hi < n := by
  rw [← Bool.not_eq_true, inB_iff]; omega
theorem ret_bool {a b : Bool} (h : a = b) : Ending.returned (.bool a) = .returned (.bool b) := by rw [h]
theorem ret_int {k : IntKind} {a b : Int} (h : a = b) : Ending.returned (.int k a) = .returned (.int k b) := by rw [h]

theorem i64_xor_nat (a b : Nat) (ha : a < 9223372036854775808) (hb : b < 9223372036854775808) : bits .xor .i64 (a : Int) (b : Int) = ((a ^^^ b : Nat) : Int) := by
  have hx : a ^^^ b < 2 ^ 63 := Nat.xor_lt_two_pow (by omega) (by omega)
  have h1 : (BitVec.ofInt 64 (a : Int)).toNat = a := by
    rw [BitVec.ofInt_natCast, BitVec.toNat_ofNat]; exact Nat.mod_eq_of_lt (by omega)
  have h2 : (BitVec.ofInt 64 (b : Int)).toNat = b := by
    rw [BitVec.ofInt_natCast, BitVec.toNat_ofNat]; exact Nat.mod_eq_of_lt (by omega)
  show IntKind.i64.wrap ((BitVec.ofInt 64 (a : Int) ^^^ BitVec.ofInt 64 (b : Int)).toNat : Int) = _
  rw [BitVec.toNat_xor, h1, h2]
  simp [IntKind.wrap, IntKind.bits, IntKind.signed]
  omega
theorem in_yes (n lo hi : Int) (h1 : lo ≤ n) (h2 : n ≤ hi) (w : World) :
    Calls Try.prog 40 #[.int .i64 n, .int .i64 lo, .int .i64 hi] w fun e w' => e = .returned (.bool true) ∧ w' = w := by
  go_enter Try.func40, Try.ntmps40
  go_wp2
  go_ret
  exact ⟨rfl, rfl⟩
theorem in_low (n lo hi : Int) (h1 : n < lo) (w : World) :
    Calls Try.prog 40 #[.int .i64 n, .int .i64 lo, .int .i64 hi] w fun e w' => e = .returned (.bool false) ∧ w' = w := by
  have h1' : ¬ lo ≤ n := by omega
  go_enter Try.func40, Try.ntmps40
  go_wp2
  go_ret
  exact ⟨rfl, rfl⟩
theorem in_high (n lo hi : Int) (h0 : lo ≤ n) (h1 : hi < n) (w : World) :
    Calls Try.prog 40 #[.int .i64 n, .int .i64 lo, .int .i64 hi] w fun e w' => e = .returned (.bool false) ∧ w' = w := by
  have h1' : ¬ n ≤ hi := by omega
  go_enter Try.func40, Try.ntmps40
  go_wp2
  go_ret
  exact ⟨rfl, rfl⟩
theorem in_no (n lo hi : Int) (h : n < lo ∨ hi < n) (w : World) :
    Calls Try.prog 40 #[.int .i64 n, .int .i64 lo, .int .i64 hi] w fun e w' => e = .returned (.bool false) ∧ w' = w := by
  by_cases h1 : n < lo
  · exact in_low n lo hi h1 w
  · exact in_high n lo hi (by omega) (by omega) w
theorem in_any (n lo hi : Int) (w : World) :
    Calls Try.prog 40 #[.int .i64 n, .int .i64 lo, .int .i64 hi] w fun e w' => e = .returned (.bool (inB n lo hi)) ∧ w' = w := by
  cases h : inB n lo hi
  · exact in_no n lo hi ((inB_not n lo hi).1 h) w
  · exact in_yes n lo hi ((inB_iff n lo hi).1 h).1 ((inB_iff n lo hi).1 h).2 w
end Go.Proofs.Ytdjadeegjbhihaa

/- Lists of bytes in memory: what a slice reads as, what a call owns, and how both outlast later steps. -/
namespace Go.Proofs.Ytdjadeegjbhihaa
open Go.RowKit

theorem Try.infoB : (Try.prog.info? 5).map (fun i => (i.zero, i.size, i.bytes)) = some (some (.int .u8 0), 1, 1) := by kernel_rfl

/-- The cells of bytes. -/
def bcells (zs : List Nat) : List Value := zs.map fun z : Nat => Value.int .u8 (z : Int)
theorem bcells_length (zs : List Nat) : (bcells zs).length = zs.length := by simp [bcells]
theorem bcells_get (zs : List Nat) (j : Nat) (h : j < zs.length) : (bcells zs)[j]? = some (.int .u8 ((zs.getD j 0 : Nat) : Int)) := by
  simp [bcells, h]
theorem bcells_one (zs : List Nat) : ∀ u ∈ bcells zs, u.oneCell' = true := by
  intro u hu
  simp only [bcells, List.mem_map] at hu
  obtain ⟨z, _, rfl⟩ := hu
  rfl
theorem bcells_append (a b : List Nat) : bcells (a ++ b) = bcells a ++ bcells b := by simp [bcells]

/-- All are bytes. -/
def Byt (zs : List Nat) : Prop := ∀ z ∈ zs, z < 256
theorem Byt.get {zs : List Nat} (h : Byt zs) (j : Nat) : zs.getD j 0 < 256 := by
  by_cases hj : j < zs.length
  · rw [List.getD_eq_getElem?_getD, List.getElem?_eq_getElem hj]; exact h _ (List.getElem_mem hj)
  · rw [List.getD_eq_getElem?_getD, List.getElem?_eq_none (by omega)]; simp
theorem Byt.take {zs : List Nat} (h : Byt zs) (n : Nat) : Byt (zs.take n) := fun z hz => h z (List.mem_of_mem_take hz)

/-- The slice v reads, in w, as the bytes zs. -/
def Rd (w : World) (v : Value) (zs : List Nat) : Prop :=
  Byt zs ∧ zs.length ≤ 2000000 ∧ ((zs = [] ∧ ∃ a c, v = .slice a 0 c ∧ (a = none → c = 0)) ∨
    ∃ b off cap, v = .slice (some ⟨b, off, none⟩) zs.length cap ∧ zs.length ≤ cap ∧ cap ≤ maxLen ∧ b < w.heap.size ∧ ∀ j, j < zs.length → w.cell? ⟨b, off + j, none⟩ = some (.int .u8 ((zs.getD j 0 : Nat) : Int)))
/-- The call owns, from block B on, the row of bytes zs. -/
def Own (w : World) (B : Nat) (v : Value) (zs : List Nat) : Prop := w.ownsRow B 5 1 v zs.length (bcells zs)

theorem Rd.kept {w w' : World} {v : Value} {zs : List Nat} (h : Rd w v zs) (hb : Below w.heap.size w w') : Rd w' v zs := by
  obtain ⟨h1, h2, h3⟩ := h
  refine ⟨h1, h2, ?_⟩
  rcases h3 with h3 | ⟨b, off, cap, e, h4, h5, h6, h7⟩
  · exact .inl h3
  · exact .inr ⟨b, off, cap, e, h4, h5, Nat.lt_of_lt_of_le h6 hb.size, fun j hj => (hb.cell (p := ⟨b, off + j, none⟩) h6).trans (h7 j hj)⟩
theorem Own.rd {w : World} {B : Nat} {v : Value} {zs : List Nat} (h : Own w B v zs) (hz : Byt zs) (hl : zs.length ≤ 2000000) : Rd w v zs := by
  refine ⟨hz, hl, ?_⟩
  have h0 := h
  rcases h.2 with ⟨e, h1⟩ | ⟨g, cap, cur, e, _, h2, h3, h4, _, _⟩
  · exact .inl ⟨List.length_eq_zero_iff.1 h1, _, _, e, fun _ => rfl⟩
  · refine .inr ⟨g, 0, cap, e, h3, h4, ?_, fun j hj => ?_⟩
    · exact (h0.lt g (by rw [e]; rfl)).2
    · unfold Own at h0
      rw [e] at h0
      rw [Nat.zero_add, h0.cellAt j (by omega), bcells_get zs j hj]
theorem below_grown {w w' : World} (hb : Below w.heap.size w w') : w.grownBy w' none := ⟨hb.os, hb.tape, hb.output, hb.size, fun k hk _ => hb.block k hk⟩
theorem Own.kept {w w' : World} {B : Nat} {v : Value} {zs : List Nat} (h : Own w B v zs) (hb : Below w.heap.size w w') : Own w' B v zs :=
  World.ownsRow.kept h (below_grown hb) (by cases v.ownBlock <;> simp)
/-- What lies in other blocks stays behind a step that writes one row. -/
theorem Own.other {w w' : World} {B : Nat} {v u : Value} {zs : List Nat} (h : Own w B v zs) (hg : w.grownBy w' u.ownBlock) (hne : ∀ k, v.ownBlock = some k → u.ownBlock ≠ some k) : Own w' B v zs :=
  World.ownsRow.kept h hg (by
    cases e : v.ownBlock with
    | none => exact .inl rfl
    | some k => exact .inr (fun e' => hne k e e'.symm))
theorem bchain {w w1 w2 : World} (h : Below w.heap.size w w1) (k : Below w1.heap.size w1 w2) : Below w.heap.size w w2 := h.trans (k.mono h.size)
theorem below_drew {w : World} (n : Nat) : Below w.heap.size w (w.drewN n) := below_drewN (Below.refl _ _) n

/-- What the law's frame tells of a slice of integers that came in. -/
def IsRow (k : IntKind) (w : World) (a : Option Addr) (len cap : Nat) (zs : List Int) : Prop :=
  (a = none ∧ len = 0 ∧ cap = 0 ∧ zs = []) ∨
  ∃ x, a = some x ∧ len ≤ cap ∧ cap ≤ maxLen ∧ zs.length = cap ∧ (∀ i, i < zs.length → w.cell? (x.add i) = some (.int k (zs.getD i 0))) ∧ ∀ n ∈ zs, (Lit.int k n).wf = true
theorem wf_u8 {n : Int} (h : (Lit.int .u8 n).wf = true) : 0 ≤ n ∧ n < 256 := by
  simp [Lit.wf, IntKind.min, IntKind.max, IntKind.bits, IntKind.signed] at h
  omega
theorem IsRow.rd {w : World} {a : Option Addr} {len cap : Nat} {zs : List Int} (h : IsRow .u8 w a len cap zs) (hl : len ≤ 2000000) : ∃ bs : List Nat, Rd w (.slice a len cap) bs ∧ bs.length = len := by
  rcases h with ⟨rfl, rfl, rfl, rfl⟩ | ⟨x, rfl, h1, h2, h3, h4, h5⟩
  · exact ⟨[], ⟨fun z hz => by simp at hz, by simp, .inl ⟨rfl, _, _, rfl, fun _ => rfl⟩⟩, rfl⟩
  · have hlen : ((zs.take len).map Int.toNat).length = len := by simp; omega
    by_cases h0 : len = 0
    · subst h0
      exact ⟨[], ⟨fun z hz => by simp at hz, by simp, .inl ⟨rfl, _, _, rfl, fun h => by simp at h⟩⟩, rfl⟩
    · obtain ⟨b, off, spot⟩ := x
      have hc := h4 0 (by omega)
      have hspot : spot = none := by simpa [Addr.add] using World.cell?_spot hc
      subst hspot
      refine ⟨(zs.take len).map Int.toNat, ⟨?_, by omega, .inr ⟨b, off, cap, by rw [hlen], by omega, h2, ?_, ?_⟩⟩, hlen⟩
      · intro z hz
        simp only [List.mem_map] at hz
        obtain ⟨y, hy, rfl⟩ := hz
        have := wf_u8 (h5 y (List.mem_of_mem_take hy))
        omega
      · exact World.block_lt_of_cell? w _ hc
      · intro j hj
        rw [hlen] at hj
        have hj2 : j < zs.length := by omega
        have e := h4 j hj2
        have hb := wf_u8 (h5 (zs[j]) (List.getElem_mem hj2))
        have ea : (⟨b, off, none⟩ : Addr).add j = ⟨b, off + j, none⟩ := by
          by_cases h : j = 0
          · subst h; rfl
          · simp [Addr.add, h]
        rw [ea] at e
        rw [e]
        simp [hj2, hj]
        omega

/-- A row of bytes that is filled from its head on. -/
def part (zs : List Nat) (k : Nat) : List Value := bcells (zs.take k) ++ List.replicate (zs.length - k) (.int .u8 0)
theorem part_zero (zs : List Nat) : part zs 0 = List.replicate zs.length (.int .u8 0) := by simp [part, bcells]
theorem part_all (zs : List Nat) : part zs zs.length = bcells zs := by simp [part]
theorem part_length (zs : List Nat) (k : Nat) (h : k ≤ zs.length) : (part zs k).length = zs.length := by simp [part, bcells]; omega
theorem part_set (zs : List Nat) (k : Nat) (h : k < zs.length) : (part zs k).set k (.int .u8 ((zs.getD k 0 : Nat) : Int)) = part zs (k + 1) := by
  have e : List.replicate (zs.length - k) (Value.int .u8 0) = .int .u8 0 :: List.replicate (zs.length - (k + 1)) (Value.int .u8 0) := by
    rw [show zs.length - k = zs.length - (k + 1) + 1 from by omega, List.replicate_succ]
  have hl : (bcells (zs.take k)).length = k := by rw [bcells_length, List.length_take]; omega
  unfold part
  rw [e, List.set_append, if_neg (by omega), hl, Nat.sub_self, List.set_cons_zero, List.take_succ_eq_append_getElem h, bcells_append]
  simp [bcells, h]

theorem made_part {w : World} (zs : List Nat) (hl : zs.length ≤ 2000000) : (w.alloc (.cells (madeCells #[.int .u8 0] zs.length) 5)).ownsRow w.heap.size 5 1 (.slice (some ⟨w.heap.size, 0, none⟩) zs.length zs.length) zs.length (part zs 0) := by
  have := World.ownsRow_lit (base := w.heap.size) (e := 5) (size := 1) w (madeCells #[.int .u8 0] zs.length) zs.length (Nat.le_refl _) (by unfold maxLen; omega) (by simp [size_madeCells])
  rwa [toList_madeCells_one, ← part_zero] at this

end Go.Proofs.Ytdjadeegjbhihaa

/- Boxed variables, whatever lies in them: a block that holds these cells and may be written. -/
namespace Go.Proofs.Ytdjadeegjbhihaa
open Go.RowKit

/-- The block b holds these cells, and they may be written. -/
def Bo (w : World) (b : Nat) (cs : Array Value) : Prop := b < w.heap.size ∧ (∀ k, w.cell? ⟨b, k, none⟩ = cs[k]?) ∧ ∀ k, w.frozen? ⟨b, k, none⟩ = false
theorem Bo.kept {w w' : World} {b : Nat} {cs : Array Value} (h : Bo w b cs) (hb : Below w.heap.size w w') : Bo w' b cs :=
  ⟨Nat.lt_of_lt_of_le h.1 hb.size, fun k => (hb.cell (p := ⟨b, k, none⟩) h.1).trans (h.2.1 k), fun k => (hb.frozen (p := ⟨b, k, none⟩) h.1).trans (h.2.2 k)⟩
theorem Bo.k {w : World} {b : Nat} {cs : Array Value} (h : Bo w b cs) : ∀ k, w.cell? ⟨b, k, none⟩ = cs[k]? := h.2.1
theorem Bo.f {w : World} {b : Nat} {cs : Array Value} (h : Bo w b cs) : ∀ k, w.frozen? ⟨b, k, none⟩ = false := h.2.2
theorem bo_far {w : World} {p q : Addr} {x : Value} (h : p ≠ q) : (w.setCell p x).cell? q = w.cell? q := by
  apply World.cell?_setCell_other
  exact h
theorem bo_here {w : World} {p : Addr} {x u : Value} (h : w.cell? p = some u) : (w.setCell p x).cell? p = some x := by
  apply World.cell?_setCell_same
  exact h
theorem Bo.put {w : World} {b : Nat} {cs : Array Value} (h : Bo w b cs) (i : Nat) (hi : i < cs.size) (x : Value) : Bo (w.setCell ⟨b, i, none⟩ x) b (cs.setIfInBounds i x) := by
  refine ⟨by simpa using h.1, fun k => ?_, fun k => by simpa using h.2.2 k⟩
  by_cases e : k = i
  · subst e
    have : w.cell? ⟨b, k, none⟩ = some cs[k] := by rw [h.2.1 k]; exact Array.getElem?_eq_getElem hi
    rw [bo_here this]
    simp [hi]
  · rw [bo_far (by intro e'; simp only [Addr.mk.injEq] at e'; omega), h.2.1 k, Array.getElem?_setIfInBounds_ne (Ne.symm e)]
theorem bo_new (w : World) (cs : Array Value) (t : TypeId) : Bo (w.alloc (.cells cs t)) w.heap.size cs := ⟨by simp, fun k => by simp, fun k => by simp⟩
theorem bo_alloc (w : World) (o : Obj) : Below w.heap.size w (w.alloc o) := (Below.refl _ _).alloc (Nat.le_refl _) o
theorem bo1 (w : World) (cs1 : Array Value) (t1 : TypeId) :
    ∃ w0, w.alloc (.cells cs1 t1) = w0 ∧ Bo w0 w.heap.size cs1 ∧ Below w.heap.size w w0 ∧ w.heap.size + 1 ≤ w0.heap.size := ⟨_, rfl, bo_new _ _ _, bo_alloc _ _, by simp⟩
theorem bo2 (w : World) (cs1 : Array Value) (t1 : TypeId) (cs2 : Array Value) (t2 : TypeId) :
    ∃ w0, (w.alloc (.cells cs1 t1)).alloc (.cells cs2 t2) = w0 ∧ Bo w0 w.heap.size cs1 ∧ Bo w0 (w.heap.size + 1) cs2 ∧ Below w.heap.size w w0 ∧ w.heap.size + 2 ≤ w0.heap.size := by
  refine ⟨_, rfl, (bo_new w cs1 t1).kept (bo_alloc _ _), ?_, bchain (bo_alloc _ _) (bo_alloc _ _), by simp⟩
  have := bo_new (w.alloc (.cells cs1 t1)) cs2 t2
  simpa using this
theorem bo3 (w : World) (cs1 : Array Value) (t1 : TypeId) (cs2 : Array Value) (t2 : TypeId) (cs3 : Array Value) (t3 : TypeId) :
    ∃ w0, ((w.alloc (.cells cs1 t1)).alloc (.cells cs2 t2)).alloc (.cells cs3 t3) = w0 ∧ Bo w0 w.heap.size cs1 ∧ Bo w0 (w.heap.size + 1) cs2 ∧ Bo w0 (w.heap.size + 1 + 1) cs3 ∧ Below w.heap.size w w0 ∧ w.heap.size + 3 ≤ w0.heap.size := by
  obtain ⟨w1, rfl, h1, h2, hb, hs⟩ := bo2 w cs1 t1 cs2 t2
  refine ⟨_, rfl, h1.kept (bo_alloc _ _), h2.kept (bo_alloc _ _), ?_, bchain hb (bo_alloc _ _), by simp⟩
  have := bo_new ((w.alloc (.cells cs1 t1)).alloc (.cells cs2 t2)) cs3 t3
  simpa using this
theorem bo4 (w : World) (cs1 : Array Value) (t1 : TypeId) (cs2 : Array Value) (t2 : TypeId) (cs3 : Array Value) (t3 : TypeId) (cs4 : Array Value) (t4 : TypeId) :
    ∃ w0, (((w.alloc (.cells cs1 t1)).alloc (.cells cs2 t2)).alloc (.cells cs3 t3)).alloc (.cells cs4 t4) = w0 ∧ Bo w0 w.heap.size cs1 ∧ Bo w0 (w.heap.size + 1) cs2 ∧ Bo w0 (w.heap.size + 1 + 1) cs3 ∧ Bo w0 (w.heap.size + 1 + 1 + 1) cs4 ∧ Below w.heap.size w w0 ∧ w.heap.size + 4 ≤ w0.heap.size := by
  obtain ⟨w1, rfl, h1, h2, h3, hb, hs⟩ := bo3 w cs1 t1 cs2 t2 cs3 t3
  refine ⟨_, rfl, h1.kept (bo_alloc _ _), h2.kept (bo_alloc _ _), h3.kept (bo_alloc _ _), ?_, bchain hb (bo_alloc _ _), by simp⟩
  have := bo_new (((w.alloc (.cells cs1 t1)).alloc (.cells cs2 t2)).alloc (.cells cs3 t3)) cs4 t4
  simpa using this
/-- The block b holds these cells of this type, whole, and may be written. -/
def Bl (w : World) (b : Nat) (cs : Array Value) (t : TypeId) : Prop := w.heap[b]? = some (.cells cs t (0, 0))
theorem Bl.lt {w : World} {b : Nat} {cs : Array Value} {t : TypeId} (h : Bl w b cs t) : b < w.heap.size := (Array.getElem?_eq_some_iff.1 h).1
theorem Bl.kept {w w' : World} {b : Nat} {cs : Array Value} {t : TypeId} (h : Bl w b cs t) (hb : Below w.heap.size w w') : Bl w' b cs t := (hb.block b h.lt).trans h
theorem Bl.k {w : World} {b : Nat} {cs : Array Value} {t : TypeId} (h : Bl w b cs t) : ∀ k, w.cell? ⟨b, k, none⟩ = cs[k]? := fun k => by
  unfold Bl at h
  simp [World.cell?, h]
theorem Bl.f {w : World} {b : Nat} {cs : Array Value} {t : TypeId} (h : Bl w b cs t) : ∀ k, w.frozen? ⟨b, k, none⟩ = false := fun k => by
  unfold Bl at h
  simp [World.frozen?, h]
theorem Bl.bo {w : World} {b : Nat} {cs : Array Value} {t : TypeId} (h : Bl w b cs t) : Bo w b cs := ⟨h.lt, h.k, h.f⟩
theorem bl_new (w : World) (cs : Array Value) (t : TypeId) : Bl (w.alloc (.cells cs t)) w.heap.size cs t := by
  unfold Bl World.alloc
  simp
/-- A block written whole. -/
theorem Bl.row {w : World} {b : Nat} {cs : Array Value} {t : TypeId} (h : Bl w b cs t) (ds : Array Value) : Bl (w.setRow b ds) b ds t := setRow_heap w b cs ds t (0, 0) h
theorem Bl.row_far {w : World} {b : Nat} {cs : Array Value} {t : TypeId} (h : Bl w b cs t) (g : Nat) (ds : Array Value) (hne : b ≠ g) : Bl (w.setRow g ds) b cs t := (setRow_other w g b ds hne).trans h
theorem below_row {n : Nat} {w w' : World} (h : Below n w w') (g : Nat) (ds : Array Value) (hg : n ≤ g) : Below n w (w'.setRow g ds) :=
  ⟨h.os, h.tape, h.output, by simpa using h.size, fun k hk => (setRow_other w' g k ds (by omega)).trans (h.block k hk)⟩
theorem bl1 (w : World) (cs1 : Array Value) (t1 : TypeId) :
    ∃ w0, w.alloc (.cells cs1 t1) = w0 ∧ Bl w0 w.heap.size cs1 t1 ∧ Below w.heap.size w w0 ∧ w.heap.size + 1 ≤ w0.heap.size := ⟨_, rfl, bl_new _ _ _, bo_alloc _ _, by simp⟩
theorem bl2 (w : World) (cs1 : Array Value) (t1 : TypeId) (cs2 : Array Value) (t2 : TypeId) :
    ∃ w0, (w.alloc (.cells cs1 t1)).alloc (.cells cs2 t2) = w0 ∧ Bl w0 w.heap.size cs1 t1 ∧ Bl w0 (w.heap.size + 1) cs2 t2 ∧ Below w.heap.size w w0 ∧ w.heap.size + 2 ≤ w0.heap.size := by
  refine ⟨_, rfl, (bl_new w cs1 t1).kept (bo_alloc _ _), ?_, bchain (bo_alloc _ _) (bo_alloc _ _), by simp⟩
  have := bl_new (w.alloc (.cells cs1 t1)) cs2 t2
  simpa using this
theorem bl3 (w : World) (cs1 : Array Value) (t1 : TypeId) (cs2 : Array Value) (t2 : TypeId) (cs3 : Array Value) (t3 : TypeId) :
    ∃ w0, ((w.alloc (.cells cs1 t1)).alloc (.cells cs2 t2)).alloc (.cells cs3 t3) = w0 ∧ Bl w0 w.heap.size cs1 t1 ∧ Bl w0 (w.heap.size + 1) cs2 t2 ∧ Bl w0 (w.heap.size + 1 + 1) cs3 t3 ∧ Below w.heap.size w w0 ∧ w.heap.size + 3 ≤ w0.heap.size := by
  obtain ⟨w1, rfl, h1, h2, hb, hs⟩ := bl2 w cs1 t1 cs2 t2
  refine ⟨_, rfl, h1.kept (bo_alloc _ _), h2.kept (bo_alloc _ _), ?_, bchain hb (bo_alloc _ _), by simp⟩
  have := bl_new ((w.alloc (.cells cs1 t1)).alloc (.cells cs2 t2)) cs3 t3
  simpa using this
theorem bl4 (w : World) (cs1 : Array Value) (t1 : TypeId) (cs2 : Array Value) (t2 : TypeId) (cs3 : Array Value) (t3 : TypeId) (cs4 : Array Value) (t4 : TypeId) :
    ∃ w0, (((w.alloc (.cells cs1 t1)).alloc (.cells cs2 t2)).alloc (.cells cs3 t3)).alloc (.cells cs4 t4) = w0 ∧ Bl w0 w.heap.size cs1 t1 ∧ Bl w0 (w.heap.size + 1) cs2 t2 ∧ Bl w0 (w.heap.size + 1 + 1) cs3 t3 ∧ Bl w0 (w.heap.size + 1 + 1 + 1) cs4 t4 ∧ Below w.heap.size w w0 ∧ w.heap.size + 4 ≤ w0.heap.size := by
  obtain ⟨w1, rfl, h1, h2, h3, hb, hs⟩ := bl3 w cs1 t1 cs2 t2 cs3 t3
  refine ⟨_, rfl, h1.kept (bo_alloc _ _), h2.kept (bo_alloc _ _), h3.kept (bo_alloc _ _), ?_, bchain hb (bo_alloc _ _), by simp⟩
  have := bl_new (((w.alloc (.cells cs1 t1)).alloc (.cells cs2 t2)).alloc (.cells cs3 t3)) cs4 t4
  simpa using this
end Go.Proofs.Ytdjadeegjbhihaa

/- What one wants: when it may be wanted, when it is nothing, the lesser of two; of the program and of the specification. -/
namespace Go.Proofs.Ytdjadeegjbhihaa
open Go.RowKit

/-- What one wants. -/
structure Opt where
  mode : Int
  win : Int
  mps : Int
  mtu : Int
  tri : Int
deriving DecidableEq
def Opt.zero : Opt := ⟨0, 0, 0, 0, 0⟩
def Opt.ok (o : Opt) : Bool := inB o.mode 1 2 && inB o.win 1 4 && inB o.mps 1 8 && inB o.mtu 1 24 && inB o.tri 1 5
def Opt.same (a b : Opt) : Bool := a.mode == b.mode && a.win == b.win && a.mps == b.mps && a.mtu == b.mtu && a.tri == b.tri
theorem Opt.same_iff (a b : Opt) : a.same b = true ↔ a = b := by
  obtain ⟨a1, a2, a3, a4, a5⟩ := a
  obtain ⟨b1, b2, b3, b4, b5⟩ := b
  simp [Opt.same, and_assoc]
def Opt.least (a b : Opt) : Opt := ⟨a.mode, min a.win b.win, min a.mps b.mps, min a.mtu b.mtu, min a.tri b.tri⟩
def meets (a b : Opt) : Bool := a.ok && b.ok && a.mode == b.mode
def meet (a b : Opt) : Opt := if meets a b then a.least b else Opt.zero

theorem opt_eq {a b : Opt} (h : a = b) : (.agg #[.int .i64 a.mode, .int .i64 a.win, .int .i64 a.mps, .int .i64 a.mtu, .int .i64 a.tri] : Value) = .agg #[.int .i64 b.mode, .int .i64 b.win, .int .i64 b.mps, .int .i64 b.mtu, .int .i64 b.tri] := by rw [h]
theorem ret_opt {a1 a2 a3 a4 a5 : Int} {b : Opt} (h1 : a1 = b.mode) (h2 : a2 = b.win) (h3 : a3 = b.mps) (h4 : a4 = b.mtu) (h5 : a5 = b.tri) : Ending.returned (.agg #[.int .i64 a1, .int .i64 a2, .int .i64 a3, .int .i64 a4, .int .i64 a5]) = .returned (.agg #[.int .i64 b.mode, .int .i64 b.win, .int .i64 b.mps, .int .i64 b.mtu, .int .i64 b.tri]) := by
  rw [h1, h2, h3, h4, h5]
theorem ret_meet {a1 a2 a3 a4 a5 : Int} {b : Opt} {x y : Bool} (h1 : a1 = b.mode) (h2 : a2 = b.win) (h3 : a3 = b.mps) (h4 : a4 = b.mtu) (h5 : a5 = b.tri) (h : x = y) : Ending.returned (.tuple #[.agg #[.int .i64 a1, .int .i64 a2, .int .i64 a3, .int .i64 a4, .int .i64 a5], .bool x]) = .returned (.tuple #[.agg #[.int .i64 b.mode, .int .i64 b.win, .int .i64 b.mps, .int .i64 b.mtu, .int .i64 b.tri], .bool y]) := by
  rw [h1, h2, h3, h4, h5, h]

theorem upto_any (n k : Int) (w : World) :
    Calls Try.prog 82 #[.int .i64 n, .int .i64 k] w fun e w' => e = .returned (.bool (inB n 1 k)) ∧ w' = w := by
  go_enter Try.func82, Try.ntmps82
  go_wp2
  all_goals
    go_ret
    refine ⟨ret_bool ?_, rfl⟩
    go_light
    rw [Bool.eq_iff_iff]
    simp only [inB_iff]
    grind
set_option maxHeartbeats 1000000 in
theorem impl_cfg (a : Opt) (w : World) :
    Calls Try.prog 48 #[.agg #[.int .i64 a.mode, .int .i64 a.win, .int .i64 a.mps, .int .i64 a.mtu, .int .i64 a.tri]] w fun e w' => e = .returned (.bool a.ok) ∧ Below w.heap.size w w' := by
  go_enter Try.func48, Try.ntmps48
  go_wp2_with (go_at_call 82; refine (upto_any _ _ _).mono ?_; rintro e w' ⟨rfl, rfl⟩)
  all_goals
    go_ret
    refine ⟨ret_bool ?_, (Below.refl _ _).alloc (Nat.le_refl _) _⟩
    go_light
    rw [Bool.eq_iff_iff]
    simp only [Opt.ok, Bool.and_eq_true, inB_iff, Bool.false_eq_true, false_iff] at *
    grind
theorem impl_cfg_v (m n p u t : Int) (w : World) :
    Calls Try.prog 48 #[.agg #[.int .i64 m, .int .i64 n, .int .i64 p, .int .i64 u, .int .i64 t]] w fun e w' => e = .returned (.bool (Opt.ok ⟨m, n, p, u, t⟩)) ∧ Below w.heap.size w w' := impl_cfg ⟨m, n, p, u, t⟩ w
set_option maxHeartbeats 1000000 in
theorem spec_cfg (a : Opt) (w : World) :
    Calls Try.prog 36 #[.agg #[.int .i64 a.mode, .int .i64 a.win, .int .i64 a.mps, .int .i64 a.mtu, .int .i64 a.tri]] w fun e w' => e = .returned (.bool a.ok) ∧ Below w.heap.size w w' := by
  go_enter Try.func36, Try.ntmps36
  go_wp2_with (go_at_call 40; refine (in_any _ _ _ _).mono ?_; rintro e w' ⟨rfl, rfl⟩)
  all_goals
    go_ret
    refine ⟨ret_bool ?_, (Below.refl _ _).alloc (Nat.le_refl _) _⟩
    go_light
    rw [Bool.eq_iff_iff]
    simp only [Opt.ok, Bool.and_eq_true, inB_iff, Bool.false_eq_true, false_iff] at *
    grind
theorem spec_cfg_v (m n p u t : Int) (w : World) :
    Calls Try.prog 36 #[.agg #[.int .i64 m, .int .i64 n, .int .i64 p, .int .i64 u, .int .i64 t]] w fun e w' => e = .returned (.bool (Opt.ok ⟨m, n, p, u, t⟩)) ∧ Below w.heap.size w w' := spec_cfg ⟨m, n, p, u, t⟩ w
end Go.Proofs.Ytdjadeegjbhihaa

/- What the laws ask at the end of a way: it is so. -/
namespace Go.Proofs.Ytdjadeegjbhihaa
open Go.RowKit
theorem li_ok (w : World) :
    Calls Try.prog 37 #[] w fun e w' => e = .returned (.bool true) ∧ Below w.heap.size w w' := by
  go_enter Try.func37, Try.ntmps37
  go_wp2_with (go_at_call 48; refine (impl_cfg_v _ _ _ _ _ _).mono ?_; rintro e w' ⟨rfl, b1⟩)
  go_ret
  exact ⟨rfl, b1⟩
end Go.Proofs.Ytdjadeegjbhihaa

/- Appending to a row of bytes that the call owns: what it reads then. -/
namespace Go.Proofs.Ytdjadeegjbhihaa
open Go.RowKit

theorem add_at (b off j : Nat) : (⟨b, off, none⟩ : Addr).add j = ⟨b, off + j, none⟩ := by
  by_cases h : j = 0
  · subst h; rfl
  · simp [Addr.add, h]

theorem wpList_app (w : World) {ops : Array Oper} {rest : List Oper} {o : Oper} {a : Act} {Q : Exit → Act → World → Prop} (hgd : o.guard = none) (s x : Operand)
    (ho : o.op = .call { callee := .builtin .append, args := #[s, x], argTypes := #[64, 64] }) (B : Nat) (v : Value) (zs : List Nat) (hs : a.eval s = v) (hown : Own w B v zs)
    (u : Value) (ys : List Nat) (hx : a.eval x = u) (hr : Rd w u ys) (hl : zs.length + ys.length ≤ 4000000) (hB : B ≤ w.heap.size)
    (h : ∀ v' w', Own w' B v' (zs ++ ys) → w.grownBy w' v.ownBlock → wpList Try.prog ops Q rest (a.put o.dst v') w') : wpList Try.prog ops Q (o :: rest) a w := by
  obtain ⟨i0, hi, hz0, hz1, hz2⟩ := info_parts Try.infoB
  obtain ⟨_, _, hr⟩ := hr
  have key : ∀ (ad : Addr) (c : Nat), u = .slice (some ad) ys.length c → (∀ j, j < ys.length → w.cell? (ad.add j) = some (.int .u8 ((ys.getD j 0 : Nat) : Int))) → wpList Try.prog ops Q (o :: rest) a w := by
    intro ad c hu hc
    refine wpList_append_own w hgd s x 64 ho B 5 i0 (.int .u8 0) 1 1 Try.underlying64 hi hz0 hz1 hz2 rfl (by decide) v zs.length (bcells zs) hs hown ad ys.length c (bcells ys) (by rw [hx, hu]) (by rw [bcells_length]; omega) ?_ (bcells_one ys) (by unfold maxLen; omega) (by omega) hB ?_
    · intro j q hj
      have hj2 : j < ys.length := by
        have := (List.getElem?_eq_some_iff.1 hj).1
        rwa [bcells_length] at this
      rw [bcells_get ys j hj2] at hj
      rw [hc j hj2, hj]
    · intro v' w' h1 h2 _
      refine h v' w' ?_ h2
      unfold Own
      rw [bcells_append, List.length_append]
      exact h1
  rcases hr with ⟨rfl, ad, c, rfl, hn⟩ | ⟨b, off, cap, rfl, _, _, _, hc⟩
  · cases ad with
    | some ad => exact key ad c rfl (fun j hj => by simp at hj)
    | none =>
      obtain rfl := hn rfl
      refine wpList_append_own_none hgd s x 64 ho B 5 i0 1 Try.underlying64 hi v zs.length (bcells zs) hs hown hx ?_
      exact h v w (by simpa using hown) ⟨rfl, rfl, rfl, Nat.le_refl _, fun _ _ _ => rfl⟩
  · exact key ⟨b, off, none⟩ cap rfl (fun j hj => by rw [add_at]; exact hc j hj)

/-- The same as one step of a statement whose order is open. -/
theorem step_app {ops : Array Oper} {o : Oper} {a : Act} {w : World} {K : Act → World → Prop} {Q : Exit → Act → World → Prop} {E : Prop} (hgd : o.guard = none) (s x : Operand)
    (ho : o.op = .call { callee := .builtin .append, args := #[s, x], argTypes := #[64, 64] }) (B : Nat) (v : Value) (zs : List Nat) (hs : a.eval s = v) (hown : Own w B v zs)
    (u : Value) (ys : List Nat) (hx : a.eval x = u) (hr : Rd w u ys) (hl : zs.length + ys.length ≤ 4000000) (hB : B ≤ w.heap.size)
    (h : ∀ v' w', Own w' B v' (zs ++ ys) → w.grownBy w' v.ownBlock → K (a.put o.dst v') w') : if Region.wanted o (yielded ops a.tmps) = true then Oper.wp Try.prog o a w K Q else E := by
  have hw : Region.wanted o (yielded ops a.tmps) = true := by simp [Region.wanted, hgd]
  rw [if_pos hw]
  obtain ⟨i0, hi, hz0, hz1, hz2⟩ := info_parts Try.infoB
  obtain ⟨_, _, hr⟩ := hr
  have key : ∀ (ad : Addr) (c : Nat), u = .slice (some ad) ys.length c → (∀ j, j < ys.length → w.cell? (ad.add j) = some (.int .u8 ((ys.getD j 0 : Nat) : Int))) → Oper.wp Try.prog o a w K Q := by
    intro ad c hu hc
    refine wp_append_own w s x 64 ho B 5 i0 (.int .u8 0) 1 1 Try.underlying64 hi hz0 hz1 hz2 rfl (by decide) v zs.length (bcells zs) hs hown ad ys.length c (bcells ys) (by rw [hx, hu]) (by rw [bcells_length]; omega) ?_ (bcells_one ys) (by unfold maxLen; omega) (by omega) hB ?_
    · intro j q hj
      have hj2 : j < ys.length := by
        have := (List.getElem?_eq_some_iff.1 hj).1
        rwa [bcells_length] at this
      rw [bcells_get ys j hj2] at hj
      rw [hc j hj2, hj]
    · intro v' w' h1 h2 _
      refine h v' w' ?_ h2
      unfold Own
      rw [bcells_append, List.length_append]
      exact h1
  rcases hr with ⟨rfl, ad, c, rfl, hn⟩ | ⟨b, off, cap, rfl, _, _, _, hc⟩
  · cases ad with
    | some ad => exact key ad c rfl (fun j hj => by simp at hj)
    | none =>
      obtain rfl := hn rfl
      have hrun := run_append_owned_none (P := Try.prog) (w := w) B 64 o.type 5 i0 1 Try.underlying64 hi v zs.length (bcells zs) hown
      unfold Oper.wp
      simp [execOp, ho, resolve, invoke, builtin, hs, hx, hrun, Result.andThen]
      exact h v w (by simpa using hown) ⟨rfl, rfl, rfl, Nat.le_refl _, fun _ _ _ => rfl⟩
  · exact key ⟨b, off, none⟩ cap rfl (fun j hj => by rw [add_at]; exact hc j hj)

theorem Rd.head {w : World} {b off cap m : Nat} {zs : List Nat} (n : Nat) (h : Rd w (.slice (some ⟨b, off, none⟩) m cap) zs) (hm : m = zs.length) (hn : n ≤ m) (h0 : 0 < m) : Rd w (.slice (some ⟨b, off, none⟩) n cap) (zs.take n) := by
  subst hm
  obtain ⟨h1, h2, h3⟩ := h
  have hl : (zs.take n).length = n := by rw [List.length_take]; omega
  refine ⟨h1.take n, by omega, .inr ⟨b, off, cap, by rw [hl], ?_, ?_, ?_, ?_⟩⟩
  all_goals
    rcases h3 with ⟨rfl, _⟩ | ⟨b', off', cap', e, h4, h5, h6, h7⟩
    · simp at h0
    · simp only [Value.slice.injEq, Option.some.injEq, Addr.mk.injEq, and_true, true_and] at e
      obtain ⟨⟨rfl, rfl⟩, rfl⟩ := e
      first
        | omega
        | (intro j hj
           rw [hl] at hj
           rw [h7 j (by omega)]
           simp [hj])

theorem own_none (w : World) (B : Nat) : Own w B (.slice none 0 0) [] := World.ownsRow_nil w B 5 1
theorem own_empty (w : World) (B : Nat) (hB : B ≤ w.heap.size) : Own (w.alloc (.cells #[] 5)) B (.slice (some ⟨w.heap.size, 0, none⟩) 0 0) [] :=
  World.ownsRow_lit (base := B) (e := 5) (size := 1) w #[] 0 hB (by unfold maxLen; omega) rfl
theorem rd_two (w : World) (x y : Nat) (hx : x < 256) (hy : y < 256) : Rd (w.alloc (.cells #[.int .u8 (x : Int), .int .u8 (y : Int)] 5)) (.slice (some ⟨w.heap.size, 0, none⟩) 2 2) [x, y] := by
  refine ⟨?_, by simp, .inr ⟨w.heap.size, 0, 2, rfl, by simp, by unfold maxLen; omega, by simp, ?_⟩⟩
  · intro z hz
    simp at hz
    omega
  · intro j hj
    match j, hj with
    | 0, _ => simp
    | 1, _ => simp
theorem Own.alloc {w : World} {B : Nat} {v : Value} {zs : List Nat} (h : Own w B v zs) (o : Obj) : Own (w.alloc o) B v zs := World.ownsRow.alloc h o
theorem Rd.alloc {w : World} {v : Value} {zs : List Nat} (h : Rd w v zs) (o : Obj) : Rd (w.alloc o) v zs := h.kept ((Below.refl _ _).alloc (Nat.le_refl _) o)
theorem run_cap (n : Nat) (hn : n ≤ 4000000) (w : World) : (Instr.makeSlice 64 (.int .i64 0) (.int .i64 (n : Int))).run Try.prog w = .ok (.slice (some ⟨w.heap.size, 0, none⟩) 0 n) (w.alloc (.cells (madeCells #[.int .u8 0] n) 5)) := by
  obtain ⟨i0, hi, hz0, hz1, hz2⟩ := info_parts Try.infoB
  have := run_make (P := Try.prog) w 64 5 i0 (.int .u8 0) Try.underlying64 hi hz0 .i64 .i64 0 (n : Int) (by omega) (by omega) (by rw [hz2]; omega) (by omega)
  rw [this, hz1]
  simp [Value.cells]
theorem own_cap (w : World) (B n : Nat) (hB : B ≤ w.heap.size) (hn : n ≤ 4000000) : Own (w.alloc (.cells (madeCells #[.int .u8 0] n) 5)) B (.slice (some ⟨w.heap.size, 0, none⟩) 0 n) [] :=
  World.ownsRow_made (base := B) (e := 5) (size := 1) w _ n hB (by unfold maxLen; omega) (by rw [size_madeCells]; omega)

theorem hide {p : Prop} (h : p) : Hid p := h
theorem unhide {p : Prop} (h : Hid p) : p := h
theorem own_apart {w1 w2 : World} {B1 B2 : Nat} {v1 v2 : Value} {z1 z2 : List Nat} (h1 : Own w1 B1 v1 z1) (hB : w1.heap.size ≤ B2) (h2 : Own w2 B2 v2 z2) : ∀ k, v1.ownBlock = some k → v2.ownBlock ≠ some k := by
  intro k e1 e2
  have a := (World.ownsRow.lt h1 k e1).2
  have b := (World.ownsRow.lt h2 k e2).1
  omega
theorem apart_symm {v1 v2 : Value} (h : ∀ k, v1.ownBlock = some k → v2.ownBlock ≠ some k) : ∀ k, v2.ownBlock = some k → v1.ownBlock ≠ some k := fun k e1 e2 => h k e2 e1
end Go.Proofs.Ytdjadeegjbhihaa

/- Frames as plain data: when one is ok. -/
namespace Go.Proofs.Ytdjadeegjbhihaa
open Go.RowKit

/-- A piece is ok. -/
def pieceB (seg len : Int) (n : Nat) : Bool := decide (n ≤ 8 ∧ ((seg = 0 ∧ len = n) ∨ (seg = 1 ∧ 1 ≤ n ∧ (n : Int) < len ∧ len ≤ 24) ∨ ((seg = 2 ∨ seg = 3) ∧ 1 ≤ n ∧ len = 0)))
/-- A frame is ok. -/
def frmB (kind seq ack : Int) (poll final : Bool) (say seg len : Int) (n : Nat) : Bool := decide (
  (kind = 1 ∧ (0 ≤ seq ∧ seq ≤ 7) ∧ (0 ≤ ack ∧ ack ≤ 7) ∧ poll = false ∧ say = 0 ∧ pieceB seg len n = true) ∨
  (kind = 2 ∧ seq = 0 ∧ (0 ≤ ack ∧ ack ≤ 7) ∧ ¬ (poll = true ∧ final = true) ∧ (0 ≤ say ∧ say ≤ 2) ∧ seg = 0 ∧ len = 0 ∧ n = 0) ∨
  (kind = 3 ∧ seq = 0 ∧ ack = 0 ∧ poll = false ∧ final = false ∧ say = 0 ∧ pieceB seg len n = true) ∨
  (kind = 4 ∧ seq = 0 ∧ ack = 0 ∧ poll = false ∧ final = false ∧ say = 0 ∧ seg = 0 ∧ (1 ≤ len ∧ len ≤ 255) ∧ n = 0))

theorem Rd.form {w : World} {v : Value} {zs : List Nat} (h : Rd w v zs) : ∃ a cap, v = .slice a zs.length cap := by
  rcases h.2.2 with ⟨rfl, a, c, rfl, _⟩ | ⟨b, off, cap, rfl, _⟩
  · exact ⟨_, _, rfl⟩
  · exact ⟨_, _, rfl⟩
theorem bool_of_iff {a b : Bool} (h : a = true ↔ b = true) : a = b := by
  cases a <;> cases b <;> simp_all
end Go.Proofs.Ytdjadeegjbhihaa

/- More on rows of bytes that the call owns, on boxed variables, and on what lies in old blocks. -/
namespace Go.Proofs.Ytdjadeegjbhihaa
open Go.RowKit

theorem Own.base {w : World} {B C : Nat} {v : Value} {zs : List Nat} (h : Own w B v zs) (hc : C ≤ B) : Own w C v zs := by
  refine ⟨h.1, ?_⟩
  rcases h.2 with h0 | ⟨g, cap, cur, e, hb, r⟩
  · exact .inl h0
  · exact .inr ⟨g, cap, cur, e, Nat.le_trans hc hb, r⟩
theorem Own.set {w : World} {B : Nat} {v : Value} {zs : List Nat} (h : Own w B v zs) (b o : Nat) (x : Value) (hb : b < B) : Own (w.setCell ⟨b, o, none⟩ x) B v zs := ownsRow_setCell_below h hb x
/-- Cells of old blocks behind a call. -/
theorem old_cell {W w1 : World} (hb : Below W.heap.size W w1) (b : Nat) (h : b < W.heap.size) : ∀ o, w1.cell? ⟨b, o, none⟩ = W.cell? ⟨b, o, none⟩ := fun o => hb.cell (p := ⟨b, o, none⟩) h
theorem old_frozen {W w1 : World} (hb : Below W.heap.size W w1) (b : Nat) (h : b < W.heap.size) : ∀ o, w1.frozen? ⟨b, o, none⟩ = W.frozen? ⟨b, o, none⟩ := fun o => hb.frozen (p := ⟨b, o, none⟩) h

theorem box_kept {w : World} {o : Obj} {w' : World} (h : Below (w.alloc o).heap.size (w.alloc o) w') : ∀ k, w'.cell? ⟨w.heap.size, k, none⟩ = (w.alloc o).cell? ⟨w.heap.size, k, none⟩ :=
  fun k => h.cell (p := ⟨w.heap.size, k, none⟩) (by simp)
theorem box_below {w : World} {o : Obj} {w' : World} (h : Below (w.alloc o).heap.size (w.alloc o) w') : Below w.heap.size w w' :=
  ((Below.refl _ _).alloc (Nat.le_refl _) _).trans (Below.mono h (by simp))
/-- The block b holds these cells. -/
def Cel (w : World) (b : Nat) (cs : Array Value) : Prop := b < w.heap.size ∧ ∀ k, w.cell? ⟨b, k, none⟩ = cs[k]?
theorem Cel.kept {w w' : World} {b : Nat} {cs : Array Value} (h : Cel w b cs) (hb : Below w.heap.size w w') : Cel w' b cs := ⟨Nat.lt_of_lt_of_le h.1 hb.size, fun k => (hb.cell (p := ⟨b, k, none⟩) h.1).trans (h.2 k)⟩
theorem Cel.other {w w' : World} {b : Nat} {cs : Array Value} {r : Option Nat} (h : Cel w b cs) (hg : w.grownBy w' r) (hne : some b ≠ r) : Cel w' b cs :=
  ⟨Nat.lt_of_lt_of_le h.1 hg.size, fun k => (World.cell?_of_block (a := ⟨b, k, none⟩) (hg.block b h.1 hne)).trans (h.2 k)⟩
theorem cel_box (w : World) (cs : Array Value) (t : TypeId) : Cel (w.alloc (.cells cs t)) w.heap.size cs := ⟨by simp, fun k => by simp⟩
theorem own_box_apart {w : World} {B : Nat} {v : Value} {zs : List Nat} (h : Own w B v zs) {b : Nat} (hb : b < B ∨ w.heap.size ≤ b) : some b ≠ v.ownBlock := by
  intro e
  have := World.ownsRow.lt h b e.symm
  omega

theorem rd_cells (w : World) (l : List Nat) (hb : Byt l) (hl : l.length ≤ 2000000) : Rd (w.alloc (.cells (bcells l).toArray 5)) (.slice (some ⟨w.heap.size, 0, none⟩) l.length l.length) l := by
  refine ⟨hb, hl, .inr ⟨w.heap.size, 0, l.length, rfl, Nat.le_refl _, by unfold maxLen; omega, by simp, fun j hj => ?_⟩⟩
  have := bcells_get l j hj
  simp [this]
theorem own_cells (w : World) (B : Nat) (l : List Nat) (hB : B ≤ w.heap.size) (hl : l.length ≤ 2000000) : Own (w.alloc (.cells (bcells l).toArray 5)) B (.slice (some ⟨w.heap.size, 0, none⟩) l.length l.length) l := by
  have := World.ownsRow_lit (base := B) (e := 5) (size := 1) w (bcells l).toArray l.length hB (by unfold maxLen; omega) (by simp [bcells_length])
  simpa [Own] using this
/-- The block b holds these cells, and they may be written. -/
def CelF (w : World) (b : Nat) (cs : Array Value) : Prop := b < w.heap.size ∧ (∀ k, w.cell? ⟨b, k, none⟩ = cs[k]?) ∧ ∀ k, w.frozen? ⟨b, k, none⟩ = false
theorem CelF.kept {w w' : World} {b : Nat} {cs : Array Value} (h : CelF w b cs) (hb : Below w.heap.size w w') : CelF w' b cs :=
  ⟨Nat.lt_of_lt_of_le h.1 hb.size, fun k => (hb.cell (p := ⟨b, k, none⟩) h.1).trans (h.2.1 k), fun k => (hb.frozen (p := ⟨b, k, none⟩) h.1).trans (h.2.2 k)⟩
theorem CelF.other {w w' : World} {b : Nat} {cs : Array Value} {r : Option Nat} (h : CelF w b cs) (hg : w.grownBy w' r) (hne : some b ≠ r) : CelF w' b cs :=
  ⟨Nat.lt_of_lt_of_le h.1 hg.size, fun k => (World.cell?_of_block (a := ⟨b, k, none⟩) (hg.block b h.1 hne)).trans (h.2.1 k), fun k => (World.frozen?_of_block (a := ⟨b, k, none⟩) (hg.block b h.1 hne)).trans (h.2.2 k)⟩
theorem celF_box (w : World) (cs : Array Value) (t : TypeId) : CelF (w.alloc (.cells cs t)) w.heap.size cs := ⟨by simp, fun k => by simp, fun k => by simp⟩
theorem grown_step {w0 w1 w2 : World} {r : Option Nat} (h : w0.grownBy w1 r) (k : w1.grownBy w2 r) : w0.grownBy w2 r :=
  ⟨k.os.trans h.os, k.tape.trans h.tape, k.output.trans h.output, Nat.le_trans h.size k.size, fun q hq hne => (k.block q (Nat.lt_of_lt_of_le hq h.size) hne).trans (h.block q hq hne)⟩
theorem grown_fresh {w0 w1 w2 : World} {r u : Option Nat} (h : w0.grownBy w1 r) (k : w1.grownBy w2 u) (hu : ∀ q, u = some q → w0.heap.size ≤ q) : w0.grownBy w2 r :=
  ⟨k.os.trans h.os, k.tape.trans h.tape, k.output.trans h.output, Nat.le_trans h.size k.size, fun q hq hne => (k.block q (Nat.lt_of_lt_of_le hq h.size) (fun e => by have := hu q e.symm; omega)).trans (h.block q hq hne)⟩
theorem grown_alloc' (w : World) (o : Obj) (r : Option Nat) : w.grownBy (w.alloc o) r := ⟨rfl, rfl, rfl, by simp, fun q hq _ => ((Below.refl w.heap.size w).alloc (Nat.le_refl _) o).block q hq⟩
theorem grown_set (w : World) (b o : Nat) (x : Value) : w.grownBy (w.setCell ⟨b, o, none⟩ x) (some b) :=
  ⟨rfl, rfl, rfl, by simp, fun k _ hne => Below.heap_setCell w _ x k (fun e => hne (by rw [e]))⟩
theorem cell_far {w : World} {p q : Addr} {x : Value} (h : p ≠ q) : (w.setCell p x).cell? q = w.cell? q := by
  apply World.cell?_setCell_other
  exact h
theorem cell_here {w : World} {p : Addr} {x u : Value} (h : w.cell? p = some u) : (w.setCell p x).cell? p = some x := by
  apply World.cell?_setCell_same
  exact h
theorem CelF.put {w : World} {b : Nat} {cs : Array Value} (h : CelF w b cs) (i : Nat) (hi : i < cs.size) (x : Value) : CelF (w.setCell ⟨b, i, none⟩ x) b (cs.setIfInBounds i x) := by
  refine ⟨by simpa using h.1, fun k => ?_, fun k => by simpa using h.2.2 k⟩
  by_cases e : k = i
  · subst e
    have : w.cell? ⟨b, k, none⟩ = some cs[k] := by rw [h.2.1 k]; exact Array.getElem?_eq_getElem hi
    rw [cell_here this]
    simp [hi]
  · rw [cell_far (by intro e'; simp only [Addr.mk.injEq] at e'; omega), h.2.1 k, Array.getElem?_setIfInBounds_ne (Ne.symm e)]
theorem Own.far {w : World} {B : Nat} {v : Value} {zs : List Nat} (h : Own w B v zs) (b o : Nat) (x : Value) (hne : some b ≠ v.ownBlock) : Own (w.setCell ⟨b, o, none⟩ x) B v zs :=
  h.other (u := .slice (some ⟨b, 0, none⟩) 0 0) (grown_set w b o x) (fun k e e' => hne (by rw [e, ← e']; rfl))
theorem CelF.far {w : World} {b : Nat} {cs : Array Value} (h : CelF w b cs) (c o : Nat) (x : Value) (hne : b ≠ c) : CelF (w.setCell ⟨c, o, none⟩ x) b cs :=
  h.other (grown_set w c o x) (fun e => hne (Option.some.inj e))
/-- A row of bytes is no block of another type. -/
theorem own_type {w : World} {B : Nat} {v : Value} {zs : List Nat} (h : Own w B v zs) {k t : Nat} {cs : Array Value} {f : Nat × Nat} (hk : w.heap[k]? = some (.cells cs t f)) (ht : t ≠ 5) : some k ≠ v.ownBlock := by
  intro e
  rcases h.2 with ⟨rfl, _⟩ | ⟨g, cap, cur, rfl, _, hg, _⟩
  · cases e
  · obtain rfl : k = g := Option.some.inj e
    rw [hg] at hk
    simp only [Option.some.injEq, Obj.cells.injEq] at hk
    exact ht hk.2.1.symm
theorem Own.form {w : World} {B : Nat} {v : Value} {zs : List Nat} (h : Own w B v zs) : ∃ a c, v = .slice a zs.length c := by
  rcases h.2 with ⟨h, h0⟩ | ⟨g, cap, cur, h, _⟩
  · exact ⟨_, _, by rw [h, h0]⟩
  · exact ⟨_, _, h⟩
/-- The block g holds cells of type t. -/
def Typ (w : World) (g t : Nat) : Prop := ∃ cs f, w.heap[g]? = some (.cells cs t f)
theorem Typ.lt {w : World} {g t : Nat} (h : Typ w g t) : g < w.heap.size := by
  obtain ⟨cs, f, h⟩ := h
  exact (Array.getElem?_eq_some_iff.1 h).1
theorem Typ.kept {w w' : World} {g t : Nat} (h : Typ w g t) (hb : Below w.heap.size w w') : Typ w' g t := by
  have hl := h.lt
  obtain ⟨cs, f, h⟩ := h
  exact ⟨cs, f, (hb.block g hl).trans h⟩
theorem Typ.below {w w' : World} {B g t : Nat} (h : Typ w g t) (hb : Below B w w') (hg : g < B) : Typ w' g t := by
  obtain ⟨cs, f, h⟩ := h
  exact ⟨cs, f, (hb.block g hg).trans h⟩
theorem Typ.other {w w' : World} {g t : Nat} {r : Option Nat} (h : Typ w g t) (hg : w.grownBy w' r) (hne : some g ≠ r) : Typ w' g t := by
  have hl := h.lt
  obtain ⟨cs, f, h⟩ := h
  exact ⟨cs, f, (hg.block g hl hne).trans h⟩
theorem Typ.set {w : World} {g t : Nat} (h : Typ w g t) (p : Addr) (x : Value) : Typ (w.setCell p x) g t := by
  obtain ⟨cs, f, h⟩ := h
  unfold Typ World.setCell
  simp only [Array.getElem?_modify]
  split
  · rw [h]; exact ⟨_, _, rfl⟩
  · exact ⟨cs, f, h⟩
theorem Typ.row {w : World} {g t B : Nat} {v : Value} {zs : List Nat} (h : Typ w g t) (ho : Own w B v zs) (ht : t ≠ 5) : some g ≠ v.ownBlock := by
  obtain ⟨cs, f, h⟩ := h
  exact own_type ho h ht
theorem typ_box (w : World) (cs : Array Value) (t : TypeId) : Typ (w.alloc (.cells cs t)) w.heap.size t := ⟨cs, (0, 0), by show (w.heap.push _)[w.heap.size]? = _; simp⟩
theorem heap_new (w : World) (cs : Array Value) (t : TypeId) : (w.alloc (.cells cs t)).heap[w.heap.size]? = some (.cells cs t (0, 0)) := by
  show (w.heap.push _)[w.heap.size]? = _
  simp
end Go.Proofs.Ytdjadeegjbhihaa

/- A piece by itself: when it is ok, of the program and of the specification. -/
namespace Go.Proofs.Ytdjadeegjbhihaa
open Go.RowKit

set_option maxHeartbeats 1000000 in
theorem piece_any (seg len : Int) (a : Option Addr) (n cap : Nat) (w : World) :
    Calls Try.prog 115 #[.agg #[.int .i64 seg, .int .i64 len, .slice a n cap]] w fun e w' => e = .returned (.bool (pieceB seg len n)) ∧ Below w.heap.size w w' := by
  go_enter Try.func115, Try.ntmps115
  go_wp2
  all_goals
    go_ret
    refine ⟨ret_bool ?_, (Below.refl _ _).alloc (Nat.le_refl _) _⟩
    go_light
    rw [Bool.eq_iff_iff]
    simp only [pieceB, decide_eq_true_eq]
    grind
set_option maxHeartbeats 2000000 in
theorem spec_seg (kind seq ack : Int) (poll final : Bool) (say seg len : Int) (a : Option Addr) (n cap : Nat) (w : World) :
    Calls Try.prog 113 #[.agg #[.int .i64 kind, .int .i64 seq, .int .i64 ack, .bool poll, .bool final, .int .i64 say, .int .i64 seg, .int .i64 len, .slice a n cap]] w fun e w' => e = .returned (.bool (pieceB seg len n)) ∧ Below w.heap.size w w' := by
  go_enter Try.func113, Try.ntmps113
  go_wp2_with (go_at_call 40; refine (in_any _ _ _ _).mono ?_; rintro e w' ⟨rfl, rfl⟩)
  all_goals
    go_ret
    refine ⟨ret_bool ?_, (Below.refl _ _).alloc (Nat.le_refl _) _⟩
    go_light
    rw [Bool.eq_iff_iff]
    simp only [pieceB, inB_iff, decide_eq_true_eq, beq_iff_eq, beq_eq_false_iff_ne, Bool.false_eq_true, true_iff, false_iff, ne_eq] at *
    omega
set_option maxHeartbeats 1000000 in
theorem impl_part (seg len : Int) (a : Option Addr) (n cap : Nat) (w : World) :
    Calls Try.prog 83 #[.agg #[.int .i64 seg, .int .i64 len, .slice a n cap]] w fun e w' => e = .returned (.bool (pieceB seg len n)) ∧ Below w.heap.size w w' := by
  go_enter Try.func83, Try.ntmps83
  go_wp2_with (go_at_call 115; refine (piece_any _ _ _ _ _ _).mono ?_; rintro e w' ⟨rfl, hb⟩)
  go_ret
  exact ⟨rfl, box_below hb⟩
set_option maxHeartbeats 1000000 in
theorem spec_part (seg len : Int) (a : Option Addr) (n cap : Nat) (w : World) :
    Calls Try.prog 77 #[.agg #[.int .i64 seg, .int .i64 len, .slice a n cap]] w fun e w' => e = .returned (.bool (pieceB seg len n)) ∧ Below w.heap.size w w' := by
  go_enter Try.func77, Try.ntmps77
  go_wp2_with (go_at_call 113; refine (spec_seg _ _ _ _ _ _ _ _ _ _ _ _).mono ?_; rintro e w' ⟨rfl, hb⟩)
  go_ret
  exact ⟨rfl, box_below hb⟩
end Go.Proofs.Ytdjadeegjbhihaa

/- A piece as plain data: its place, its message's length, its bytes. -/
namespace Go.Proofs.Ytdjadeegjbhihaa
abbrev Dat := Int × Int × List Nat
end Go.Proofs.Ytdjadeegjbhihaa

/- The program's own test whether something is a number. -/
namespace Go.Proofs.Ytdjadeegjbhihaa
open Go.RowKit

theorem number_any (n : Int) (w : World) :
    Calls Try.prog 79 #[.int .i64 n] w fun e w' => e = .returned (.bool (inB n 0 7)) ∧ w' = w := by
  go_enter Try.func79, Try.ntmps79
  go_wp2
  all_goals
    go_ret
    refine ⟨ret_bool ?_, rfl⟩
    go_light
    rw [Bool.eq_iff_iff]
    simp only [inB_iff]
    grind
end Go.Proofs.Ytdjadeegjbhihaa

/- Numbers that come round: what the program's and the specification's functions answer, at every number; the world stays. -/
namespace Go.Proofs.Ytdjadeegjbhihaa
open Go.RowKit

theorem tmod8 (n : Int) : n.tmod 8 = if 0 ≤ n ∨ n % 8 = 0 then n % 8 else n % 8 - 8 := by
  rw [Int.tmod_eq_emod]
  split <;> split <;> omega

theorem impl_round (n : Int) (w : World) :
    Calls Try.prog 81 #[.int .i64 n] w fun e w' => e = .returned (.int .i64 (n % 8)) ∧ w' = w := by
  have ht := tmod8 n
  by_cases h : 0 ≤ n ∨ n % 8 = 0
  · rw [if_pos h] at ht
    go_enter Try.func81, Try.ntmps81
    go_wp2
    all_goals (go_ret; refine ⟨ret_int ?_, rfl⟩; omega)
  · rw [if_neg h] at ht
    go_enter Try.func81, Try.ntmps81
    go_wp2
    all_goals (go_ret; refine ⟨ret_int ?_, rfl⟩; omega)

theorem impl_farto (a b : Int) (ha : 0 ≤ a ∧ a < 8) (hb : 0 ≤ b ∧ b < 8) (w : World) :
    Calls Try.prog 80 #[.int .i64 a, .int .i64 b] w fun e w' => e = .returned (.int .i64 ((b - a) % 8)) ∧ w' = w := by
  go_enter Try.func80, Try.ntmps80
  go_wp2_with (go_at_call 81; refine (impl_round _ _).mono ?_; rintro e w' ⟨rfl, rfl⟩)
  go_ret
  exact ⟨ret_int (by omega), rfl⟩

theorem impl_far (a b : Int) (ha : 0 ≤ a ∧ a < 8) (hb : 0 ≤ b ∧ b < 8) (w : World) :
    Calls Try.prog 45 #[.int .i64 a, .int .i64 b] w fun e w' => e = .returned (.int .i64 ((b - a) % 8)) ∧ w' = w := by
  have h1 : inB a 0 7 = true := (inB_iff _ _ _).2 (by omega)
  have h2 : inB b 0 7 = true := (inB_iff _ _ _).2 (by omega)
  go_enter Try.func45, Try.ntmps45
  go_wp2_with (first
    | (go_at_call 79; refine (number_any _ _).mono ?_; rintro e w' ⟨rfl, rfl⟩)
    | (go_at_call 80; refine (impl_farto _ _ ha hb _).mono ?_; rintro e w' ⟨rfl, rfl⟩))
  all_goals (go_ret; exact ⟨rfl, rfl⟩)
theorem impl_far_no (a b : Int) (h : inB a 0 7 = false ∨ inB b 0 7 = false) (w : World) :
    Calls Try.prog 45 #[.int .i64 a, .int .i64 b] w fun e w' => e = .returned (.int .i64 (-1)) ∧ w' = w := by
  cases h1 : inB a 0 7
  · go_enter Try.func45, Try.ntmps45
    go_wp2_with (go_at_call 79; refine (number_any _ _).mono ?_; rintro e w' ⟨rfl, rfl⟩)
    go_ret
    exact ⟨rfl, rfl⟩
  · have h2 : inB b 0 7 = false := by simpa [h1] using h
    go_enter Try.func45, Try.ntmps45
    go_wp2_with (go_at_call 79; refine (number_any _ _).mono ?_; rintro e w' ⟨rfl, rfl⟩)
    go_ret
    exact ⟨rfl, rfl⟩

theorem spec_far (a b : Int) (ha : 0 ≤ a ∧ a < 8) (hb : 0 ≤ b ∧ b < 8) (w : World) :
    Calls Try.prog 41 #[.int .i64 a, .int .i64 b] w fun e w' => e = .returned (.int .i64 ((b - a) % 8)) ∧ w' = w := by
  have h1 : inB a 0 7 = true := (inB_iff _ _ _).2 (by omega)
  have h2 : inB b 0 7 = true := (inB_iff _ _ _).2 (by omega)
  have ht : (b - a + 8).tmod 8 = (b - a) % 8 := by
    rw [tmod8, if_pos (by omega)]; omega
  go_enter Try.func41, Try.ntmps41
  go_wp2_with (go_at_call 40; refine (in_any _ _ _ _).mono ?_; rintro e w' ⟨rfl, rfl⟩)
  go_ret
  exact ⟨ret_int (by omega), rfl⟩
theorem spec_far_no (a b : Int) (h : inB a 0 7 = false ∨ inB b 0 7 = false) (w : World) :
    Calls Try.prog 41 #[.int .i64 a, .int .i64 b] w fun e w' => e = .returned (.int .i64 (-1)) ∧ w' = w := by
  cases h1 : inB a 0 7
  · go_enter Try.func41, Try.ntmps41
    go_wp2_with (go_at_call 40; refine (in_any _ _ _ _).mono ?_; rintro e w' ⟨rfl, rfl⟩)
    go_ret
    exact ⟨rfl, rfl⟩
  · have h2 : inB b 0 7 = false := by simpa [h1] using h
    go_enter Try.func41, Try.ntmps41
    go_wp2_with (go_at_call 40; refine (in_any _ _ _ _).mono ?_; rintro e w' ⟨rfl, rfl⟩)
    go_ret
    exact ⟨rfl, rfl⟩

theorem impl_numof (n : Int) (h : 0 ≤ n) (w : World) :
    Calls Try.prog 46 #[.int .i64 n] w fun e w' => e = .returned (.int .i64 (n % 8)) ∧ w' = w := by
  go_enter Try.func46, Try.ntmps46
  go_wp2_with (go_at_call 81; refine (impl_round _ _).mono ?_; rintro e w' ⟨rfl, rfl⟩)
  go_ret
  exact ⟨ret_int (by omega), rfl⟩
theorem impl_numof_no (n : Int) (h : n < 0) (w : World) :
    Calls Try.prog 46 #[.int .i64 n] w fun e w' => e = .returned (.int .i64 (-1)) ∧ w' = w := by
  go_enter Try.func46, Try.ntmps46
  go_wp2
  go_ret
  exact ⟨rfl, rfl⟩
theorem spec_numof (n : Int) (h : 0 ≤ n) (w : World) :
    Calls Try.prog 42 #[.int .i64 n] w fun e w' => e = .returned (.int .i64 (n % 8)) ∧ w' = w := by
  have ht : n.tmod 8 = n % 8 := by rw [tmod8, if_pos (by omega)]
  go_enter Try.func42, Try.ntmps42
  go_wp2
  go_ret
  exact ⟨ret_int (by omega), rfl⟩
theorem spec_numof_no (n : Int) (h : n < 0) (w : World) :
    Calls Try.prog 42 #[.int .i64 n] w fun e w' => e = .returned (.int .i64 (-1)) ∧ w' = w := by
  go_enter Try.func42, Try.ntmps42
  go_wp2
  go_ret
  exact ⟨rfl, rfl⟩
end Go.Proofs.Ytdjadeegjbhihaa

/- The number behind one, and so many on: of the program and of the specification. -/
namespace Go.Proofs.Ytdjadeegjbhihaa
open Go.RowKit

/-- How far it is from one number on to another one; -1 if one of both is none. -/
def farF (a b : Int) : Int := if inB a 0 7 && inB b 0 7 then (b - a) % 8 else -1
theorem farF_in {a b : Int} (ha : 0 ≤ a ∧ a < 8) (hb : 0 ≤ b ∧ b < 8) : farF a b = (b - a) % 8 := by
  have h1 : inB a 0 7 = true := (inB_iff _ _ _).2 (by omega)
  have h2 : inB b 0 7 = true := (inB_iff _ _ _).2 (by omega)
  simp [farF, h1, h2]
theorem farF_out {a b : Int} (h : inB a 0 7 = false ∨ inB b 0 7 = false) : farF a b = -1 := by
  rcases h with h | h <;> simp [farF, h]
theorem far_cases (a b : Int) : ((0 ≤ a ∧ a < 8) ∧ (0 ≤ b ∧ b < 8) ∧ farF a b = (b - a) % 8) ∨ ((inB a 0 7 = false ∨ inB b 0 7 = false) ∧ farF a b = -1 ∧ (a < 0 ∨ 8 ≤ a ∨ b < 0 ∨ 8 ≤ b)) := by
  by_cases h : inB a 0 7 = false ∨ inB b 0 7 = false
  · refine .inr ⟨h, farF_out h, ?_⟩
    simp only [inB_not] at h
    omega
  · have h1 : inB a 0 7 = true := by simpa using fun h1 => h (.inl h1)
    have h2 : inB b 0 7 = true := by simpa using fun h2 => h (.inr h2)
    rw [inB_iff] at h1 h2
    exact .inl ⟨by omega, by omega, farF_in (by omega) (by omega)⟩
theorem impl_far_any (a b : Int) (w : World) :
    Calls Try.prog 45 #[.int .i64 a, .int .i64 b] w fun e w' => e = .returned (.int .i64 (farF a b)) ∧ w' = w := by
  rcases far_cases a b with ⟨ha, hb, e⟩ | ⟨h, e, _⟩
  · rw [e]; exact impl_far a b ha hb w
  · rw [e]; exact impl_far_no a b h w
theorem spec_far_any (a b : Int) (w : World) :
    Calls Try.prog 41 #[.int .i64 a, .int .i64 b] w fun e w' => e = .returned (.int .i64 (farF a b)) ∧ w' = w := by
  rcases far_cases a b with ⟨ha, hb, e⟩ | ⟨h, e, _⟩
  · rw [e]; exact spec_far a b ha hb w
  · rw [e]; exact spec_far_no a b h w
end Go.Proofs.Ytdjadeegjbhihaa

/- Lists of pieces in memory: a row of structs that the call owns, each with a row of bytes that it owns, no two in one block. -/
namespace Go.Proofs.Ytdjadeegjbhihaa
open Go.RowKit

/-- A piece as it lies in memory: what it is, how long the message is, where its bytes are, and these. -/
structure Pc where
  seg : Int
  len : Int
  u : Value
  bs : List Nat
/-- Its cells. -/
def Pc.cells (q : Pc) : List Value := [.int .i64 q.seg, .int .i64 q.len, q.u]
def pcells (qs : List Pc) : List Value := qs.flatMap Pc.cells
theorem pcells_cons (q : Pc) (qs : List Pc) : pcells (q :: qs) = q.cells ++ pcells qs := by simp [pcells]
theorem pcells_append (a b : List Pc) : pcells (a ++ b) = pcells a ++ pcells b := by simp [pcells]
theorem pcells_length (qs : List Pc) : (pcells qs).length = qs.length * 3 := by
  induction qs with
  | nil => rfl
  | cons q r ih => rw [pcells_cons, List.length_append, ih]; simp [Pc.cells]; omega
theorem pcells_at (a : List Pc) (q : Pc) (b : List Pc) (c : Nat) (hc : c < 3) : (pcells (a ++ q :: b))[a.length * 3 + c]? = q.cells[c]? := by
  rw [pcells_append, pcells_cons, List.getElem?_append_right (by rw [pcells_length]; omega), pcells_length, show a.length * 3 + c - a.length * 3 = c by omega, List.getElem?_append_left (by simpa [Pc.cells] using hc)]
theorem pcells_set (a : List Pc) (q q' : Pc) (b : List Pc) (c : Nat) (hc : c < 3) (x : Value) (h : q.cells.set c x = q'.cells) : (pcells (a ++ q :: b)).set (a.length * 3 + c) x = pcells (a ++ q' :: b) := by
  rw [pcells_append, pcells_cons, List.set_append_right _ _ (by rw [pcells_length]; omega), pcells_length, show a.length * 3 + c - a.length * 3 = c by omega, List.set_append_left _ _ (by simpa [Pc.cells] using hc), h, pcells_append, pcells_cons]
/-- No block bears both. -/
def Apart (v u : Value) : Prop := ∀ k, v.ownBlock = some k → u.ownBlock ≠ some k
theorem Apart.symm {v u : Value} (h : Apart v u) : Apart u v := fun k e1 e2 => h k e2 e1

/-- The call owns, from block B on, the list of pieces qs. -/
def OwnP (w : World) (B : Nat) (v : Value) (qs : List Pc) : Prop :=
  w.ownsRow B 115 3 v qs.length (pcells qs) ∧ (∀ q ∈ qs, Own w B q.u q.bs) ∧ qs.Pairwise fun p q => Apart p.u q.u
/-- What is told of pieces. -/
def Pc.dat (q : Pc) : Int × Int × List Nat := (q.seg, q.len, q.bs)

theorem OwnP.kept {w w' : World} {B : Nat} {v : Value} {qs : List Pc} (h : OwnP w B v qs) (hb : Below w.heap.size w w') : OwnP w' B v qs :=
  ⟨World.ownsRow.kept h.1 (below_grown hb) (by cases v.ownBlock <;> simp), fun q hq => (h.2.1 q hq).kept hb, h.2.2⟩
theorem OwnP.base {w : World} {B C : Nat} {v : Value} {qs : List Pc} (h : OwnP w B v qs) (hc : C ≤ B) : OwnP w C v qs := by
  refine ⟨⟨h.1.1, ?_⟩, fun q hq => (h.2.1 q hq).base hc, h.2.2⟩
  rcases h.1.2 with h0 | ⟨g, cap, cur, e, hb, r⟩
  · exact .inl h0
  · exact .inr ⟨g, cap, cur, e, Nat.le_trans hc hb, r⟩
/-- What lies below its blocks may change. -/
theorem OwnP.lower {w w' : World} {B : Nat} {v : Value} {qs : List Pc} {r : Option Nat} (h : OwnP w B v qs) (hg : w.grownBy w' r) (hr : ∀ k, r = some k → k < B) : OwnP w' B v qs := by
  have key : ∀ (u : Value), (∀ k, u.ownBlock = some k → B ≤ k) → u.ownBlock = none ∨ u.ownBlock ≠ r := by
    intro u hu
    cases e : u.ownBlock with
    | none => exact .inl rfl
    | some k =>
      refine .inr (fun e' => ?_)
      have a := hu k e
      have b := hr k e'.symm
      omega
  exact ⟨World.ownsRow.kept h.1 hg (key v fun k e => (World.ownsRow.lt h.1 k e).1), fun q hq => World.ownsRow.kept (h.2.1 q hq) hg (key q.u fun k e => (World.ownsRow.lt (h.2.1 q hq) k e).1), h.2.2⟩
/-- A row of bytes that is none of its own may change. -/
theorem OwnP.byRow {w w' : World} {B C : Nat} {v u : Value} {qs : List Pc} {zs : List Nat} (h : OwnP w B v qs) (ho : Own w C u zs) (hap : ∀ p ∈ qs, Apart p.u u) (hg : w.grownBy w' u.ownBlock) : OwnP w' B v qs := by
  refine ⟨World.ownsRow.kept h.1 hg ?_, fun q hq => World.ownsRow.kept (h.2.1 q hq) hg ?_, h.2.2⟩
  · rcases h.1.2 with ⟨hv, _⟩ | ⟨g, cap, cur, hv, _, hc, _⟩
    · exact .inl (by rw [hv]; rfl)
    · refine .inr (fun e => ?_)
      have ht : Typ w g 115 := ⟨cur, _, hc⟩
      exact ht.row ho (by decide) (by rw [← e, hv]; rfl)
  · cases e : q.u.ownBlock with
    | none => exact .inl rfl
    | some k => exact .inr (fun e' => hap q hq k e e'.symm)
theorem OwnP.form {w : World} {B : Nat} {v : Value} {qs : List Pc} (h : OwnP w B v qs) : ∃ a c, v = .slice a qs.length c := by
  rcases h.1.2 with ⟨h, h0⟩ | ⟨g, cap, cur, h, _⟩
  · exact ⟨_, _, by rw [h, h0]⟩
  · exact ⟨_, _, h⟩
theorem OwnP.typ {w : World} {B g n cap : Nat} {qs : List Pc} (h : OwnP w B (.slice (some ⟨g, 0, none⟩) n cap) qs) : Typ w g 115 := by
  rcases h.1.2 with ⟨e, _⟩ | ⟨g', cap', cur, e, _, hg, _⟩
  · cases e
  · simp only [Value.slice.injEq, Option.some.injEq, Addr.mk.injEq, and_true] at e
    obtain ⟨rfl, _⟩ := e
    exact ⟨cur, _, hg⟩
theorem OwnP.nonempty {w : World} {B : Nat} {v : Value} {qs : List Pc} (h : OwnP w B v qs) (hn : 0 < qs.length) : ∃ g cap, v = .slice (some ⟨g, 0, none⟩) qs.length cap ∧ B ≤ g ∧ qs.length ≤ cap := by
  rcases h.1.2 with ⟨_, h0⟩ | ⟨g, cap, cur, h, hB, _, hc, _⟩
  · omega
  · exact ⟨g, cap, h, hB, hc⟩
/-- A cell of the row. -/
theorem OwnP.cell {w : World} {B g n cap : Nat} {a b : List Pc} {q : Pc} (h : OwnP w B (.slice (some ⟨g, 0, none⟩) n cap) (a ++ q :: b)) (hn : n = (a ++ q :: b).length) (c : Nat) (hc : c < 3) : w.cell? ⟨g, a.length * 3 + c, none⟩ = q.cells[c]? := by
  subst hn
  rw [World.ownsRow.cellAt h.1 _ (by simp; omega), pcells_at a q b c hc]
theorem OwnP.frozen {w : World} {B g n cap : Nat} {qs : List Pc} (h : OwnP w B (.slice (some ⟨g, 0, none⟩) n cap) qs) (hn : n = qs.length) (j : Nat) : w.frozen? ⟨g, j, none⟩ = false := by
  subst hn
  exact World.ownsRow.frozenAt h.1 j
/-- A number of one piece is written. -/
theorem OwnP.write {w : World} {B g n cap : Nat} {a b : List Pc} {q q' : Pc} (h : OwnP w B (.slice (some ⟨g, 0, none⟩) n cap) (a ++ q :: b)) (hn : n = (a ++ q :: b).length) (c : Nat) (hc : c < 3) (x : Value) (hx : q.cells.set c x = q'.cells) (hu : q'.u = q.u) (hb : q'.bs = q.bs) :
    OwnP (w.setCell ⟨g, a.length * 3 + c, none⟩ x) B (.slice (some ⟨g, 0, none⟩) n cap) (a ++ q' :: b) := by
  have hT := h.typ
  obtain ⟨h1, h2, h3⟩ := h
  subst hn
  have hl : (a ++ q' :: b).length = (a ++ q :: b).length := by simp
  refine ⟨?_, ?_, ?_⟩
  · have S := (World.ownsRow.stored h1 (a.length * 3 + c) x).1
    rw [pcells_set a q q' b c hc x hx] at S
    rw [hl]
    exact S
  · intro p hp
    have key : ∀ p ∈ a ++ q :: b, Own (w.setCell ⟨g, a.length * 3 + c, none⟩ x) B p.u p.bs := fun p hp => (h2 p hp).far _ _ _ (hT.row (h2 p hp) (by decide))
    rcases List.mem_append.1 hp with hp | hp
    · exact key p (List.mem_append.2 (.inl hp))
    · rcases List.mem_cons.1 hp with rfl | hp
      · rw [hu, hb]; exact key q (by simp)
      · exact key p (by simp [hp])
  · rw [List.pairwise_append, List.pairwise_cons] at h3 ⊢
    obtain ⟨p1, ⟨p2, p3⟩, p4⟩ := h3
    refine ⟨p1, ⟨fun r hr => by rw [hu]; exact p2 r hr, p3⟩, fun r hr y hy => ?_⟩
    rcases List.mem_cons.1 hy with rfl | hy
    · rw [hu]; exact p4 r hr q (by simp)
    · exact p4 r hr y (by simp [hy])
/-- The bytes of one piece are written. -/
theorem OwnP.row {w w' : World} {B g n cap : Nat} {a b : List Pc} {q q' : Pc} (h : OwnP w B (.slice (some ⟨g, 0, none⟩) n cap) (a ++ q :: b)) (hn : n = (a ++ q :: b).length) (ho : Own w' B q'.u q'.bs) (hg : w.grownBy w' q.u.ownBlock) (hu : q'.u = q.u) (hc : q'.cells = q.cells) :
    OwnP w' B (.slice (some ⟨g, 0, none⟩) n cap) (a ++ q' :: b) := by
  have hT := h.typ
  obtain ⟨h1, h2, h3⟩ := h
  subst hn
  have hl : (a ++ q' :: b).length = (a ++ q :: b).length := by simp
  have ap := h3
  rw [List.pairwise_append, List.pairwise_cons] at h3
  obtain ⟨p1, ⟨p2, p3⟩, p4⟩ := h3
  refine ⟨?_, ?_, ?_⟩
  · have hne := hT.row (h2 q (by simp)) (by decide)
    have e : pcells (a ++ q' :: b) = pcells (a ++ q :: b) := by rw [pcells_append, pcells_cons, hc, pcells_append, pcells_cons]
    rw [hl, e]
    exact World.ownsRow.kept h1 hg (.inr hne)
  · have key : ∀ p ∈ a ++ q :: b, Apart p.u q.u → Own w' B p.u p.bs := fun p hp hap => by
      refine World.ownsRow.kept (h2 p hp) hg ?_
      cases e : p.u.ownBlock with
      | none => exact .inl rfl
      | some k => exact .inr (fun e' => hap k e e'.symm)
    intro p hp
    rcases List.mem_append.1 hp with hp | hp
    · exact key p (by simp [hp]) (p4 p hp q (by simp))
    · rcases List.mem_cons.1 hp with rfl | hp
      · exact ho
      · exact key p (by simp [hp]) (Apart.symm (p2 p hp))
  · rw [List.pairwise_append, List.pairwise_cons]
    refine ⟨p1, ⟨fun x hx => by rw [hu]; exact p2 x hx, p3⟩, fun x hx y hy => ?_⟩
    rcases List.mem_cons.1 hy with rfl | hy
    · rw [hu]; exact p4 x hx q (by simp)
    · exact p4 x hx y (by simp [hy])
theorem OwnP.at {w : World} {B : Nat} {v : Value} {a b : List Pc} {q : Pc} (h : OwnP w B v (a ++ q :: b)) : Own w B q.u q.bs := h.2.1 q (by simp)
/-- Nothing; one piece. -/
theorem ownP_none (w : World) (B : Nat) : OwnP w B (.slice none 0 0) [] := ⟨World.ownsRow_nil w B _ _, by simp, by simp⟩
theorem ownP_empty (w : World) (B : Nat) (hB : B ≤ w.heap.size) : OwnP (w.alloc (.cells #[] 115)) B (.slice (some ⟨w.heap.size, 0, none⟩) 0 0) [] :=
  ⟨World.ownsRow_lit (base := B) (e := 115) (size := 3) w #[] 0 hB (by unfold maxLen; omega) rfl, by simp, by simp⟩
theorem ownP_one (w : World) (B : Nat) (q : Pc) (hB : B ≤ w.heap.size) (ho : Own w B q.u q.bs) : OwnP (w.alloc (.cells #[.int .i64 q.seg, .int .i64 q.len, q.u] 115)) B (.slice (some ⟨w.heap.size, 0, none⟩) 1 1) [q] := by
  refine ⟨?_, ?_, by simp⟩
  · have := World.ownsRow_lit (base := B) (e := 115) (size := 3) w #[.int .i64 q.seg, .int .i64 q.len, q.u] 1 hB (by unfold maxLen; omega) rfl
    simpa [pcells, Pc.cells] using this
  · intro p hp
    simp only [List.mem_singleton] at hp
    subst hp
    exact ho.alloc _
end Go.Proofs.Ytdjadeegjbhihaa

/- Parts of lists of bytes: the first ones, the rest. -/
namespace Go.Proofs.Ytdjadeegjbhihaa
open Go.RowKit

theorem rd_nil (w : World) : Rd w (.slice none 0 0) [] := ⟨fun z hz => by simp at hz, by simp, .inl ⟨rfl, _, _, rfl, fun _ => rfl⟩⟩
theorem rd_set {w : World} {s : Value} {zs : List Nat} {g o : Nat} {x : Value} (h : Rd w s zs) (hlt : ∀ b, s.ownBlock = some b → b < g) : Rd (w.setCell ⟨g, o, none⟩ x) s zs := by
  have hne : s.ownBlock ≠ some g := fun e => by have := hlt g e; omega
  obtain ⟨h1, h2, h3⟩ := h
  refine ⟨h1, h2, ?_⟩
  rcases h3 with h3 | ⟨b, off, cap, e, h4, h5, h6, h7⟩
  · exact .inl h3
  · refine .inr ⟨b, off, cap, e, h4, h5, by simpa using h6, fun j hj => ?_⟩
    have hne' : (⟨g, o, none⟩ : Addr) ≠ ⟨b, off + j, none⟩ := by
      intro e'
      simp only [Addr.mk.injEq] at e'
      rw [e] at hne
      exact hne (by simp [Value.ownBlock, e'.1])
    exact (cell_far hne').trans (h7 j hj)
theorem Rd.room {w : World} {v : Value} {zs : List Nat} (h : Rd w v zs) : ∃ a cap, v = .slice a zs.length cap ∧ zs.length ≤ cap := by
  rcases h.2.2 with ⟨rfl, a, c, rfl, _⟩ | ⟨b, off, cap, rfl, h4, _⟩
  · exact ⟨_, _, rfl, Nat.zero_le _⟩
  · exact ⟨_, _, rfl, h4⟩
theorem Rd.first {w : World} {a : Option Addr} {cap n : Nat} {zs : List Nat} (h : Rd w (.slice a zs.length cap) zs) (hn : n ≤ zs.length) : Rd w (.slice a n cap) (zs.take n) := by
  obtain ⟨h1, h2, h3⟩ := h
  refine ⟨h1.take n, by rw [List.length_take]; omega, ?_⟩
  rcases h3 with ⟨rfl, a', c', e, hnone⟩ | ⟨b, off, cap', e, h4, h5, h6, h7⟩
  · simp only [Value.slice.injEq] at e
    obtain ⟨rfl, _, rfl⟩ := e
    obtain rfl : n = 0 := by simpa using hn
    exact .inl ⟨rfl, _, _, rfl, hnone⟩
  · simp only [Value.slice.injEq, true_and] at e
    obtain ⟨rfl, rfl⟩ := e
    refine .inr ⟨b, off, cap, by rw [List.length_take, Nat.min_eq_left hn], by rw [List.length_take]; omega, h5, h6, fun j hj => ?_⟩
    rw [List.length_take] at hj
    rw [h7 j (by omega)]
    simp [show j < n by omega]
theorem Rd.rest {w : World} {a : Option Addr} {cap n : Nat} {zs : List Nat} (h : Rd w (.slice a zs.length cap) zs) (hn : n ≤ zs.length) : Rd w (.slice (if cap = n then a else a.map fun x => x.add n) (zs.length - n) (cap - n)) (zs.drop n) := by
  obtain ⟨h1, h2, h3⟩ := h
  refine ⟨fun z hz => h1 z (List.mem_of_mem_drop hz), by rw [List.length_drop]; omega, ?_⟩
  by_cases h0 : zs.length = n
  · left
    refine ⟨by rw [List.drop_eq_nil_iff]; omega, _, _, by rw [h0, Nat.sub_self], fun e => ?_⟩
    rcases h3 with ⟨rfl, a', c', e', hnone⟩ | ⟨b, off, cap', e', h4, h5, h6, h7⟩
    · simp only [Value.slice.injEq] at e'
      obtain ⟨rfl, _, rfl⟩ := e'
      split at e
      · have := hnone e; omega
      · have := hnone (by simpa using e); omega
    · simp only [Value.slice.injEq, true_and] at e'
      obtain ⟨rfl, rfl⟩ := e'
      split at e <;> simp at e
  · right
    rcases h3 with ⟨rfl, a', c', e', hnone⟩ | ⟨b, off, cap', e', h4, h5, h6, h7⟩
    · simp at hn h0; omega
    · simp only [Value.slice.injEq, true_and] at e'
      obtain ⟨rfl, rfl⟩ := e'
      refine ⟨b, off + n, cap - n, ?_, by rw [List.length_drop]; omega, by omega, h6, fun j hj => ?_⟩
      · rw [if_neg (by omega), List.length_drop, Option.map_some, add_at]
      · rw [List.length_drop] at hj
        rw [show off + n + j = off + (n + j) by omega, h7 (n + j) (by omega)]
        simp [List.getElem?_drop]
theorem head_block {a : Option Addr} {m c m' c' : Nat} : (Value.slice a m c).ownBlock = (Value.slice a m' c').ownBlock := by cases a <;> rfl
theorem rest_block {a : Option Addr} {cap n m c m' c' : Nat} : (Value.slice (if cap = n then a else a.map fun x => x.add n) m c).ownBlock = (Value.slice a m' c').ownBlock := by
  split
  · cases a <;> rfl
  · cases a with
    | none => rfl
    | some x => simp [Value.ownBlock, Addr.add]; split <;> rfl
end Go.Proofs.Ytdjadeegjbhihaa

/- One more piece behind a list of them; a new piece. -/
namespace Go.Proofs.Ytdjadeegjbhihaa
open Go.RowKit

theorem Try.infoP : (Try.prog.info? 115).map (fun i => (i.zero, i.size, i.bytes)) = some (some (.agg #[.int .i64 0, .int .i64 0, .slice none 0 0]), 3, 40) := by kernel_rfl
theorem wpList_appP (w : World) {ops : Array Oper} {rest : List Oper} {o : Oper} {a : Act} {Q : Exit → Act → World → Prop} (hgd : o.guard = none) (s x : Operand)
    (ho : o.op = .call { callee := .builtin .append, args := #[s, x], argTypes := #[31, 31] }) (B : Nat) (v : Value) (qs : List Pc) (hs : a.eval s = v) (hown : OwnP w B v qs)
    (g c : Nat) (q : Pc) (hx : a.eval x = .slice (some ⟨g, 0, none⟩) 1 c) (c0 : w.cell? ⟨g, 0, none⟩ = some (.int .i64 q.seg)) (c1 : w.cell? ⟨g, 1, none⟩ = some (.int .i64 q.len)) (c2 : w.cell? ⟨g, 2, none⟩ = some q.u)
    (hq : Own w B q.u q.bs) (hap : ∀ p ∈ qs, Apart p.u q.u) (hl : qs.length ≤ 1000000) (hB : B ≤ w.heap.size)
    (h : ∀ v' w', OwnP w' B v' (qs ++ [q]) → Below B w w' → wpList Try.prog ops Q rest (a.put o.dst v') w') : wpList Try.prog ops Q (o :: rest) a w := by
  obtain ⟨i0, hi, hz0, hz1, hz2⟩ := info_parts Try.infoP
  obtain ⟨au, cu, hu⟩ := hq.form
  refine wpList_append_own w hgd s x 31 ho B 115 i0 (.agg #[.int .i64 0, .int .i64 0, .slice none 0 0]) 3 40 Try.underlying31 hi hz0 hz1 hz2 rfl (by decide) v qs.length (pcells qs) hs hown.1 ⟨g, 0, none⟩ 1 c q.cells hx rfl ?_ ?_ (by unfold maxLen; omega) (by omega) hB ?_
  · intro j u hj
    rw [add_at, Nat.zero_add]
    match j, hj with
    | 0, hj => rw [c0]; exact hj
    | 1, hj => rw [c1]; exact hj
    | 2, hj => rw [c2]; exact hj
    | (k + 3), hj => simp [Pc.cells] at hj
  · intro u hu'
    simp only [Pc.cells, List.mem_cons, List.not_mem_nil, or_false] at hu'
    rcases hu' with rfl | rfl | rfl
    · rfl
    · rfl
    · rw [hu]; rfl
  · intro v' w' h1 h2 _
    have key : ∀ p : Pc, Own w B p.u p.bs → Own w' B p.u p.bs := by
      intro p hp
      refine World.ownsRow.kept hp h2 ?_
      cases e : p.u.ownBlock with
      | none => exact .inl rfl
      | some k =>
        refine .inr (fun e' => ?_)
        rcases hown.1.2 with ⟨hv, _⟩ | ⟨g', cap', cur, hv, _, hg, _⟩
        · rw [hv] at e'; cases e'
        · have ht : Typ w g' 115 := ⟨cur, _, hg⟩
          have hne := ht.row hp (by decide)
          rw [hv] at e'
          exact hne (by rw [e, e']; rfl)
    refine h v' w' ⟨?_, ?_, ?_⟩ ((Below.refl _ _).grown h2 hB (fun k e => (World.ownsRow.lt hown.1 k e).1))
    · rw [pcells_append, List.length_append]
      simpa [pcells] using h1
    · intro p hp
      rcases List.mem_append.1 hp with hp | hp
      · exact key p (hown.2.1 p hp)
      · simp only [List.mem_singleton] at hp
        subst hp
        exact key p hq
    · rw [List.pairwise_append]
      refine ⟨hown.2.2, by simp, fun x hx y hy => ?_⟩
      simp only [List.mem_singleton] at hy
      subst hy
      exact hap x hx
/-- Rows that were there are not new ones. -/
theorem OwnP.apart {w w' : World} {B C : Nat} {v : Value} {qs : List Pc} {u : Value} {zs : List Nat} (h : OwnP w B v qs) (hC : w.heap.size ≤ C) (ho : Own w' C u zs) : ∀ p ∈ qs, Apart p.u u := fun p hp => own_apart (h.2.1 p hp) hC ho
end Go.Proofs.Ytdjadeegjbhihaa

/- Boxed variables: a block that holds these cells, of a type that is no byte's. -/
namespace Go.Proofs.Ytdjadeegjbhihaa
open Go.RowKit

/-- The block b holds these cells, they may be written, and their type is t. -/
def BxV (w : World) (b : Nat) (cs : Array Value) (t : Nat) : Prop := CelF w b cs ∧ Typ w b t
theorem BxV.kept {w w' : World} {b : Nat} {cs : Array Value} {t : Nat} (h : BxV w b cs t) (hb : Below w.heap.size w w') : BxV w' b cs t := ⟨h.1.kept hb, h.2.kept hb⟩
theorem BxV.k {w : World} {b : Nat} {cs : Array Value} {t : Nat} (h : BxV w b cs t) : ∀ k, w.cell? ⟨b, k, none⟩ = cs[k]? := h.1.2.1
theorem BxV.f {w : World} {b : Nat} {cs : Array Value} {t : Nat} (h : BxV w b cs t) : ∀ k, w.frozen? ⟨b, k, none⟩ = false := h.1.2.2
theorem BxV.lt {w : World} {b : Nat} {cs : Array Value} {t : Nat} (h : BxV w b cs t) : b < w.heap.size := h.1.1
/-- A row of bytes is no box. -/
theorem BxV.row {w : World} {b : Nat} {cs : Array Value} {t : Nat} {B : Nat} {v : Value} {zs : List Nat} (h : BxV w b cs t) (ho : Own w B v zs) (ht : t ≠ 5) : some b ≠ v.ownBlock := h.2.row ho ht
theorem BxV.mark {w w' : World} {b : Nat} {cs : Array Value} {t : Nat} {B : Nat} {v : Value} {zs : List Nat} (h : BxV w b cs t) (ho : Own w B v zs) (hg : w.grownBy w' v.ownBlock) (ht : t ≠ 5) : BxV w' b cs t :=
  ⟨h.1.other hg (h.row ho ht), h.2.other hg (h.row ho ht)⟩
theorem BxV.put {w : World} {b : Nat} {cs : Array Value} {t : Nat} (h : BxV w b cs t) (i : Nat) (hi : i < cs.size) (x : Value) : BxV (w.setCell ⟨b, i, none⟩ x) b (cs.setIfInBounds i x) t := ⟨h.1.put i hi x, h.2.set _ _⟩
theorem bx_new (w : World) (cs : Array Value) (t : TypeId) : BxV (w.alloc (.cells cs t)) w.heap.size cs t := ⟨celF_box _ _ _, typ_box _ _ _⟩
theorem below_alloc (w : World) (o : Obj) : Below w.heap.size w (w.alloc o) := (Below.refl _ _).alloc (Nat.le_refl _) o
theorem bx_made (w : World) (cs : Array Value) (t : TypeId) : ∃ w1, w.alloc (.cells cs t) = w1 ∧ BxV w1 w.heap.size cs t ∧ Below w.heap.size w w1 := ⟨_, rfl, bx_new _ _ _, below_alloc _ _⟩
/-- One, two, three boxes. -/
theorem one_box (w : World) (cs1 : Array Value) (t1 : TypeId) :
    ∃ w0, w.alloc (.cells cs1 t1) = w0 ∧ BxV w0 w.heap.size cs1 t1 ∧ Below w.heap.size w w0 ∧ w.heap.size + 1 ≤ w0.heap.size := ⟨_, rfl, bx_new _ _ _, below_alloc _ _, by simp⟩
theorem two_boxes (w : World) (cs1 : Array Value) (t1 : TypeId) (cs2 : Array Value) (t2 : TypeId) :
    ∃ w0, (w.alloc (.cells cs1 t1)).alloc (.cells cs2 t2) = w0 ∧ BxV w0 w.heap.size cs1 t1 ∧ BxV w0 (w.heap.size + 1) cs2 t2 ∧ Below w.heap.size w w0 ∧ w.heap.size + 2 ≤ w0.heap.size := by
  refine ⟨_, rfl, (bx_new w cs1 t1).kept (below_alloc _ _), ?_, bchain (below_alloc _ _) (below_alloc _ _), by simp⟩
  have := bx_new (w.alloc (.cells cs1 t1)) cs2 t2
  simpa using this
/-- A row that the call owns stays behind a write into a box. -/
theorem Own.box {w : World} {B : Nat} {v : Value} {zs : List Nat} (ho : Own w B v zs) {b : Nat} {cs : Array Value} {t : Nat} (h : BxV w b cs t) (ht : t ≠ 5) (i : Nat) (x : Value) : Own (w.setCell ⟨b, i, none⟩ x) B v zs := ho.far _ _ _ (h.row ho ht)
end Go.Proofs.Ytdjadeegjbhihaa

/- The program's SegCut: the pieces of a message, in new memory. -/
namespace Go.Proofs.Ytdjadeegjbhihaa
open Go.RowKit

/-- The pieces behind the first one. -/
def moreD (m : Nat) (zs : List Nat) : List Dat :=
  if _h : m = 0 ∨ zs.length ≤ m then [(3, 0, zs)] else (2, 0, zs.take m) :: moreD m (zs.drop m)
termination_by zs.length
decreasing_by simp only [List.length_drop]; omega
theorem moreD_last {m : Nat} {zs : List Nat} (h : zs.length ≤ m) : moreD m zs = [(3, 0, zs)] := by
  rw [moreD, dif_pos (.inr h)]
theorem moreD_more {m : Nat} {zs : List Nat} (h1 : 1 ≤ m) (h : m < zs.length) : moreD m zs = (2, 0, zs.take m) :: moreD m (zs.drop m) := by
  rw [moreD, dif_neg (by omega)]
/-- The pieces of a message. -/
def cutD (zs : List Nat) (m : Int) : List Dat :=
  if zs.length ≤ 24 ∧ 1 ≤ m ∧ m ≤ 8 then (if (zs.length : Int) ≤ m then [(0, zs.length, zs)] else (1, zs.length, zs.take m.toNat) :: moreD m.toNat (zs.drop m.toNat)) else []
theorem moreD_small (m : Nat) : ∀ (n : Nat) (zs : List Nat), zs.length ≤ n → Byt zs → ∀ d ∈ moreD m zs, Byt d.2.2 ∧ d.2.2.length ≤ n := by
  intro n zs hn hz d hd
  induction zs using moreD.induct (m := m) generalizing n d with
  | case1 zs h =>
    rw [moreD, dif_pos h] at hd
    simp only [List.mem_singleton] at hd
    subst hd
    exact ⟨hz, hn⟩
  | case2 zs h ih =>
    rw [moreD, dif_neg h] at hd
    rcases List.mem_cons.1 hd with rfl | hd
    · exact ⟨hz.take m, by simp; omega⟩
    · exact ih n (by simp; omega) (fun z hz' => hz z (List.mem_of_mem_drop hz')) d hd
theorem cutD_small (zs : List Nat) (m : Int) (hz : Byt zs) : ∀ d ∈ cutD zs m, Byt d.2.2 ∧ d.2.2.length ≤ 24 := by
  intro d hd
  unfold cutD at hd
  split at hd
  · rename_i h
    split at hd
    · simp only [List.mem_singleton] at hd
      subst hd
      exact ⟨hz, h.1⟩
    · rcases List.mem_cons.1 hd with rfl | hd
      · exact ⟨hz.take _, by simp; omega⟩
      · exact moreD_small _ 24 _ (by simp; omega) (fun z hz' => hz z (List.mem_of_mem_drop hz')) d hd
  · simp at hd
theorem moreD_length (m : Nat) : ∀ (n : Nat) (zs : List Nat), zs.length ≤ n → (moreD m zs).length ≤ n + 1 := by
  intro n zs hn
  induction zs using moreD.induct (m := m) generalizing n with
  | case1 zs h => rw [moreD, dif_pos h]; simp
  | case2 zs h ih =>
    rw [moreD, dif_neg h]
    have := ih (n - 1) (by simp; omega)
    simp
    omega
theorem cutD_length (zs : List Nat) (m : Int) : (cutD zs m).length ≤ 30 := by
  unfold cutD
  split
  · rename_i h
    split
    · simp
    · have := moreD_length m.toNat 24 (zs.drop m.toNat) (by simp; omega)
      simp
      omega
  · simp
/-- How many cells a slice has. -/
def lenOf : Value → Nat
  | .slice _ n _ => n
  | _ => 0
theorem lenOf_slice (a : Option Addr) (n c : Nat) : lenOf (.slice a n c) = n := rfl

/-- Pieces as the document says, in new memory. -/
def CutAns (B : Nat) (zs : List Nat) (m : Int) (e : Ending) (w : World) : Prop := ∃ v qs, e = .returned v ∧ OwnP w B v qs ∧ qs.map Pc.dat = cutD zs m
end Go.Proofs.Ytdjadeegjbhihaa

/- SegCut of the specification: the pieces of a message, in new memory. -/
namespace Go.Proofs.Ytdjadeegjbhihaa
open Go.RowKit

end Go.Proofs.Ytdjadeegjbhihaa

/- FrmOk of the specification answers whether a frame is ok. -/
namespace Go.Proofs.Ytdjadeegjbhihaa
open Go.RowKit


end Go.Proofs.Ytdjadeegjbhihaa
