/- Laws and contracts that the proof stands on: In, Bytes, Boxes, Cfg, LiOk, Append, FrmMath, OwnMore, Piece, IsNum, ImplFrm, ImplFrmOk, SpecFrm, CrcMath, CrcStep, CrcOf, CrcPut, OpenOrder, OpenRead, ImplFrmBytes, SpecFrmBytes, CrcCut, RdMore, FrmReader, FrmReadF, FrmReadMath, ImplFrmRead. -/
import Derived.Test.YthnlpdjjnfkmeaaDoorRows
import Derived.WalkKit
import Derived.WalkLawsBesides
import Derived.WalkSpells
import Derived.WalkSmall
import Derived.Deep.OwnRows
import Derived.Deep.QuietTactic
import Derived.BigQuiet
import Derived.Laws.Tables
import Derived.Deep.Light
import Derived.Laws.StructEq
import Derived.Handy
import Derived.Laws.AppendOwnNone
import Derived.Laws.BytesArg
import Derived.Lib.Bytes
import Derived.Deep.RegionLaw
/- Whether a number lies between two bounds: the specification's own test. -/
namespace Go.Proofs.YthnlpdjjnfkmeaaDoor
open Go.RowKit

def inB (n lo hi : Int) : Bool := decide (lo ≤ n) && decide (n ≤ hi)
theorem inB_iff (n lo hi : Int) : inB n lo hi = true ↔ lo ≤ n ∧ n ≤ hi := by simp [inB]
theorem inB_not (n lo hi : Int) : inB n lo hi = false ↔ n < lo ∨ hi < n := by
  rw [← Bool.not_eq_true, inB_iff]; omega
theorem ret_bool {a b : Bool} (h : a = b) : Ending.returned (.bool a) = .returned (.bool b) := by rw [h]
theorem ret_int {k : IntKind} {a b : Int} (h : a = b) : Ending.returned (.int k a) = .returned (.int k b) := by rw [h]

theorem i64_xor_nat (a b : Nat) (ha : a < 9223372036854775808) (hb : b < 9223372036854775808) : bits .xor .i64 (a : Int) (b : Int) = ((a ^^^ b : Nat) : Int) := by
  have hx : a ^^^ b < 2 ^ 63 := Nat.xor_lt_two_pow (by omega) (by omega)
  have h1 : (BitVec.ofInt 64 (a : Int)).toNat = a := by
    rw [BitVec.ofInt_natCast, BitVec.toNat_ofNat]; exact Nat.mod_eq_of_lt (by omega)
  have h2 : (BitVec.ofInt 64 (b : Int)).toNat = b := by
    rw [BitVec.ofInt_natCast, BitVec.toNat_ofNat]; exact Nat.mod_eq_of_lt (by omega)
  show IntKind.i64.wrap ((BitVec.ofInt 64 (a : Int) ^^^ BitVec.ofInt 64 (b : Int)).toNat : Int) = _
  rw [BitVec.toNat_xor, h1, h2]
  simp [IntKind.wrap, IntKind.bits, IntKind.signed]
  omega
theorem in_yes (n lo hi : Int) (h1 : lo ≤ n) (h2 : n ≤ hi) (w : World) :
    Calls Tryd.prog 34 #[.int .i64 n, .int .i64 lo, .int .i64 hi] w fun e w' => e = .returned (.bool true) ∧ w' = w := by
  go_enter Tryd.func34, Tryd.ntmps34
  go_wp2
  go_ret
  exact ⟨rfl, rfl⟩
theorem in_low (n lo hi : Int) (h1 : n < lo) (w : World) :
    Calls Tryd.prog 34 #[.int .i64 n, .int .i64 lo, .int .i64 hi] w fun e w' => e = .returned (.bool false) ∧ w' = w := by
  have h1' : ¬ lo ≤ n := by omega
  go_enter Tryd.func34, Tryd.ntmps34
  go_wp2
  go_ret
  exact ⟨rfl, rfl⟩
theorem in_high (n lo hi : Int) (h0 : lo ≤ n) (h1 : hi < n) (w : World) :
    Calls Tryd.prog 34 #[.int .i64 n, .int .i64 lo, .int .i64 hi] w fun e w' => e = .returned (.bool false) ∧ w' = w := by
  have h1' : ¬ n ≤ hi := by omega
  go_enter Tryd.func34, Tryd.ntmps34
  go_wp2
  go_ret
  exact ⟨rfl, rfl⟩
theorem in_no (n lo hi : Int) (h : n < lo ∨ hi < n) (w : World) :
    Calls Tryd.prog 34 #[.int .i64 n, .int .i64 lo, .int .i64 hi] w fun e w' => e = .returned (.bool false) ∧ w' = w := by
  by_cases h1 : n < lo
  · exact in_low n lo hi h1 w
  · exact in_high n lo hi (by omega) (by omega) w
theorem in_any (n lo hi : Int) (w : World) :
    Calls Tryd.prog 34 #[.int .i64 n, .int .i64 lo, .int .i64 hi] w fun e w' => e = .returned (.bool (inB n lo hi)) ∧ w' = w := by
  cases h : inB n lo hi
  · exact in_no n lo hi ((inB_not n lo hi).1 h) w
  · exact in_yes n lo hi ((inB_iff n lo hi).1 h).1 ((inB_iff n lo hi).1 h).2 w
end Go.Proofs.YthnlpdjjnfkmeaaDoor

/- Lists of bytes in memory: what a slice reads as, what a call owns, and how both outlast later steps. -/
namespace Go.Proofs.YthnlpdjjnfkmeaaDoor
open Go.RowKit

theorem Tryd.infoB : (Tryd.prog.info? 5).map (fun i => (i.zero, i.size, i.bytes)) = some (some (.int .u8 0), 1, 1) := by kernel_rfl

/-- The cells of bytes. -/
def bcells (zs : List Nat) : List Value := zs.map fun z : Nat => Value.int .u8 (z : Int)
theorem bcells_length (zs : List Nat) : (bcells zs).length = zs.length := by simp [bcells]
theorem bcells_get (zs : List Nat) (j : Nat) (h : j < zs.length) : (bcells zs)[j]? = some (.int .u8 ((zs.getD j 0 : Nat) : Int)) := by
  simp [bcells, h]
theorem bcells_one (zs : List Nat) : ∀ u ∈ bcells zs, u.oneCell' = true := by
  intro u hu
  simp only [bcells, List.mem_map] at hu
  obtain ⟨z, _, rfl⟩ := hu
  rfl
theorem bcells_append (a b : List Nat) : bcells (a ++ b) = bcells a ++ bcells b := by simp [bcells]

/-- All are bytes. -/
def Byt (zs : List Nat) : Prop := ∀ z ∈ zs, z < 256
theorem Byt.get {zs : List Nat} (h : Byt zs) (j : Nat) : zs.getD j 0 < 256 := by
  by_cases hj : j < zs.length
  · rw [List.getD_eq_getElem?_getD, List.getElem?_eq_getElem hj]; exact h _ (List.getElem_mem hj)
  · rw [List.getD_eq_getElem?_getD, List.getElem?_eq_none (by omega)]; simp
theorem Byt.take {zs : List Nat} (h : Byt zs) (n : Nat) : Byt (zs.take n) := fun z hz => h z (List.mem_of_mem_take hz)

/-- The slice v reads, in w, as the bytes zs. -/
def Rd (w : World) (v : Value) (zs : List Nat) : Prop :=
  Byt zs ∧ zs.length ≤ 2000000 ∧ ((zs = [] ∧ ∃ a c, v = .slice a 0 c ∧ (a = none → c = 0)) ∨
    ∃ b off cap, v = .slice (some ⟨b, off, none⟩) zs.length cap ∧ zs.length ≤ cap ∧ cap ≤ maxLen ∧ b < w.heap.size ∧ ∀ j, j < zs.length → w.cell? ⟨b, off + j, none⟩ = some (.int .u8 ((zs.getD j 0 : Nat) : Int)))
/-- The call owns, from block B on, the row of bytes zs. -/
def Own (w : World) (B : Nat) (v : Value) (zs : List Nat) : Prop := w.ownsRow B 5 1 v zs.length (bcells zs)

theorem Rd.kept {w w' : World} {v : Value} {zs : List Nat} (h : Rd w v zs) (hb : Below w.heap.size w w') : Rd w' v zs := by
  obtain ⟨h1, h2, h3⟩ := h
  refine ⟨h1, h2, ?_⟩
  rcases h3 with h3 | ⟨b, off, cap, e, h4, h5, h6, h7⟩
  · exact .inl h3
  · exact .inr ⟨b, off, cap, e, h4, h5, Nat.lt_of_lt_of_le h6 hb.size, fun j hj => (hb.cell (p := ⟨b, off + j, none⟩) h6).trans (h7 j hj)⟩
theorem Own.rd {w : World} {B : Nat} {v : Value} {zs : List Nat} (h : Own w B v zs) (hz : Byt zs) (hl : zs.length ≤ 2000000) : Rd w v zs := by
  refine ⟨hz, hl, ?_⟩
  have h0 := h
  rcases h.2 with ⟨e, h1⟩ | ⟨g, cap, cur, e, _, h2, h3, h4, _, _⟩
  · exact .inl ⟨List.length_eq_zero_iff.1 h1, _, _, e, fun _ => rfl⟩
  · refine .inr ⟨g, 0, cap, e, h3, h4, ?_, fun j hj => ?_⟩
    · exact (h0.lt g (by rw [e]; rfl)).2
    · unfold Own at h0
      rw [e] at h0
      rw [Nat.zero_add, h0.cellAt j (by omega), bcells_get zs j hj]
theorem below_grown {w w' : World} (hb : Below w.heap.size w w') : w.grownBy w' none := ⟨hb.os, hb.tape, hb.output, hb.size, fun k hk _ => hb.block k hk⟩
theorem Own.kept {w w' : World} {B : Nat} {v : Value} {zs : List Nat} (h : Own w B v zs) (hb : Below w.heap.size w w') : Own w' B v zs :=
  World.ownsRow.kept h (below_grown hb) (by cases v.ownBlock <;> simp)
/-- What lies in other blocks stays behind a step that writes one row. -/
theorem Own.other {w w' : World} {B : Nat} {v u : Value} {zs : List Nat} (h : Own w B v zs) (hg : w.grownBy w' u.ownBlock) (hne : ∀ k, v.ownBlock = some k → u.ownBlock ≠ some k) : Own w' B v zs :=
  World.ownsRow.kept h hg (by
    cases e : v.ownBlock with
    | none => exact .inl rfl
    | some k => exact .inr (fun e' => hne k e e'.symm))
theorem bchain {w w1 w2 : World} (h : Below w.heap.size w w1) (k : Below w1.heap.size w1 w2) : Below w.heap.size w w2 := h.trans (k.mono h.size)
theorem below_drew {w : World} (n : Nat) : Below w.heap.size w (w.drewN n) := below_drewN (Below.refl _ _) n

/-- What the law's frame tells of a slice of integers that came in. -/
def IsRow (k : IntKind) (w : World) (a : Option Addr) (len cap : Nat) (zs : List Int) : Prop :=
  (a = none ∧ len = 0 ∧ cap = 0 ∧ zs = []) ∨
  ∃ x, a = some x ∧ len ≤ cap ∧ cap ≤ maxLen ∧ zs.length = cap ∧ (∀ i, i < zs.length → w.cell? (x.add i) = some (.int k (zs.getD i 0))) ∧ ∀ n ∈ zs, (Lit.int k n).wf = true
theorem wf_u8 {n : Int} (h : (Lit.int .u8 n).wf = true) : 0 ≤ n ∧ n < 256 := by
  simp [Lit.wf, IntKind.min, IntKind.max, IntKind.bits, IntKind.signed] at h
  omega
theorem IsRow.rd {w : World} {a : Option Addr} {len cap : Nat} {zs : List Int} (h : IsRow .u8 w a len cap zs) (hl : len ≤ 2000000) : ∃ bs : List Nat, Rd w (.slice a len cap) bs ∧ bs.length = len := by
  rcases h with ⟨rfl, rfl, rfl, rfl⟩ | ⟨x, rfl, h1, h2, h3, h4, h5⟩
  · exact ⟨[], ⟨fun z hz => by simp at hz, by simp, .inl ⟨rfl, _, _, rfl, fun _ => rfl⟩⟩, rfl⟩
  · have hlen : ((zs.take len).map Int.toNat).length = len := by simp; omega
    by_cases h0 : len = 0
    · subst h0
      exact ⟨[], ⟨fun z hz => by simp at hz, by simp, .inl ⟨rfl, _, _, rfl, fun h => by simp at h⟩⟩, rfl⟩
    · obtain ⟨b, off, spot⟩ := x
      have hc := h4 0 (by omega)
      have hspot : spot = none := by simpa [Addr.add] using World.cell?_spot hc
      subst hspot
      refine ⟨(zs.take len).map Int.toNat, ⟨?_, by omega, .inr ⟨b, off, cap, by rw [hlen], by omega, h2, ?_, ?_⟩⟩, hlen⟩
      · intro z hz
        simp only [List.mem_map] at hz
        obtain ⟨y, hy, rfl⟩ := hz
        have := wf_u8 (h5 y (List.mem_of_mem_take hy))
        omega
      · exact World.block_lt_of_cell? w _ hc
      · intro j hj
        rw [hlen] at hj
        have hj2 : j < zs.length := by omega
        have e := h4 j hj2
        have hb := wf_u8 (h5 (zs[j]) (List.getElem_mem hj2))
        have ea : (⟨b, off, none⟩ : Addr).add j = ⟨b, off + j, none⟩ := by
          by_cases h : j = 0
          · subst h; rfl
          · simp [Addr.add, h]
        rw [ea] at e
        rw [e]
        simp [hj2, hj]
        omega

/-- A row of bytes that is filled from its head on. -/
def part (zs : List Nat) (k : Nat) : List Value := bcells (zs.take k) ++ List.replicate (zs.length - k) (.int .u8 0)
theorem part_zero (zs : List Nat) : part zs 0 = List.replicate zs.length (.int .u8 0) := by simp [part, bcells]
theorem part_all (zs : List Nat) : part zs zs.length = bcells zs := by simp [part]
theorem part_length (zs : List Nat) (k : Nat) (h : k ≤ zs.length) : (part zs k).length = zs.length := by simp [part, bcells]; omega
theorem part_set (zs : List Nat) (k : Nat) (h : k < zs.length) : (part zs k).set k (.int .u8 ((zs.getD k 0 : Nat) : Int)) = part zs (k + 1) := by
  have e : List.replicate (zs.length - k) (Value.int .u8 0) = .int .u8 0 :: List.replicate (zs.length - (k + 1)) (Value.int .u8 0) := by
    rw [show zs.length - k = zs.length - (k + 1) + 1 from by omega, List.replicate_succ]
  have hl : (bcells (zs.take k)).length = k := by rw [bcells_length, List.length_take]; omega
  unfold part
  rw [e, List.set_append, if_neg (by omega), hl, Nat.sub_self, List.set_cons_zero, List.take_succ_eq_append_getElem h, bcells_append]
  simp [bcells, h]

theorem made_part {w : World} (zs : List Nat) (hl : zs.length ≤ 2000000) : (w.alloc (.cells (madeCells #[.int .u8 0] zs.length) 5)).ownsRow w.heap.size 5 1 (.slice (some ⟨w.heap.size, 0, none⟩) zs.length zs.length) zs.length (part zs 0) := by
  have := World.ownsRow_lit (base := w.heap.size) (e := 5) (size := 1) w (madeCells #[.int .u8 0] zs.length) zs.length (Nat.le_refl _) (by unfold maxLen; omega) (by simp [size_madeCells])
  rwa [toList_madeCells_one, ← part_zero] at this

end Go.Proofs.YthnlpdjjnfkmeaaDoor

/- Boxed variables, whatever lies in them: a block that holds these cells and may be written. -/
namespace Go.Proofs.YthnlpdjjnfkmeaaDoor
open Go.RowKit

/-- The block b holds these cells, and they may be written. -/
def Bo (w : World) (b : Nat) (cs : Array Value) : Prop := b < w.heap.size ∧ (∀ k, w.cell? ⟨b, k, none⟩ = cs[k]?) ∧ ∀ k, w.frozen? ⟨b, k, none⟩ = false
theorem Bo.kept {w w' : World} {b : Nat} {cs : Array Value} (h : Bo w b cs) (hb : Below w.heap.size w w') : Bo w' b cs :=
  ⟨Nat.lt_of_lt_of_le h.1 hb.size, fun k => (hb.cell (p := ⟨b, k, none⟩) h.1).trans (h.2.1 k), fun k => (hb.frozen (p := ⟨b, k, none⟩) h.1).trans (h.2.2 k)⟩
theorem Bo.k {w : World} {b : Nat} {cs : Array Value} (h : Bo w b cs) : ∀ k, w.cell? ⟨b, k, none⟩ = cs[k]? := h.2.1
theorem Bo.f {w : World} {b : Nat} {cs : Array Value} (h : Bo w b cs) : ∀ k, w.frozen? ⟨b, k, none⟩ = false := h.2.2
theorem bo_far {w : World} {p q : Addr} {x : Value} (h : p ≠ q) : (w.setCell p x).cell? q = w.cell? q := by
  apply World.cell?_setCell_other
  exact h
theorem bo_here {w : World} {p : Addr} {x u : Value} (h : w.cell? p = some u) : (w.setCell p x).cell? p = some x := by
  apply World.cell?_setCell_same
  exact h
theorem Bo.put {w : World} {b : Nat} {cs : Array Value} (h : Bo w b cs) (i : Nat) (hi : i < cs.size) (x : Value) : Bo (w.setCell ⟨b, i, none⟩ x) b (cs.setIfInBounds i x) := by
  refine ⟨by simpa using h.1, fun k => ?_, fun k => by simpa using h.2.2 k⟩
  by_cases e : k = i
  · subst e
    have : w.cell? ⟨b, k, none⟩ = some cs[k] := by rw [h.2.1 k]; exact Array.getElem?_eq_getElem hi
    rw [bo_here this]
    simp [hi]
  · rw [bo_far (by intro e'; simp only [Addr.mk.injEq] at e'; omega), h.2.1 k, Array.getElem?_setIfInBounds_ne (Ne.symm e)]
theorem bo_new (w : World) (cs : Array Value) (t : TypeId) : Bo (w.alloc (.cells cs t)) w.heap.size cs := ⟨by simp, fun k => by simp, fun k => by simp⟩
theorem bo_alloc (w : World) (o : Obj) : Below w.heap.size w (w.alloc o) := (Below.refl _ _).alloc (Nat.le_refl _) o
theorem bo1 (w : World) (cs1 : Array Value) (t1 : TypeId) :
    ∃ w0, w.alloc (.cells cs1 t1) = w0 ∧ Bo w0 w.heap.size cs1 ∧ Below w.heap.size w w0 ∧ w.heap.size + 1 ≤ w0.heap.size := ⟨_, rfl, bo_new _ _ _, bo_alloc _ _, by simp⟩
theorem bo2 (w : World) (cs1 : Array Value) (t1 : TypeId) (cs2 : Array Value) (t2 : TypeId) :
    ∃ w0, (w.alloc (.cells cs1 t1)).alloc (.cells cs2 t2) = w0 ∧ Bo w0 w.heap.size cs1 ∧ Bo w0 (w.heap.size + 1) cs2 ∧ Below w.heap.size w w0 ∧ w.heap.size + 2 ≤ w0.heap.size := by
  refine ⟨_, rfl, (bo_new w cs1 t1).kept (bo_alloc _ _), ?_, bchain (bo_alloc _ _) (bo_alloc _ _), by simp⟩
  have := bo_new (w.alloc (.cells cs1 t1)) cs2 t2
  simpa using this
theorem bo3 (w : World) (cs1 : Array Value) (t1 : TypeId) (cs2 : Array Value) (t2 : TypeId) (cs3 : Array Value) (t3 : TypeId) :
    ∃ w0, ((w.alloc (.cells cs1 t1)).alloc (.cells cs2 t2)).alloc (.cells cs3 t3) = w0 ∧ Bo w0 w.heap.size cs1 ∧ Bo w0 (w.heap.size + 1) cs2 ∧ Bo w0 (w.heap.size + 1 + 1) cs3 ∧ Below w.heap.size w w0 ∧ w.heap.size + 3 ≤ w0.heap.size := by
  obtain ⟨w1, rfl, h1, h2, hb, hs⟩ := bo2 w cs1 t1 cs2 t2
  refine ⟨_, rfl, h1.kept (bo_alloc _ _), h2.kept (bo_alloc _ _), ?_, bchain hb (bo_alloc _ _), by simp⟩
  have := bo_new ((w.alloc (.cells cs1 t1)).alloc (.cells cs2 t2)) cs3 t3
  simpa using this
theorem bo4 (w : World) (cs1 : Array Value) (t1 : TypeId) (cs2 : Array Value) (t2 : TypeId) (cs3 : Array Value) (t3 : TypeId) (cs4 : Array Value) (t4 : TypeId) :
    ∃ w0, (((w.alloc (.cells cs1 t1)).alloc (.cells cs2 t2)).alloc (.cells cs3 t3)).alloc (.cells cs4 t4) = w0 ∧ Bo w0 w.heap.size cs1 ∧ Bo w0 (w.heap.size + 1) cs2 ∧ Bo w0 (w.heap.size + 1 + 1) cs3 ∧ Bo w0 (w.heap.size + 1 + 1 + 1) cs4 ∧ Below w.heap.size w w0 ∧ w.heap.size + 4 ≤ w0.heap.size := by
  obtain ⟨w1, rfl, h1, h2, h3, hb, hs⟩ := bo3 w cs1 t1 cs2 t2 cs3 t3
  refine ⟨_, rfl, h1.kept (bo_alloc _ _), h2.kept (bo_alloc _ _), h3.kept (bo_alloc _ _), ?_, bchain hb (bo_alloc _ _), by simp⟩
  have := bo_new (((w.alloc (.cells cs1 t1)).alloc (.cells cs2 t2)).alloc (.cells cs3 t3)) cs4 t4
  simpa using this
/-- The block b holds these cells of this type, whole, and may be written. -/
def Bl (w : World) (b : Nat) (cs : Array Value) (t : TypeId) : Prop := w.heap[b]? = some (.cells cs t (0, 0))
theorem Bl.lt {w : World} {b : Nat} {cs : Array Value} {t : TypeId} (h : Bl w b cs t) : b < w.heap.size := (Array.getElem?_eq_some_iff.1 h).1
theorem Bl.kept {w w' : World} {b : Nat} {cs : Array Value} {t : TypeId} (h : Bl w b cs t) (hb : Below w.heap.size w w') : Bl w' b cs t := (hb.block b h.lt).trans h
theorem Bl.k {w : World} {b : Nat} {cs : Array Value} {t : TypeId} (h : Bl w b cs t) : ∀ k, w.cell? ⟨b, k, none⟩ = cs[k]? := fun k => by
  unfold Bl at h
  simp [World.cell?, h]
theorem Bl.f {w : World} {b : Nat} {cs : Array Value} {t : TypeId} (h : Bl w b cs t) : ∀ k, w.frozen? ⟨b, k, none⟩ = false := fun k => by
  unfold Bl at h
  simp [World.frozen?, h]
theorem Bl.bo {w : World} {b : Nat} {cs : Array Value} {t : TypeId} (h : Bl w b cs t) : Bo w b cs := ⟨h.lt, h.k, h.f⟩
theorem bl_new (w : World) (cs : Array Value) (t : TypeId) : Bl (w.alloc (.cells cs t)) w.heap.size cs t := by
  unfold Bl World.alloc
  simp
/-- A block written whole. -/
theorem Bl.row {w : World} {b : Nat} {cs : Array Value} {t : TypeId} (h : Bl w b cs t) (ds : Array Value) : Bl (w.setRow b ds) b ds t := setRow_heap w b cs ds t (0, 0) h
theorem Bl.row_far {w : World} {b : Nat} {cs : Array Value} {t : TypeId} (h : Bl w b cs t) (g : Nat) (ds : Array Value) (hne : b ≠ g) : Bl (w.setRow g ds) b cs t := (setRow_other w g b ds hne).trans h
theorem below_row {n : Nat} {w w' : World} (h : Below n w w') (g : Nat) (ds : Array Value) (hg : n ≤ g) : Below n w (w'.setRow g ds) :=
  ⟨h.os, h.tape, h.output, by simpa using h.size, fun k hk => (setRow_other w' g k ds (by omega)).trans (h.block k hk)⟩
theorem bl1 (w : World) (cs1 : Array Value) (t1 : TypeId) :
    ∃ w0, w.alloc (.cells cs1 t1) = w0 ∧ Bl w0 w.heap.size cs1 t1 ∧ Below w.heap.size w w0 ∧ w.heap.size + 1 ≤ w0.heap.size := ⟨_, rfl, bl_new _ _ _, bo_alloc _ _, by simp⟩
theorem bl2 (w : World) (cs1 : Array Value) (t1 : TypeId) (cs2 : Array Value) (t2 : TypeId) :
    ∃ w0, (w.alloc (.cells cs1 t1)).alloc (.cells cs2 t2) = w0 ∧ Bl w0 w.heap.size cs1 t1 ∧ Bl w0 (w.heap.size + 1) cs2 t2 ∧ Below w.heap.size w w0 ∧ w.heap.size + 2 ≤ w0.heap.size := by
  refine ⟨_, rfl, (bl_new w cs1 t1).kept (bo_alloc _ _), ?_, bchain (bo_alloc _ _) (bo_alloc _ _), by simp⟩
  have := bl_new (w.alloc (.cells cs1 t1)) cs2 t2
  simpa using this
theorem bl3 (w : World) (cs1 : Array Value) (t1 : TypeId) (cs2 : Array Value) (t2 : TypeId) (cs3 : Array Value) (t3 : TypeId) :
    ∃ w0, ((w.alloc (.cells cs1 t1)).alloc (.cells cs2 t2)).alloc (.cells cs3 t3) = w0 ∧ Bl w0 w.heap.size cs1 t1 ∧ Bl w0 (w.heap.size + 1) cs2 t2 ∧ Bl w0 (w.heap.size + 1 + 1) cs3 t3 ∧ Below w.heap.size w w0 ∧ w.heap.size + 3 ≤ w0.heap.size := by
  obtain ⟨w1, rfl, h1, h2, hb, hs⟩ := bl2 w cs1 t1 cs2 t2
  refine ⟨_, rfl, h1.kept (bo_alloc _ _), h2.kept (bo_alloc _ _), ?_, bchain hb (bo_alloc _ _), by simp⟩
  have := bl_new ((w.alloc (.cells cs1 t1)).alloc (.cells cs2 t2)) cs3 t3
  simpa using this
theorem bl4 (w : World) (cs1 : Array Value) (t1 : TypeId) (cs2 : Array Value) (t2 : TypeId) (cs3 : Array Value) (t3 : TypeId) (cs4 : Array Value) (t4 : TypeId) :
    ∃ w0, (((w.alloc (.cells cs1 t1)).alloc (.cells cs2 t2)).alloc (.cells cs3 t3)).alloc (.cells cs4 t4) = w0 ∧ Bl w0 w.heap.size cs1 t1 ∧ Bl w0 (w.heap.size + 1) cs2 t2 ∧ Bl w0 (w.heap.size + 1 + 1) cs3 t3 ∧ Bl w0 (w.heap.size + 1 + 1 + 1) cs4 t4 ∧ Below w.heap.size w w0 ∧ w.heap.size + 4 ≤ w0.heap.size := by
  obtain ⟨w1, rfl, h1, h2, h3, hb, hs⟩ := bl3 w cs1 t1 cs2 t2 cs3 t3
  refine ⟨_, rfl, h1.kept (bo_alloc _ _), h2.kept (bo_alloc _ _), h3.kept (bo_alloc _ _), ?_, bchain hb (bo_alloc _ _), by simp⟩
  have := bl_new (((w.alloc (.cells cs1 t1)).alloc (.cells cs2 t2)).alloc (.cells cs3 t3)) cs4 t4
  simpa using this
end Go.Proofs.YthnlpdjjnfkmeaaDoor

/- What one wants: when it may be wanted, when it is nothing, the lesser of two; of the program and of the specification. -/
namespace Go.Proofs.YthnlpdjjnfkmeaaDoor
open Go.RowKit

/-- What one wants. -/
structure Opt where
  mode : Int
  win : Int
  mps : Int
  mtu : Int
  tri : Int
deriving DecidableEq
def Opt.zero : Opt := ⟨0, 0, 0, 0, 0⟩
def Opt.ok (o : Opt) : Bool := inB o.mode 1 2 && inB o.win 1 4 && inB o.mps 1 8 && inB o.mtu 1 24 && inB o.tri 1 5
def Opt.same (a b : Opt) : Bool := a.mode == b.mode && a.win == b.win && a.mps == b.mps && a.mtu == b.mtu && a.tri == b.tri
theorem Opt.same_iff (a b : Opt) : a.same b = true ↔ a = b := by
  obtain ⟨a1, a2, a3, a4, a5⟩ := a
  obtain ⟨b1, b2, b3, b4, b5⟩ := b
  simp [Opt.same, and_assoc]
def Opt.least (a b : Opt) : Opt := ⟨a.mode, min a.win b.win, min a.mps b.mps, min a.mtu b.mtu, min a.tri b.tri⟩
def meets (a b : Opt) : Bool := a.ok && b.ok && a.mode == b.mode
def meet (a b : Opt) : Opt := if meets a b then a.least b else Opt.zero

theorem opt_eq {a b : Opt} (h : a = b) : (.agg #[.int .i64 a.mode, .int .i64 a.win, .int .i64 a.mps, .int .i64 a.mtu, .int .i64 a.tri] : Value) = .agg #[.int .i64 b.mode, .int .i64 b.win, .int .i64 b.mps, .int .i64 b.mtu, .int .i64 b.tri] := by rw [h]
theorem ret_opt {a1 a2 a3 a4 a5 : Int} {b : Opt} (h1 : a1 = b.mode) (h2 : a2 = b.win) (h3 : a3 = b.mps) (h4 : a4 = b.mtu) (h5 : a5 = b.tri) : Ending.returned (.agg #[.int .i64 a1, .int .i64 a2, .int .i64 a3, .int .i64 a4, .int .i64 a5]) = .returned (.agg #[.int .i64 b.mode, .int .i64 b.win, .int .i64 b.mps, .int .i64 b.mtu, .int .i64 b.tri]) := by
  rw [h1, h2, h3, h4, h5]
theorem ret_meet {a1 a2 a3 a4 a5 : Int} {b : Opt} {x y : Bool} (h1 : a1 = b.mode) (h2 : a2 = b.win) (h3 : a3 = b.mps) (h4 : a4 = b.mtu) (h5 : a5 = b.tri) (h : x = y) : Ending.returned (.tuple #[.agg #[.int .i64 a1, .int .i64 a2, .int .i64 a3, .int .i64 a4, .int .i64 a5], .bool x]) = .returned (.tuple #[.agg #[.int .i64 b.mode, .int .i64 b.win, .int .i64 b.mps, .int .i64 b.mtu, .int .i64 b.tri], .bool y]) := by
  rw [h1, h2, h3, h4, h5, h]

theorem upto_any (n k : Int) (w : World) :
    Calls Tryd.prog 55 #[.int .i64 n, .int .i64 k] w fun e w' => e = .returned (.bool (inB n 1 k)) ∧ w' = w := by
  go_enter Tryd.func55, Tryd.ntmps55
  go_wp2
  all_goals
    go_ret
    refine ⟨ret_bool ?_, rfl⟩
    go_light
    rw [Bool.eq_iff_iff]
    simp only [inB_iff]
    grind
set_option maxHeartbeats 1000000 in
theorem impl_cfg (a : Opt) (w : World) :
    Calls Tryd.prog 36 #[.agg #[.int .i64 a.mode, .int .i64 a.win, .int .i64 a.mps, .int .i64 a.mtu, .int .i64 a.tri]] w fun e w' => e = .returned (.bool a.ok) ∧ Below w.heap.size w w' := by
  go_enter Tryd.func36, Tryd.ntmps36
  go_wp2_with (go_at_call 55; refine (upto_any _ _ _).mono ?_; rintro e w' ⟨rfl, rfl⟩)
  all_goals
    go_ret
    refine ⟨ret_bool ?_, (Below.refl _ _).alloc (Nat.le_refl _) _⟩
    go_light
    rw [Bool.eq_iff_iff]
    simp only [Opt.ok, Bool.and_eq_true, inB_iff, Bool.false_eq_true, false_iff] at *
    grind
theorem impl_cfg_v (m n p u t : Int) (w : World) :
    Calls Tryd.prog 36 #[.agg #[.int .i64 m, .int .i64 n, .int .i64 p, .int .i64 u, .int .i64 t]] w fun e w' => e = .returned (.bool (Opt.ok ⟨m, n, p, u, t⟩)) ∧ Below w.heap.size w w' := impl_cfg ⟨m, n, p, u, t⟩ w
set_option maxHeartbeats 1000000 in
theorem spec_cfg (a : Opt) (w : World) :
    Calls Tryd.prog 39 #[.agg #[.int .i64 a.mode, .int .i64 a.win, .int .i64 a.mps, .int .i64 a.mtu, .int .i64 a.tri]] w fun e w' => e = .returned (.bool a.ok) ∧ Below w.heap.size w w' := by
  go_enter Tryd.func39, Tryd.ntmps39
  go_wp2_with (go_at_call 34; refine (in_any _ _ _ _).mono ?_; rintro e w' ⟨rfl, rfl⟩)
  all_goals
    go_ret
    refine ⟨ret_bool ?_, (Below.refl _ _).alloc (Nat.le_refl _) _⟩
    go_light
    rw [Bool.eq_iff_iff]
    simp only [Opt.ok, Bool.and_eq_true, inB_iff, Bool.false_eq_true, false_iff] at *
    grind
theorem spec_cfg_v (m n p u t : Int) (w : World) :
    Calls Tryd.prog 39 #[.agg #[.int .i64 m, .int .i64 n, .int .i64 p, .int .i64 u, .int .i64 t]] w fun e w' => e = .returned (.bool (Opt.ok ⟨m, n, p, u, t⟩)) ∧ Below w.heap.size w w' := spec_cfg ⟨m, n, p, u, t⟩ w
end Go.Proofs.YthnlpdjjnfkmeaaDoor

/- What the laws ask at the end of a way: it is so. -/
namespace Go.Proofs.YthnlpdjjnfkmeaaDoor
open Go.RowKit
theorem li_ok (w : World) :
    Calls Tryd.prog 15 #[] w fun e w' => e = .returned (.bool true) ∧ Below w.heap.size w w' := by
  go_enter Tryd.func15, Tryd.ntmps15
  go_wp2_with (go_at_call 36; refine (impl_cfg_v _ _ _ _ _ _).mono ?_; rintro e w' ⟨rfl, b1⟩)
  go_ret
  exact ⟨rfl, b1⟩
end Go.Proofs.YthnlpdjjnfkmeaaDoor

/- Appending to a row of bytes that the call owns: what it reads then. -/
namespace Go.Proofs.YthnlpdjjnfkmeaaDoor
open Go.RowKit

theorem add_at (b off j : Nat) : (⟨b, off, none⟩ : Addr).add j = ⟨b, off + j, none⟩ := by
  by_cases h : j = 0
  · subst h; rfl
  · simp [Addr.add, h]

theorem wpList_app (w : World) {ops : Array Oper} {rest : List Oper} {o : Oper} {a : Act} {Q : Exit → Act → World → Prop} (hgd : o.guard = none) (s x : Operand)
    (ho : o.op = .call { callee := .builtin .append, args := #[s, x], argTypes := #[22, 22] }) (B : Nat) (v : Value) (zs : List Nat) (hs : a.eval s = v) (hown : Own w B v zs)
    (u : Value) (ys : List Nat) (hx : a.eval x = u) (hr : Rd w u ys) (hl : zs.length + ys.length ≤ 4000000) (hB : B ≤ w.heap.size)
    (h : ∀ v' w', Own w' B v' (zs ++ ys) → w.grownBy w' v.ownBlock → wpList Tryd.prog ops Q rest (a.put o.dst v') w') : wpList Tryd.prog ops Q (o :: rest) a w := by
  obtain ⟨i0, hi, hz0, hz1, hz2⟩ := info_parts Tryd.infoB
  obtain ⟨_, _, hr⟩ := hr
  have key : ∀ (ad : Addr) (c : Nat), u = .slice (some ad) ys.length c → (∀ j, j < ys.length → w.cell? (ad.add j) = some (.int .u8 ((ys.getD j 0 : Nat) : Int))) → wpList Tryd.prog ops Q (o :: rest) a w := by
    intro ad c hu hc
    refine wpList_append_own w hgd s x 22 ho B 5 i0 (.int .u8 0) 1 1 Tryd.underlying22 hi hz0 hz1 hz2 rfl (by decide) v zs.length (bcells zs) hs hown ad ys.length c (bcells ys) (by rw [hx, hu]) (by rw [bcells_length]; omega) ?_ (bcells_one ys) (by unfold maxLen; omega) (by omega) hB ?_
    · intro j q hj
      have hj2 : j < ys.length := by
        have := (List.getElem?_eq_some_iff.1 hj).1
        rwa [bcells_length] at this
      rw [bcells_get ys j hj2] at hj
      rw [hc j hj2, hj]
    · intro v' w' h1 h2 _
      refine h v' w' ?_ h2
      unfold Own
      rw [bcells_append, List.length_append]
      exact h1
  rcases hr with ⟨rfl, ad, c, rfl, hn⟩ | ⟨b, off, cap, rfl, _, _, _, hc⟩
  · cases ad with
    | some ad => exact key ad c rfl (fun j hj => by simp at hj)
    | none =>
      obtain rfl := hn rfl
      refine wpList_append_own_none hgd s x 22 ho B 5 i0 1 Tryd.underlying22 hi v zs.length (bcells zs) hs hown hx ?_
      exact h v w (by simpa using hown) ⟨rfl, rfl, rfl, Nat.le_refl _, fun _ _ _ => rfl⟩
  · exact key ⟨b, off, none⟩ cap rfl (fun j hj => by rw [add_at]; exact hc j hj)

/-- The same as one step of a statement whose order is open. -/
theorem step_app {ops : Array Oper} {o : Oper} {a : Act} {w : World} {K : Act → World → Prop} {Q : Exit → Act → World → Prop} {E : Prop} (hgd : o.guard = none) (s x : Operand)
    (ho : o.op = .call { callee := .builtin .append, args := #[s, x], argTypes := #[22, 22] }) (B : Nat) (v : Value) (zs : List Nat) (hs : a.eval s = v) (hown : Own w B v zs)
    (u : Value) (ys : List Nat) (hx : a.eval x = u) (hr : Rd w u ys) (hl : zs.length + ys.length ≤ 4000000) (hB : B ≤ w.heap.size)
    (h : ∀ v' w', Own w' B v' (zs ++ ys) → w.grownBy w' v.ownBlock → K (a.put o.dst v') w') : if Region.wanted o (yielded ops a.tmps) = true then Oper.wp Tryd.prog o a w K Q else E := by
  have hw : Region.wanted o (yielded ops a.tmps) = true := by simp [Region.wanted, hgd]
  rw [if_pos hw]
  obtain ⟨i0, hi, hz0, hz1, hz2⟩ := info_parts Tryd.infoB
  obtain ⟨_, _, hr⟩ := hr
  have key : ∀ (ad : Addr) (c : Nat), u = .slice (some ad) ys.length c → (∀ j, j < ys.length → w.cell? (ad.add j) = some (.int .u8 ((ys.getD j 0 : Nat) : Int))) → Oper.wp Tryd.prog o a w K Q := by
    intro ad c hu hc
    refine wp_append_own w s x 22 ho B 5 i0 (.int .u8 0) 1 1 Tryd.underlying22 hi hz0 hz1 hz2 rfl (by decide) v zs.length (bcells zs) hs hown ad ys.length c (bcells ys) (by rw [hx, hu]) (by rw [bcells_length]; omega) ?_ (bcells_one ys) (by unfold maxLen; omega) (by omega) hB ?_
    · intro j q hj
      have hj2 : j < ys.length := by
        have := (List.getElem?_eq_some_iff.1 hj).1
        rwa [bcells_length] at this
      rw [bcells_get ys j hj2] at hj
      rw [hc j hj2, hj]
    · intro v' w' h1 h2 _
      refine h v' w' ?_ h2
      unfold Own
      rw [bcells_append, List.length_append]
      exact h1
  rcases hr with ⟨rfl, ad, c, rfl, hn⟩ | ⟨b, off, cap, rfl, _, _, _, hc⟩
  · cases ad with
    | some ad => exact key ad c rfl (fun j hj => by simp at hj)
    | none =>
      obtain rfl := hn rfl
      have hrun := run_append_owned_none (P := Tryd.prog) (w := w) B 22 o.type 5 i0 1 Tryd.underlying22 hi v zs.length (bcells zs) hown
      unfold Oper.wp
      simp [execOp, ho, resolve, invoke, builtin, hs, hx, hrun, Result.andThen]
      exact h v w (by simpa using hown) ⟨rfl, rfl, rfl, Nat.le_refl _, fun _ _ _ => rfl⟩
  · exact key ⟨b, off, none⟩ cap rfl (fun j hj => by rw [add_at]; exact hc j hj)

theorem Rd.head {w : World} {b off cap m : Nat} {zs : List Nat} (n : Nat) (h : Rd w (.slice (some ⟨b, off, none⟩) m cap) zs) (hm : m = zs.length) (hn : n ≤ m) (h0 : 0 < m) : Rd w (.slice (some ⟨b, off, none⟩) n cap) (zs.take n) := by
  subst hm
  obtain ⟨h1, h2, h3⟩ := h
  have hl : (zs.take n).length = n := by rw [List.length_take]; omega
  refine ⟨h1.take n, by omega, .inr ⟨b, off, cap, by rw [hl], ?_, ?_, ?_, ?_⟩⟩
  all_goals
    rcases h3 with ⟨rfl, _⟩ | ⟨b', off', cap', e, h4, h5, h6, h7⟩
    · simp at h0
    · simp only [Value.slice.injEq, Option.some.injEq, Addr.mk.injEq, and_true, true_and] at e
      obtain ⟨⟨rfl, rfl⟩, rfl⟩ := e
      first
        | omega
        | (intro j hj
           rw [hl] at hj
           rw [h7 j (by omega)]
           simp [hj])

theorem own_none (w : World) (B : Nat) : Own w B (.slice none 0 0) [] := World.ownsRow_nil w B 5 1
theorem own_empty (w : World) (B : Nat) (hB : B ≤ w.heap.size) : Own (w.alloc (.cells #[] 5)) B (.slice (some ⟨w.heap.size, 0, none⟩) 0 0) [] :=
  World.ownsRow_lit (base := B) (e := 5) (size := 1) w #[] 0 hB (by unfold maxLen; omega) rfl
theorem rd_two (w : World) (x y : Nat) (hx : x < 256) (hy : y < 256) : Rd (w.alloc (.cells #[.int .u8 (x : Int), .int .u8 (y : Int)] 5)) (.slice (some ⟨w.heap.size, 0, none⟩) 2 2) [x, y] := by
  refine ⟨?_, by simp, .inr ⟨w.heap.size, 0, 2, rfl, by simp, by unfold maxLen; omega, by simp, ?_⟩⟩
  · intro z hz
    simp at hz
    omega
  · intro j hj
    match j, hj with
    | 0, _ => simp
    | 1, _ => simp
theorem Own.alloc {w : World} {B : Nat} {v : Value} {zs : List Nat} (h : Own w B v zs) (o : Obj) : Own (w.alloc o) B v zs := World.ownsRow.alloc h o
theorem Rd.alloc {w : World} {v : Value} {zs : List Nat} (h : Rd w v zs) (o : Obj) : Rd (w.alloc o) v zs := h.kept ((Below.refl _ _).alloc (Nat.le_refl _) o)
theorem run_cap (n : Nat) (hn : n ≤ 4000000) (w : World) : (Instr.makeSlice 22 (.int .i64 0) (.int .i64 (n : Int))).run Tryd.prog w = .ok (.slice (some ⟨w.heap.size, 0, none⟩) 0 n) (w.alloc (.cells (madeCells #[.int .u8 0] n) 5)) := by
  obtain ⟨i0, hi, hz0, hz1, hz2⟩ := info_parts Tryd.infoB
  have := run_make (P := Tryd.prog) w 22 5 i0 (.int .u8 0) Tryd.underlying22 hi hz0 .i64 .i64 0 (n : Int) (by omega) (by omega) (by rw [hz2]; omega) (by omega)
  rw [this, hz1]
  simp [Value.cells]
theorem own_cap (w : World) (B n : Nat) (hB : B ≤ w.heap.size) (hn : n ≤ 4000000) : Own (w.alloc (.cells (madeCells #[.int .u8 0] n) 5)) B (.slice (some ⟨w.heap.size, 0, none⟩) 0 n) [] :=
  World.ownsRow_made (base := B) (e := 5) (size := 1) w _ n hB (by unfold maxLen; omega) (by rw [size_madeCells]; omega)

theorem hide {p : Prop} (h : p) : Hid p := h
theorem unhide {p : Prop} (h : Hid p) : p := h
theorem own_apart {w1 w2 : World} {B1 B2 : Nat} {v1 v2 : Value} {z1 z2 : List Nat} (h1 : Own w1 B1 v1 z1) (hB : w1.heap.size ≤ B2) (h2 : Own w2 B2 v2 z2) : ∀ k, v1.ownBlock = some k → v2.ownBlock ≠ some k := by
  intro k e1 e2
  have a := (World.ownsRow.lt h1 k e1).2
  have b := (World.ownsRow.lt h2 k e2).1
  omega
theorem apart_symm {v1 v2 : Value} (h : ∀ k, v1.ownBlock = some k → v2.ownBlock ≠ some k) : ∀ k, v2.ownBlock = some k → v1.ownBlock ≠ some k := fun k e1 e2 => h k e2 e1
end Go.Proofs.YthnlpdjjnfkmeaaDoor

/- Frames as plain data: when one is ok. -/
namespace Go.Proofs.YthnlpdjjnfkmeaaDoor
open Go.RowKit

/-- A piece is ok. -/
def pieceB (seg len : Int) (n : Nat) : Bool := decide (n ≤ 8 ∧ ((seg = 0 ∧ len = n) ∨ (seg = 1 ∧ 1 ≤ n ∧ (n : Int) < len ∧ len ≤ 24) ∨ ((seg = 2 ∨ seg = 3) ∧ 1 ≤ n ∧ len = 0)))
/-- A frame is ok. -/
def frmB (kind seq ack : Int) (poll final : Bool) (say seg len : Int) (n : Nat) : Bool := decide (
  (kind = 1 ∧ (0 ≤ seq ∧ seq ≤ 7) ∧ (0 ≤ ack ∧ ack ≤ 7) ∧ poll = false ∧ say = 0 ∧ pieceB seg len n = true) ∨
  (kind = 2 ∧ seq = 0 ∧ (0 ≤ ack ∧ ack ≤ 7) ∧ ¬ (poll = true ∧ final = true) ∧ (0 ≤ say ∧ say ≤ 2) ∧ seg = 0 ∧ len = 0 ∧ n = 0) ∨
  (kind = 3 ∧ seq = 0 ∧ ack = 0 ∧ poll = false ∧ final = false ∧ say = 0 ∧ pieceB seg len n = true) ∨
  (kind = 4 ∧ seq = 0 ∧ ack = 0 ∧ poll = false ∧ final = false ∧ say = 0 ∧ seg = 0 ∧ (1 ≤ len ∧ len ≤ 255) ∧ n = 0))

theorem Rd.form {w : World} {v : Value} {zs : List Nat} (h : Rd w v zs) : ∃ a cap, v = .slice a zs.length cap := by
  rcases h.2.2 with ⟨rfl, a, c, rfl, _⟩ | ⟨b, off, cap, rfl, _⟩
  · exact ⟨_, _, rfl⟩
  · exact ⟨_, _, rfl⟩
theorem bool_of_iff {a b : Bool} (h : a = true ↔ b = true) : a = b := by
  cases a <;> cases b <;> simp_all
end Go.Proofs.YthnlpdjjnfkmeaaDoor

/- More on rows of bytes that the call owns, on boxed variables, and on what lies in old blocks. -/
namespace Go.Proofs.YthnlpdjjnfkmeaaDoor
open Go.RowKit

theorem Own.base {w : World} {B C : Nat} {v : Value} {zs : List Nat} (h : Own w B v zs) (hc : C ≤ B) : Own w C v zs := by
  refine ⟨h.1, ?_⟩
  rcases h.2 with h0 | ⟨g, cap, cur, e, hb, r⟩
  · exact .inl h0
  · exact .inr ⟨g, cap, cur, e, Nat.le_trans hc hb, r⟩
theorem Own.set {w : World} {B : Nat} {v : Value} {zs : List Nat} (h : Own w B v zs) (b o : Nat) (x : Value) (hb : b < B) : Own (w.setCell ⟨b, o, none⟩ x) B v zs := ownsRow_setCell_below h hb x
/-- Cells of old blocks behind a call. -/
theorem old_cell {W w1 : World} (hb : Below W.heap.size W w1) (b : Nat) (h : b < W.heap.size) : ∀ o, w1.cell? ⟨b, o, none⟩ = W.cell? ⟨b, o, none⟩ := fun o => hb.cell (p := ⟨b, o, none⟩) h
theorem old_frozen {W w1 : World} (hb : Below W.heap.size W w1) (b : Nat) (h : b < W.heap.size) : ∀ o, w1.frozen? ⟨b, o, none⟩ = W.frozen? ⟨b, o, none⟩ := fun o => hb.frozen (p := ⟨b, o, none⟩) h

theorem box_kept {w : World} {o : Obj} {w' : World} (h : Below (w.alloc o).heap.size (w.alloc o) w') : ∀ k, w'.cell? ⟨w.heap.size, k, none⟩ = (w.alloc o).cell? ⟨w.heap.size, k, none⟩ :=
  fun k => h.cell (p := ⟨w.heap.size, k, none⟩) (by simp)
theorem box_below {w : World} {o : Obj} {w' : World} (h : Below (w.alloc o).heap.size (w.alloc o) w') : Below w.heap.size w w' :=
  ((Below.refl _ _).alloc (Nat.le_refl _) _).trans (Below.mono h (by simp))
/-- The block b holds these cells. -/
def Cel (w : World) (b : Nat) (cs : Array Value) : Prop := b < w.heap.size ∧ ∀ k, w.cell? ⟨b, k, none⟩ = cs[k]?
theorem Cel.kept {w w' : World} {b : Nat} {cs : Array Value} (h : Cel w b cs) (hb : Below w.heap.size w w') : Cel w' b cs := ⟨Nat.lt_of_lt_of_le h.1 hb.size, fun k => (hb.cell (p := ⟨b, k, none⟩) h.1).trans (h.2 k)⟩
theorem Cel.other {w w' : World} {b : Nat} {cs : Array Value} {r : Option Nat} (h : Cel w b cs) (hg : w.grownBy w' r) (hne : some b ≠ r) : Cel w' b cs :=
  ⟨Nat.lt_of_lt_of_le h.1 hg.size, fun k => (World.cell?_of_block (a := ⟨b, k, none⟩) (hg.block b h.1 hne)).trans (h.2 k)⟩
theorem cel_box (w : World) (cs : Array Value) (t : TypeId) : Cel (w.alloc (.cells cs t)) w.heap.size cs := ⟨by simp, fun k => by simp⟩
theorem own_box_apart {w : World} {B : Nat} {v : Value} {zs : List Nat} (h : Own w B v zs) {b : Nat} (hb : b < B ∨ w.heap.size ≤ b) : some b ≠ v.ownBlock := by
  intro e
  have := World.ownsRow.lt h b e.symm
  omega

theorem rd_cells (w : World) (l : List Nat) (hb : Byt l) (hl : l.length ≤ 2000000) : Rd (w.alloc (.cells (bcells l).toArray 5)) (.slice (some ⟨w.heap.size, 0, none⟩) l.length l.length) l := by
  refine ⟨hb, hl, .inr ⟨w.heap.size, 0, l.length, rfl, Nat.le_refl _, by unfold maxLen; omega, by simp, fun j hj => ?_⟩⟩
  have := bcells_get l j hj
  simp [this]
theorem own_cells (w : World) (B : Nat) (l : List Nat) (hB : B ≤ w.heap.size) (hl : l.length ≤ 2000000) : Own (w.alloc (.cells (bcells l).toArray 5)) B (.slice (some ⟨w.heap.size, 0, none⟩) l.length l.length) l := by
  have := World.ownsRow_lit (base := B) (e := 5) (size := 1) w (bcells l).toArray l.length hB (by unfold maxLen; omega) (by simp [bcells_length])
  simpa [Own] using this
/-- The block b holds these cells, and they may be written. -/
def CelF (w : World) (b : Nat) (cs : Array Value) : Prop := b < w.heap.size ∧ (∀ k, w.cell? ⟨b, k, none⟩ = cs[k]?) ∧ ∀ k, w.frozen? ⟨b, k, none⟩ = false
theorem CelF.kept {w w' : World} {b : Nat} {cs : Array Value} (h : CelF w b cs) (hb : Below w.heap.size w w') : CelF w' b cs :=
  ⟨Nat.lt_of_lt_of_le h.1 hb.size, fun k => (hb.cell (p := ⟨b, k, none⟩) h.1).trans (h.2.1 k), fun k => (hb.frozen (p := ⟨b, k, none⟩) h.1).trans (h.2.2 k)⟩
theorem CelF.other {w w' : World} {b : Nat} {cs : Array Value} {r : Option Nat} (h : CelF w b cs) (hg : w.grownBy w' r) (hne : some b ≠ r) : CelF w' b cs :=
  ⟨Nat.lt_of_lt_of_le h.1 hg.size, fun k => (World.cell?_of_block (a := ⟨b, k, none⟩) (hg.block b h.1 hne)).trans (h.2.1 k), fun k => (World.frozen?_of_block (a := ⟨b, k, none⟩) (hg.block b h.1 hne)).trans (h.2.2 k)⟩
theorem celF_box (w : World) (cs : Array Value) (t : TypeId) : CelF (w.alloc (.cells cs t)) w.heap.size cs := ⟨by simp, fun k => by simp, fun k => by simp⟩
theorem grown_step {w0 w1 w2 : World} {r : Option Nat} (h : w0.grownBy w1 r) (k : w1.grownBy w2 r) : w0.grownBy w2 r :=
  ⟨k.os.trans h.os, k.tape.trans h.tape, k.output.trans h.output, Nat.le_trans h.size k.size, fun q hq hne => (k.block q (Nat.lt_of_lt_of_le hq h.size) hne).trans (h.block q hq hne)⟩
theorem grown_fresh {w0 w1 w2 : World} {r u : Option Nat} (h : w0.grownBy w1 r) (k : w1.grownBy w2 u) (hu : ∀ q, u = some q → w0.heap.size ≤ q) : w0.grownBy w2 r :=
  ⟨k.os.trans h.os, k.tape.trans h.tape, k.output.trans h.output, Nat.le_trans h.size k.size, fun q hq hne => (k.block q (Nat.lt_of_lt_of_le hq h.size) (fun e => by have := hu q e.symm; omega)).trans (h.block q hq hne)⟩
theorem grown_alloc' (w : World) (o : Obj) (r : Option Nat) : w.grownBy (w.alloc o) r := ⟨rfl, rfl, rfl, by simp, fun q hq _ => ((Below.refl w.heap.size w).alloc (Nat.le_refl _) o).block q hq⟩
theorem grown_set (w : World) (b o : Nat) (x : Value) : w.grownBy (w.setCell ⟨b, o, none⟩ x) (some b) :=
  ⟨rfl, rfl, rfl, by simp, fun k _ hne => Below.heap_setCell w _ x k (fun e => hne (by rw [e]))⟩
theorem cell_far {w : World} {p q : Addr} {x : Value} (h : p ≠ q) : (w.setCell p x).cell? q = w.cell? q := by
  apply World.cell?_setCell_other
  exact h
theorem cell_here {w : World} {p : Addr} {x u : Value} (h : w.cell? p = some u) : (w.setCell p x).cell? p = some x := by
  apply World.cell?_setCell_same
  exact h
theorem CelF.put {w : World} {b : Nat} {cs : Array Value} (h : CelF w b cs) (i : Nat) (hi : i < cs.size) (x : Value) : CelF (w.setCell ⟨b, i, none⟩ x) b (cs.setIfInBounds i x) := by
  refine ⟨by simpa using h.1, fun k => ?_, fun k => by simpa using h.2.2 k⟩
  by_cases e : k = i
  · subst e
    have : w.cell? ⟨b, k, none⟩ = some cs[k] := by rw [h.2.1 k]; exact Array.getElem?_eq_getElem hi
    rw [cell_here this]
    simp [hi]
  · rw [cell_far (by intro e'; simp only [Addr.mk.injEq] at e'; omega), h.2.1 k, Array.getElem?_setIfInBounds_ne (Ne.symm e)]
theorem Own.far {w : World} {B : Nat} {v : Value} {zs : List Nat} (h : Own w B v zs) (b o : Nat) (x : Value) (hne : some b ≠ v.ownBlock) : Own (w.setCell ⟨b, o, none⟩ x) B v zs :=
  h.other (u := .slice (some ⟨b, 0, none⟩) 0 0) (grown_set w b o x) (fun k e e' => hne (by rw [e, ← e']; rfl))
theorem CelF.far {w : World} {b : Nat} {cs : Array Value} (h : CelF w b cs) (c o : Nat) (x : Value) (hne : b ≠ c) : CelF (w.setCell ⟨c, o, none⟩ x) b cs :=
  h.other (grown_set w c o x) (fun e => hne (Option.some.inj e))
/-- A row of bytes is no block of another type. -/
theorem own_type {w : World} {B : Nat} {v : Value} {zs : List Nat} (h : Own w B v zs) {k t : Nat} {cs : Array Value} {f : Nat × Nat} (hk : w.heap[k]? = some (.cells cs t f)) (ht : t ≠ 5) : some k ≠ v.ownBlock := by
  intro e
  rcases h.2 with ⟨rfl, _⟩ | ⟨g, cap, cur, rfl, _, hg, _⟩
  · cases e
  · obtain rfl : k = g := Option.some.inj e
    rw [hg] at hk
    simp only [Option.some.injEq, Obj.cells.injEq] at hk
    exact ht hk.2.1.symm
theorem Own.form {w : World} {B : Nat} {v : Value} {zs : List Nat} (h : Own w B v zs) : ∃ a c, v = .slice a zs.length c := by
  rcases h.2 with ⟨h, h0⟩ | ⟨g, cap, cur, h, _⟩
  · exact ⟨_, _, by rw [h, h0]⟩
  · exact ⟨_, _, h⟩
/-- The block g holds cells of type t. -/
def Typ (w : World) (g t : Nat) : Prop := ∃ cs f, w.heap[g]? = some (.cells cs t f)
theorem Typ.lt {w : World} {g t : Nat} (h : Typ w g t) : g < w.heap.size := by
  obtain ⟨cs, f, h⟩ := h
  exact (Array.getElem?_eq_some_iff.1 h).1
theorem Typ.kept {w w' : World} {g t : Nat} (h : Typ w g t) (hb : Below w.heap.size w w') : Typ w' g t := by
  have hl := h.lt
  obtain ⟨cs, f, h⟩ := h
  exact ⟨cs, f, (hb.block g hl).trans h⟩
theorem Typ.below {w w' : World} {B g t : Nat} (h : Typ w g t) (hb : Below B w w') (hg : g < B) : Typ w' g t := by
  obtain ⟨cs, f, h⟩ := h
  exact ⟨cs, f, (hb.block g hg).trans h⟩
theorem Typ.other {w w' : World} {g t : Nat} {r : Option Nat} (h : Typ w g t) (hg : w.grownBy w' r) (hne : some g ≠ r) : Typ w' g t := by
  have hl := h.lt
  obtain ⟨cs, f, h⟩ := h
  exact ⟨cs, f, (hg.block g hl hne).trans h⟩
theorem Typ.set {w : World} {g t : Nat} (h : Typ w g t) (p : Addr) (x : Value) : Typ (w.setCell p x) g t := by
  obtain ⟨cs, f, h⟩ := h
  unfold Typ World.setCell
  simp only [Array.getElem?_modify]
  split
  · rw [h]; exact ⟨_, _, rfl⟩
  · exact ⟨cs, f, h⟩
theorem Typ.row {w : World} {g t B : Nat} {v : Value} {zs : List Nat} (h : Typ w g t) (ho : Own w B v zs) (ht : t ≠ 5) : some g ≠ v.ownBlock := by
  obtain ⟨cs, f, h⟩ := h
  exact own_type ho h ht
theorem typ_box (w : World) (cs : Array Value) (t : TypeId) : Typ (w.alloc (.cells cs t)) w.heap.size t := ⟨cs, (0, 0), by show (w.heap.push _)[w.heap.size]? = _; simp⟩
theorem heap_new (w : World) (cs : Array Value) (t : TypeId) : (w.alloc (.cells cs t)).heap[w.heap.size]? = some (.cells cs t (0, 0)) := by
  show (w.heap.push _)[w.heap.size]? = _
  simp
end Go.Proofs.YthnlpdjjnfkmeaaDoor

/- A piece by itself: when it is ok, of the program and of the specification. -/
namespace Go.Proofs.YthnlpdjjnfkmeaaDoor
open Go.RowKit

set_option maxHeartbeats 1000000 in
theorem piece_any (seg len : Int) (a : Option Addr) (n cap : Nat) (w : World) :
    Calls Tryd.prog 72 #[.agg #[.int .i64 seg, .int .i64 len, .slice a n cap]] w fun e w' => e = .returned (.bool (pieceB seg len n)) ∧ Below w.heap.size w w' := by
  go_enter Tryd.func72, Tryd.ntmps72
  go_wp2
  all_goals
    go_ret
    refine ⟨ret_bool ?_, (Below.refl _ _).alloc (Nat.le_refl _) _⟩
    go_light
    rw [Bool.eq_iff_iff]
    simp only [pieceB, decide_eq_true_eq]
    grind
set_option maxHeartbeats 2000000 in
theorem spec_seg (kind seq ack : Int) (poll final : Bool) (say seg len : Int) (a : Option Addr) (n cap : Nat) (w : World) :
    Calls Tryd.prog 35 #[.agg #[.int .i64 kind, .int .i64 seq, .int .i64 ack, .bool poll, .bool final, .int .i64 say, .int .i64 seg, .int .i64 len, .slice a n cap]] w fun e w' => e = .returned (.bool (pieceB seg len n)) ∧ Below w.heap.size w w' := by
  go_enter Tryd.func35, Tryd.ntmps35
  go_wp2_with (go_at_call 34; refine (in_any _ _ _ _).mono ?_; rintro e w' ⟨rfl, rfl⟩)
  all_goals
    go_ret
    refine ⟨ret_bool ?_, (Below.refl _ _).alloc (Nat.le_refl _) _⟩
    go_light
    rw [Bool.eq_iff_iff]
    simp only [pieceB, inB_iff, decide_eq_true_eq, beq_iff_eq, beq_eq_false_iff_ne, Bool.false_eq_true, true_iff, false_iff, ne_eq] at *
    omega
set_option maxHeartbeats 1000000 in
theorem impl_part (seg len : Int) (a : Option Addr) (n cap : Nat) (w : World) :
    Calls Tryd.prog 62 #[.agg #[.int .i64 seg, .int .i64 len, .slice a n cap]] w fun e w' => e = .returned (.bool (pieceB seg len n)) ∧ Below w.heap.size w w' := by
  go_enter Tryd.func62, Tryd.ntmps62
  go_wp2_with (go_at_call 72; refine (piece_any _ _ _ _ _ _).mono ?_; rintro e w' ⟨rfl, hb⟩)
  go_ret
  exact ⟨rfl, box_below hb⟩
set_option maxHeartbeats 1000000 in
theorem spec_part (seg len : Int) (a : Option Addr) (n cap : Nat) (w : World) :
    Calls Tryd.prog 61 #[.agg #[.int .i64 seg, .int .i64 len, .slice a n cap]] w fun e w' => e = .returned (.bool (pieceB seg len n)) ∧ Below w.heap.size w w' := by
  go_enter Tryd.func61, Tryd.ntmps61
  go_wp2_with (go_at_call 35; refine (spec_seg _ _ _ _ _ _ _ _ _ _ _ _).mono ?_; rintro e w' ⟨rfl, hb⟩)
  go_ret
  exact ⟨rfl, box_below hb⟩
end Go.Proofs.YthnlpdjjnfkmeaaDoor

/- The program's own test whether something is a number. -/
namespace Go.Proofs.YthnlpdjjnfkmeaaDoor
open Go.RowKit

theorem number_any (n : Int) (w : World) :
    Calls Tryd.prog 93 #[.int .i64 n] w fun e w' => e = .returned (.bool (inB n 0 7)) ∧ w' = w := by
  go_enter Tryd.func93, Tryd.ntmps93
  go_wp2
  all_goals
    go_ret
    refine ⟨ret_bool ?_, rfl⟩
    go_light
    rw [Bool.eq_iff_iff]
    simp only [inB_iff]
    grind
end Go.Proofs.YthnlpdjjnfkmeaaDoor

/- What the program's FrmOk is made of: pieces, kinds, their bounds, their frames, and whether two frames are the same. -/
namespace Go.Proofs.YthnlpdjjnfkmeaaDoor
open Go.RowKit

set_option maxHeartbeats 1000000 in
theorem data_in (seq ack : Int) (final : Bool) (seg len : Int) (a : Option Addr) (n cap : Nat) (w : World) :
    Calls Tryd.prog 92 #[.agg #[.int .i64 seq, .int .i64 ack, .bool final, .int .i64 seg, .int .i64 len, .slice a n cap]] w fun e w' => e = .returned (.bool (inB seq 0 7 && inB ack 0 7 && pieceB seg len n)) ∧ Below w.heap.size w w' := by
  go_enter Tryd.func92, Tryd.ntmps92
  go_wp2_with (first | (go_at_call 93; refine (number_any _ _).mono ?_; rintro e w' ⟨rfl, rfl⟩) | (go_at_call 72; refine (piece_any _ _ _ _ _ _).mono ?_; rintro e w' ⟨rfl, hb⟩))
  all_goals
    go_ret
    refine ⟨ret_bool ?_, ?_⟩
    · go_light
      simp [*]
    · first | exact (Below.refl _ _).alloc (Nat.le_refl _) _ | exact ((Below.refl _ _).alloc (Nat.le_refl _) _).trans (Below.mono hb (by simp))

set_option maxHeartbeats 1000000 in
theorem say_in (ack : Int) (poll final : Bool) (say : Int) (w : World) :
    Calls Tryd.prog 95 #[.agg #[.int .i64 ack, .bool poll, .bool final, .int .i64 say]] w fun e w' => e = .returned (.bool (inB say 0 2 && inB ack 0 7 && !(poll && final))) ∧ Below w.heap.size w w' := by
  go_enter Tryd.func95, Tryd.ntmps95
  go_wp2_with (go_at_call 93; refine (number_any _ _).mono ?_; rintro e w' ⟨rfl, rfl⟩)
  all_goals
    go_ret
    refine ⟨ret_bool ?_, (Below.refl _ _).alloc (Nat.le_refl _) _⟩
    go_light
    simp only [inB] at *
    grind

set_option maxHeartbeats 1000000 in
theorem piece_in (seg len : Int) (a : Option Addr) (n cap : Nat) (w : World) :
    Calls Tryd.prog 97 #[.agg #[.int .i64 seg, .int .i64 len, .slice a n cap]] w fun e w' => e = .returned (.bool (pieceB seg len n)) ∧ Below w.heap.size w w' := by
  go_enter Tryd.func97, Tryd.ntmps97
  go_wp2_with (go_at_call 72; refine (piece_any _ _ _ _ _ _).mono ?_; rintro e w' ⟨rfl, hb⟩)
  go_ret
  exact ⟨rfl, ((Below.refl _ _).alloc (Nat.le_refl _) _).trans (Below.mono hb (by simp))⟩

set_option maxHeartbeats 1000000 in
theorem grant_in (len : Int) (w : World) :
    Calls Tryd.prog 99 #[.agg #[.int .i64 len]] w fun e w' => e = .returned (.bool (inB len 1 255)) ∧ Below w.heap.size w w' := by
  go_enter Tryd.func99, Tryd.ntmps99
  go_wp2
  all_goals
    go_ret
    refine ⟨ret_bool ?_, (Below.refl _ _).alloc (Nat.le_refl _) _⟩
    go_light
    simp only [inB] at *
    grind

set_option maxHeartbeats 1000000 in
theorem data_frame (seq ack : Int) (final : Bool) (seg len : Int) (a : Option Addr) (n cap : Nat) (w : World) :
    Calls Tryd.prog 91 #[.agg #[.int .i64 seq, .int .i64 ack, .bool final, .int .i64 seg, .int .i64 len, .slice a n cap]] w fun e w' => e = .returned (.agg #[.int .i64 1, .int .i64 seq, .int .i64 ack, .bool false, .bool final, .int .i64 0, .int .i64 seg, .int .i64 len, .slice a n cap]) ∧ Below w.heap.size w w' := by
  go_enter Tryd.func91, Tryd.ntmps91
  go_wp2
  exact bodyPost_ret (v := .agg #[.int .i64 1, .int .i64 seq, .int .i64 ack, .bool false, .bool final, .int .i64 0, .int .i64 seg, .int .i64 len, .slice a n cap]) (by simp [results, Tryd.results91, go_sem]) rfl ⟨rfl, (((Below.refl _ _).alloc (Nat.le_refl _) _).alloc (by simp; try omega) _).alloc (by simp; try omega) _⟩
set_option maxHeartbeats 1000000 in
theorem say_frame (ack : Int) (poll final : Bool) (say : Int) (w : World) :
    Calls Tryd.prog 94 #[.agg #[.int .i64 ack, .bool poll, .bool final, .int .i64 say]] w fun e w' => e = .returned (.agg #[.int .i64 2, .int .i64 0, .int .i64 ack, .bool poll, .bool final, .int .i64 say, .int .i64 0, .int .i64 0, .slice none 0 0]) ∧ Below w.heap.size w w' := by
  go_enter Tryd.func94, Tryd.ntmps94
  go_wp2
  exact bodyPost_ret (v := .agg #[.int .i64 2, .int .i64 0, .int .i64 ack, .bool poll, .bool final, .int .i64 say, .int .i64 0, .int .i64 0, .slice none 0 0]) (by simp [results, Tryd.results94, go_sem]) rfl ⟨rfl, ((Below.refl _ _).alloc (Nat.le_refl _) _).alloc (by simp; try omega) _⟩
set_option maxHeartbeats 1000000 in
theorem piece_frame (seg len : Int) (a : Option Addr) (n cap : Nat) (w : World) :
    Calls Tryd.prog 96 #[.agg #[.int .i64 seg, .int .i64 len, .slice a n cap]] w fun e w' => e = .returned (.agg #[.int .i64 3, .int .i64 0, .int .i64 0, .bool false, .bool false, .int .i64 0, .int .i64 seg, .int .i64 len, .slice a n cap]) ∧ Below w.heap.size w w' := by
  go_enter Tryd.func96, Tryd.ntmps96
  go_wp2
  exact bodyPost_ret (v := .agg #[.int .i64 3, .int .i64 0, .int .i64 0, .bool false, .bool false, .int .i64 0, .int .i64 seg, .int .i64 len, .slice a n cap]) (by simp [results, Tryd.results96, go_sem]) rfl ⟨rfl, (((Below.refl _ _).alloc (Nat.le_refl _) _).alloc (by simp; try omega) _).alloc (by simp; try omega) _⟩
set_option maxHeartbeats 1000000 in
theorem grant_frame (len : Int) (w : World) :
    Calls Tryd.prog 98 #[.agg #[.int .i64 len]] w fun e w' => e = .returned (.agg #[.int .i64 4, .int .i64 0, .int .i64 0, .bool false, .bool false, .int .i64 0, .int .i64 0, .int .i64 len, .slice none 0 0]) ∧ Below w.heap.size w w' := by
  go_enter Tryd.func98, Tryd.ntmps98
  go_wp2
  exact bodyPost_ret (v := .agg #[.int .i64 4, .int .i64 0, .int .i64 0, .bool false, .bool false, .int .i64 0, .int .i64 0, .int .i64 len, .slice none 0 0]) (by simp [results, Tryd.results98, go_sem]) rfl ⟨rfl, ((Below.refl _ _).alloc (Nat.le_refl _) _).alloc (by simp; try omega) _⟩

theorem Rd.text {w : World} {v : Value} {zs : List Nat} (h : Rd w v zs) : (convert 22 9 v).run Tryd.prog w = .ok (.string (strOfNums (zs.map fun z : Nat => (z : Int)))) w := by
  rcases h.2.2 with ⟨rfl, a, c, rfl, _⟩ | ⟨b, off, cap, rfl, _, _, _, hc⟩
  · rw [run_convert_bytes_string w 22 9 5 _ 0 c Tryd.underlying22 Tryd.underlying5 Tryd.underlying9]
    cases a <;> simp [Conv.bytesToString, loadCells, strOfNums] <;> rfl
  · exact run_convert_bytes_arg (P := Tryd.prog) w 22 5 Tryd.underlying22 Tryd.underlying5 b off zs.length cap (zs.map fun z : Nat => (z : Int)) (by simp) (fun i hi => by rw [hc i hi]; simp [hi]) 9 Tryd.underlying9

theorem equal_same (v : Value) (zs : List Nat) (w : World) (h : Rd w v zs) :
    Calls Tryd.prog 54 #[v, v] w fun e w' => e = .returned (.bool true) ∧ w' = w := by
  have h1 := h.text
  go_enter Tryd.func54, Tryd.ntmps54
  go_wp2
  go_ret
  exact ⟨rfl, rfl⟩
theorem equal_nil (v : Value) (zs : List Nat) (w : World) (h : Rd w v zs) :
    Calls Tryd.prog 54 #[.slice none 0 0, v] w fun e w' => e = .returned (.bool (decide (zs.length = 0))) ∧ w' = w := by
  have h1 := h.text
  have h0 : (convert 22 9 (.slice none 0 0)).run Tryd.prog w = .ok (.string ByteArray.empty) w := run_convert_bytes_nil (P := Tryd.prog) w 22 5 Tryd.underlying22 Tryd.underlying5 0 0 9 Tryd.underlying9
  go_enter Tryd.func54, Tryd.ntmps54
  go_wp2
  go_ret
  refine ⟨ret_bool ?_, rfl⟩
  rw [Lib.strOfNums_toList]
  cases zs <;> simp [Lib.bytesOf]

set_option maxHeartbeats 1000000 in
theorem kind_of1 (seq ack : Int) (poll final : Bool) (say seg len : Int) (a : Option Addr) (n cap : Nat) (w : World) :
    Calls Tryd.prog 32 #[.agg #[.int .i64 1, .int .i64 seq, .int .i64 ack, .bool poll, .bool final, .int .i64 say, .int .i64 seg, .int .i64 len, .slice a n cap]] w fun e w' => e = .returned (.tuple #[.iface 91 (.agg #[.int .i64 seq, .int .i64 ack, .bool final, .int .i64 seg, .int .i64 len, .slice a n cap]), .bool true]) ∧ Below w.heap.size w w' := by
  go_enter Tryd.func32, Tryd.ntmps32
  go_wp2
  go_ret2
  exact ⟨rfl, ((Below.refl _ _).alloc (Nat.le_refl _) _).alloc (by simp) _⟩
set_option maxHeartbeats 1000000 in
theorem kind_of2 (seq ack : Int) (poll final : Bool) (say seg len : Int) (a : Option Addr) (n cap : Nat) (w : World) :
    Calls Tryd.prog 32 #[.agg #[.int .i64 2, .int .i64 seq, .int .i64 ack, .bool poll, .bool final, .int .i64 say, .int .i64 seg, .int .i64 len, .slice a n cap]] w fun e w' => e = .returned (.tuple #[.iface 93 (.agg #[.int .i64 ack, .bool poll, .bool final, .int .i64 say]), .bool true]) ∧ Below w.heap.size w w' := by
  go_enter Tryd.func32, Tryd.ntmps32
  go_wp2
  go_ret2
  exact ⟨rfl, ((Below.refl _ _).alloc (Nat.le_refl _) _).alloc (by simp) _⟩
set_option maxHeartbeats 1000000 in
theorem kind_of3 (seq ack : Int) (poll final : Bool) (say seg len : Int) (a : Option Addr) (n cap : Nat) (w : World) :
    Calls Tryd.prog 32 #[.agg #[.int .i64 3, .int .i64 seq, .int .i64 ack, .bool poll, .bool final, .int .i64 say, .int .i64 seg, .int .i64 len, .slice a n cap]] w fun e w' => e = .returned (.tuple #[.iface 95 (.agg #[.int .i64 seg, .int .i64 len, .slice a n cap]), .bool true]) ∧ Below w.heap.size w w' := by
  go_enter Tryd.func32, Tryd.ntmps32
  go_wp2
  go_ret2
  exact ⟨rfl, ((Below.refl _ _).alloc (Nat.le_refl _) _).alloc (by simp) _⟩
set_option maxHeartbeats 1000000 in
theorem kind_of4 (seq ack : Int) (poll final : Bool) (say seg len : Int) (a : Option Addr) (n cap : Nat) (w : World) :
    Calls Tryd.prog 32 #[.agg #[.int .i64 4, .int .i64 seq, .int .i64 ack, .bool poll, .bool final, .int .i64 say, .int .i64 seg, .int .i64 len, .slice a n cap]] w fun e w' => e = .returned (.tuple #[.iface 97 (.agg #[.int .i64 len]), .bool true]) ∧ Below w.heap.size w w' := by
  go_enter Tryd.func32, Tryd.ntmps32
  go_wp2
  go_ret2
  exact ⟨rfl, ((Below.refl _ _).alloc (Nat.le_refl _) _).alloc (by simp) _⟩
set_option maxHeartbeats 1000000 in
theorem kind_of0 (kind seq ack : Int) (poll final : Bool) (say seg len : Int) (a : Option Addr) (n cap : Nat) (w : World) (h1 : (kind == 1) = false) (h2 : (kind == 2) = false) (h3 : (kind == 3) = false) (h4 : (kind == 4) = false) :
    Calls Tryd.prog 32 #[.agg #[.int .i64 kind, .int .i64 seq, .int .i64 ack, .bool poll, .bool final, .int .i64 say, .int .i64 seg, .int .i64 len, .slice a n cap]] w fun e w' => e = .returned (.tuple #[.nilIface, .bool false]) ∧ Below w.heap.size w w' := by
  go_enter Tryd.func32, Tryd.ntmps32
  go_wp2
  go_ret2
  exact ⟨rfl, ((Below.refl _ _).alloc (Nat.le_refl _) _).alloc (by simp) _⟩

set_option maxHeartbeats 4000000 in
theorem same_any (k1 q1 a1 : Int) (p1 f1 : Bool) (s1 g1 l1 : Int) (v1 : Value) (b : Bool) (k2 q2 a2 : Int) (p2 f2 : Bool) (s2 g2 l2 : Int) (v2 : Value) (w : World)
    (hE : ∀ W, Below w.heap.size w W → Calls Tryd.prog 54 #[v1, v2] W fun e w' => e = .returned (.bool b) ∧ w' = W) (ha : ∃ x m c, v1 = .slice x m c) (hb : ∃ x m c, v2 = .slice x m c) :
    Calls Tryd.prog 33 #[.agg #[.int .i64 k1, .int .i64 q1, .int .i64 a1, .bool p1, .bool f1, .int .i64 s1, .int .i64 g1, .int .i64 l1, v1], .agg #[.int .i64 k2, .int .i64 q2, .int .i64 a2, .bool p2, .bool f2, .int .i64 s2, .int .i64 g2, .int .i64 l2, v2]] w fun e w' =>
      e = .returned (.bool (decide (k1 = k2) && decide (q1 = q2) && decide (a1 = a2) && (p1 == p2) && (f1 == f2) && decide (s1 = s2) && decide (g1 = g2) && decide (l1 = l2) && b)) ∧ Below w.heap.size w w' := by
  obtain ⟨x1, m1, c1, rfl⟩ := ha
  obtain ⟨x2, m2, c2, rfl⟩ := hb
  have HE := hide hE
  clear hE
  have B0 := fun (o1 o2 : Obj) => ((Below.refl w.heap.size w).alloc (Nat.le_refl _) o1).alloc (by simp) o2
  go_enter Tryd.func33, Tryd.ntmps33
  go_wp2_with (go_at_call 54; refine (unhide HE _ (B0 _ _)).mono ?_; rintro e w' ⟨rfl, rfl⟩)
  all_goals
    go_ret
    refine ⟨ret_bool ?_, B0 _ _⟩
    go_light
    grind

end Go.Proofs.YthnlpdjjnfkmeaaDoor

/- The program's FrmOk answers whether a frame is ok. -/
namespace Go.Proofs.YthnlpdjjnfkmeaaDoor
open Go.RowKit

theorem meth_data_in (v : Value) (w : World) : (method 264 91 v "loop.example/linkboy/impl.inBounds").run Tryd.prog w = .ok (92, v) w := by kernel_rfl
theorem meth_data_fr (v : Value) (w : World) : (method 264 91 v "loop.example/linkboy/impl.frame").run Tryd.prog w = .ok (91, v) w := by kernel_rfl
set_option maxHeartbeats 1000000 in
theorem impl_frm1 (seq ack : Int) (poll final : Bool) (say seg len : Int) (a : Option Addr) (n cap : Nat) (w : World) (zs : List Nat) (_hz : zs.length = n) (hR : Rd w (.slice a n cap) zs) :
    Calls Tryd.prog 13 #[.agg #[.int .i64 1, .int .i64 seq, .int .i64 ack, .bool poll, .bool final, .int .i64 say, .int .i64 seg, .int .i64 len, .slice a n cap]] w fun e w' => e = .returned (.bool (frmB 1 seq ack poll final say seg len n)) ∧ Below w.heap.size w w' := by
  have m1 := meth_data_in
  have m2 := meth_data_fr
  go_enter Tryd.func13, Tryd.ntmps13
  go_wp2_with (first | (go_at_call 32; refine (kind_of1 _ _ _ _ _ _ _ _ _ _ _).mono ?_; rintro e w1 ⟨rfl, b1⟩) | (go_at_call 92; refine (data_in _ _ _ _ _ _ _ _ _).mono ?_; rintro e w2 ⟨rfl, b2⟩))
  · go_ret
    refine ⟨ret_bool ?_, box_below (bchain b1 b2)⟩
    go_light
    grind [inB, frmB]
  · have b12 := bchain b1 b2
    have k2 := box_kept b12
    go_region_with (first | (go_at_call 91; refine (data_frame _ _ _ _ _ _ _ _ _).mono ?_; rintro e w3 ⟨rfl, b3⟩; have b13 := bchain b12.drew b3; have k3 := box_kept b13; have B3 := box_below b13) | (go_at_call 33; refine (same_any _ _ _ _ _ _ _ _ _ true _ _ _ _ _ _ _ _ _ w3 (fun W hW => equal_same _ zs W ((hR.kept B3).kept hW)) ⟨_, _, _, rfl⟩ ⟨_, _, _, rfl⟩).mono ?_; rintro e w4 ⟨rfl, b4⟩))
    all_goals
      go_wp2
      go_ret
      refine ⟨ret_bool ?_, bchain B3 b4⟩
      go_light
      grind [inB, frmB]
theorem meth_say_in (v : Value) (w : World) : (method 264 93 v "loop.example/linkboy/impl.inBounds").run Tryd.prog w = .ok (95, v) w := by kernel_rfl
theorem meth_say_fr (v : Value) (w : World) : (method 264 93 v "loop.example/linkboy/impl.frame").run Tryd.prog w = .ok (94, v) w := by kernel_rfl
set_option maxHeartbeats 1000000 in
theorem impl_frm2 (seq ack : Int) (poll final : Bool) (say seg len : Int) (a : Option Addr) (n cap : Nat) (w : World) (zs : List Nat) (_hz : zs.length = n) (hR : Rd w (.slice a n cap) zs) :
    Calls Tryd.prog 13 #[.agg #[.int .i64 2, .int .i64 seq, .int .i64 ack, .bool poll, .bool final, .int .i64 say, .int .i64 seg, .int .i64 len, .slice a n cap]] w fun e w' => e = .returned (.bool (frmB 2 seq ack poll final say seg len n)) ∧ Below w.heap.size w w' := by
  have m1 := meth_say_in
  have m2 := meth_say_fr
  go_enter Tryd.func13, Tryd.ntmps13
  go_wp2_with (first | (go_at_call 32; refine (kind_of2 _ _ _ _ _ _ _ _ _ _ _).mono ?_; rintro e w1 ⟨rfl, b1⟩) | (go_at_call 95; refine (say_in _ _ _ _ _).mono ?_; rintro e w2 ⟨rfl, b2⟩))
  · go_ret
    refine ⟨ret_bool ?_, box_below (bchain b1 b2)⟩
    go_light
    grind [inB, frmB]
  · have b12 := bchain b1 b2
    have k2 := box_kept b12
    go_region_with (first | (go_at_call 94; refine (say_frame _ _ _ _ _).mono ?_; rintro e w3 ⟨rfl, b3⟩; have b13 := bchain b12.drew b3; have k3 := box_kept b13; have B3 := box_below b13) | (go_at_call 33; refine (same_any _ _ _ _ _ _ _ _ _ (decide (zs.length = 0)) _ _ _ _ _ _ _ _ _ w3 (fun W hW => equal_nil _ zs W ((hR.kept B3).kept hW)) ⟨_, _, _, rfl⟩ ⟨_, _, _, rfl⟩).mono ?_; rintro e w4 ⟨rfl, b4⟩))
    all_goals
      go_wp2
      go_ret
      refine ⟨ret_bool ?_, bchain B3 b4⟩
      go_light
      grind [inB, frmB]
theorem meth_piece_in (v : Value) (w : World) : (method 264 95 v "loop.example/linkboy/impl.inBounds").run Tryd.prog w = .ok (97, v) w := by kernel_rfl
theorem meth_piece_fr (v : Value) (w : World) : (method 264 95 v "loop.example/linkboy/impl.frame").run Tryd.prog w = .ok (96, v) w := by kernel_rfl
set_option maxHeartbeats 1000000 in
theorem impl_frm3 (seq ack : Int) (poll final : Bool) (say seg len : Int) (a : Option Addr) (n cap : Nat) (w : World) (zs : List Nat) (_hz : zs.length = n) (hR : Rd w (.slice a n cap) zs) :
    Calls Tryd.prog 13 #[.agg #[.int .i64 3, .int .i64 seq, .int .i64 ack, .bool poll, .bool final, .int .i64 say, .int .i64 seg, .int .i64 len, .slice a n cap]] w fun e w' => e = .returned (.bool (frmB 3 seq ack poll final say seg len n)) ∧ Below w.heap.size w w' := by
  have m1 := meth_piece_in
  have m2 := meth_piece_fr
  go_enter Tryd.func13, Tryd.ntmps13
  go_wp2_with (first | (go_at_call 32; refine (kind_of3 _ _ _ _ _ _ _ _ _ _ _).mono ?_; rintro e w1 ⟨rfl, b1⟩) | (go_at_call 97; refine (piece_in _ _ _ _ _ _).mono ?_; rintro e w2 ⟨rfl, b2⟩))
  · go_ret
    refine ⟨ret_bool ?_, box_below (bchain b1 b2)⟩
    go_light
    grind [inB, frmB]
  · have b12 := bchain b1 b2
    have k2 := box_kept b12
    go_region_with (first | (go_at_call 96; refine (piece_frame _ _ _ _ _ _).mono ?_; rintro e w3 ⟨rfl, b3⟩; have b13 := bchain b12.drew b3; have k3 := box_kept b13; have B3 := box_below b13) | (go_at_call 33; refine (same_any _ _ _ _ _ _ _ _ _ true _ _ _ _ _ _ _ _ _ w3 (fun W hW => equal_same _ zs W ((hR.kept B3).kept hW)) ⟨_, _, _, rfl⟩ ⟨_, _, _, rfl⟩).mono ?_; rintro e w4 ⟨rfl, b4⟩))
    all_goals
      go_wp2
      go_ret
      refine ⟨ret_bool ?_, bchain B3 b4⟩
      go_light
      grind [inB, frmB]
theorem meth_grant_in (v : Value) (w : World) : (method 264 97 v "loop.example/linkboy/impl.inBounds").run Tryd.prog w = .ok (99, v) w := by kernel_rfl
theorem meth_grant_fr (v : Value) (w : World) : (method 264 97 v "loop.example/linkboy/impl.frame").run Tryd.prog w = .ok (98, v) w := by kernel_rfl
set_option maxHeartbeats 1000000 in
theorem impl_frm4 (seq ack : Int) (poll final : Bool) (say seg len : Int) (a : Option Addr) (n cap : Nat) (w : World) (zs : List Nat) (_hz : zs.length = n) (hR : Rd w (.slice a n cap) zs) :
    Calls Tryd.prog 13 #[.agg #[.int .i64 4, .int .i64 seq, .int .i64 ack, .bool poll, .bool final, .int .i64 say, .int .i64 seg, .int .i64 len, .slice a n cap]] w fun e w' => e = .returned (.bool (frmB 4 seq ack poll final say seg len n)) ∧ Below w.heap.size w w' := by
  have m1 := meth_grant_in
  have m2 := meth_grant_fr
  go_enter Tryd.func13, Tryd.ntmps13
  go_wp2_with (first | (go_at_call 32; refine (kind_of4 _ _ _ _ _ _ _ _ _ _ _).mono ?_; rintro e w1 ⟨rfl, b1⟩) | (go_at_call 99; refine (grant_in _ _).mono ?_; rintro e w2 ⟨rfl, b2⟩))
  · go_ret
    refine ⟨ret_bool ?_, box_below (bchain b1 b2)⟩
    go_light
    grind [inB, frmB]
  · have b12 := bchain b1 b2
    have k2 := box_kept b12
    go_region_with (first | (go_at_call 98; refine (grant_frame _ _).mono ?_; rintro e w3 ⟨rfl, b3⟩; have b13 := bchain b12.drew b3; have k3 := box_kept b13; have B3 := box_below b13) | (go_at_call 33; refine (same_any _ _ _ _ _ _ _ _ _ (decide (zs.length = 0)) _ _ _ _ _ _ _ _ _ w3 (fun W hW => equal_nil _ zs W ((hR.kept B3).kept hW)) ⟨_, _, _, rfl⟩ ⟨_, _, _, rfl⟩).mono ?_; rintro e w4 ⟨rfl, b4⟩))
    all_goals
      go_wp2
      go_ret
      refine ⟨ret_bool ?_, bchain B3 b4⟩
      go_light
      grind [inB, frmB]
set_option maxHeartbeats 1000000 in
theorem impl_frm0 (kind seq ack : Int) (poll final : Bool) (say seg len : Int) (a : Option Addr) (n cap : Nat) (w : World) (h1 : kind ≠ 1) (h2 : kind ≠ 2) (h3 : kind ≠ 3) (h4 : kind ≠ 4) :
    Calls Tryd.prog 13 #[.agg #[.int .i64 kind, .int .i64 seq, .int .i64 ack, .bool poll, .bool final, .int .i64 say, .int .i64 seg, .int .i64 len, .slice a n cap]] w fun e w' => e = .returned (.bool (frmB kind seq ack poll final say seg len n)) ∧ Below w.heap.size w w' := by
  have g1 : (kind == 1) = false := by simpa using h1
  have g2 : (kind == 2) = false := by simpa using h2
  have g3 : (kind == 3) = false := by simpa using h3
  have g4 : (kind == 4) = false := by simpa using h4
  go_enter Tryd.func13, Tryd.ntmps13
  go_wp2_with (go_at_call 32; refine (kind_of0 _ _ _ _ _ _ _ _ _ _ _ _ g1 g2 g3 g4).mono ?_; rintro e w1 ⟨rfl, b1⟩)
  go_ret
  refine ⟨ret_bool ?_, box_below b1⟩
  go_light
  grind [frmB]
theorem impl_frm (kind seq ack : Int) (poll final : Bool) (say seg len : Int) (s : Value) (zs : List Nat) (w : World) (hR : Rd w s zs) :
    Calls Tryd.prog 13 #[.agg #[.int .i64 kind, .int .i64 seq, .int .i64 ack, .bool poll, .bool final, .int .i64 say, .int .i64 seg, .int .i64 len, s]] w fun e w' => e = .returned (.bool (frmB kind seq ack poll final say seg len zs.length)) ∧ Below w.heap.size w w' := by
  obtain ⟨a, cap, rfl⟩ := hR.form
  by_cases h1 : kind = 1
  · subst h1; exact impl_frm1 _ _ _ _ _ _ _ _ _ _ _ zs rfl hR
  by_cases h2 : kind = 2
  · subst h2; exact impl_frm2 _ _ _ _ _ _ _ _ _ _ _ zs rfl hR
  by_cases h3 : kind = 3
  · subst h3; exact impl_frm3 _ _ _ _ _ _ _ _ _ _ _ zs rfl hR
  by_cases h4 : kind = 4
  · subst h4; exact impl_frm4 _ _ _ _ _ _ _ _ _ _ _ zs rfl hR
  exact impl_frm0 _ _ _ _ _ _ _ _ _ _ _ _ h1 h2 h3 h4
end Go.Proofs.YthnlpdjjnfkmeaaDoor

/- FrmOk of the specification answers whether a frame is ok. -/
namespace Go.Proofs.YthnlpdjjnfkmeaaDoor
open Go.RowKit


set_option maxHeartbeats 4000000 in
theorem spec_frm (kind seq ack : Int) (poll final : Bool) (say seg len : Int) (a : Option Addr) (n cap : Nat) (w : World) :
    Calls Tryd.prog 14 #[.agg #[.int .i64 kind, .int .i64 seq, .int .i64 ack, .bool poll, .bool final, .int .i64 say, .int .i64 seg, .int .i64 len, .slice a n cap]] w fun e w' => e = .returned (.bool (frmB kind seq ack poll final say seg len n)) ∧ Below w.heap.size w w' := by
  go_enter Tryd.func14, Tryd.ntmps14
  go_wp2_with (first | (go_at_call 34; refine (in_any _ _ _ _).mono ?_; rintro e w' ⟨rfl, rfl⟩) | (go_at_call 35; refine (spec_seg _ _ _ _ _ _ _ _ _ _ _ _).mono ?_; rintro e w' ⟨rfl, hb⟩))
  all_goals
    go_ret
    refine ⟨ret_bool ?_, ?_⟩
    · go_light
      rw [Bool.eq_iff_iff]
      simp only [frmB, inB_iff, decide_eq_true_eq] at *
      grind
    · first | exact (Below.refl _ _).alloc (Nat.le_refl _) _ | exact ((Below.refl _ _).alloc (Nat.le_refl _) _).trans (Below.mono hb (by simp))
end Go.Proofs.YthnlpdjjnfkmeaaDoor

/- Plain arithmetic of the sums (no Go in sight): the half step is linear and injective, eight of them split by bytes. -/
namespace Go.Proofs.YthnlpdjjnfkmeaaDoor.CrcM
def half (x : Nat) : Nat := if x % 2 = 1 then (x / 2) ^^^ 40961 else x / 2
def it : Nat → Nat → Nat
  | 0, x => x
  | k + 1, x => half (it k x)
def stp (s b : Nat) : Nat := it 8 (s ^^^ b)
def crc (l : List Nat) : Nat := l.foldl stp 0
theorem half_lt {x : Nat} (h : x < 65536) : half x < 65536 := by
  unfold half
  split
  · exact Nat.xor_lt_two_pow (n := 16) (by omega) (by decide)
  · omega
theorem it_lt (k : Nat) {x : Nat} (h : x < 65536) : it k x < 65536 := by
  induction k with
  | zero => exact h
  | succ k ih => exact half_lt ih
theorem stp_lt {s b : Nat} (h : s < 65536) (hb : b < 256) : stp s b < 65536 := it_lt 8 (Nat.xor_lt_two_pow (n := 16) h (by omega))
theorem half_xor (x y : Nat) : half (x ^^^ y) = half x ^^^ half y := by
  unfold half
  have h1 : (x ^^^ y) % 2 = (x + y) % 2 := by
    have := Nat.xor_mod_two_eq_one (a := x) (b := y)
    omega
  have h2 : (x ^^^ y) / 2 = x / 2 ^^^ y / 2 := Nat.xor_div_two
  rw [h1, h2]
  rcases Nat.mod_two_eq_zero_or_one x with hx | hx <;> rcases Nat.mod_two_eq_zero_or_one y with hy | hy
  · rw [if_neg (by omega), if_neg (by omega), if_neg (by omega)]
  · rw [if_pos (by omega), if_neg (by omega), if_pos (by omega), Nat.xor_assoc]
  · rw [if_pos (by omega), if_pos (by omega), if_neg (by omega), Nat.xor_assoc, Nat.xor_comm (y / 2), Nat.xor_assoc]
  · rw [if_neg (by omega), if_pos (by omega), if_pos (by omega)]
    rw [show (x / 2 ^^^ 40961) ^^^ (y / 2 ^^^ 40961) = (x / 2 ^^^ y / 2) ^^^ (40961 ^^^ 40961) from by ac_rfl, Nat.xor_self, Nat.xor_zero]
theorem it_xor (k x y : Nat) : it k (x ^^^ y) = it k x ^^^ it k y := by
  induction k with
  | zero => rfl
  | succ k ih => show half _ = half _ ^^^ half _; rw [ih, half_xor]
theorem it_zero (k : Nat) : it k 0 = 0 := by
  induction k with
  | zero => rfl
  | succ k ih => show half _ = 0; rw [ih]; rfl
theorem half_two (z : Nat) : half (2 * z) = z := by unfold half; rw [if_neg (by omega)]; omega
theorem it_front (k x : Nat) : it (k + 1) x = it k (half x) := by
  induction k with
  | zero => rfl
  | succ k ih => show half (it (k + 1) x) = half (it k (half x)); rw [ih]
theorem it8_256 (y : Nat) : it 8 (256 * y) = y := by
  rw [show 256 * y = 2 * (128 * y) from by omega, it_front, half_two, show 128 * y = 2 * (64 * y) from by omega, it_front, half_two, show 64 * y = 2 * (32 * y) from by omega, it_front, half_two,
    show 32 * y = 2 * (16 * y) from by omega, it_front, half_two, show 16 * y = 2 * (8 * y) from by omega, it_front, half_two, show 8 * y = 2 * (4 * y) from by omega, it_front, half_two,
    show 4 * y = 2 * (2 * y) from by omega, it_front, half_two, it_front, half_two]
  rfl
theorem add_xor (m q r : Nat) (h : r < 2 ^ m) : 2 ^ m * q + r = 2 ^ m * q ^^^ r := by
  apply Nat.eq_of_testBit_eq
  intro j
  rw [Nat.testBit_xor, Nat.testBit_two_pow_mul_add _ h]
  have e : (2 ^ m * q).testBit j = if j < m then false else q.testBit (j - m) := by
    have := Nat.testBit_two_pow_mul_add (b := 0) q (Nat.two_pow_pos m) j
    simpa using this
  rw [e]
  split
  · simp
  · rw [Nat.testBit_lt_two_pow (Nat.lt_of_lt_of_le h (Nat.pow_le_pow_right (by decide) (by omega)))]; simp
theorem it8_split (x : Nat) : it 8 x = x / 256 ^^^ it 8 (x % 256) := by
  have h : x = 256 * (x / 256) ^^^ x % 256 := by
    have := add_xor 8 (x / 256) (x % 256) (by omega)
    simp at this
    omega
  calc it 8 x = it 8 (256 * (x / 256) ^^^ x % 256) := by rw [← h]
    _ = _ := by rw [it_xor, it8_256]
/-- what the closure over the table answers -/
theorem stp_table (s b : Nat) (hb : b < 256) : s / 256 ^^^ it 8 (s % 256 ^^^ b) = stp s b := by
  unfold stp
  rw [it8_split (s ^^^ b)]
  have e1 : (s ^^^ b) / 256 = s / 256 := by
    have := Nat.xor_div_two_pow (a := s) (b := b) (n := 8)
    simp at this
    rw [this, Nat.div_eq_of_lt hb, Nat.xor_zero]
  have e2 : (s ^^^ b) % 256 = s % 256 ^^^ b := by
    have := Nat.xor_mod_two_pow (a := s) (b := b) (n := 8)
    simp at this
    rw [this, Nat.mod_eq_of_lt hb]
  rw [e1, e2]
/-- the table's doubling -/
theorem tab_double (m low : Nat) (h : low < 2 ^ m) : it 8 (2 ^ m + low) = it 8 low ^^^ it 8 (2 ^ m) := by
  have := add_xor m 1 low h
  simp at this
  rw [this, it_xor, Nat.xor_comm]
theorem crc_snoc (l : List Nat) (b : Nat) : crc (l ++ [b]) = stp (crc l) b := by simp [crc]
theorem crc_lt (l : List Nat) (h : ∀ b ∈ l, b < 256) : crc l < 65536 := by
  unfold crc
  suffices ∀ s, s < 65536 → l.foldl stp s < 65536 from this 0 (by decide)
  induction l with
  | nil => intro s hs; exact hs
  | cons a l ih => intro s hs; exact ih (fun b hb => h b (by simp [hb])) _ (stp_lt hs (h a (by simp)))
theorem xor_zero_eq {a b : Nat} (h : a ^^^ b = 0) : a = b := by
  have : (a ^^^ b) ^^^ b = b := by rw [h, Nat.zero_xor]
  rwa [Nat.xor_assoc, Nat.xor_self, Nat.xor_zero] at this
theorem xor_inj {a b c : Nat} (h : a ^^^ b = a ^^^ c) : b = c := by
  have : a ^^^ (a ^^^ b) = a ^^^ (a ^^^ c) := by rw [h]
  rwa [← Nat.xor_assoc, ← Nat.xor_assoc, Nat.xor_self, Nat.zero_xor, Nat.zero_xor] at this
theorem half_zero {x : Nat} (hx : x < 65536) (h : half x = 0) : x = 0 := by
  unfold half at h
  split at h
  · have : x / 2 = 40961 := xor_zero_eq h
    omega
  · omega
theorem it_eq_zero (k : Nat) {x : Nat} (hx : x < 65536) (h : it k x = 0) : x = 0 := by
  induction k with
  | zero => exact h
  | succ k ih => exact ih (half_zero (it_lt k hx) h)
theorem it_inj (k : Nat) {x y : Nat} (hx : x < 65536) (hy : y < 65536) (h : it k x = it k y) : x = y := by
  have e : it k (x ^^^ y) = 0 := by rw [it_xor, h, Nat.xor_self]
  exact xor_zero_eq (it_eq_zero k (Nat.xor_lt_two_pow (n := 16) hx hy) e)
theorem stp_inj_left {s t b : Nat} (hs : s < 65536) (ht : t < 65536) (hb : b < 256) (h : stp s b = stp t b) : s = t := by
  have := it_inj 8 (Nat.xor_lt_two_pow (n := 16) hs (by omega)) (Nat.xor_lt_two_pow (n := 16) ht (by omega)) h
  exact xor_inj (a := b) (by rw [Nat.xor_comm b s, Nat.xor_comm b t]; exact this)
theorem stp_inj_right {s b c : Nat} (hs : s < 65536) (hb : b < 256) (hc : c < 256) (h : stp s b = stp s c) : b = c := by
  have := it_inj 8 (Nat.xor_lt_two_pow (n := 16) hs (by omega)) (Nat.xor_lt_two_pow (n := 16) hs (by omega)) h
  exact xor_inj this
end Go.Proofs.YthnlpdjjnfkmeaaDoor.CrcM

/- CrcStep of the specification and of the program: both answer the same number, at every sum and every byte; the world stays. -/
namespace Go.Proofs.YthnlpdjjnfkmeaaDoor
open Go.RowKit

set_option maxHeartbeats 400000 in
theorem spec_step (s b : Nat) (hs : s < 65536) (hb : b < 256) (w : World) :
    Calls Tryd.prog 67 #[.int .i64 s, .int .u8 b] w fun e w' => e = .returned (.int .i64 (CrcM.stp s b)) ∧ w' = w := by
  have hx := i64_xor_nat s b (by omega) (by omega)
  have hlt : s ^^^ b < 65536 := Nat.xor_lt_two_pow (n := 16) hs (by omega)
  go_enter Tryd.func67, Tryd.ntmps67
  go_wp2_with (go_at_call 34; refine (in_yes _ _ _ (by omega) (by omega) _).mono ?_; rintro e w' ⟨rfl, rfl⟩)
  clear hx
  go_loop [0, 5] (fun x i => ∃ k : Nat, k ≤ 8 ∧ i = .int .i64 k ∧ x = .int .i64 (CrcM.it k (s ^^^ b))) (fun _ i => 8 - (intOf i).toNat)
  case atStart => exact ⟨0, Nat.zero_le _, rfl, rfl⟩
  case round =>
    obtain ⟨k, hk, rfl, rfl⟩ := hrel
    by_cases hk8 : k < 8
    · have hX := CrcM.it_lt k hlt
      have HS : Hid (CrcM.it (k + 1) (s ^^^ b) = CrcM.half (CrcM.it k (s ^^^ b))) := rfl
      generalize CrcM.it k (s ^^^ b) = X at *
      have hx2 : bits .xor .i64 ((X : Int) / 2) 40961 = ((X / 2 ^^^ 40961 : Nat) : Int) := i64_xor_nat (X / 2) 40961 (by omega) (by decide)
      by_cases ho : X % 2 = 1
      · have HH : Hid (CrcM.half X = X / 2 ^^^ 40961) := by unfold CrcM.half; exact if_pos ho
        have ho' : (X : Int) % 2 = 1 := by omega
        clear ho
        go_wp2
        go_round
        case rel => exact ⟨k + 1, by omega, by go_num, by rw [HS.out, HH.out]⟩
        case measure => simp [intOf]; omega
      · have HH : Hid (CrcM.half X = X / 2) := by unfold CrcM.half; exact if_neg ho
        have ho' : (X : Int) % 2 = 0 := by omega
        clear ho
        go_wp2
        go_round
        case rel => exact ⟨k + 1, by omega, by go_num, by rw [HS.out, HH.out]; go_num⟩
        case measure => simp [intOf]; omega
    · have : k = 8 := by omega
      subst this
      go_wp2
      go_ret
      exact ⟨rfl, rfl⟩

set_option maxHeartbeats 400000 in
theorem spec_step_no (s : Int) (b : Nat) (hs : s < 0 ∨ 65535 < s) (w : World) :
    Calls Tryd.prog 67 #[.int .i64 s, .int .u8 b] w fun e w' => e = .returned (.int .i64 (-1)) ∧ w' = w := by
  go_enter Tryd.func67, Tryd.ntmps67
  go_wp2_with (go_at_call 34; refine (in_no _ _ _ hs _).mono ?_; rintro e w' ⟨rfl, rfl⟩)
  go_ret
  exact ⟨rfl, rfl⟩

set_option maxHeartbeats 400000 in
theorem impl_step (s b : Nat) (hs : s < 65536) (hb : b < 256) (w : World) :
    Calls Tryd.prog 73 #[.int .i64 s, .int .u8 b] w fun e w' => e = .returned (.int .i64 (CrcM.stp s b)) ∧ w' = w := by
  have hx := i64_xor_nat s b (by omega) (by omega)
  have hlt : s ^^^ b < 65536 := Nat.xor_lt_two_pow (n := 16) hs (by omega)
  have hs1 : ¬ (s : Int) < 0 := by omega
  have hs2 : ¬ (65535 : Int) < (s : Int) := by omega
  go_enter Tryd.func73, Tryd.ntmps73
  go_wp2
  clear hx
  go_loop [0, 16] (fun x i => ∃ k : Nat, k ≤ 8 ∧ i = .int .i64 k ∧ x = .int .i64 (CrcM.it k (s ^^^ b))) (fun _ i => 8 - (intOf i).toNat)
  case atStart => exact ⟨0, Nat.zero_le _, rfl, rfl⟩
  case round =>
    obtain ⟨k, hk, rfl, rfl⟩ := hrel
    by_cases hk8 : k < 8
    · have hX := CrcM.it_lt k hlt
      have HS : Hid (CrcM.it (k + 1) (s ^^^ b) = CrcM.half (CrcM.it k (s ^^^ b))) := rfl
      generalize CrcM.it k (s ^^^ b) = X at *
      have hx2 : bits .xor .i64 ((X : Int) / 2) 40961 = ((X / 2 ^^^ 40961 : Nat) : Int) := i64_xor_nat (X / 2) 40961 (by omega) (by decide)
      by_cases ho : X % 2 = 1
      · have HH : Hid (CrcM.half X = X / 2 ^^^ 40961) := by unfold CrcM.half; exact if_pos ho
        have ho' : (X : Int) % 2 = 1 := by omega
        clear ho
        go_wp2
        go_round
        case rel => exact ⟨k + 1, by omega, by go_num, by rw [HS.out, HH.out]⟩
        case measure => simp [intOf]; omega
      · have HH : Hid (CrcM.half X = X / 2) := by unfold CrcM.half; exact if_neg ho
        have ho' : (X : Int) % 2 = 0 := by omega
        clear ho
        go_wp2
        go_round
        case rel => exact ⟨k + 1, by omega, by go_num, by rw [HS.out, HH.out]; go_num⟩
        case measure => simp [intOf]; omega
    · have : k = 8 := by omega
      subst this
      go_wp2
      go_ret
      exact ⟨rfl, rfl⟩

set_option maxHeartbeats 400000 in
theorem impl_step_no (s : Int) (b : Nat) (hs : s < 0 ∨ 65535 < s) (w : World) :
    Calls Tryd.prog 73 #[.int .i64 s, .int .u8 b] w fun e w' => e = .returned (.int .i64 (-1)) ∧ w' = w := by
  by_cases h1 : s < 0
  · go_enter Tryd.func73, Tryd.ntmps73
    go_wp2
    go_ret
    exact ⟨rfl, rfl⟩
  · have h2 : 65535 < s := by omega
    go_enter Tryd.func73, Tryd.ntmps73
    go_wp2
    go_ret
    exact ⟨rfl, rfl⟩
end Go.Proofs.YthnlpdjjnfkmeaaDoor

/- CrcOf of the specification and of the program, each of a list of bytes in memory: both answer the sum of the bytes. -/
namespace Go.Proofs.YthnlpdjjnfkmeaaDoor
open Go.RowKit

set_option maxHeartbeats 800000 in
theorem spec_of (v : Value) (zs : List Nat) (w : World) (hv : Rd w v zs) :
    Calls Tryd.prog 49 #[v] w fun e w' => e = .returned (.int .i64 (CrcM.crc zs)) ∧ w' = w := by
  obtain ⟨hby, hlen, hv⟩ := hv
  rcases hv with ⟨rfl, a, c, rfl, _⟩ | ⟨b, off, cap, rfl, _, _, hb, hc⟩
  · go_enter Tryd.func49, Tryd.ntmps49
    go_wp2
    go_loop [3, 4] (fun q i => i = .int .i64 0 ∧ q = .int .i64 0) (fun _ _ => 0)
    case atStart => exact ⟨rfl, rfl⟩
    case round =>
      obtain ⟨rfl, rfl⟩ := hrel
      go_wp2
      go_ret
      exact ⟨rfl, rfl⟩
  · go_enter Tryd.func49, Tryd.ntmps49
    go_wp2
    go_loop [3, 4] (fun q i => ∃ k : Nat, k ≤ zs.length ∧ i = .int .i64 k ∧ q = .int .i64 ((CrcM.crc (zs.take k) : Nat) : Int)) (fun _ i => zs.length - (intOf i).toNat)
    case atStart => exact ⟨0, Nat.zero_le _, rfl, rfl⟩
    case round =>
      obtain ⟨k, hk, rfl, rfl⟩ := hrel
      by_cases hlt : k < zs.length
      · have c1 := hc k hlt
        have hx : zs.getD k 0 < 256 := hby.get k
        have hs := CrcM.crc_lt (zs.take k) (hby.take k)
        have HS : Hid (CrcM.crc (zs.take (k + 1)) = CrcM.stp (CrcM.crc (zs.take k)) (zs.getD k 0)) := by
          show _ = _
          rw [List.take_succ_eq_append_getElem hlt, CrcM.crc_snoc]
          simp [hlt]
        clear hc
        generalize zs.getD k 0 = x at *
        generalize CrcM.crc (zs.take k) = q at *
        go_wp2_with (go_at_call 67; refine (spec_step _ _ hs hx _).mono ?_; rintro e w' ⟨rfl, rfl⟩)
        go_round
        case rel => exact ⟨k + 1, by omega, by go_num, by rw [HS.out]⟩
        case measure => simp [intOf]; omega
      · have : k = zs.length := by omega
        subst this
        go_wp2
        go_ret
        exact ⟨rfl, rfl⟩

/-- The table as it begins. -/
def zeros : Array Value := Array.replicate 256 (.int .u16 0)
theorem zeros_run (w : World) : Sem.run Tryd.prog (zeroValue 126) w = .ok (.agg zeros) w := by kernel_rfl

/-- What the table holds when its first m places are made. -/
def tab (m i : Nat) : Value := .int .u16 (((if i < m then CrcM.it 8 i else 0 : Nat)) : Int)
theorem tab_lo {m i : Nat} (h : i < m) : tab m i = .int .u16 ((CrcM.it 8 i : Nat) : Int) := by simp [tab, h]
theorem tab_start (w : World) : (w.alloc (.cells zeros 126)).rowIs w.heap.size 126 256 (tab 1) := by
  have h : zeros.size = 256 := by simp [zeros]
  have := World.rowIs_alloc w zeros 126 (tab 1) (by
    intro i hi
    rw [h] at hi
    have e : zeros[i]? = some (.int .u16 0) := by simp [zeros, hi]
    rw [e]
    unfold tab
    by_cases h0 : i < 1
    · have : i = 0 := by omega
      subst this
      simp [CrcM.it_zero]
    · simp [h0])
  rwa [h] at this
theorem tab_next {m low : Nat} {b t : Nat} {w : World} (h : w.rowIs b t 256 (tab (m + low))) : (w.setCell ⟨b, m + low, none⟩ (.int .u16 ((CrcM.it 8 (m + low) : Nat) : Int))).rowIs b t 256 (tab (m + low + 1)) := by
  refine (h.set (m + low) _).congr fun i _ => ?_
  unfold tab
  by_cases e : i = m + low
  · subst e; simp
  · by_cases e2 : i < m + low
    · rw [if_neg e, if_pos e2, if_pos (by omega)]
    · rw [if_neg e, if_neg e2, if_neg (by omega)]

theorem impl_step_zero (b : Nat) (hb : b < 256) (w : World) :
    Calls Tryd.prog 73 #[.int .i64 0, .int .u8 b] w fun e w' => e = .returned (.int .i64 (CrcM.it 8 b)) ∧ w' = w := by
  have := impl_step 0 b (by decide) hb w
  unfold CrcM.stp at this
  rw [Nat.zero_xor] at this
  exact this

set_option maxRecDepth 100000 in
set_option maxHeartbeats 1000000 in
theorem table_any (w : World) :
    Calls Tryd.prog 68 #[] w fun e w' => ∃ g, e = .returned (.func (.func 74) #[] #[.pointer (some ⟨g, 0, none⟩)]) ∧ g < w'.heap.size ∧ (∀ i : Nat, i < 256 → w'.cell? ⟨g, i, none⟩ = some (.int .u16 ((CrcM.it 8 i : Nat) : Int))) ∧ Below w.heap.size w w' := by
  have hz := zeros_run
  have hst := tab_start w
  go_enter Tryd.func68, Tryd.ntmps68
  go_wp2
  clear hz
  go_loopw [2] (fun t wr => ∃ m : Nat, m ≤ 8 ∧ t = .int .i64 ((2 ^ m : Nat) : Int) ∧ wr.rowIs w.heap.size 126 256 (tab (2 ^ m)) ∧ Below w.heap.size w wr) (fun t _ => 256 - (intOf t).toNat)
  case atStart => exact ⟨0, by omega, rfl, hst, (Below.refl _ _).alloc (Nat.le_refl _) _⟩
  case round =>
    obtain ⟨m, hm, rfl, hrow, hbl⟩ := hrel
    clear hst
    by_cases hm8 : m < 8
    · have hbit : 2 ^ m ≤ 128 := Nat.pow_le_pow_right (n := 2) (by decide) (show m ≤ 7 by omega)
      have hpos : 1 ≤ 2 ^ m := Nat.one_le_two_pow
      have HD : Hid (∀ low, low < 2 ^ m → CrcM.it 8 (2 ^ m + low) = CrcM.it 8 low ^^^ CrcM.it 8 (2 ^ m)) := fun low h => CrcM.tab_double m low h
      have HN : Hid (2 ^ m * 2 = 2 ^ (m + 1)) := (Nat.pow_succ 2 m).symm
      generalize 2 ^ m = bit at *
      have hlt := CrcM.it_lt 8 (show bit < 65536 by omega)
      have hw : IntKind.u8.wrap (bit : Int) = (bit : Int) := by rw [IntKind.wrap_u8']; omega
      have HT : Hid (∀ low, low < 65536 → bits .xor .u16 ((CrcM.it 8 low : Nat) : Int) ((CrcM.it 8 bit : Nat) : Int) = ((CrcM.it 8 low ^^^ CrcM.it 8 bit : Nat) : Int)) := fun low h => u16_xor_nat _ _ (CrcM.it_lt 8 h) hlt
      have hw2 : IntKind.u16.wrap ((CrcM.it 8 bit : Nat) : Int) = ((CrcM.it 8 bit : Nat) : Int) := by rw [IntKind.wrap_u16]; omega
      go_wp2_with (go_at_call 73; refine (impl_step_zero _ (by omega) _).mono ?_; rintro e w' ⟨rfl, rfl⟩)
      clear hw hw2
      go_loopw [14] (fun t wi => ∃ low : Nat, low ≤ bit ∧ t = .int .i64 (low : Int) ∧ wi.rowIs w.heap.size 126 256 (tab (bit + low)) ∧ Below w.heap.size w wi) (fun t _ => bit - (intOf t).toNat)
      case atStart => exact ⟨0, by omega, rfl, hrow, hbl⟩
      case round =>
        clear hrow hbl
        obtain ⟨low, hlow, rfl, hrow, hbl⟩ := hrel
        by_cases hl : low < bit
        · have c1 : wr.cell? ⟨w.heap.size, low, none⟩ = some (.int .u16 ((CrcM.it 8 low : Nat) : Int)) := by rw [hrow.cell (show low < 256 by omega), tab_lo (by omega)]
          have c2 : wr.cell? ⟨w.heap.size, bit + low, none⟩ = some (tab (bit + low) (bit + low)) := hrow.cell (by omega)
          have c3 := hrow.frozen (bit + low)
          have hx := HT.out low (by omega)
          have hxx := HD.out low hl
          have S := tab_next hrow
          have HB : Below w.heap.size w (wr.setCell ⟨w.heap.size, bit + low, none⟩ (.int .u16 ((CrcM.it 8 (bit + low) : Nat) : Int))) := hbl.setCell (Nat.le_refl _) _
          rw [hxx] at S HB
          clear hxx
          generalize tab (bit + low) (bit + low) = old at *
          go_wp2
          go_roundw
          case rel => exact ⟨low + 1, by omega, by go_num, S, HB⟩
          case measure => simp [intOf]; omega
        · have : low = bit := by omega
          subst this
          go_wp2
          go_roundw
          case rel => exact ⟨m + 1, by omega, by rw [← HN.out]; go_num, by rw [← HN.out, Nat.mul_two]; exact hrow, hbl⟩
          case measure => simp [intOf]; omega
    · have : m = 8 := by omega
      subst this
      go_wp2
      go_ret
      exact ⟨_, rfl, hrow.lt, fun i hi => by rw [hrow.cell hi, tab_lo hi], hbl⟩

/- The closure over the table: a step. -/
set_option maxRecDepth 100000 in
set_option maxHeartbeats 1000000 in
theorem closure_any (s b g : Nat) (hs : s < 65536) (hb : b < 256) (w : World) (hcell : ∀ i : Nat, i < 256 → w.cell? ⟨g, i, none⟩ = some (.int .u16 ((CrcM.it 8 i : Nat) : Int))) :
    Calls Tryd.prog 74 #[.int .i64 s, .int .u8 b, .pointer (some ⟨g, 0, none⟩)] w fun e w' => e = .returned (.int .i64 (CrcM.stp s b)) ∧ w' = w := by
  have hw : IntKind.u8.wrap (s : Int) = (s : Int) % 256 := by rw [IntKind.wrap_u8']
  have hx8 : bits .xor .u8 ((s : Int) % 256) (b : Int) = ((s % 256 ^^^ b : Nat) : Int) := u8_xor_nat (s % 256) b (by omega) hb
  have hxl : s % 256 ^^^ b < 256 := Nat.xor_lt_two_pow (n := 8) (by omega) (by omega)
  have c1 := hcell _ hxl
  have hx64 : bits .xor .i64 ((s : Int) / 256) ((CrcM.it 8 (s % 256 ^^^ b) : Nat) : Int) = ((s / 256 ^^^ CrcM.it 8 (s % 256 ^^^ b) : Nat) : Int) := i64_xor_nat (s / 256) (CrcM.it 8 (s % 256 ^^^ b)) (by omega) (by have := CrcM.it_lt 8 (show s % 256 ^^^ b < 65536 by omega); omega)
  rw [CrcM.stp_table s b hb] at hx64
  have hl := CrcM.it_lt 8 (show s % 256 ^^^ b < 65536 by omega)
  generalize CrcM.it 8 (s % 256 ^^^ b) = X at *
  generalize s % 256 ^^^ b = Y at *
  generalize CrcM.stp s b = Z at *
  clear hcell
  go_enter Tryd.func74, Tryd.ntmps74
  go_wp2
  go_ret
  exact ⟨rfl, rfl⟩

set_option maxRecDepth 100000 in
set_option maxHeartbeats 1000000 in
theorem impl_of (v : Value) (zs : List Nat) (w : World) (hv : Rd w v zs) :
    Calls Tryd.prog 50 #[v] w fun e w' => e = .returned (.int .i64 (CrcM.crc zs)) ∧ Below w.heap.size w w' := by
  obtain ⟨hby, hlen, hv⟩ := hv
  rcases hv with ⟨rfl, a, c, rfl, _⟩ | ⟨b, off, cap, rfl, _, _, hb, hc⟩
  · go_enter Tryd.func50, Tryd.ntmps50
    go_wp2_with (go_at_call 68; refine (table_any _).mono ?_; rintro e w1 ⟨g, rfl, hg, hcell, hbl⟩)
    go_loop [4, 10] (fun q i => i = .int .i64 0 ∧ q = .int .i64 0) (fun _ _ => 0)
    case atStart => exact ⟨rfl, rfl⟩
    case round =>
      obtain ⟨rfl, rfl⟩ := hrel
      go_wp2
      go_ret
      exact ⟨rfl, hbl⟩
  · go_enter Tryd.func50, Tryd.ntmps50
    go_wp2_with (go_at_call 68; refine (table_any _).mono ?_; rintro e w1 ⟨g, rfl, hg, hcell, hbl⟩)
    go_loop [4, 6, 10] (fun q _ i => ∃ k : Nat, k ≤ zs.length ∧ i = .int .i64 k ∧ q = .int .i64 ((CrcM.crc (zs.take k) : Nat) : Int)) (fun _ _ i => zs.length - (intOf i).toNat)
    case atStart => exact ⟨0, Nat.zero_le _, rfl, rfl⟩
    case round =>
      obtain ⟨k, hk, rfl, rfl⟩ := hrel
      by_cases hlt : k < zs.length
      · have c1 : w1.cell? ⟨b, off + k, none⟩ = some (.int .u8 ((zs.getD k 0 : Nat) : Int)) := (hbl.cell (p := ⟨b, off + k, none⟩) hb).trans (hc k hlt)
        have hx : zs.getD k 0 < 256 := hby.get k
        have hs := CrcM.crc_lt (zs.take k) (hby.take k)
        have HS : Hid (CrcM.crc (zs.take (k + 1)) = CrcM.stp (CrcM.crc (zs.take k)) (zs.getD k 0)) := by
          show _ = _
          rw [List.take_succ_eq_append_getElem hlt, CrcM.crc_snoc]
          simp [hlt]
        clear hc
        generalize zs.getD k 0 = x at *
        generalize CrcM.crc (zs.take k) = q at *
        go_wp2_with (go_at_call 74; refine (closure_any _ _ _ hs hx _ hcell).mono ?_; rintro e w' ⟨rfl, rfl⟩)
        go_round
        case rel => exact ⟨k + 1, by omega, by go_num, by rw [HS.out]⟩
        case measure => simp [intOf]; omega
      · have : k = zs.length := by omega
        subst this
        go_wp2
        go_ret
        exact ⟨rfl, hbl⟩
end Go.Proofs.YthnlpdjjnfkmeaaDoor

/- CrcPut of the specification and of the program: bytes with the lower and the higher byte of their sum behind them, in new memory. -/
namespace Go.Proofs.YthnlpdjjnfkmeaaDoor
open Go.RowKit

/-- Bytes with their sum. -/
def putL (zs : List Nat) : List Nat := zs ++ [CrcM.crc zs % 256, CrcM.crc zs / 256]
theorem putL_length (zs : List Nat) : (putL zs).length = zs.length + 2 := by simp [putL]
theorem putL_byt {zs : List Nat} (h : Byt zs) : Byt (putL zs) := by
  intro z hz
  have := CrcM.crc_lt zs h
  simp only [putL, List.mem_append, List.mem_cons, List.not_mem_nil, or_false] at hz
  rcases hz with hz | hz | hz
  · exact h z hz
  · omega
  · omega

set_option maxHeartbeats 1000000 in
theorem spec_put (v : Value) (zs : List Nat) (w : World) (hv : Rd w v zs) (hl : zs.length ≤ 1900000) :
    Calls Tryd.prog 25 #[v] w fun e w' => ∃ v', e = .returned v' ∧ Own w' w.heap.size v' (putL zs) ∧ Below w.heap.size w w' := by
  have hc := CrcM.crc_lt zs hv.1
  have hw1 : IntKind.u8.wrap ((CrcM.crc zs : Int) % 256) = (CrcM.crc zs : Int) % 256 := by rw [IntKind.wrap_u8']; omega
  have hw2 : IntKind.u8.wrap ((CrcM.crc zs : Int) / 256) = (CrcM.crc zs : Int) / 256 := by rw [IntKind.wrap_u8']; omega
  go_enter Tryd.func25, Tryd.ntmps25
  go_wp2_with fail
  refine (spec_of v zs _ hv).mono ?_
  rintro e w1 ⟨rfl, h1⟩
  subst w1
  have hv1 := hv.alloc (.cells #[] 5)
  have o0 := own_empty w w.heap.size (Nat.le_refl _)
  go_wp2_with (at_builtin; refine wpList_app _ rfl (.tmp 6) (.tmp 7) rfl w.heap.size _ [] rfl o0 v zs rfl hv1 (by simp; omega) (by simp) ?_)
  intro v1 w1 o1 g1
  have bl1 : Below w.heap.size w w1 := ((Below.refl _ _).alloc (Nat.le_refl _) _).grown g1 (by simp) (by simp [Value.ownBlock])
  clear g1 hv1 o0
  have r2 : Rd (w1.alloc (.cells #[.int .u8 ((CrcM.crc zs : Int) % 256), .int .u8 ((CrcM.crc zs : Int) / 256)] 5)) (.slice (some ⟨w1.heap.size, 0, none⟩) 2 2) [CrcM.crc zs % 256, CrcM.crc zs / 256] := rd_two w1 (CrcM.crc zs % 256) (CrcM.crc zs / 256) (by omega) (by omega)
  have o2 := o1.alloc (.cells #[.int .u8 ((CrcM.crc zs : Int) % 256), .int .u8 ((CrcM.crc zs : Int) / 256)] 5)
  have bl2 := bl1.alloc bl1.size (.cells #[.int .u8 ((CrcM.crc zs : Int) % 256), .int .u8 ((CrcM.crc zs : Int) / 256)] 5)
  have hsz := bl1.size
  have hrow := fun k h => (World.ownsRow.lt o1 k h).1
  go_wp2_with (at_builtin; refine wpList_app _ rfl (.tmp 8) (.tmp 15) rfl w.heap.size _ zs rfl o2 _ _ rfl r2 (by simp; omega) (by simp; omega) ?_)
  intro v2 w2 o3 g2
  have bl3 := bl2.grown g2 (by simp; omega) hrow
  clear bl1 bl2 o1 o2 r2 g2 hrow
  go_wp2
  go_ret
  exact ⟨_, rfl, o3, bl3⟩
set_option maxHeartbeats 1000000 in
theorem impl_put (v : Value) (zs : List Nat) (w : World) (hv : Rd w v zs) (hl : zs.length ≤ 1900000) :
    Calls Tryd.prog 27 #[v] w fun e w' => ∃ v', e = .returned v' ∧ Own w' w.heap.size v' (putL zs) ∧ Below w.heap.size w w' := by
  have hc := CrcM.crc_lt zs hv.1
  have hw1 : IntKind.u8.wrap (CrcM.crc zs : Int) = (CrcM.crc zs : Int) % 256 := by rw [IntKind.wrap_u8']
  have hw2 : IntKind.u8.wrap ((CrcM.crc zs : Int) / 256) = (CrcM.crc zs : Int) / 256 := by rw [IntKind.wrap_u8']; omega
  obtain ⟨a, cap, rfl⟩ : ∃ a cap, v = .slice a zs.length cap := by
    rcases hv.2.2 with ⟨rfl, a, c, rfl, _⟩ | ⟨b, off, cap, rfl, _⟩
    · exact ⟨_, _, rfl⟩
    · exact ⟨_, _, rfl⟩
  go_enter Tryd.func27, Tryd.ntmps27
  go_wp2_with fail
  refine (impl_of _ zs _ hv).mono ?_
  rintro e w0 ⟨rfl, b0⟩
  have hv0 := hv.kept b0
  have hmk : ∀ w : World, (Instr.makeSlice 22 (.int .i64 0) (.int .i64 ((zs.length : Int) + 2))).run Tryd.prog w = .ok (.slice (some ⟨w.heap.size, 0, none⟩) 0 (zs.length + 2)) (w.alloc (.cells (madeCells #[.int .u8 0] (zs.length + 2)) 5)) := run_cap (zs.length + 2) (by omega)
  have hv1 := hv0.alloc (.cells (madeCells #[.int .u8 0] (zs.length + 2)) 5)
  have o0 := own_cap w0 w.heap.size (zs.length + 2) b0.size (by omega)
  have hsz0 := b0.size
  have b1 := b0.alloc b0.size (.cells (madeCells #[.int .u8 0] (zs.length + 2)) 5)
  go_wp2_with (at_builtin; refine wpList_app _ rfl (.tmp 11) (.tmp 12) rfl w.heap.size _ [] rfl o0 _ zs rfl hv1 (by simp; omega) (by simp; omega) ?_)
  intro v1 w1 o1 g1
  have bl1 : Below w.heap.size w w1 := b1.grown g1 (by simp; omega) (by simp [Value.ownBlock]; omega)
  clear g1 hv1 o0 hmk b0 b1 hsz0
  have r2 : Rd (w1.alloc (.cells #[.int .u8 ((CrcM.crc zs : Int) % 256), .int .u8 ((CrcM.crc zs : Int) / 256)] 5)) (.slice (some ⟨w1.heap.size, 0, none⟩) 2 2) [CrcM.crc zs % 256, CrcM.crc zs / 256] := rd_two w1 (CrcM.crc zs % 256) (CrcM.crc zs / 256) (by omega) (by omega)
  have o2 := o1.alloc (.cells #[.int .u8 ((CrcM.crc zs : Int) % 256), .int .u8 ((CrcM.crc zs : Int) / 256)] 5)
  have bl2 := bl1.alloc bl1.size (.cells #[.int .u8 ((CrcM.crc zs : Int) % 256), .int .u8 ((CrcM.crc zs : Int) / 256)] 5)
  have hsz := bl1.size
  have hrow := fun k h => (World.ownsRow.lt o1 k h).1
  go_wp2_with (at_builtin; refine wpList_app _ rfl (.tmp 14) (.tmp 20) rfl w.heap.size _ zs rfl o2 _ _ rfl r2 (by simp; omega) (by simp; omega) ?_)
  intro v2 w2 o3 g2
  have bl3 := bl2.grown g2 (by simp; omega) hrow
  clear bl1 bl2 o1 o2 r2 g2 hrow
  go_wp2
  go_ret
  exact ⟨_, rfl, o3, bl3⟩
end Go.Proofs.YthnlpdjjnfkmeaaDoor

/- A statement whose order is open: what only reads may be done first, whatever else makes memory meanwhile, as long as it leaves what is read alone (a class of worlds). -/
namespace Go.Proofs.YthnlpdjjnfkmeaaDoor

section
variable {P : Program} {ops : Array Oper} {md : Region.Mode} {C : World → Prop} {Q : Exit → Act → World → Prop} {n : Nat}

/-- In the state a, in every world of the class, o leaves the value v, and the world as it is. -/
def ReadsAs (P : Program) (ops : Array Oper) (C : World → Prop) (o : Oper) (v : Value) (a : Act) : Prop :=
  (Region.wanted o (yielded ops a.tmps) = true ∧ ∀ w, C w → ((execOp a.eval o).run P w = .ok (.value v) w ∨ ((execOp a.eval o).run P w = .ok .skip w ∧ v = undef))) ∨
  (Region.wanted o (yielded ops a.tmps) = false ∧ v = undef)
theorem ReadsAs.moved {o : Oper} {v : Value} {a a' : Act} (h : ReadsAs P ops C o v a) (he : execOp a'.eval o = execOp a.eval o)
    (hw : Region.wanted o (yielded ops a'.tmps) = Region.wanted o (yielded ops a.tmps)) : ReadsAs P ops C o v a' := by
  unfold ReadsAs at *
  rw [he, hw]
  exact h
theorem ReadsAs.op {i : Nat} {o : Oper} {v : Value} {a : Act} {w : World} (hi : ops[i]? = some o) (h : ReadsAs P ops C o v a) (hC : C w) {K : Act → World → Prop} (hK : K (a.put o.dst v) w) : wpOp P ops Q i K a w := by
  unfold wpOp
  simp only [hi]
  rcases h with ⟨hw, hv⟩ | ⟨hw, rfl⟩
  · rw [if_pos hw]
    left
    unfold Oper.wp
    rcases hv w hC with e | ⟨e, rfl⟩
    · rw [e]; exact hK
    · rw [e]; exact hK
  · rw [if_neg (by rw [hw]; exact Bool.false_ne_true)]
    exact hK

/-- What one operation leaves is the same, whether the other one's value lies there already. -/
theorem upon_late {x : Option Tmp} {oj : Oper} {v : Value} {a : Act} (h2 : ∀ d, x = some d → oj.dst ≠ some d) (hQ : ∀ c a w, Q (.panic c) (a.put x v) w → Q (.panic c) a w)
    {G : Act → Prop} (hG : ∀ u, G (a.put oj.dst u)) (hGd : ∀ d u, G ({ a with defers := d :: a.defers }.put oj.dst u)) {K : Act → World → Prop} :
    ∀ r, oj.upon P (a.put x v) K Q r → oj.upon P a (fun a' w' => G a' ∧ K (a'.put x v) w') Q r := by
  intro r h
  have sw : ∀ u, (a.put x v).put oj.dst u = (a.put oj.dst u).put x v := fun u => Act.put_comm a v u h2
  match r with
  | .ok (.value u) w' => exact ⟨hG u, by rw [← sw]; exact h⟩
  | .ok .skip w' => exact ⟨hG _, by rw [← sw]; exact h⟩
  | .ok (.defer d) w' => exact ⟨hGd d _, by rw [← Act.put_comm _ v undef h2, ← Act.put_defers]; exact h⟩
  | .ok (.enter f args) w' =>
    refine Calls.mono h fun e w'' he => ?_
    match e with
    | .returned u => exact ⟨hG u, by rw [← sw]; exact he⟩
    | .panicked c => exact hQ _ _ _ he
    | .outgrown => exact he
  | .ok (.row row args) w' => exact Rows.mono h fun u w'' he => ⟨hG u, by rw [← sw]; exact he⟩
  | .halt (.panic u) w' => exact hQ _ _ _ h
theorem op_late {j : Nat} {oi oj : Oper} {v : Value} (hj : ops[j]? = some oj) (hap : oi.apart ops oj = true) (hsi : ∀ cs b, oi.op ≠ .select cs b) (hsj : ∀ cs b, oj.op ≠ .select cs b)
    (hQ : ∀ c a w, Q (.panic c) (a.put oi.dst v) w → Q (.panic c) a w) {K : Act → World → Prop} {a : Act} {w : World} (hy : ReadsAs P ops C oi v a) (h : wpOp P ops Q j K (a.put oi.dst v) w) :
    wpOp P ops Q j (fun a' w' => ReadsAs P ops C oi v a' ∧ K (a'.put oi.dst v) w') a w := by
  obtain ⟨h1, h2, h3⟩ := Oper.apart_spec hap
  have keep : ∀ (b : Act), ReadsAs P ops C oi v b → ∀ u, ReadsAs P ops C oi v (b.put oj.dst u) := fun b hb u => hb.moved (execOp_put oi hsi b oj.dst u h3) (wanted_put oi b oj.dst u h3)
  have keepD : ∀ d, ReadsAs P ops C oi v { a with defers := d :: a.defers } := fun d => hy.moved rfl rfl
  unfold wpOp at *
  simp only [hj] at *
  rw [wanted_put oj a oi.dst v h1] at h
  by_cases hw : Region.wanted oj (yielded ops a.tmps) = true
  · rw [if_pos hw] at h ⊢
    rcases h with h | ⟨ha, hl⟩
    · left
      unfold Oper.wp at *
      rw [execOp_put oj hsj a oi.dst v h1] at h
      exact upon_late h2 hQ (keep a hy) (fun d u => keep _ (keepD d) u) _ h
    · right
      unfold Oper.asks at *
      rw [execOp_put oj hsj a oi.dst v h1] at ha
      exact ⟨ha, hl⟩
  · rw [if_neg hw] at h ⊢
    exact ⟨keep a hy _, by rw [← Act.put_comm a v undef h2]; exact h⟩

/-- Whatever comes up next, from here on: what is one of the first n leaves a world of the class. -/
def wpAnyC (P : Program) (md : Region.Mode) (ops : Array Oper) (C : World → Prop) (n : Nat) (Q : Exit → Act → World → Prop) : Nat → Array Bool → Act → World → Prop
  | 0, listed, a, w => Region.ready md ops listed = [] ∧ Q .normal a w
  | f + 1, listed, a, w => (Region.ready md ops listed = [] → Q .normal a w) ∧
      ∀ i ∈ Region.ready md ops listed, wpOp P ops Q i (fun a' w' => (i < n → C w') ∧ wpAnyC P md ops C n Q f (listed.setIfInBounds i true) a' w') a w
theorem wpAnyC.plain : ∀ (f : Nat) (listed : Array Bool) (a : Act) (w : World), wpAnyC P md ops C n Q f listed a w → wpAny P md ops Q f listed a w
  | 0, _, _, _, h => h
  | f + 1, _, _, _, h => ⟨h.1, fun i hi => wpOp_mono (fun a' w' h' => wpAnyC.plain f _ a' w' h'.2) (h.2 i hi)⟩

/-- Each operation behind the first n waits for all of these. -/
def tailB (md : Region.Mode) (ops : Array Oper) (n : Nat) : Bool :=
  (List.range ops.size).all fun t => decide (t < n) || (List.range n).all fun i => match ops[t]? with
    | some o => o.after.any fun e => Region.binds md e && e.on == i
    | none => false
theorem tailB_waits (h : tailB md ops n = true) {t i : Nat} (hi : i < n) {listed : Array Bool} (hun : listed.getD i true = false) (hr : t ∈ Region.ready md ops listed) : t < n := by
  by_cases ht : t < n
  · exact ht
  · exfalso
    obtain ⟨_, o, ho, hall⟩ := mem_ready.1 hr
    have htl : t < ops.size := (Array.getElem?_eq_some_iff.1 ho).1
    have h1 := List.all_eq_true.1 h t (List.mem_range.2 htl)
    simp only [Bool.or_eq_true, decide_eq_true_eq] at h1
    have h2 := List.all_eq_true.1 (h1.resolve_left ht) i (List.mem_range.2 hi)
    rw [ho] at h2
    obtain ⟨e, he, hb⟩ := Array.any_eq_true'.1 h2
    simp only [Bool.and_eq_true, beq_iff_eq] at hb
    have h3 := hall e he hb.1
    rw [hb.2] at h3
    rcases Nat.lt_or_ge i listed.size with h' | h'
    · simp [h'] at hun h3; rw [hun] at h3; cases h3
    · simp [Array.getElem?_eq_none h'] at h3

theorem take_first {i : Nat} {oi : Oper} {v : Value} (hi : ops[i]? = some oi) (hsel : ∀ (j : Nat) (o : Oper) cs b, ops[j]? = some o → o.op ≠ .select cs b)
    (hQ : ∀ c a w, Q (.panic c) (a.put oi.dst v) w → Q (.panic c) a w) (hin : i < n) (ht : tailB md ops n = true) :
    ∀ (f : Nat) (listed : Array Bool) (a : Act) (w : World), C w →
      (∀ j oj, ops[j]? = some oj → j ≠ i → listed.getD j true = false → (∀ e ∈ oj.after, Region.binds md e = true → e.on ≠ i) → oi.apart ops oj = true) →
      i ∈ Region.ready md ops listed → ReadsAs P ops C oi v a →
      wpAnyC P md ops C n Q f (listed.setIfInBounds i true) (a.put oi.dst v) w → wpAnyC P md ops C n Q (f + 1) listed a w := by
  intro f
  induction f with
  | zero =>
    intro listed a w hC _ hr hy H
    refine ⟨fun h => (by rw [h] at hr; cases hr), fun j hj => ?_⟩
    by_cases hji : j = i
    · subst hji; exact hy.op hi hC ⟨fun _ => hC, H⟩
    · have := ready_mono hj hji
      rw [H.1] at this
      cases this
  | succ f ih =>
    intro listed a w hC hfree hr hy H
    have hun := (mem_ready.1 hr).1
    refine ⟨fun h => (by rw [h] at hr; cases hr), fun j hj => ?_⟩
    by_cases hji : j = i
    · subst hji; exact hy.op hi hC ⟨fun _ => hC, H⟩
    · have hjn : j < n := tailB_waits ht hin hun hj
      have h1 := H.2 j (ready_mono hj hji)
      obtain ⟨hjun, oj, hoj, hall⟩ := mem_ready.1 hj
      have hnot : ∀ e ∈ oj.after, Region.binds md e = true → e.on ≠ i := fun e he hb heq => by
        have h3 := hall e he hb
        rw [heq] at h3
        rcases Nat.lt_or_ge i listed.size with h' | h'
        · simp [h'] at hun h3; rw [hun] at h3; cases h3
        · simp [Array.getElem?_eq_none h'] at h3
      have h2 := op_late hoj (hfree j oj hoj hji hjun hnot) (fun cs b => hsel i oi cs b hi) (fun cs b => hsel j oj cs b hoj) hQ hy h1
      refine wpOp_mono (fun a' w' h3 => ?_) h2
      obtain ⟨hy', hC', H'⟩ := h3
      have hC2 := hC' hjn
      refine ⟨fun _ => hC2, ih (listed.setIfInBounds j true) a' w' hC2 ?_ (ready_mono hr (Ne.symm hji)) hy' ?_⟩
      · intro k ok hk hki hkun hno
        refine hfree k ok hk hki ?_ hno
        by_cases hjk : j = k
        · subst hjk; exact hjun
        · rw [getD_set_ne true hjk] at hkun; exact hkun
      · rw [Array.setIfInBounds_comm _ _ hji]
        exact H'

/-- The operations in the order in which they are walked: its place, whether it only reads, itself; R: what is asked then. -/
def wpBy (P : Program) (ops : Array Oper) (C : World → Prop) (n : Nat) (Q : Exit → Act → World → Prop) (R : Act → World → Prop) : List (Nat × Bool × Oper) → Act → World → Prop
  | [], a, w => R a w
  | (_, true, o) :: rest, a, w => ∃ v, ReadsAs P ops C o v a ∧ wpBy P ops C n Q R rest (a.put o.dst v) w
  | (i, false, _) :: rest, a, w => wpOp P ops Q i (fun a' w' => (i < n → C w') ∧ wpBy P ops C n Q R rest a' w') a w
/-- Places that have come up. -/
def markL (listed : Array Bool) (p : List (Nat × Bool)) : Array Bool := p.foldl (fun l x => l.setIfInBounds x.1 true) listed
def byB (md : Region.Mode) (ops : Array Oper) (n : Nat) : List (Nat × Bool) → Array Bool → Bool
  | [], _ => true
  | (i, true) :: rest, listed => decide (i < n) && (Region.ready md ops listed).contains i && Region.free md ops listed i && byB md ops n rest (listed.setIfInBounds i true)
  | (i, false) :: rest, listed => decide (Region.ready md ops listed = [i]) && (decide (i < n) || rest.all fun x => decide (n ≤ x.1)) && byB md ops n rest (listed.setIfInBounds i true)
def arrange (l : List Oper) (p : List (Nat × Bool)) (d : Oper) : List (Nat × Bool × Oper) := p.map fun x => (x.1, x.2, l.getD x.1 d)

theorem wpAnyC_of_by {l : List Oper} {d : Oper} {f : Nat} (hs : Region.noSelect l.toArray = true) (ht : tailB md l.toArray n = true) (hQ : ∀ x v c a w, Q (.panic c) (Act.put a x v) w → Q (.panic c) a w) :
    ∀ (p : List (Nat × Bool)) (listed : Array Bool) (a : Act) (w : World), byB md l.toArray n p listed = true → (C w ∨ p.all (fun x => decide (n ≤ x.1)) = true) →
      wpBy P l.toArray C n Q (fun a w => wpAnyC P md l.toArray C n Q f (markL listed p) a w) (arrange l p d) a w → wpAnyC P md l.toArray C n Q (p.length + f) listed a w
  | [], listed, a, w, _, _, h => by rw [List.length_nil, Nat.zero_add]; exact h
  | (i, true) :: p, listed, a, w, hB, hC, h => by
    simp only [byB, Bool.and_eq_true, decide_eq_true_eq] at hB
    obtain ⟨⟨⟨hin, hr⟩, hf⟩, hB'⟩ := hB
    have hr' : i ∈ Region.ready md l.toArray listed := by simpa using hr
    obtain ⟨_, oi, hoi, _⟩ := mem_ready.1 hr'
    have hoi2 : l.getD i d = oi := by
      have : l[i]? = some oi := by simpa using hoi
      simp [List.getD, this]
    have hC' : C w := by
      rcases hC with hC | hC
      · exact hC
      · simp only [List.all_cons, Bool.and_eq_true, decide_eq_true_eq] at hC
        omega
    obtain ⟨v, hy, hK⟩ := h
    rw [hoi2] at hy hK
    rw [List.length_cons, show p.length + 1 + f = (p.length + f) + 1 by omega]
    exact take_first hoi (Region.noSelect_spec hs) (hQ _ _) hin ht (p.length + f) listed a w hC' (Region.free_spec hoi hf) hr' hy (wpAnyC_of_by hs ht hQ p _ _ w hB' (.inl hC') hK)
  | (i, false) :: p, listed, a, w, hB, hC, h => by
    simp only [byB, Bool.and_eq_true, Bool.or_eq_true, decide_eq_true_eq] at hB
    obtain ⟨⟨hr, hn⟩, hB'⟩ := hB
    rw [List.length_cons, show p.length + 1 + f = (p.length + f) + 1 by omega]
    refine ⟨fun h0 => (by rw [hr] at h0; cases h0), fun j hj => ?_⟩
    rw [hr] at hj
    have hji : j = i := by simpa using hj
    subst hji
    refine wpOp_mono (fun a' w' h' => ⟨h'.1, wpAnyC_of_by hs ht hQ p _ a' w' hB' ?_ h'.2⟩) h
    rcases hn with hn | hn
    · exact .inl (h'.1 hn)
    · exact .inr hn

theorem wpBy_end {R R' : Act → World → Prop} (hR : ∀ a w, R a w → R' a w) : ∀ (l : List (Nat × Bool × Oper)) (a : Act) (w : World), wpBy P ops C n Q R l a w → wpBy P ops C n Q R' l a w
  | [], a, w, h => hR a w h
  | (_, true, _) :: rest, _, _, ⟨v, hy, h⟩ => ⟨v, hy, wpBy_end hR rest _ _ h⟩
  | (_, false, _) :: rest, _, _, h => wpOp_mono (fun a' w' h' => ⟨h'.1, wpBy_end hR rest a' w' h'.2⟩) h

/-- THE REGION, its operations in one order. -/
theorem region_by {id : Nat} {a : Act} {w : World} {l : List Oper} (C : World → Prop) (n : Nat) (p : List (Nat × Bool)) (d : Oper) (hm : P.follows .mixedOrders = true)
    (hB : (decide (p.length = l.length) && Region.noSelect l.toArray && tailB .any l.toArray n && byB .any l.toArray n p (Array.replicate l.length false) && (Region.ready .any l.toArray (markL (Array.replicate l.length false) p)).isEmpty) = true) (hC : C w.drew)
    (hQ : ∀ x v c a w, Q (.panic c) (Act.put a x v) w → Q (.panic c) a w) (h : wpBy P l.toArray C n Q (Q .normal) (arrange l p d) a w.drew) : (Code.region id l.toArray true).wp P Q a w := by
  simp only [Bool.and_eq_true, decide_eq_true_eq, List.isEmpty_iff] at hB
  obtain ⟨⟨⟨⟨hl, hs⟩, ht⟩, hb⟩, he⟩ := hB
  refine wp_region_any hm ?_
  have := wpAnyC.plain _ _ _ _ (wpAnyC_of_by (f := 0) hs ht hQ p (Array.replicate l.length false) a w.drew hb (.inl hC) (wpBy_end (fun a w hq => ⟨he, hq⟩) _ _ _ h))
  rw [Nat.add_zero, hl] at this
  simpa using this
/-- THE REGION, its first operations in one order, and then whatever comes up. -/
theorem region_part {id : Nat} {a : Act} {w : World} {l : List Oper} (C : World → Prop) (n : Nat) (p : List (Nat × Bool)) (f : Nat) (d : Oper) (hm : P.follows .mixedOrders = true)
    (hB : (decide (p.length + f = l.length) && Region.noSelect l.toArray && tailB .any l.toArray n && byB .any l.toArray n p (Array.replicate l.length false)) = true) (hC : C w.drew)
    (hQ : ∀ x v c a w, Q (.panic c) (Act.put a x v) w → Q (.panic c) a w)
    (h : wpBy P l.toArray C n Q (fun a w => wpAnyC P .any l.toArray C n Q f (markL (Array.replicate l.length false) p) a w) (arrange l p d) a w.drew) : (Code.region id l.toArray true).wp P Q a w := by
  simp only [Bool.and_eq_true, decide_eq_true_eq] at hB
  obtain ⟨⟨⟨hl, hs⟩, ht⟩, hb⟩ := hB
  refine wp_region_any hm ?_
  have := wpAnyC.plain _ _ _ _ (wpAnyC_of_by hs ht hQ p (Array.replicate l.length false) a w.drew hb (.inl hC) h)
  rw [hl] at this
  simpa using this
/-- What is left, in one order. -/
theorem rest_by {l : List Oper} {a : Act} {w : World} {listed : Array Bool} (p : List (Nat × Bool)) (d : Oper)
    (hB : (Region.noSelect l.toArray && tailB md l.toArray n && byB md l.toArray n p listed && (Region.ready md l.toArray (markL listed p)).isEmpty) = true) (hC : C w)
    (hQ : ∀ x v c a w, Q (.panic c) (Act.put a x v) w → Q (.panic c) a w) (h : wpBy P l.toArray C n Q (Q .normal) (arrange l p d) a w) : wpAnyC P md l.toArray C n Q p.length listed a w := by
  simp only [Bool.and_eq_true, List.isEmpty_iff] at hB
  obtain ⟨⟨⟨hs, ht⟩, hb⟩, he⟩ := hB
  have := wpAnyC_of_by (f := 0) hs ht hQ p listed a w hb (.inl hC) (wpBy_end (fun a w hq => ⟨he, hq⟩) _ _ _ h)
  rwa [Nat.add_zero] at this
/-- What is left: one of two comes up. -/
theorem rest_two {l : List Oper} {a : Act} {w : World} {listed : Array Bool} {f : Nat} (i j : Nat) (d : Oper) (hr : decide (Region.ready md l.toArray listed = [i, j]) = true)
    (hi : wpBy P l.toArray C n Q (fun a w => wpAnyC P md l.toArray C n Q f (listed.setIfInBounds i true) a w) (arrange l [(i, false)] d) a w)
    (hj : wpBy P l.toArray C n Q (fun a w => wpAnyC P md l.toArray C n Q f (listed.setIfInBounds j true) a w) (arrange l [(j, false)] d) a w) : wpAnyC P md l.toArray C n Q (f + 1) listed a w := by
  simp only [decide_eq_true_eq] at hr
  refine ⟨fun h0 => (by rw [hr] at h0; cases h0), fun k hk => ?_⟩
  rw [hr] at hk
  simp only [List.mem_cons, List.not_mem_nil, or_false] at hk
  rcases hk with rfl | rfl
  · exact hi
  · exact hj

theorem by_nil {R : Act → World → Prop} {a : Act} {w : World} (h : R a w) : wpBy P ops C n Q R [] a w := h
/-- One that makes memory, or calls. -/
theorem by_move {R : Act → World → Prop} {i : Nat} {o : Oper} {rest : List (Nat × Bool × Oper)} {a : Act} {w : World} (ho : ops[i]? = some o)
    (h : ∀ K : Act → World → Prop, (∀ a' w', (i < n → C w') → wpBy P ops C n Q R rest a' w' → K a' w') → if Region.wanted o (yielded ops a.tmps) = true then o.wp P a w K Q else K (a.put o.dst undef) w) :
    wpBy P ops C n Q R ((i, false, o) :: rest) a w := by
  show wpOp P ops Q i _ a w
  unfold wpOp
  simp only [ho]
  have := h (fun a' w' => (i < n → C w') ∧ wpBy P ops C n Q R rest a' w') (fun _ _ h1 h2 => ⟨h1, h2⟩)
  split
  · rename_i hw; rw [if_pos hw] at this; exact .inl this
  · rename_i hw; rw [if_neg hw] at this; exact this

/-- What never enters a function. -/
def readB : Op → Bool
  | .move _ | .assign _ | .pick .. | .load .. | .binOp .. | .unOp .. | .convert .. | .fieldAddr .. | .field .. | .indexAddr .. | .index .. | .extract .. | .slice .. | .build .. | .makeInterface .. => true
  | .call { callee := .builtin .len, .. } | .call { callee := .builtin .cap, .. } => true
  | _ => false
end
end Go.Proofs.YthnlpdjjnfkmeaaDoor

/- The steps of a statement whose order is open that only read. -/
namespace Go.Proofs.YthnlpdjjnfkmeaaDoor

section
variable {P : Program} {ops : Array Oper} {C : World → Prop} {Q : Exit → Act → World → Prop} {n : Nat}

theorem value_enter {s : Sem Value} {w w' : World} {f : FuncId} {args : Array Value} (h : (do pure (Next.value (← s)) : Sem Next).run P w = .ok (.enter f args) w') : False := by
  simp only [Sem.run_bind] at h
  generalize s.run P w = r at h
  cases r with
  | ok u w1 => simp [Result.andThen, Sem.run_pure] at h
  | halt x w1 => simp [Result.andThen] at h
theorem and_enter {r : Result Value} {w' : World} {f : FuncId} {args : Array Value} (h : (r.andThen fun a w' => Result.ok (Next.value a) w') = Result.ok (Next.enter f args) w') : False := by
  cases r with
  | ok u w1 => simp [Result.andThen] at h
  | halt x w1 => simp [Result.andThen] at h
theorem read_enter {o : Oper} (hr : readB o.op = true) {ρ : Operand → Value} {w w' : World} {f : FuncId} {args : Array Value} (h : (execOp ρ o).run P w = .ok (.enter f args) w') : False := by
  obtain ⟨dst, op, type, pos, after, guard⟩ := o
  unfold execOp at h
  cases op
  case pick c a b => exact value_enter (s := do pure (if ← asBool (ρ c) then ρ a else ρ b)) (by simpa using h)
  case call c =>
    obtain ⟨callee, args', tys⟩ := c
    cases callee with
    | builtin b =>
      cases b <;> simp [readB] at hr
      all_goals
        simp [resolve, invoke, builtin] at h
        exact and_enter h
    | _ => simp [readB] at hr
  all_goals first
    | (simp [readB] at hr; done)
    | exact value_enter h
    | (simp [Sem.run_pure] at h; done)
theorem by_read {R : Act → World → Prop} {i : Nat} {o : Oper} {rest : List (Nat × Bool × Oper)} {a : Act} {w : World} (hr : readB o.op = true)
    (h : ∀ K : Act → Prop, (∀ a', wpBy P ops C n Q R rest a' w → K a') → if Region.wanted o (yielded ops a.tmps) = true then o.quiet P a C K else K (a.put o.dst undef)) :
    wpBy P ops C n Q R ((i, true, o) :: rest) a w := by
  have := h (fun a' => wpBy P ops C n Q R rest a' w) (fun _ h => h)
  by_cases hw : Region.wanted o (yielded ops a.tmps) = true
  · rw [if_pos hw] at this
    obtain ⟨v, hv, hK⟩ := this
    refine ⟨v, .inl ⟨hw, fun w' hC => ?_⟩, hK⟩
    have h1 := hv w' hC
    have h2 := @read_enter P o hr a.eval w'
    unfold Oper.quietAt at h1
    generalize (execOp a.eval o).run P w' = r at h1 h2 ⊢
    cases r with
    | halt x w1 => exact h1.elim
    | ok nx w1 =>
      cases nx
      case value u => obtain ⟨rfl, rfl⟩ := h1; exact .inl rfl
      case skip => obtain ⟨rfl, rfl⟩ := h1; exact .inr ⟨rfl, rfl⟩
      case enter f args => exact (h2 rfl).elim
      all_goals exact h1.elim
  · rw [if_neg hw] at this
    exact ⟨undef, .inr ⟨by simpa using hw, rfl⟩, this⟩
/-- A look at a pointer that is something. -/
theorem by_check {R : Act → World → Prop} {i : Nat} {o : Oper} {rest : List (Nat × Bool × Oper)} {a : Act} {w : World} (x : Operand) (p : Addr) (ho : o.op = .nilCheck x) (hg : o.guard = none) (hx : a.eval x = .pointer (some p))
    (h : wpBy P ops C n Q R rest (a.put o.dst (.pointer (some p))) w) : wpBy P ops C n Q R ((i, true, o) :: rest) a w :=
  ⟨_, .inl ⟨by simp [Region.wanted, hg], fun w' _ => .inl (by unfold execOp; simp [ho, hx])⟩, h⟩
end
/-- A class of worlds, under names of its own. -/
theorem cls (p : World → Prop) : ∃ (ι : Type) (W : ι → World), (∀ w', p w' → ∃ x, w' = W x) ∧ ∀ x, p (W x) := ⟨{ w' // p w' }, Subtype.val, fun w' h => ⟨⟨w', h⟩, rfl⟩, fun x => x.2⟩
end Go.Proofs.YthnlpdjjnfkmeaaDoor

/- The program's FrmBytes: the bytes of a frame that is ok, with their sum; else none. -/
namespace Go.Proofs.YthnlpdjjnfkmeaaDoor
open Go.RowKit

/-- The one byte of Poll, Final, Say and Seg. -/
def signs (poll final : Bool) (say seg : Int) : Int := 4 * say + 16 * seg + (if poll = true then 1 else 0) + (if final = true then 2 else 0)
/-- The bytes ahead of the sum. -/
def headL (kind seq ack : Int) (poll final : Bool) (say seg len : Int) (n : Nat) : List Nat := [kind.toNat, (seq * 16 + ack).toNat, (signs poll final say seg).toNat, len.toNat, n]
def frmL (kind seq ack : Int) (poll final : Bool) (say seg len : Int) (zs : List Nat) : List Nat :=
  if frmB kind seq ack poll final say seg len zs.length = true then putL (headL kind seq ack poll final say seg len zs.length ++ zs) else []

set_option maxHeartbeats 1000000 in
theorem signs_any (kind seq ack : Int) (poll final : Bool) (say seg len : Int) (a : Option Addr) (n cap : Nat) (w : World) (h1 : 0 ≤ say) (h2 : say ≤ 3) (h3 : 0 ≤ seg) (h4 : seg ≤ 3) :
    Calls Tryd.prog 26 #[.agg #[.int .i64 kind, .int .i64 seq, .int .i64 ack, .bool poll, .bool final, .int .i64 say, .int .i64 seg, .int .i64 len, .slice a n cap]] w fun e w' => e = .returned (.int .i64 (signs poll final say seg)) ∧ Below w.heap.size w w' := by
  cases poll <;> cases final
  all_goals
    go_enter Tryd.func26, Tryd.ntmps26
    go_wp2
    go_ret
    exact ⟨ret_int (by simp [signs]; try omega), (Below.refl _ _).alloc (Nat.le_refl _) _⟩

set_option maxHeartbeats 1000000 in
theorem impl_bytes_no (kind seq ack : Int) (poll final : Bool) (say seg len : Int) (a : Option Addr) (zs : List Nat) (cap : Nat) (w : World) (hR : Rd w (.slice a zs.length cap) zs) (hk : frmB kind seq ack poll final say seg len zs.length = false) :
    Calls Tryd.prog 7 #[.agg #[.int .i64 kind, .int .i64 seq, .int .i64 ack, .bool poll, .bool final, .int .i64 say, .int .i64 seg, .int .i64 len, .slice a zs.length cap]] w fun e w' => ∃ v', e = .returned v' ∧ Own w' w.heap.size v' [] ∧ Below w.heap.size w w' := by
  go_enter Tryd.func7, Tryd.ntmps7
  go_wp2_with fail
  refine (impl_frm _ _ _ _ _ _ _ _ _ zs _ (hR.alloc _)).mono ?_
  rw [hk]
  rintro e w1 ⟨rfl, b1⟩
  go_wp2
  go_ret
  exact ⟨_, rfl, own_none _ _, box_below b1⟩

theorem headL_byt {kind seq ack : Int} {poll final : Bool} {say seg len : Int} {n : Nat} (h1 : 0 ≤ kind ∧ kind ≤ 4) (h2 : 0 ≤ seq ∧ seq ≤ 7) (h3 : 0 ≤ ack ∧ ack ≤ 7) (h4 : 0 ≤ say ∧ say ≤ 3) (h5 : 0 ≤ seg ∧ seg ≤ 3) (h6 : 0 ≤ len ∧ len ≤ 255) (h7 : n ≤ 8) :
    Byt (headL kind seq ack poll final say seg len n) := by
  intro z hz
  have : 0 ≤ signs poll final say seg ∧ signs poll final say seg < 256 := by unfold signs; split <;> split <;> omega
  simp only [headL, List.mem_cons, List.not_mem_nil, or_false] at hz
  omega
theorem headL_cells {kind seq ack : Int} {poll final : Bool} {say seg len : Int} {n : Nat} (h1 : 0 ≤ kind ∧ kind ≤ 4) (h2 : 0 ≤ seq ∧ seq ≤ 7) (h3 : 0 ≤ ack ∧ ack ≤ 7) (h4 : 0 ≤ say ∧ say ≤ 3) (h5 : 0 ≤ seg ∧ seg ≤ 3) (h6 : 0 ≤ len ∧ len ≤ 255) :
    (bcells (headL kind seq ack poll final say seg len n)).toArray = #[.int .u8 kind, .int .u8 (seq * 16 + ack), .int .u8 (signs poll final say seg), .int .u8 len, .int .u8 (n : Int)] := by
  have : 0 ≤ signs poll final say seg := by unfold signs; split <;> split <;> omega
  simp [headL, bcells]
  omega
set_option maxHeartbeats 2000000 in
theorem impl_bytes_yes (kind seq ack : Int) (poll final : Bool) (say seg len : Int) (a : Option Addr) (zs : List Nat) (cap : Nat) (w : World) (hR : Rd w (.slice a zs.length cap) zs) (hk : frmB kind seq ack poll final say seg len zs.length = true)
    (h1 : 0 ≤ kind ∧ kind ≤ 4) (h2 : 0 ≤ seq ∧ seq ≤ 7) (h3 : 0 ≤ ack ∧ ack ≤ 7) (h4 : 0 ≤ say ∧ say ≤ 3) (h5 : 0 ≤ seg ∧ seg ≤ 3) (h6 : 0 ≤ len ∧ len ≤ 255) (h7 : zs.length ≤ 8) :
    Calls Tryd.prog 7 #[.agg #[.int .i64 kind, .int .i64 seq, .int .i64 ack, .bool poll, .bool final, .int .i64 say, .int .i64 seg, .int .i64 len, .slice a zs.length cap]] w fun e w' => ∃ v', e = .returned v' ∧ Own w' w.heap.size v' (putL (headL kind seq ack poll final say seg len zs.length ++ zs)) ∧ Below w.heap.size w w' := by
  go_enter Tryd.func7, Tryd.ntmps7
  go_wp2_with fail
  refine (impl_frm _ _ _ _ _ _ _ _ _ zs _ (hR.alloc _)).mono ?_
  rw [hk]
  rintro e w1 ⟨rfl, b1⟩
  have k1 := box_kept b1
  have B1 := box_below b1
  have z1 : w.heap.size + 1 ≤ w1.heap.size := by have := b1.size; simpa using this
  have R1 := hR.kept B1
  have hmk : ∀ w : World, (Instr.makeSlice 22 (.int .i64 0) (.int .i64 (5 + (zs.length : Int)))).run Tryd.prog w = .ok (.slice (some ⟨w.heap.size, 0, none⟩) 0 (5 + zs.length)) (w.alloc (.cells (madeCells #[.int .u8 0] (5 + zs.length)) 5)) := run_cap (5 + zs.length) (by omega)
  have o2 := own_cap w1 (w.heap.size + 1) (5 + zs.length) z1 (by omega)
  have bl2 := b1.alloc (by simpa using z1) (.cells (madeCells #[.int .u8 0] (5 + zs.length)) 5)
  have R2 := R1.alloc (.cells (madeCells #[.int .u8 0] (5 + zs.length)) 5)
  have z2 : (w1.alloc (.cells (madeCells #[.int .u8 0] (5 + zs.length)) 5)).heap.size = w1.heap.size + 1 := by simp
  go_wp2
  generalize w1.alloc (.cells (madeCells #[.int .u8 0] (5 + zs.length)) 5) = w2 at o2 bl2 R2 z2 ⊢
  have u1 : IntKind.u8.wrap kind = kind := by rw [IntKind.wrap_u8']; omega
  have u2 : IntKind.i64.wrap (seq * 16) = seq * 16 := by rw [IntKind.wrap_i64]; omega
  have u3 : IntKind.i64.wrap (seq * 16 + ack) = seq * 16 + ack := by rw [IntKind.wrap_i64]; omega
  have u4 : IntKind.u8.wrap (seq * 16 + ack) = seq * 16 + ack := by rw [IntKind.wrap_u8']; omega
  have u5 : IntKind.u8.wrap (signs poll final say seg) = signs poll final say seg := by rw [IntKind.wrap_u8']; unfold signs; split <;> split <;> omega
  have u6 : IntKind.u8.wrap len = len := by rw [IntKind.wrap_u8']; omega
  have u7 : IntKind.u8.wrap (zs.length : Int) = (zs.length : Int) := by rw [IntKind.wrap_u8']; omega
  obtain ⟨ι, W, inW, ofW⟩ := cls (fun w' => Below (w.heap.size + 1) w2.drew w')
  have ne : Nonempty ι := ⟨(inW _ (Below.refl _ _)).choose⟩
  have kW : ∀ x k, (W x).cell? ⟨w.heap.size, k, none⟩ = (w.alloc (.cells #[.int .i64 kind, .int .i64 seq, .int .i64 ack, .bool poll, .bool final, .int .i64 say, .int .i64 seg, .int .i64 len, .slice a zs.length cap] 24)).cell? ⟨w.heap.size, k, none⟩ := fun x k => ((ofW x).cell (p := ⟨w.heap.size, k, none⟩) (Nat.lt_succ_self _)).trans (box_kept bl2.drew k)
  clear k1 hmk
  refine region_by (fun w' => ∃ x, w' = W x) 23 [(0, true), (1, true), (2, true), (3, true), (4, true), (5, true), (6, true), (7, true), (8, true), (9, true), (10, true), (11, true), (14, true), (15, true), (16, true), (17, true), (18, true), (19, true), (20, true), (12, false), (13, true), (21, false), (22, false), (23, false)] ⟨none, .assign (.tmp 0), 0, "", #[], none⟩ (by kernel_rfl) (by kernel_rfl) (inW _ (Below.refl _ _)) (fun x _ _ _ _ h => by cases x <;> exact h) ?_
  simp only [arrange, List.map_cons, List.map_nil, List.getD_cons_zero, List.getD_cons_succ]
  iterate 19 (refine by_read rfl (fun K hK => ?_); go_simp; refine hK _ ?_; clear hK K)
  refine by_move rfl (fun K hK => ?_)
  go_simp
  go_at_call 26
  refine (signs_any _ _ _ _ _ _ _ _ _ _ _ _ h4.1 h4.2 h5.1 h5.2).mono ?_
  rintro e w3 ⟨rfl, b3⟩
  have q3 : Below (w.heap.size + 1) w2.drew w3 := b3.mono (by simp; omega)
  refine hK _ _ (fun _ => inW _ q3) ?_
  clear hK K
  refine by_read rfl (fun K hK => ?_)
  go_simp
  refine hK _ ?_
  clear hK K
  refine by_move rfl (fun K hK => ?_)
  go_simp
  have b23 : Below w2.heap.size w2 w3 := bchain ((Below.refl _ _).drew) b3
  have o5 := (o2.kept b23).alloc (.cells #[.int .u8 kind, .int .u8 (seq * 16 + ack), .int .u8 (signs poll final say seg), .int .u8 len, .int .u8 (zs.length : Int)] 5)
  have r5 : Rd (w3.alloc (.cells #[.int .u8 kind, .int .u8 (seq * 16 + ack), .int .u8 (signs poll final say seg), .int .u8 len, .int .u8 (zs.length : Int)] 5)) (.slice (some ⟨w3.heap.size, 0, none⟩) 5 5) (headL kind seq ack poll final say seg len zs.length) := by
    have := rd_cells w3 (headL kind seq ack poll final say seg len zs.length) (headL_byt h1 h2 h3 h4 h5 h6 h7) (by simp [headL])
    rw [headL_cells h1 h2 h3 h4 h5 h6] at this
    exact this
  have z3 := b23.size
  have q4 := q3.alloc (show w.heap.size + 1 ≤ w3.heap.size by omega) (.cells #[.int .u8 kind, .int .u8 (seq * 16 + ack), .int .u8 (signs poll final say seg), .int .u8 len, .int .u8 (zs.length : Int)] 5)
  refine hK _ _ (fun _ => inW _ q4) ?_
  clear hK K
  refine by_move rfl (fun K hK => ?_)
  refine step_app rfl (.tmp 12) (.tmp 33) rfl (w.heap.size + 1) _ [] rfl o5 _ (headL kind seq ack poll final say seg len zs.length) rfl r5 (by simp [headL]) (by simp; omega) ?_
  intro v6 w6 o6 g6
  have q6 := q4.grown g6 (by simp; omega) (fun k e => by obtain rfl : w1.heap.size = k := Option.some.inj e; exact z1)
  refine hK _ _ (fun _ => inW _ q6) ?_
  clear hK K
  refine by_move rfl (fun K hK => ?_)
  go_simp
  refine hK _ _ (fun h => absurd h (by decide)) ?_
  clear hK K
  refine by_nil ?_
  have B6 : Below w.heap.size w w6 := box_below (bl2.drew.trans (by simpa using q6))
  have k6 : ∀ k, w6.cell? ⟨w.heap.size, k, none⟩ = (w.alloc (.cells #[.int .i64 kind, .int .i64 seq, .int .i64 ack, .bool poll, .bool final, .int .i64 say, .int .i64 seg, .int .i64 len, .slice a zs.length cap] 24)).cell? ⟨w.heap.size, k, none⟩ := fun k => (q6.cell (p := ⟨w.heap.size, k, none⟩) (Nat.lt_succ_self _)).trans (box_kept bl2.drew k)
  have R6 := hR.kept B6
  have z6 := B6.size
  clear kW ofW inW ne W ι
  go_wp2_with (at_builtin; refine wpList_app _ rfl (.tmp 35) (.tmp 37) rfl (w.heap.size + 1) _ (headL kind seq ack poll final say seg len zs.length) rfl o6 _ zs rfl R6 (by simp [headL]; omega) (by have := q6.size; simp at this; omega) ?_)
  intro v7 w7 o7 g7
  have h67 := fun k e => (World.ownsRow.lt o6 k e).1
  have q7 := q6.grown g7 (by have := q6.size; simp at this ⊢; omega) h67
  have B7 : Below w.heap.size w w7 := box_below (bl2.drew.trans (by simpa using q7))
  have hb7 : Byt (headL kind seq ack poll final say seg len zs.length ++ zs) := by
    intro z hz
    rcases List.mem_append.1 hz with hz | hz
    · exact headL_byt h1 h2 h3 h4 h5 h6 h7 z hz
    · exact hR.1 z hz
  have r7 := o7.rd hb7 (by simp [headL]; omega)
  go_wp2_with fail
  refine (impl_put _ _ _ r7 (by simp [headL]; omega)).mono ?_
  rintro e w8 ⟨v8, rfl, o8, b8⟩
  go_wp2
  go_ret
  exact ⟨_, rfl, o8.base B7.size, bchain B7 b8⟩
theorem frmB_bounds {kind seq ack : Int} {poll final : Bool} {say seg len : Int} {n : Nat} (h : frmB kind seq ack poll final say seg len n = true) :
    (0 ≤ kind ∧ kind ≤ 4) ∧ (0 ≤ seq ∧ seq ≤ 7) ∧ (0 ≤ ack ∧ ack ≤ 7) ∧ (0 ≤ say ∧ say ≤ 3) ∧ (0 ≤ seg ∧ seg ≤ 3) ∧ (0 ≤ len ∧ len ≤ 255) ∧ n ≤ 8 := by
  simp only [frmB, pieceB, decide_eq_true_eq] at h
  omega
theorem impl_bytes (kind seq ack : Int) (poll final : Bool) (say seg len : Int) (s : Value) (zs : List Nat) (w : World) (hR : Rd w s zs) :
    Calls Tryd.prog 7 #[.agg #[.int .i64 kind, .int .i64 seq, .int .i64 ack, .bool poll, .bool final, .int .i64 say, .int .i64 seg, .int .i64 len, s]] w fun e w' => ∃ v', e = .returned v' ∧ Own w' w.heap.size v' (frmL kind seq ack poll final say seg len zs) ∧ Below w.heap.size w w' := by
  obtain ⟨a, cap, rfl⟩ := hR.form
  cases hk : frmB kind seq ack poll final say seg len zs.length with
  | false => rw [show frmL kind seq ack poll final say seg len zs = [] from by simp [frmL, hk]]; exact impl_bytes_no _ _ _ _ _ _ _ _ _ _ _ _ hR hk
  | true =>
    obtain ⟨h1, h2, h3, h4, h5, h6, h7⟩ := frmB_bounds hk
    rw [show frmL kind seq ack poll final say seg len zs = putL (headL kind seq ack poll final say seg len zs.length ++ zs) from by simp [frmL, hk]]
    exact impl_bytes_yes _ _ _ _ _ _ _ _ _ _ _ _ hR hk h1 h2 h3 h4 h5 h6 h7
end Go.Proofs.YthnlpdjjnfkmeaaDoor

/- FrmBytes of the specification: the bytes of a frame that is ok, with their sum; else none. -/
namespace Go.Proofs.YthnlpdjjnfkmeaaDoor
open Go.RowKit

def bitI (b : Bool) : Int := if b = true then 1 else 0
theorem bitI_lo (b : Bool) : 0 ≤ bitI b ∧ bitI b ≤ 1 := by cases b <;> simp [bitI]
theorem bit_any (b : Bool) (w : World) : Calls Tryd.prog 31 #[.bool b] w fun e w' => e = .returned (.int .i64 (bitI b)) ∧ w' = w := by
  cases b
  all_goals
    go_enter Tryd.func31, Tryd.ntmps31
    go_wp2
    go_ret
    exact ⟨ret_int (by simp [bitI]), rfl⟩

set_option maxHeartbeats 1000000 in
theorem spec_bytes_no (kind seq ack : Int) (poll final : Bool) (say seg len : Int) (a : Option Addr) (n cap : Nat) (w : World) (hk : frmB kind seq ack poll final say seg len n = false) :
    Calls Tryd.prog 11 #[.agg #[.int .i64 kind, .int .i64 seq, .int .i64 ack, .bool poll, .bool final, .int .i64 say, .int .i64 seg, .int .i64 len, .slice a n cap]] w fun e w' => ∃ v', e = .returned v' ∧ Own w' w.heap.size v' [] ∧ Below w.heap.size w w' := by
  go_enter Tryd.func11, Tryd.ntmps11
  go_wp2_with fail
  refine (spec_frm _ _ _ _ _ _ _ _ _ _ _ _).mono ?_
  rw [hk]
  rintro e w1 ⟨rfl, b1⟩
  have B1 := box_below b1
  go_wp2
  go_ret
  exact ⟨_, rfl, own_empty _ _ B1.size, B1.alloc B1.size _⟩

set_option maxHeartbeats 2000000 in
theorem spec_bytes_yes (kind seq ack : Int) (poll final : Bool) (say seg len : Int) (a : Option Addr) (zs : List Nat) (cap : Nat) (w : World) (hR : Rd w (.slice a zs.length cap) zs) (hk : frmB kind seq ack poll final say seg len zs.length = true)
    (h1 : 0 ≤ kind ∧ kind ≤ 4) (h2 : 0 ≤ seq ∧ seq ≤ 7) (h3 : 0 ≤ ack ∧ ack ≤ 7) (h4 : 0 ≤ say ∧ say ≤ 3) (h5 : 0 ≤ seg ∧ seg ≤ 3) (h6 : 0 ≤ len ∧ len ≤ 255) (h7 : zs.length ≤ 8) :
    Calls Tryd.prog 11 #[.agg #[.int .i64 kind, .int .i64 seq, .int .i64 ack, .bool poll, .bool final, .int .i64 say, .int .i64 seg, .int .i64 len, .slice a zs.length cap]] w fun e w' => ∃ v', e = .returned v' ∧ Own w' w.heap.size v' (putL ((headL kind seq ack poll final say seg len zs.length) ++ zs)) ∧ Below w.heap.size w w' := by
  go_enter Tryd.func11, Tryd.ntmps11
  go_wp2_with fail
  refine (spec_frm _ _ _ _ _ _ _ _ _ _ _ _).mono ?_
  rw [hk]
  rintro e w1 ⟨rfl, b1⟩
  have z1 : w.heap.size + 1 ≤ w1.heap.size := by have := b1.size; simpa using this
  have i1 := bitI_lo poll
  have i2 := bitI_lo final
  have u1 : IntKind.u8.wrap kind = kind := by rw [IntKind.wrap_u8']; omega
  have u2 : IntKind.i64.wrap (seq * 16) = seq * 16 := by rw [IntKind.wrap_i64]; omega
  have u3 : IntKind.i64.wrap (seq * 16 + ack) = seq * 16 + ack := by rw [IntKind.wrap_i64]; omega
  have u4 : IntKind.u8.wrap (seq * 16 + ack) = seq * 16 + ack := by rw [IntKind.wrap_u8']; omega
  have u5 : IntKind.u8.wrap (bitI poll + 2 * bitI final + 4 * say + 16 * seg) = signs poll final say seg := by rw [IntKind.wrap_u8']; unfold signs bitI; split <;> split <;> omega
  have u6 : IntKind.u8.wrap len = len := by rw [IntKind.wrap_u8']; omega
  have u7 : IntKind.u8.wrap (zs.length : Int) = (zs.length : Int) := by rw [IntKind.wrap_u8']; omega
  have u8 : IntKind.i64.wrap (2 * bitI final) = 2 * bitI final := by rw [IntKind.wrap_i64]; omega
  have u9 : IntKind.i64.wrap (bitI poll + 2 * bitI final) = bitI poll + 2 * bitI final := by rw [IntKind.wrap_i64]; omega
  have u10 : IntKind.i64.wrap (4 * say) = 4 * say := by rw [IntKind.wrap_i64]; omega
  have u11 : IntKind.i64.wrap (16 * seg) = 16 * seg := by rw [IntKind.wrap_i64]; omega
  have u12 : IntKind.i64.wrap (bitI poll + 2 * bitI final + 4 * say) = bitI poll + 2 * bitI final + 4 * say := by rw [IntKind.wrap_i64]; omega
  have u13 : IntKind.i64.wrap (bitI poll + 2 * bitI final + 4 * say + 16 * seg) = bitI poll + 2 * bitI final + 4 * say + 16 * seg := by rw [IntKind.wrap_i64]; omega
  go_wp2
  obtain ⟨ι, W, inW, ofW⟩ := cls (fun w' => Below (w.heap.size + 1) w1.drew w')
  have ne : Nonempty ι := ⟨(inW _ (Below.refl _ _)).choose⟩
  have kW : ∀ x k, (W x).cell? ⟨w.heap.size, k, none⟩ = (w.alloc (.cells #[.int .i64 kind, .int .i64 seq, .int .i64 ack, .bool poll, .bool final, .int .i64 say, .int .i64 seg, .int .i64 len, .slice a zs.length cap] 24)).cell? ⟨w.heap.size, k, none⟩ := fun x k => ((ofW x).cell (p := ⟨w.heap.size, k, none⟩) (Nat.lt_succ_self _)).trans (box_kept b1.drew k)
  refine region_by (fun w' => ∃ x, w' = W x) 35 [(0, true), (1, true), (2, true), (3, true), (4, true), (5, true), (6, true), (7, true), (8, true), (9, true), (10, true), (11, true), (13, true), (14, true), (18, true), (19, true), (20, true), (22, true), (23, true), (24, true), (27, true), (28, true), (29, true), (30, true), (31, true), (32, true), (33, true), (12, false), (15, false), (16, true), (17, true), (21, true), (25, true), (26, true), (34, false), (35, false)] ⟨none, .assign (.tmp 0), 0, "", #[], none⟩ (by kernel_rfl) (by kernel_rfl) (inW _ (Below.refl _ _)) (fun x _ _ _ _ h => by cases x <;> exact h) ?_
  simp only [arrange, List.map_cons, List.map_nil, List.getD_cons_zero, List.getD_cons_succ]
  iterate 27 (refine by_read rfl (fun K hK => ?_); go_simp; refine hK _ ?_; clear hK K)
  iterate 2
    refine by_move rfl (fun K hK => ?_)
    go_simp
    go_at_call 31
    refine (bit_any _ _).mono ?_
    rintro e wx ⟨rfl, hx⟩
    subst wx
    refine hK _ _ (fun _ => inW _ (Below.refl _ _)) ?_
    clear hK K
  iterate 5 (refine by_read rfl (fun K hK => ?_); go_simp; refine hK _ ?_; clear hK K)
  refine by_move rfl (fun K hK => ?_)
  go_simp
  have q4 := (Below.refl (w.heap.size + 1) w1.drew).alloc (show w.heap.size + 1 ≤ w1.drew.heap.size by simpa using z1) (.cells #[.int .u8 kind, .int .u8 (seq * 16 + ack), .int .u8 (signs poll final say seg), .int .u8 len, .int .u8 (zs.length : Int)] 5)
  refine hK _ _ (fun _ => inW _ q4) ?_
  clear hK K
  refine by_move rfl (fun K hK => ?_)
  go_simp
  refine hK _ _ (fun h => absurd h (by decide)) ?_
  clear hK K
  refine by_nil ?_
  clear kW ofW inW ne W ι u2 u3 u8 u9 u10 u11 u12 u13 u5
  have o4 : Own ((w1.alloc (.cells #[.int .u8 kind, .int .u8 (seq * 16 + ack), .int .u8 (signs poll final say seg), .int .u8 len, .int .u8 (zs.length : Int)] 5)).drew) (w.heap.size + 1) (.slice (some ⟨w1.heap.size, 0, none⟩) 5 5) (headL kind seq ack poll final say seg len zs.length) := by
    have := own_cells w1 (w.heap.size + 1) (headL kind seq ack poll final say seg len zs.length) z1 (by simp [headL])
    rw [headL_cells h1 h2 h3 h4 h5 h6] at this
    exact World.ownsRow.drew this
  have b4 := (b1.alloc (by simpa using z1) (.cells #[.int .u8 kind, .int .u8 (seq * 16 + ack), .int .u8 (signs poll final say seg), .int .u8 len, .int .u8 (zs.length : Int)] 5)).drew
  have z4 : w.heap.size + 1 ≤ ((w1.alloc (.cells #[.int .u8 kind, .int .u8 (seq * 16 + ack), .int .u8 (signs poll final say seg), .int .u8 len, .int .u8 (zs.length : Int)] 5)).drew).heap.size := by simp; omega
  generalize (w1.alloc (.cells #[.int .u8 kind, .int .u8 (seq * 16 + ack), .int .u8 (signs poll final say seg), .int .u8 len, .int .u8 (zs.length : Int)] 5)).drew = w4 at o4 b4 z4 ⊢
  have k4 := box_kept b4
  have R4 := hR.kept (box_below b4)
  clear q4
  go_wp2_with (at_builtin; refine wpList_app _ rfl (.tmp 43) (.tmp 45) rfl (w.heap.size + 1) _ (headL kind seq ack poll final say seg len zs.length) rfl o4 _ zs rfl R4 (by simp [headL]; omega) (by omega) ?_)
  intro v7 w7 o7 g7
  have q7 := b4.grown g7 (by simp; omega) (fun k e => by simp; exact (World.ownsRow.lt o4 k e).1)
  have B7 := box_below q7
  have hb7 : Byt ((headL kind seq ack poll final say seg len zs.length) ++ zs) := by
    intro z hz
    rcases List.mem_append.1 hz with hz | hz
    · exact headL_byt h1 h2 h3 h4 h5 h6 h7 z hz
    · exact hR.1 z hz
  have r7 := o7.rd hb7 (by simp [headL]; omega)
  go_wp2_with fail
  refine (spec_put _ _ _ r7 (by simp [headL]; omega)).mono ?_
  rintro e w8 ⟨v8, rfl, o8, b8⟩
  go_wp2
  go_ret
  exact ⟨_, rfl, o8.base B7.size, bchain B7 b8⟩
theorem spec_bytes (kind seq ack : Int) (poll final : Bool) (say seg len : Int) (s : Value) (zs : List Nat) (w : World) (hR : Rd w s zs) :
    Calls Tryd.prog 11 #[.agg #[.int .i64 kind, .int .i64 seq, .int .i64 ack, .bool poll, .bool final, .int .i64 say, .int .i64 seg, .int .i64 len, s]] w fun e w' => ∃ v', e = .returned v' ∧ Own w' w.heap.size v' (frmL kind seq ack poll final say seg len zs) ∧ Below w.heap.size w w' := by
  obtain ⟨a, cap, rfl⟩ := hR.form
  cases hk : frmB kind seq ack poll final say seg len zs.length with
  | false => rw [show frmL kind seq ack poll final say seg len zs = [] from by simp [frmL, hk]]; exact spec_bytes_no _ _ _ _ _ _ _ _ _ _ _ _ hk
  | true =>
    obtain ⟨h1, h2, h3, h4, h5, h6, h7⟩ := frmB_bounds hk
    rw [show frmL kind seq ack poll final say seg len zs = putL (headL kind seq ack poll final say seg len zs.length ++ zs) from by simp [frmL, hk]]
    exact spec_bytes_yes _ _ _ _ _ _ _ _ _ _ _ _ hR hk h1 h2 h3 h4 h5 h6 h7
theorem frmL_byt {kind seq ack : Int} {poll final : Bool} {say seg len : Int} {zs : List Nat} (hz : Byt zs) : Byt (frmL kind seq ack poll final say seg len zs) := by
  unfold frmL
  split
  · rename_i hk
    obtain ⟨h1, h2, h3, h4, h5, h6, h7⟩ := frmB_bounds hk
    refine putL_byt ?_
    intro z hm
    rcases List.mem_append.1 hm with hm | hm
    · exact headL_byt h1 h2 h3 h4 h5 h6 h7 z hm
    · exact hz z hm
  · intro z hm; simp at hm
theorem frmL_length {kind seq ack : Int} {poll final : Bool} {say seg len : Int} {zs : List Nat} : (frmL kind seq ack poll final say seg len zs).length ≤ 15 := by
  unfold frmL
  split
  · rename_i hk
    obtain ⟨_, _, _, _, _, _, h7⟩ := frmB_bounds hk
    simp [putL_length, headL]
    omega
  · simp
end Go.Proofs.YthnlpdjjnfkmeaaDoor

/- CrcCut of the specification and of the program: bytes without their sum, or none. -/
namespace Go.Proofs.YthnlpdjjnfkmeaaDoor
open Go.RowKit

/-- What is cut of bytes, if it is. -/
def cutB (zs : List Nat) : Bool := decide (2 ≤ zs.length ∧ CrcM.crc (zs.take (zs.length - 2)) = zs.getD (zs.length - 2) 0 + zs.getD (zs.length - 1) 0 * 256)
def cutL (zs : List Nat) : List Nat := if cutB zs = true then zs.take (zs.length - 2) else []
theorem cutL_byt {zs : List Nat} (h : Byt zs) : Byt (cutL zs) := by
  unfold cutL
  split
  · exact h.take _
  · intro z hz; simp at hz
theorem cutL_length (zs : List Nat) : (cutL zs).length ≤ zs.length := by
  unfold cutL
  split
  · simp
  · simp
theorem cutB_short {zs : List Nat} (h : zs.length < 2) : cutB zs = false := by simp [cutB]; omega
set_option maxRecDepth 100000 in
set_option maxHeartbeats 2000000 in
theorem spec_cut_short (v : Value) (zs : List Nat) (w : World) (hv : Rd w v zs) (hs : zs.length < 2) :
    Calls Tryd.prog 24 #[v] w fun e w' => ∃ v', e = .returned (.tuple #[v', .bool (cutB zs)]) ∧ Own w' w.heap.size v' (cutL zs) ∧ Below w.heap.size w w' := by
  have hB := cutB_short hs
  have hL : cutL zs = [] := by unfold cutL; rw [hB]; rfl
  rw [hL, hB]
  obtain ⟨a, cap, rfl⟩ : ∃ a cap, v = .slice a zs.length cap := by
    rcases hv.2.2 with ⟨rfl, a, c, rfl, _⟩ | ⟨b, off, cap, rfl, _⟩
    · exact ⟨_, _, rfl⟩
    · exact ⟨_, _, rfl⟩
  have hneg : (zs.length : Int) - 2 < 0 := by omega
  have hd : decide ((zs.length : Int) - 2 < 0) = true := by simpa using hneg
  clear hv hL hB
  go_enter Tryd.func24, Tryd.ntmps24
  go_wp2
  go_quiet (fail)
  go_wp2
  go_ret2
  exact ⟨_, rfl, own_empty w _ (Nat.le_refl _), below_drewN ((Below.refl _ _).alloc (Nat.le_refl _) _) _⟩

theorem cutB_eq (ys : List Nat) (p q : Nat) : cutB (ys ++ [p, q]) = decide (CrcM.crc ys = p + q * 256) := by
  simp [cutB]
theorem cutL_eq (ys : List Nat) (p q : Nat) : cutL (ys ++ [p, q]) = if CrcM.crc ys = p + q * 256 then ys else [] := by
  unfold cutL
  rw [cutB_eq]
  by_cases h : CrcM.crc ys = p + q * 256
  · simp [h]
  · simp [h]

set_option maxRecDepth 100000 in
set_option maxHeartbeats 2000000 in
theorem spec_cut_long (v : Value) (ys : List Nat) (p q : Nat) (w : World) (hv : Rd w v (ys ++ [p, q])) :
    Calls Tryd.prog 24 #[v] w fun e w' => ∃ v', e = .returned (.tuple #[v', .bool (cutB (ys ++ [p, q]))]) ∧ Own w' w.heap.size v' (cutL (ys ++ [p, q])) ∧ Below w.heap.size w w' := by
  rw [cutB_eq, cutL_eq]
  have hll : (ys ++ [p, q]).length = ys.length + 2 := by simp
  have hby := hv.1
  have hp : p < 256 := hby p (by simp)
  have hq : q < 256 := hby q (by simp)
  have hlen := hv.2.1
  rcases hv.2.2 with ⟨h, _⟩ | ⟨b, off, cap, rfl, hcap, hm, hb, hc⟩
  · simp at h
  rw [hll] at hcap hlen hc hv ⊢
  have hr0 := hv.head ys.length hll.symm (by omega) (by omega)
  rw [List.take_left' rfl] at hr0
  have c1 : w.cell? ⟨b, off + ys.length, none⟩ = some (.int .u8 (p : Int)) := by rw [hc _ (by omega)]; simp
  have c2 : w.cell? ⟨b, off + (ys.length + 1), none⟩ = some (.int .u8 (q : Int)) := by rw [hc _ (by omega)]; simp
  have hcl := CrcM.crc_lt ys (fun z hz => hby z (by simp [hz]))
  clear hc hv
  have h0 : ¬ ((ys.length + 2 : Nat) : Int) - 2 < 0 := by omega
  have e2 : ((ys.length + 2 : Nat) : Int) - 2 = (ys.length : Int) := by omega
  have hd : decide ((ys.length : Int) < 0) = false := by simp
  have hcap' : ys.length ≤ cap := by omega
  have i1 : (ys.length : Int) < (ys.length : Int) + 2 := by omega
  have i2 : (ys.length : Int) + 1 < (ys.length : Int) + 2 := by omega
  by_cases hk : CrcM.crc ys = p + q * 256
  · rw [decide_eq_true hk, if_pos hk]
    go_enter Tryd.func24, Tryd.ntmps24
    go_wp2
    go_quiet ((go_at_call 49; exact Calls.quiet_of_same (spec_of _ ys _ hr0)))
    have o0 := own_empty w w.heap.size (Nat.le_refl _)
    have hr1 := hr0.alloc (.cells #[] 5)
    go_wp2_with (at_builtin; refine wpList_app _ rfl (.tmp 31) (.tmp 34) rfl w.heap.size _ [] rfl (show Own _ _ _ _ from o0) _ ys rfl (show Rd _ _ _ from hr1) (by simp; omega) (by simp) ?_)
    intro v1 w1 o1 g1
    have bl1 : Below w.heap.size w w1 := (below_drewN ((Below.refl _ _).alloc (Nat.le_refl _) _) _).grown g1 (by simp) (by simp [Value.ownBlock])
    clear g1 hr1 o0
    go_wp2
    go_ret2
    exact ⟨_, rfl, o1, bl1⟩
  · have hk' : ((CrcM.crc ys : Int) != (p : Int) + (q : Int) * 256) = true := by simp; omega
    rw [decide_eq_false hk, if_neg hk]
    go_enter Tryd.func24, Tryd.ntmps24
    go_wp2
    go_quiet ((go_at_call 49; exact Calls.quiet_of_same (spec_of _ ys _ hr0)))
    go_wp2
    go_ret2
    exact ⟨_, rfl, own_empty w _ (Nat.le_refl _), below_drewN ((Below.refl _ _).alloc (Nat.le_refl _) _) _⟩

theorem two_last {zs : List Nat} (h : 2 ≤ zs.length) : ∃ ys p q, zs = ys ++ [p, q] := by
  refine ⟨zs.take (zs.length - 2), zs[zs.length - 2], zs[zs.length - 1], ?_⟩
  have e : zs = zs.take (zs.length - 2) ++ zs.drop (zs.length - 2) := (List.take_append_drop _ _).symm
  have e2 : zs.drop (zs.length - 2) = [zs[zs.length - 2], zs[zs.length - 1]] := by
    rw [List.drop_eq_getElem_cons (by omega), show zs.length - 2 + 1 = zs.length - 1 from by omega, List.drop_eq_getElem_cons (by omega), show zs.length - 1 + 1 = zs.length from by omega, List.drop_length]
  rw [e2] at e
  exact e
theorem spec_cut (v : Value) (zs : List Nat) (w : World) (hv : Rd w v zs) :
    Calls Tryd.prog 24 #[v] w fun e w' => ∃ v', e = .returned (.tuple #[v', .bool (cutB zs)]) ∧ Own w' w.heap.size v' (cutL zs) ∧ Below w.heap.size w w' := by
  by_cases h : zs.length < 2
  · exact spec_cut_short v zs w hv h
  · obtain ⟨ys, p, q, rfl⟩ := two_last (show 2 ≤ zs.length by omega)
    exact spec_cut_long v ys p q w hv

set_option maxRecDepth 100000 in
set_option maxHeartbeats 2000000 in
theorem impl_cut_short (v : Value) (zs : List Nat) (w : World) (hv : Rd w v zs) (hs : zs.length < 2) :
    Calls Tryd.prog 51 #[v] w fun e w' => ∃ v', e = .returned (.tuple #[v', .bool (cutB zs)]) ∧ Own w' w.heap.size v' (cutL zs) ∧ Below w.heap.size w w' := by
  have hB := cutB_short hs
  have hL : cutL zs = [] := by unfold cutL; rw [hB]; rfl
  rw [hL, hB]
  obtain ⟨a, cap, rfl⟩ : ∃ a cap, v = .slice a zs.length cap := by
    rcases hv.2.2 with ⟨rfl, a, c, rfl, _⟩ | ⟨b, off, cap, rfl, _⟩
    · exact ⟨_, _, rfl⟩
    · exact ⟨_, _, rfl⟩
  have hneg : (zs.length : Int) - 2 < 0 := by omega
  clear hv hL hB
  go_enter Tryd.func51, Tryd.ntmps51
  go_wp2
  go_ret2
  exact ⟨_, rfl, own_none w _, Below.refl _ _⟩

set_option maxRecDepth 100000 in
set_option maxHeartbeats 2000000 in
theorem impl_cut_long (v : Value) (ys : List Nat) (p q : Nat) (w : World) (hv : Rd w v (ys ++ [p, q])) :
    Calls Tryd.prog 51 #[v] w fun e w' => ∃ v', e = .returned (.tuple #[v', .bool (cutB (ys ++ [p, q]))]) ∧ Own w' w.heap.size v' (cutL (ys ++ [p, q])) ∧ Below w.heap.size w w' := by
  rw [cutB_eq, cutL_eq]
  have hll : (ys ++ [p, q]).length = ys.length + 2 := by simp
  have hby := hv.1
  have hp : p < 256 := hby p (by simp)
  have hq : q < 256 := hby q (by simp)
  have hlen := hv.2.1
  rcases hv.2.2 with ⟨h, _⟩ | ⟨b, off, cap, rfl, hcap, hm, hb, hc⟩
  · simp at h
  rw [hll] at hcap hlen hc hv ⊢
  have hr0 := hv.head ys.length hll.symm (by omega) (by omega)
  rw [List.take_left' rfl] at hr0
  have c1 : w.cell? ⟨b, off + ys.length, none⟩ = some (.int .u8 (p : Int)) := by rw [hc _ (by omega)]; simp
  have c2 : w.cell? ⟨b, off + (ys.length + 1), none⟩ = some (.int .u8 (q : Int)) := by rw [hc _ (by omega)]; simp
  have hcl := CrcM.crc_lt ys (fun z hz => hby z (by simp [hz]))
  clear hc hv
  have h0 : ¬ ((ys.length + 2 : Nat) : Int) - 2 < 0 := by omega
  have e2 : ((ys.length + 2 : Nat) : Int) - 2 = (ys.length : Int) := by omega
  have hd : decide ((ys.length : Int) < 0) = false := by simp
  have hcap' : ys.length ≤ cap := by omega
  have i1 : (ys.length : Int) < (ys.length : Int) + 2 := by omega
  have i2 : (ys.length : Int) + 1 < (ys.length : Int) + 2 := by omega
  by_cases hk : CrcM.crc ys = p + q * 256
  · rw [decide_eq_true hk, if_pos hk]
    go_enter Tryd.func51, Tryd.ntmps51
    go_wp2
    go_quiet (fail)
    go_wp2_with fail
    have bq : Below w.heap.size w (w.drewN nq) := below_drew nq
    refine (impl_of _ ys _ (hr0.kept bq)).mono ?_
    rintro e w1 ⟨rfl, b1⟩
    have bl1 := bchain bq b1
    have hr1 := hr0.kept bl1
    have o0 := own_none w1 w.heap.size
    have hz1 := bl1.size
    go_wp2_with (at_builtin; refine wpList_app _ rfl (.const (.slice none 0 0)) (.tmp 32) rfl w.heap.size _ [] rfl o0 _ ys rfl hr1 (by simp; omega) (by omega) ?_)
    intro v1 w2 o1 g1
    have bl2 : Below w.heap.size w w2 := bl1.grown g1 hz1 (by simp [Value.ownBlock])
    clear g1 hr1 o0
    go_wp2
    go_ret2
    exact ⟨_, rfl, o1, bl2⟩
  · have hk' : ((CrcM.crc ys : Int) != (p : Int) + (q : Int) * 256) = true := by simp; omega
    rw [decide_eq_false hk, if_neg hk]
    go_enter Tryd.func51, Tryd.ntmps51
    go_wp2
    go_quiet (fail)
    go_wp2_with fail
    have bq : Below w.heap.size w (w.drewN nq) := below_drew nq
    refine (impl_of _ ys _ (hr0.kept bq)).mono ?_
    rintro e w1 ⟨rfl, b1⟩
    have bl1 := bchain bq b1
    go_wp2
    go_ret2
    exact ⟨_, rfl, own_none w1 _, bl1⟩
theorem impl_cut (v : Value) (zs : List Nat) (w : World) (hv : Rd w v zs) :
    Calls Tryd.prog 51 #[v] w fun e w' => ∃ v', e = .returned (.tuple #[v', .bool (cutB zs)]) ∧ Own w' w.heap.size v' (cutL zs) ∧ Below w.heap.size w w' := by
  by_cases h : zs.length < 2
  · exact impl_cut_short v zs w hv h
  · obtain ⟨ys, p, q, rfl⟩ := two_last (show 2 ≤ zs.length by omega)
    exact impl_cut_long v ys p q w hv
end Go.Proofs.YthnlpdjjnfkmeaaDoor

/- Parts of lists of bytes: the first ones, the rest. -/
namespace Go.Proofs.YthnlpdjjnfkmeaaDoor
open Go.RowKit

theorem rd_nil (w : World) : Rd w (.slice none 0 0) [] := ⟨fun z hz => by simp at hz, by simp, .inl ⟨rfl, _, _, rfl, fun _ => rfl⟩⟩
theorem rd_set {w : World} {s : Value} {zs : List Nat} {g o : Nat} {x : Value} (h : Rd w s zs) (hlt : ∀ b, s.ownBlock = some b → b < g) : Rd (w.setCell ⟨g, o, none⟩ x) s zs := by
  have hne : s.ownBlock ≠ some g := fun e => by have := hlt g e; omega
  obtain ⟨h1, h2, h3⟩ := h
  refine ⟨h1, h2, ?_⟩
  rcases h3 with h3 | ⟨b, off, cap, e, h4, h5, h6, h7⟩
  · exact .inl h3
  · refine .inr ⟨b, off, cap, e, h4, h5, by simpa using h6, fun j hj => ?_⟩
    have hne' : (⟨g, o, none⟩ : Addr) ≠ ⟨b, off + j, none⟩ := by
      intro e'
      simp only [Addr.mk.injEq] at e'
      rw [e] at hne
      exact hne (by simp [Value.ownBlock, e'.1])
    exact (cell_far hne').trans (h7 j hj)
theorem Rd.room {w : World} {v : Value} {zs : List Nat} (h : Rd w v zs) : ∃ a cap, v = .slice a zs.length cap ∧ zs.length ≤ cap := by
  rcases h.2.2 with ⟨rfl, a, c, rfl, _⟩ | ⟨b, off, cap, rfl, h4, _⟩
  · exact ⟨_, _, rfl, Nat.zero_le _⟩
  · exact ⟨_, _, rfl, h4⟩
theorem Rd.first {w : World} {a : Option Addr} {cap n : Nat} {zs : List Nat} (h : Rd w (.slice a zs.length cap) zs) (hn : n ≤ zs.length) : Rd w (.slice a n cap) (zs.take n) := by
  obtain ⟨h1, h2, h3⟩ := h
  refine ⟨h1.take n, by rw [List.length_take]; omega, ?_⟩
  rcases h3 with ⟨rfl, a', c', e, hnone⟩ | ⟨b, off, cap', e, h4, h5, h6, h7⟩
  · simp only [Value.slice.injEq] at e
    obtain ⟨rfl, _, rfl⟩ := e
    obtain rfl : n = 0 := by simpa using hn
    exact .inl ⟨rfl, _, _, rfl, hnone⟩
  · simp only [Value.slice.injEq, true_and] at e
    obtain ⟨rfl, rfl⟩ := e
    refine .inr ⟨b, off, cap, by rw [List.length_take, Nat.min_eq_left hn], by rw [List.length_take]; omega, h5, h6, fun j hj => ?_⟩
    rw [List.length_take] at hj
    rw [h7 j (by omega)]
    simp [show j < n by omega]
theorem Rd.rest {w : World} {a : Option Addr} {cap n : Nat} {zs : List Nat} (h : Rd w (.slice a zs.length cap) zs) (hn : n ≤ zs.length) : Rd w (.slice (if cap = n then a else a.map fun x => x.add n) (zs.length - n) (cap - n)) (zs.drop n) := by
  obtain ⟨h1, h2, h3⟩ := h
  refine ⟨fun z hz => h1 z (List.mem_of_mem_drop hz), by rw [List.length_drop]; omega, ?_⟩
  by_cases h0 : zs.length = n
  · left
    refine ⟨by rw [List.drop_eq_nil_iff]; omega, _, _, by rw [h0, Nat.sub_self], fun e => ?_⟩
    rcases h3 with ⟨rfl, a', c', e', hnone⟩ | ⟨b, off, cap', e', h4, h5, h6, h7⟩
    · simp only [Value.slice.injEq] at e'
      obtain ⟨rfl, _, rfl⟩ := e'
      split at e
      · have := hnone e; omega
      · have := hnone (by simpa using e); omega
    · simp only [Value.slice.injEq, true_and] at e'
      obtain ⟨rfl, rfl⟩ := e'
      split at e <;> simp at e
  · right
    rcases h3 with ⟨rfl, a', c', e', hnone⟩ | ⟨b, off, cap', e', h4, h5, h6, h7⟩
    · simp at hn h0; omega
    · simp only [Value.slice.injEq, true_and] at e'
      obtain ⟨rfl, rfl⟩ := e'
      refine ⟨b, off + n, cap - n, ?_, by rw [List.length_drop]; omega, by omega, h6, fun j hj => ?_⟩
      · rw [if_neg (by omega), List.length_drop, Option.map_some, add_at]
      · rw [List.length_drop] at hj
        rw [show off + n + j = off + (n + j) by omega, h7 (n + j) (by omega)]
        simp [List.getElem?_drop]
theorem head_block {a : Option Addr} {m c m' c' : Nat} : (Value.slice a m c).ownBlock = (Value.slice a m' c').ownBlock := by cases a <;> rfl
theorem rest_block {a : Option Addr} {cap n m c m' c' : Nat} : (Value.slice (if cap = n then a else a.map fun x => x.add n) m c).ownBlock = (Value.slice a m' c').ownBlock := by
  split
  · cases a <;> rfl
  · cases a with
    | none => rfl
    | some x => simp [Value.ownBlock, Addr.add]; split <;> rfl
end Go.Proofs.YthnlpdjjnfkmeaaDoor

/- The program's reader of frames: bytes that are left, and whether something went wrong. -/
namespace Go.Proofs.YthnlpdjjnfkmeaaDoor
open Go.RowKit

/-- The package's three errors, each at its block: they are something. -/
def Errs (w : World) : Prop := (∃ t x, w.cell? ⟨1, 0, none⟩ = some (.iface t x)) ∧ (∃ t x, w.cell? ⟨2, 0, none⟩ = some (.iface t x)) ∧ (∃ t x, w.cell? ⟨3, 0, none⟩ = some (.iface t x)) ∧ 4 ≤ w.heap.size
theorem Errs.kept {w w' : World} (h : Errs w) (hb : Below w.heap.size w w') : Errs w' := by
  obtain ⟨⟨t0, x0, h0⟩, ⟨t1, x1, h1⟩, ⟨t2, x2, h2⟩, hz⟩ := h
  exact ⟨⟨t0, x0, (hb.cell (p := ⟨1, 0, none⟩) (show 1 < _ by omega)).trans h0⟩, ⟨t1, x1, (hb.cell (p := ⟨2, 0, none⟩) (show 2 < _ by omega)).trans h1⟩, ⟨t2, x2, (hb.cell (p := ⟨3, 0, none⟩) (show 3 < _ by omega)).trans h2⟩, Nat.le_trans hz hb.size⟩

/-- The reader at block g: what is left, and whether there is an error. -/
def Fr (w : World) (g : Nat) (zs : List Nat) (e : Bool) : Prop :=
  ∃ s ev, Rd w s zs ∧ g < w.heap.size ∧ w.cell? ⟨g, 0, none⟩ = some s ∧ w.cell? ⟨g, 1, none⟩ = some ev ∧ (∀ o, w.frozen? ⟨g, o, none⟩ = false) ∧ (∀ b, s.ownBlock = some b → b < g) ∧ (if e = true then ∃ t x, ev = .iface t x else ev = .nilIface)

set_option maxHeartbeats 1000000 in
theorem reader_new (v : Value) (bs : List Nat) (w : World) (hv : Rd w v bs) (hE : Errs w) :
    Calls Tryd.prog 28 #[v] w fun e w' => ∃ g, e = .returned (.pointer (some ⟨g, 0, none⟩)) ∧ w.heap.size ≤ g ∧ Fr w' g (cutL bs) (!cutB bs) ∧ Below w.heap.size w w' := by
  cases hk : cutB bs with
  | false =>
    go_enter Tryd.func28, Tryd.ntmps28
    go_wp2_with fail
    refine (impl_cut _ bs _ hv).mono ?_
    rw [hk]
    rintro e w1 ⟨v1, rfl, o1, b1⟩
    obtain ⟨⟨t0, x0, g0⟩, _⟩ := hE.kept b1
    go_wp2
    go_ret
    have hL : cutL bs = [] := by unfold cutL; rw [hk]; rfl
    rw [hL]
    exact ⟨w1.heap.size, rfl, b1.size, ⟨.slice none 0 0, .iface t0 x0, rd_nil _, by simp, by simp, by simp, fun o => by simp, fun b e => by simp [Value.ownBlock] at e, _, _, rfl⟩, b1.alloc b1.size _⟩
  | true =>
    have pl := cutL_length bs
    go_enter Tryd.func28, Tryd.ntmps28
    go_wp2_with fail
    refine (impl_cut _ bs _ hv).mono ?_
    rw [hk]
    rintro e w1 ⟨v1, rfl, o1, b1⟩
    have r1 := o1.rd (cutL_byt hv.1) (by have := hv.2.1; omega)
    have n1 : ∀ b, v1.ownBlock = some b → b < w1.heap.size := fun b e => (World.ownsRow.lt o1 b e).2
    obtain ⟨a1, c1, hv1⟩ := r1.form
    rw [hv1] at r1 n1 ⊢
    go_wp2
    go_ret
    exact ⟨w1.heap.size, rfl, b1.size, ⟨.slice a1 (cutL bs).length c1, .nilIface, r1.alloc _, by simp, by simp, by simp, fun o => by simp, n1, rfl⟩, b1.alloc b1.size _⟩

/-- What is taken, what is left then, and whether there is an error then. -/
def tkR (n : Nat) (zs : List Nat) (e : Bool) : List Nat := if e = true then [] else if zs.length < n then [] else zs.take n
def tkZ (n : Nat) (zs : List Nat) (e : Bool) : List Nat := if e = true then zs else if zs.length < n then zs else zs.drop n
def tkE (n : Nat) (zs : List Nat) (e : Bool) : Bool := e || decide (zs.length < n)

theorem set_grown (w : World) (g o : Nat) (x : Value) : w.grownBy (w.setCell ⟨g, o, none⟩ x) (some g) :=
  ⟨rfl, rfl, rfl, by simp, fun k _ hne => Below.heap_setCell w _ x k (fun e => hne (by rw [e]))⟩

set_option maxHeartbeats 1000000 in
theorem take_any (g n : Nat) (zs : List Nat) (e : Bool) (w : World) (hF : Fr w g zs e) (hE : Errs w) (hn : n ≤ 255) :
    Calls Tryd.prog 53 #[.pointer (some ⟨g, 0, none⟩), .int .i64 n] w fun r w' => ∃ v', r = .returned v' ∧ Rd w' v' (tkR n zs e) ∧ Fr w' g (tkZ n zs e) (tkE n zs e) ∧ w.grownBy w' (some g) := by
  obtain ⟨s, ev, hs, hg2, c0, c1, fz, hne, hev⟩ := hF
  have f0 := fz 0
  have f1 := fz 1
  cases e with
  | true =>
    obtain ⟨t, x, rfl⟩ := hev
    go_enter Tryd.func53, Tryd.ntmps53
    go_wp2
    go_ret
    exact ⟨_, rfl, rd_nil _, ⟨s, _, hs, hg2, c0, c1, fz, hne, t, x, rfl⟩, ⟨rfl, rfl, rfl, Nat.le_refl _, fun _ _ _ => rfl⟩⟩
  | false =>
    obtain rfl : ev = .nilIface := hev
    obtain ⟨a, cap, rfl, hcap⟩ := hs.room
    obtain ⟨_, _, ⟨t2, x2, g2⟩, _⟩ := hE
    by_cases hlt : zs.length < n
    · have hlt' : (zs.length : Int) < (n : Int) := by omega
      have hR : tkR n zs false = [] := by simp [tkR, hlt]
      have hZ : tkZ n zs false = zs := by simp [tkZ, hlt]
      have hT : tkE n zs false = true := by simp [tkE, hlt]
      rw [hR, hZ, hT]
      go_enter Tryd.func53, Tryd.ntmps53
      go_wp2
      go_ret
      exact ⟨_, rfl, rd_nil _, ⟨_, .iface t2 x2, rd_set hs hne, by simpa using hg2, (cell_far (by simp)).trans c0, cell_here c1, fun o => by simpa using fz o, hne, t2, x2, rfl⟩, set_grown _ _ _ _⟩
    · have hlt' : ¬ (zs.length : Int) < (n : Int) := by omega
      have hR : tkR n zs false = zs.take n := by simp [tkR, hlt]
      have hZ : tkZ n zs false = zs.drop n := by simp [tkZ, hlt]
      have hT : tkE n zs false = false := by simp [tkE]; omega
      rw [hR, hZ, hT]
      have hnc : (n : Int) ≤ (cap : Int) := by omega
      have r1 := hs.first (show n ≤ zs.length by omega)
      have r2 := hs.rest (show n ≤ zs.length by omega)
      have n1 : ∀ b, (Value.slice (if cap = n then a else a.map fun x => x.add n) (zs.length - n) (cap - n)).ownBlock = some b → b < g := by intro b; rw [rest_block (m' := zs.length) (c' := cap)]; exact hne b
      have n2 : ∀ b, (Value.slice a n cap).ownBlock = some b → b < g := by intro b; rw [head_block (m' := zs.length) (c' := cap)]; exact hne b
      by_cases hcn : cap = n
      · rw [if_pos hcn] at r2 n1
        subst hcn
        have hz0 : cap - cap = 0 := Nat.sub_self _
        have hz1 : zs.length - cap = 0 := by omega
        rw [hz0, hz1] at r2 n1
        go_enter Tryd.func53, Tryd.ntmps53
        go_wp2
        go_ret
        exact ⟨_, rfl, rd_set r1 n2, ⟨_, .nilIface, rd_set r2 n1, by simpa using hg2, cell_here c0, (cell_far (by simp)).trans c1, fun o => by simpa using fz o, n1, rfl⟩, set_grown _ _ _ _⟩
      · rw [if_neg hcn] at r2 n1
        go_enter Tryd.func53, Tryd.ntmps53
        go_wp2
        go_ret
        exact ⟨_, rfl, rd_set r1 n2, ⟨_, .nilIface, rd_set r2 n1, by simpa using hg2, cell_here c0, (cell_far (by simp)).trans c1, fun o => by simpa using fz o, n1, rfl⟩, set_grown _ _ _ _⟩

theorem Errs.grown {w w' : World} {g : Nat} (h : Errs w) (hg : w.grownBy w' (some g)) (h3 : 4 ≤ g) : Errs w' := by
  obtain ⟨⟨t0, x0, h0⟩, ⟨t1, x1, h1⟩, ⟨t2, x2, h2⟩, hz⟩ := h
  have c : ∀ b, b < 4 → w'.cell? ⟨b, 0, none⟩ = w.cell? ⟨b, 0, none⟩ := fun b hb => World.cell?_of_block (a := ⟨b, 0, none⟩) (hg.block b (by omega) (fun e => by cases e; omega))
  exact ⟨⟨t0, x0, (c 1 (by omega)).trans h0⟩, ⟨t1, x1, (c 2 (by omega)).trans h1⟩, ⟨t2, x2, (c 3 (by omega)).trans h2⟩, Nat.le_trans hz hg.size⟩

theorem tkR_one (zs : List Nat) (e : Bool) : tkR 1 zs e = [] ∨ ∃ z, tkR 1 zs e = [z] ∧ tkE 1 zs e = false := by
  cases e
  · cases zs with
    | nil => left; rfl
    | cons z zs => right; exact ⟨z, by simp [tkR], by simp [tkE]⟩
  · left; rfl
set_option maxHeartbeats 1000000 in
theorem number_rd (g : Nat) (zs : List Nat) (e : Bool) (w : World) (hF : Fr w g zs e) (hE : Errs w) :
    Calls Tryd.prog 52 #[.pointer (some ⟨g, 0, none⟩)] w fun r w' => r = .returned (.int .i64 (((tkR 1 zs e).getD 0 0 : Nat) : Int)) ∧ (tkR 1 zs e).getD 0 0 < 256 ∧ Fr w' g (tkZ 1 zs e) (tkE 1 zs e) ∧ w.grownBy w' (some g) := by
  rcases tkR_one zs e with h0 | ⟨z, h0, _⟩
  · rw [h0]
    go_enter Tryd.func52, Tryd.ntmps52
    go_wp2_with fail
    refine (take_any g 1 zs e _ hF hE (by omega)).mono ?_
    rintro r w1 ⟨v1, rfl, r1, F1, g1⟩
    rw [h0] at r1
    obtain ⟨a, c, hv⟩ := r1.form
    rw [hv]
    go_wp2
    go_ret
    exact ⟨rfl, by simp, F1, g1⟩
  · rw [h0]
    go_enter Tryd.func52, Tryd.ntmps52
    go_wp2_with fail
    refine (take_any g 1 zs e _ hF hE (by omega)).mono ?_
    rintro r w1 ⟨v1, rfl, r1, F1, g1⟩
    rw [h0] at r1
    have hb : z < 256 := r1.1 z (by simp)
    obtain ⟨b, off, cap, hv, c0⟩ : ∃ b off cap, v1 = .slice (some ⟨b, off, none⟩) 1 cap ∧ w1.cell? ⟨b, off, none⟩ = some (.int .u8 (z : Int)) := by
      rcases r1.2.2 with ⟨h, _⟩ | ⟨b, off, cap, h, _, _, _, hc⟩
      · simp at h
      · exact ⟨b, off, cap, h, by simpa using hc 0 (by simp)⟩
    have hw : IntKind.i64.wrap (z : Int) = (z : Int) := by rw [IntKind.wrap_i64]; omega
    rw [hv]
    go_wp2
    go_ret
    exact ⟨rfl, by simpa using hb, F1, g1⟩

set_option maxHeartbeats 1000000 in
theorem end_any (g : Nat) (zs : List Nat) (e : Bool) (w : World) (hF : Fr w g zs e) (hE : Errs w) :
    Calls Tryd.prog 30 #[.pointer (some ⟨g, 0, none⟩)] w fun r w' => r = .returned (.tuple #[]) ∧ Fr w' g zs (e || decide (0 < zs.length)) ∧ w.grownBy w' (some g) := by
  obtain ⟨s, ev, hs, hg2, c0, c1, fz, hne, hev⟩ := hF
  have f1 := fz 1
  have same : w.grownBy w (some g) := ⟨rfl, rfl, rfl, Nat.le_refl _, fun _ _ _ => rfl⟩
  cases e with
  | true =>
    obtain ⟨t, x, rfl⟩ := hev
    go_enter Tryd.func30, Tryd.ntmps30
    go_wp2
    go_end0
    exact ⟨rfl, ⟨s, _, hs, hg2, c0, c1, fz, hne, t, x, rfl⟩, same⟩
  | false =>
    obtain rfl : ev = .nilIface := hev
    obtain ⟨a, cap, rfl⟩ := hs.form
    obtain ⟨_, ⟨t1, x1, g1⟩, _⟩ := hE
    by_cases h0 : 0 < zs.length
    · have h0' : (0 : Int) < (zs.length : Int) := by omega
      rw [show (false || decide (0 < zs.length)) = true from by simp [h0]]
      go_enter Tryd.func30, Tryd.ntmps30
      go_wp2
      go_end0
      exact ⟨rfl, ⟨_, .iface t1 x1, rd_set hs hne, by simpa using hg2, (cell_far (by simp)).trans c0, cell_here c1, fun o => by simpa using fz o, hne, t1, x1, rfl⟩, set_grown _ _ _ _⟩
    · have h0' : ¬ (0 : Int) < (zs.length : Int) := by omega
      rw [show (false || decide (0 < zs.length)) = false from by simp [h0]]
      go_enter Tryd.func30, Tryd.ntmps30
      go_wp2
      go_end0
      exact ⟨rfl, ⟨_, _, hs, hg2, c0, c1, fz, hne, rfl⟩, same⟩
end Go.Proofs.YthnlpdjjnfkmeaaDoor

/- The program's reader reads a frame: five numbers and so many bytes. -/
namespace Go.Proofs.YthnlpdjjnfkmeaaDoor
open Go.RowKit

theorem Fr.kept {w w' : World} {g : Nat} {zs : List Nat} {e : Bool} (h : Fr w g zs e) (hb : Below w.heap.size w w') : Fr w' g zs e := by
  obtain ⟨s, ev, hs, hg2, c0, c1, fz, hne, hev⟩ := h
  exact ⟨s, ev, hs.kept hb, Nat.lt_of_lt_of_le hg2 hb.size, (hb.cell (p := ⟨g, 0, none⟩) hg2).trans c0, (hb.cell (p := ⟨g, 1, none⟩) hg2).trans c1, fun o => (hb.frozen (p := ⟨g, o, none⟩) hg2).trans (fz o), hne, hev⟩
theorem Rd.more {w w' : World} {v : Value} {zs : List Nat} {u : Option Nat} (h : Rd w v zs) (hg : w.grownBy w' u) (hne : ∀ b, v.ownBlock = some b → some b ≠ u) : Rd w' v zs := by
  obtain ⟨h1, h2, h3⟩ := h
  refine ⟨h1, h2, ?_⟩
  rcases h3 with h3 | ⟨b, off, cap, e, h4, h5, h6, h7⟩
  · exact .inl h3
  · exact .inr ⟨b, off, cap, e, h4, h5, Nat.lt_of_lt_of_le h6 hg.size, fun j hj => (World.cell?_of_block (a := ⟨b, off + j, none⟩) (hg.block b h6 (hne b (by rw [e]; rfl)))).trans (h7 j hj)⟩
theorem Fr.more {w w' : World} {g : Nat} {zs : List Nat} {e : Bool} {u : Option Nat} (h : Fr w g zs e) (hg : w.grownBy w' u) (hu : ∀ k, u = some k → g < k) : Fr w' g zs e := by
  obtain ⟨s, ev, hs, hg2, c0, c1, fz, hne, hev⟩ := h
  have hgu : some g ≠ u := fun e => by have := hu g e.symm; omega
  exact ⟨s, ev, hs.more hg (fun b e e' => by have := hu b e'.symm; have := hne b e; omega), Nat.lt_of_lt_of_le hg2 hg.size, (World.cell?_of_block (a := ⟨g, 0, none⟩) (hg.block g hg2 hgu)).trans c0, (World.cell?_of_block (a := ⟨g, 1, none⟩) (hg.block g hg2 hgu)).trans c1, fun o => (World.frozen?_of_block (a := ⟨g, o, none⟩) (hg.block g hg2 hgu)).trans (fz o), hne, hev⟩
theorem own_form {w : World} {B : Nat} {v : Value} {zs : List Nat} (h : Own w B v zs) : ∃ x n c, v = .slice x n c := by
  rcases h.2 with ⟨h, _⟩ | ⟨g, cap, cur, h, _⟩
  · exact ⟨_, _, _, h⟩
  · exact ⟨_, _, _, h⟩
theorem Fr.lt {w : World} {g : Nat} {zs : List Nat} {e : Bool} (h : Fr w g zs e) : g < w.heap.size := by
  obtain ⟨s, ev, hs, hg2, _⟩ := h
  exact hg2

/-- One number taken: what is left, whether there is an error; the number. -/
def stp (s : List Nat × Bool) : List Nat × Bool := (tkZ 1 s.1 s.2, tkE 1 s.1 s.2)
def num (s : List Nat × Bool) : Nat := (tkR 1 s.1 s.2).getD 0 0
theorem num_step (g : Nat) (s : List Nat × Bool) (w : World) (hF : Fr w g s.1 s.2) (hE : Errs w) (hg : 4 ≤ g) :
    Calls Tryd.prog 52 #[.pointer (some ⟨g, 0, none⟩)] w fun r w' => r = .returned (.int .i64 (num s : Int)) ∧ num s < 256 ∧ Fr w' g (stp s).1 (stp s).2 ∧ w.grownBy w' (some g) ∧ Errs w' := by
  refine (number_rd g s.1 s.2 w hF hE).mono ?_
  rintro r w1 ⟨rfl, h1, h2, h3⟩
  exact ⟨rfl, h1, h2, h3, hE.grown h3 hg⟩

set_option maxHeartbeats 4000000 in
theorem read_any (g : Nat) (s : List Nat × Bool) (w : World) (hF : Fr w g s.1 s.2) (hE : Errs w) (hg : 4 ≤ g) :
    Calls Tryd.prog 29 #[.pointer (some ⟨g, 0, none⟩)] w fun r w' => ∃ v',
      r = .returned (.agg #[.int .i64 (num s : Int), .int .i64 ((num (stp s) : Int) / 16), .int .i64 ((num (stp s) : Int) % 16), .bool ((num (stp (stp s)) : Int) % 2 == 1), .bool ((num (stp (stp s)) : Int) / 2 % 2 == 1), .int .i64 ((num (stp (stp s)) : Int) / 4 % 4), .int .i64 ((num (stp (stp s)) : Int) / 16), .int .i64 (num (stp (stp (stp s))) : Int), v']) ∧
      Own w' w.heap.size v' (tkR (num (stp (stp (stp (stp s))))) (stp (stp (stp (stp (stp s))))).1 (stp (stp (stp (stp (stp s))))).2) ∧
      Fr w' g (tkZ (num (stp (stp (stp (stp s))))) (stp (stp (stp (stp (stp s))))).1 (stp (stp (stp (stp (stp s))))).2) (tkE (num (stp (stp (stp (stp s))))) (stp (stp (stp (stp (stp s))))).1 (stp (stp (stp (stp (stp s))))).2) ∧ w.grownBy w' (some g) := by
  have z0 := hF.lt
  go_enter Tryd.func29, Tryd.ntmps29
  have bx : Below w.heap.size w (w.alloc (.cells #[.int .i64 0, .int .i64 0, .int .i64 0, .bool false, .bool false, .int .i64 0, .int .i64 0, .int .i64 0, .slice none 0 0] 24)) := (Below.refl _ _).alloc (Nat.le_refl _) _
  have gr := grown_alloc' w (.cells #[.int .i64 0, .int .i64 0, .int .i64 0, .bool false, .bool false, .int .i64 0, .int .i64 0, .int .i64 0, .slice none 0 0] 24) (some g)
  have cR := celF_box w #[.int .i64 0, .int .i64 0, .int .i64 0, .bool false, .bool false, .int .i64 0, .int .i64 0, .int .i64 0, .slice none 0 0] 24
  have nR : some w.heap.size ≠ some g := fun e => by cases e; omega
  have F0 := hF.kept bx
  have E0 := hE.kept bx
  go_wp2_with fail
  refine (num_step g s _ F0 E0 hg).mono ?_
  rintro r w1 ⟨rfl, l1, F1, g1, E1⟩
  replace gr := grown_step gr g1
  replace cR := cR.other g1 nR
  go_wp2_with fail
  refine (num_step g (stp s) _ F1 E1 hg).mono ?_
  rintro r w2 ⟨rfl, l2, F2, g2, E2⟩
  replace gr := grown_step gr g2
  replace cR := cR.other g2 nR
  go_wp2_with fail
  refine (num_step g (stp (stp s)) _ F2 E2 hg).mono ?_
  rintro r w3 ⟨rfl, l3, F3, g3, E3⟩
  replace gr := grown_step gr g3
  replace cR := cR.other g3 nR
  go_wp2_with fail
  refine (num_step g (stp (stp (stp s))) _ F3 E3 hg).mono ?_
  rintro r w4 ⟨rfl, l4, F4, g4, E4⟩
  replace gr := grown_step gr g4
  replace cR := cR.other g4 nR
  go_wp2_with fail
  refine (num_step g (stp (stp (stp (stp s)))) _ F4 E4 hg).mono ?_
  rintro r w5 ⟨rfl, l5, F5, g5, E5⟩
  replace gr := grown_step gr g5
  replace cR := cR.other g5 nR
  clear E0 E1 E2 E3 E4 F0 F1 F2 F3 F4 g1 g2 g3 g4 g5 bx
  go_wp2_with fail
  refine (take_any g _ _ _ _ F5 E5 (by omega)).mono ?_
  rintro r w6 ⟨v6, rfl, r6, F6, g6⟩
  replace gr := grown_step gr g6
  replace cR := cR.other g6 nR
  have z6 := gr.size
  have zR := cR.1
  have o7 := own_none w6 (w.heap.size + 1)
  have ll := r6.2.1
  go_wp2_with (at_builtin; refine wpList_app _ rfl (.const (.slice none 0 0)) (.tmp 38) rfl (w.heap.size + 1) _ [] rfl o7 _ _ rfl r6 (by simp; omega) (by omega) ?_)
  intro v7 w7 o7 g7
  have F7 := F6.more g7 (fun k e => by simp [Value.ownBlock] at e)
  replace gr := grown_fresh gr g7 (fun k e => by simp [Value.ownBlock] at e)
  replace cR := cR.other g7 (by simp [Value.ownBlock])
  obtain ⟨xa, xn, xc, hv7⟩ := own_form o7
  rw [hv7] at o7 ⊢
  have kc := cR.2.1
  have kf := cR.2.2
  clear g6 g7 F6 r6
  go_wp2
  refine bodyPost_ret (v := .agg #[.int .i64 (num s : Int), .int .i64 ((num (stp s) : Int) / 16), .int .i64 ((num (stp s) : Int) % 16), .bool ((num (stp (stp s)) : Int) % 2 == 1), .bool ((num (stp (stp s)) : Int) / 2 % 2 == 1), .int .i64 ((num (stp (stp s)) : Int) / 4 % 4), .int .i64 ((num (stp (stp s)) : Int) / 16), .int .i64 (num (stp (stp (stp s))) : Int), .slice xa xn xc]) (by simp [results, Tryd.results29, go_sem, kc]) rfl ⟨_, rfl, ?_, ?_, ?_⟩
  · refine Own.base (B := w.heap.size + 1) ?_ (by omega)
    iterate 9 refine Own.set ?_ _ _ _ (by omega)
    simpa using o7
  · iterate 9 refine Fr.more ?_ (grown_set _ w.heap.size _ _) (fun k e => by cases e; exact z0)
    exact F7
  · iterate 9 refine grown_fresh ?_ (grown_set _ w.heap.size _ _) (fun k e => by cases e; omega)
    exact gr
end Go.Proofs.YthnlpdjjnfkmeaaDoor

/- What is read of bytes: whether they are a frame's, and its parts. -/
namespace Go.Proofs.YthnlpdjjnfkmeaaDoor

/-- Bytes (their sum cut off) that are as long as they say. -/
def goodB (b : List Nat) (ok : Bool) : Bool := ok && decide (5 ≤ b.length ∧ b.getD 4 0 = b.length - 5)
def endE (s : List Nat × Bool) : Bool := tkE (num (stp (stp (stp (stp s))))) (stp (stp (stp (stp (stp s))))).1 (stp (stp (stp (stp (stp s))))).2 || decide (0 < (tkZ (num (stp (stp (stp (stp s))))) (stp (stp (stp (stp (stp s))))).1 (stp (stp (stp (stp (stp s))))).2).length)
theorem tkE_true (n : Nat) (zs : List Nat) : tkE n zs true = true := rfl
theorem stp_err (zs : List Nat) : stp (zs, true) = (zs, true) := rfl
theorem stp_cons (z : Nat) (zs : List Nat) : stp (z :: zs, false) = (zs, false) := by simp [stp, tkZ, tkE]
theorem stp_nil : stp ([], false) = ([], true) := rfl
theorem num_cons (z : Nat) (zs : List Nat) : num (z :: zs, false) = z := by simp [num, tkR]
theorem bad_end (b : List Nat) (ok : Bool) (h : goodB b ok = false) : endE (b, !ok) = true := by
  cases ok with
  | false => simp [endE, stp_err, tkE_true]
  | true =>
    match b, h with
    | [], _ => simp [endE, stp_nil, stp_err, tkE_true]
    | [a], _ => simp [endE, stp_cons, stp_nil, stp_err, tkE_true]
    | [a, c], _ => simp [endE, stp_cons, stp_nil, stp_err, tkE_true]
    | [a, c, d], _ => simp [endE, stp_cons, stp_nil, stp_err, tkE_true]
    | [a, c, d, e], _ => simp [endE, stp_cons, stp_nil, tkE_true]
    | a :: c :: d :: e :: n :: r, h =>
      simp [goodB] at h
      simp [endE, stp_cons, num_cons, tkE, tkZ]
      by_cases hl : r.length < n
      · exact .inl hl
      · right
        rw [if_neg hl, List.length_drop]
        omega
theorem good_form (b : List Nat) (ok : Bool) (h : goodB b ok = true) : ok = true ∧ ∃ a c d e r, b = a :: c :: d :: e :: r.length :: r := by
  simp only [goodB, Bool.and_eq_true, decide_eq_true_eq] at h
  obtain ⟨h0, h1, h2⟩ := h
  match b, h1, h2 with
  | a :: c :: d :: e :: n :: r, _, h2 =>
    simp at h2
    exact ⟨h0, a, c, d, e, r, by rw [h2]⟩
theorem good_end (a c d e : Nat) (r : List Nat) : endE (a :: c :: d :: e :: r.length :: r, false) = false := by
  simp [endE, stp_cons, num_cons, tkE, tkZ]

/-- Bytes that are a frame's. -/
def rdB (bs : List Nat) : Bool := goodB (cutL bs) (cutB bs) && frmB ((cutL bs).getD 0 0 : Nat) (((cutL bs).getD 1 0 : Nat) / 16) (((cutL bs).getD 1 0 : Nat) % 16) ((((cutL bs).getD 2 0 : Nat) : Int) % 2 == 1) ((((cutL bs).getD 2 0 : Nat) : Int) / 2 % 2 == 1) (((cutL bs).getD 2 0 : Nat) / 4 % 4) (((cutL bs).getD 2 0 : Nat) / 16) ((cutL bs).getD 3 0 : Nat) ((cutL bs).length - 5)
def rdKind (bs : List Nat) : Int := if rdB bs = true then ((cutL bs).getD 0 0 : Nat) else 0
def rdSeq (bs : List Nat) : Int := if rdB bs = true then ((cutL bs).getD 1 0 : Nat) / 16 else 0
def rdAck (bs : List Nat) : Int := if rdB bs = true then ((cutL bs).getD 1 0 : Nat) % 16 else 0
def rdPoll (bs : List Nat) : Bool := if rdB bs = true then (((cutL bs).getD 2 0 : Nat) : Int) % 2 == 1 else false
def rdFinal (bs : List Nat) : Bool := if rdB bs = true then (((cutL bs).getD 2 0 : Nat) : Int) / 2 % 2 == 1 else false
def rdSay (bs : List Nat) : Int := if rdB bs = true then ((cutL bs).getD 2 0 : Nat) / 4 % 4 else 0
def rdSeg (bs : List Nat) : Int := if rdB bs = true then ((cutL bs).getD 2 0 : Nat) / 16 else 0
def rdLen (bs : List Nat) : Int := if rdB bs = true then ((cutL bs).getD 3 0 : Nat) else 0
def rdData (bs : List Nat) : List Nat := if rdB bs = true then (cutL bs).drop 5 else []
theorem rdData_byt {bs : List Nat} (h : Byt bs) : Byt (rdData bs) := by
  unfold rdData
  split
  · exact fun z hz => cutL_byt h z (List.mem_of_mem_drop hz)
  · intro z hz; simp at hz
theorem rdData_length (bs : List Nat) : (rdData bs).length ≤ bs.length := by
  unfold rdData
  split
  · have := cutL_length bs; rw [List.length_drop]; omega
  · simp
end Go.Proofs.YthnlpdjjnfkmeaaDoor

/- The program's FrmRead. -/
namespace Go.Proofs.YthnlpdjjnfkmeaaDoor
open Go.RowKit

set_option maxHeartbeats 4000000 in
theorem impl_read_bad (v : Value) (bs : List Nat) (w : World) (hv : Rd w v bs) (hE : Errs w) (hk : goodB (cutL bs) (cutB bs) = false) :
    Calls Tryd.prog 8 #[v] w fun e w' => e = .returned (.tuple #[.agg #[.int .i64 0, .int .i64 0, .int .i64 0, .bool false, .bool false, .int .i64 0, .int .i64 0, .int .i64 0, .slice none 0 0], .bool false]) ∧ Below w.heap.size w w' := by
  have hz3 := hE.2.2.2
  have bx : Below w.heap.size w (w.alloc (.cells #[.int .i64 0, .int .i64 0, .int .i64 0, .bool false, .bool false, .int .i64 0, .int .i64 0, .int .i64 0, .slice none 0 0] 24)) := (Below.refl _ _).alloc (Nat.le_refl _) _
  have cR := celF_box w #[.int .i64 0, .int .i64 0, .int .i64 0, .bool false, .bool false, .int .i64 0, .int .i64 0, .int .i64 0, .slice none 0 0] 24
  go_enter Tryd.func8, Tryd.ntmps8
  go_wp2_with fail
  refine (reader_new _ bs _ (hv.kept bx) (hE.kept bx)).mono ?_
  rintro e w1 ⟨g, rfl, hg, F1, b1⟩
  have bl := bchain bx b1
  replace cR := cR.kept b1
  have hg' : w.heap.size + 1 ≤ g := by simpa using hg
  have E1 := hE.kept bl
  have hgl := F1.lt
  have hbad := bad_end _ _ hk
  unfold endE at hbad
  go_wp2_with fail
  refine (read_any g (cutL bs, !cutB bs) _ F1 E1 (by omega)).mono ?_
  rintro e w2 ⟨v2, rfl, o2, F2, g2⟩
  replace bl := bl.grown g2 bl.size (fun k e => by cases e; omega)
  replace cR := cR.other g2 (fun e => by cases e; omega)
  have E2 := E1.grown g2 (by omega)
  obtain ⟨xa, xn, xc, hv2⟩ := own_form o2
  rw [hv2]
  generalize tkZ _ _ _ = z2 at F2 hbad
  generalize tkE _ _ _ = e2 at F2 hbad
  generalize num (cutL bs, !cutB bs) = n0
  generalize num (stp (cutL bs, !cutB bs)) = n1
  generalize num (stp (stp (cutL bs, !cutB bs))) = n2
  generalize num (stp (stp (stp (cutL bs, !cutB bs)))) = n3
  have by2 := fun o : Obj => (Below.refl w2.heap.size w2).alloc (Nat.le_refl _) o
  go_wp2_with fail
  refine (end_any g z2 e2 _ (F2.kept (by2 _)) (E2.kept (by2 _))).mono ?_
  rw [hbad]
  rintro e w3 ⟨rfl, F3, g3⟩
  replace bl := (bchain bl (by2 _)).grown g3 (bchain bl (by2 _)).size (fun k e => by cases e; omega)
  replace cR := (cR.kept (by2 _)).other g3 (fun e => by cases e; omega)
  obtain ⟨s3, ev, hs3, hg3, c0, c1, fz, hne, t, x, rfl⟩ := F3
  have kc := cR.2.1
  have kf := cR.2.2
  go_wp2
  refine bodyPost_ret (v := .tuple #[.agg #[.int .i64 0, .int .i64 0, .int .i64 0, .bool false, .bool false, .int .i64 0, .int .i64 0, .int .i64 0, .slice none 0 0], .bool false]) (by simp [results, Tryd.results8, go_sem, kc]) rfl ⟨rfl, ?_⟩
  iterate 9 refine Below.setCell ?_ (by dsimp only; omega) _
  exact bl
set_option maxHeartbeats 4000000 in
theorem impl_read_no (v : Value) (bs : List Nat) (a c d e : Nat) (r : List Nat) (w : World) (hv : Rd w v bs) (hE : Errs w) (hL : cutL bs = a :: c :: d :: e :: r.length :: r) (hB : cutB bs = true) (hfb : frmB (a : Int) ((c : Int) / 16) ((c : Int) % 16) ((d : Int) % 2 == 1) ((d : Int) / 2 % 2 == 1) ((d : Int) / 4 % 4) ((d : Int) / 16) (e : Int) r.length = false) :
    Calls Tryd.prog 8 #[v] w fun x w' => x = .returned (.tuple #[.agg #[.int .i64 0, .int .i64 0, .int .i64 0, .bool false, .bool false, .int .i64 0, .int .i64 0, .int .i64 0, .slice none 0 0], .bool false]) ∧ Below w.heap.size w w' := by
  have hz3 := hE.2.2.2
  have bx : Below w.heap.size w (w.alloc (.cells #[.int .i64 0, .int .i64 0, .int .i64 0, .bool false, .bool false, .int .i64 0, .int .i64 0, .int .i64 0, .slice none 0 0] 24)) := (Below.refl _ _).alloc (Nat.le_refl _) _
  have cR := celF_box w #[.int .i64 0, .int .i64 0, .int .i64 0, .bool false, .bool false, .int .i64 0, .int .i64 0, .int .i64 0, .slice none 0 0] 24
  go_enter Tryd.func8, Tryd.ntmps8
  go_wp2_with fail
  refine (reader_new _ bs _ (hv.kept bx) (hE.kept bx)).mono ?_
  rintro e w1 ⟨g, rfl, hg, F1, b1⟩
  have bl := bchain bx b1
  replace cR := cR.kept b1
  have hg' : w.heap.size + 1 ≤ g := by simpa using hg
  have E1 := hE.kept bl
  have hgl := F1.lt
  rw [hL, hB] at F1
  go_wp2_with fail
  refine (read_any g (a :: c :: d :: e :: r.length :: r, false) _ F1 E1 (by omega)).mono ?_
  have hend := good_end a c d e r
  unfold endE at hend
  simp only [stp_cons, num_cons] at hend ⊢
  rintro x w2 ⟨v2, rfl, o2, F2, g2⟩
  have hr : tkR r.length r false = r := by simp [tkR]
  rw [hr] at o2
  replace bl := bl.grown g2 bl.size (fun k e => by cases e; omega)
  replace cR := cR.other g2 (fun e => by cases e; omega)
  have E2 := E1.grown g2 (by omega)
  have hby : Byt r := fun z hz => cutL_byt hv.1 z (by rw [hL]; simp [hz])
  have hln : r.length ≤ 2000000 := by have := cutL_length bs; have := hv.2.1; rw [hL] at *; simp at *; omega
  have r2 := o2.rd hby hln
  have sz2 := World.ownsRow.lt o2
  obtain ⟨xa, xc, hv2⟩ := r2.form
  rw [hv2] at o2 r2 sz2 ⊢
  have by2 := fun o : Obj => (Below.refl w2.heap.size w2).alloc (Nat.le_refl _) o
  have cF := celF_box w2 #[.int .i64 (a : Int), .int .i64 ((c : Int) / 16), .int .i64 ((c : Int) % 16), .bool ((d : Int) % 2 == 1), .bool ((d : Int) / 2 % 2 == 1), .int .i64 ((d : Int) / 4 % 4), .int .i64 ((d : Int) / 16), .int .i64 (e : Int), .slice xa r.length xc] 24
  go_wp2_with fail
  refine (end_any g _ _ _ (F2.kept (by2 _)) (E2.kept (by2 _))).mono ?_
  rw [hend]
  rintro x w3 ⟨rfl, F3, g3⟩
  replace bl := (bchain bl (by2 _)).grown g3 (bchain bl (by2 _)).size (fun k e => by cases e; omega)
  replace cR := (cR.kept (by2 _)).other g3 (fun e => by cases e; omega)
  have z12 := g2.size
  replace cF := cF.other g3 (fun e => by cases e; omega)
  replace o2 := (o2.kept (by2 _)).other (u := .slice (some ⟨g, 0, none⟩) 0 0) g3 (fun k e e' => by have := sz2 k e; obtain rfl : g = k := Option.some.inj e'; omega)
  have r3 := o2.rd hby hln
  obtain ⟨s3, ev, hs3, hg3, c0, c1, fz, hne, rfl⟩ := F3
  have kF := cF.2.1
  go_wp2_with fail
  refine (impl_frm _ _ _ _ _ _ _ _ _ r _ r3).mono ?_
  rw [hfb]
  rintro x w4 ⟨rfl, b4⟩
  replace bl := bchain bl b4
  replace cR := cR.kept b4
  replace cF := cF.kept b4
  replace o2 := o2.kept b4
  clear kF
  have kF := cF.2.1
  have kc := cR.2.1
  have kf := cR.2.2
  have zz : w.heap.size + 1 ≤ w1.heap.size := by omega
  go_wp2
  refine bodyPost_ret (v := .tuple #[.agg #[.int .i64 0, .int .i64 0, .int .i64 0, .bool false, .bool false, .int .i64 0, .int .i64 0, .int .i64 0, .slice none 0 0], .bool false]) (by simp [results, Tryd.results8, go_sem, kc]) rfl ⟨rfl, ?_⟩
  iterate 9 refine Below.setCell ?_ (by dsimp only; omega) _
  exact bl
set_option maxHeartbeats 4000000 in
theorem impl_read_yes (v : Value) (bs : List Nat) (a c d e : Nat) (r : List Nat) (w : World) (hv : Rd w v bs) (hE : Errs w) (hL : cutL bs = a :: c :: d :: e :: r.length :: r) (hB : cutB bs = true) (hfb : frmB (a : Int) ((c : Int) / 16) ((c : Int) % 16) ((d : Int) % 2 == 1) ((d : Int) / 2 % 2 == 1) ((d : Int) / 4 % 4) ((d : Int) / 16) (e : Int) r.length = true) :
    Calls Tryd.prog 8 #[v] w fun x w' => ∃ v', x = .returned (.tuple #[.agg #[.int .i64 (a : Int), .int .i64 ((c : Int) / 16), .int .i64 ((c : Int) % 16), .bool ((d : Int) % 2 == 1), .bool ((d : Int) / 2 % 2 == 1), .int .i64 ((d : Int) / 4 % 4), .int .i64 ((d : Int) / 16), .int .i64 (e : Int), v'], .bool true]) ∧ Own w' w.heap.size v' r ∧ Below w.heap.size w w' := by
  have hz3 := hE.2.2.2
  have bx : Below w.heap.size w (w.alloc (.cells #[.int .i64 0, .int .i64 0, .int .i64 0, .bool false, .bool false, .int .i64 0, .int .i64 0, .int .i64 0, .slice none 0 0] 24)) := (Below.refl _ _).alloc (Nat.le_refl _) _
  have cR := celF_box w #[.int .i64 0, .int .i64 0, .int .i64 0, .bool false, .bool false, .int .i64 0, .int .i64 0, .int .i64 0, .slice none 0 0] 24
  go_enter Tryd.func8, Tryd.ntmps8
  go_wp2_with fail
  refine (reader_new _ bs _ (hv.kept bx) (hE.kept bx)).mono ?_
  rintro e w1 ⟨g, rfl, hg, F1, b1⟩
  have bl := bchain bx b1
  replace cR := cR.kept b1
  have hg' : w.heap.size + 1 ≤ g := by simpa using hg
  have E1 := hE.kept bl
  have hgl := F1.lt
  rw [hL, hB] at F1
  go_wp2_with fail
  refine (read_any g (a :: c :: d :: e :: r.length :: r, false) _ F1 E1 (by omega)).mono ?_
  have hend := good_end a c d e r
  unfold endE at hend
  simp only [stp_cons, num_cons] at hend ⊢
  rintro x w2 ⟨v2, rfl, o2, F2, g2⟩
  have hr : tkR r.length r false = r := by simp [tkR]
  rw [hr] at o2
  replace bl := bl.grown g2 bl.size (fun k e => by cases e; omega)
  replace cR := cR.other g2 (fun e => by cases e; omega)
  have E2 := E1.grown g2 (by omega)
  have hby : Byt r := fun z hz => cutL_byt hv.1 z (by rw [hL]; simp [hz])
  have hln : r.length ≤ 2000000 := by have := cutL_length bs; have := hv.2.1; rw [hL] at *; simp at *; omega
  have r2 := o2.rd hby hln
  have sz2 := World.ownsRow.lt o2
  obtain ⟨xa, xc, hv2⟩ := r2.form
  rw [hv2] at o2 r2 sz2 ⊢
  have by2 := fun o : Obj => (Below.refl w2.heap.size w2).alloc (Nat.le_refl _) o
  have cF := celF_box w2 #[.int .i64 (a : Int), .int .i64 ((c : Int) / 16), .int .i64 ((c : Int) % 16), .bool ((d : Int) % 2 == 1), .bool ((d : Int) / 2 % 2 == 1), .int .i64 ((d : Int) / 4 % 4), .int .i64 ((d : Int) / 16), .int .i64 (e : Int), .slice xa r.length xc] 24
  go_wp2_with fail
  refine (end_any g _ _ _ (F2.kept (by2 _)) (E2.kept (by2 _))).mono ?_
  rw [hend]
  rintro x w3 ⟨rfl, F3, g3⟩
  replace bl := (bchain bl (by2 _)).grown g3 (bchain bl (by2 _)).size (fun k e => by cases e; omega)
  replace cR := (cR.kept (by2 _)).other g3 (fun e => by cases e; omega)
  have z12 := g2.size
  replace cF := cF.other g3 (fun e => by cases e; omega)
  replace o2 := (o2.kept (by2 _)).other (u := .slice (some ⟨g, 0, none⟩) 0 0) g3 (fun k e e' => by have := sz2 k e; obtain rfl : g = k := Option.some.inj e'; omega)
  have r3 := o2.rd hby hln
  obtain ⟨s3, ev, hs3, hg3, c0, c1, fz, hne, rfl⟩ := F3
  have kF := cF.2.1
  go_wp2_with fail
  refine (impl_frm _ _ _ _ _ _ _ _ _ r _ r3).mono ?_
  rw [hfb]
  rintro x w4 ⟨rfl, b4⟩
  replace bl := bchain bl b4
  replace cR := cR.kept b4
  replace cF := cF.kept b4
  replace o2 := o2.kept b4
  clear kF
  have kF := cF.2.1
  have kc := cR.2.1
  have kf := cR.2.2
  have zz : w.heap.size + 1 ≤ w1.heap.size := by omega
  go_wp2
  refine bodyPost_ret (v := .tuple #[.agg #[.int .i64 (a : Int), .int .i64 ((c : Int) / 16), .int .i64 ((c : Int) % 16), .bool ((d : Int) % 2 == 1), .bool ((d : Int) / 2 % 2 == 1), .int .i64 ((d : Int) / 4 % 4), .int .i64 ((d : Int) / 16), .int .i64 (e : Int), .slice xa r.length xc], .bool true]) (by simp [results, Tryd.results8, go_sem, kc]) rfl ⟨_, rfl, ?_, ?_⟩
  · refine Own.base ?_ (show w.heap.size ≤ w1.heap.size by omega)
    iterate 9 refine Own.set ?_ _ _ _ (by omega)
    exact o2
  · iterate 9 refine Below.setCell ?_ (by dsimp only; omega) _
    exact bl
theorem impl_read (v : Value) (bs : List Nat) (w : World) (hv : Rd w v bs) (hE : Errs w) :
    Calls Tryd.prog 8 #[v] w fun e w' => ∃ v', e = .returned (.tuple #[.agg #[.int .i64 (rdKind bs), .int .i64 (rdSeq bs), .int .i64 (rdAck bs), .bool (rdPoll bs), .bool (rdFinal bs), .int .i64 (rdSay bs), .int .i64 (rdSeg bs), .int .i64 (rdLen bs), v'], .bool (rdB bs)]) ∧ Own w' w.heap.size v' (rdData bs) ∧ Below w.heap.size w w' := by
  cases hk : goodB (cutL bs) (cutB bs) with
  | false =>
    have hrd : rdB bs = false := by simp [rdB, hk]
    simp only [rdKind, rdSeq, rdAck, rdPoll, rdFinal, rdSay, rdSeg, rdLen, rdData, hrd, Bool.false_eq_true, if_false]
    refine (impl_read_bad v bs w hv hE hk).mono ?_
    rintro e w1 ⟨rfl, b1⟩
    exact ⟨_, rfl, own_none _ _, b1⟩
  | true =>
    obtain ⟨hB, a, c, d, e, r, hL⟩ := good_form _ _ hk
    cases hfb : frmB (a : Int) ((c : Int) / 16) ((c : Int) % 16) ((d : Int) % 2 == 1) ((d : Int) / 2 % 2 == 1) ((d : Int) / 4 % 4) ((d : Int) / 16) (e : Int) r.length with
    | false =>
      have hrd : rdB bs = false := by simp [rdB, hL, hfb]
      simp only [rdKind, rdSeq, rdAck, rdPoll, rdFinal, rdSay, rdSeg, rdLen, rdData, hrd, Bool.false_eq_true, if_false]
      refine (impl_read_no v bs a c d e r w hv hE hL hB hfb).mono ?_
      rintro e w1 ⟨rfl, b1⟩
      exact ⟨_, rfl, own_none _ _, b1⟩
    | true =>
      have hrd : rdB bs = true := by simp [rdB, hL, hfb] at hk ⊢; exact hk
      simp only [rdKind, rdSeq, rdAck, rdPoll, rdFinal, rdSay, rdSeg, rdLen, rdData, hrd, if_true, hL]
      exact impl_read_yes v bs a c d e r w hv hE hL hB hfb
end Go.Proofs.YthnlpdjjnfkmeaaDoor
