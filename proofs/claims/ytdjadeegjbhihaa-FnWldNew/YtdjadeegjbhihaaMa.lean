/- Laws and contracts that the proof stands on: In, Bytes, Boxes, Cfg, LiOk, Append, FrmMath, OwnMore, Piece, Dat, IsNum, Num, NumNext, Pieces, RdMore, PieceNew, Box, ImplSegCut, SpecSegCut, SpecFrm, Join, BoxLaw, OpenOrder, OpenRead, OpenAny, OpenRow, OpenGuard, RxLaw, CfgEq. -/
import Derived.Test.YtdjadeegjbhihaaRows
import Derived.WalkKit
import Derived.WalkLawsBesides
import Derived.WalkSpells
import Derived.WalkSmall
import Derived.Deep.OwnRows
import Derived.Deep.QuietTactic
import Derived.BigQuiet
import Derived.Laws.Tables
import Derived.Deep.Light
import Derived.Laws.StructEq
import Derived.Handy
import Derived.Laws.AppendOwnNone
import Derived.Deep.MidRow
/- Whether a number lies between two bounds: the specification's own test. -/
namespace Go.Proofs.Ytdjadeegjbhihaa
open Go.RowKit

def inB (n lo hi : Int) : Bool := decide (lo ≤ n) && decide (n ≤ hi)
theorem inB_iff (n lo hi : Int) : inB n lo hi = true ↔ lo ≤ n ∧ n ≤ hi := by simp [inB]
theorem inB_not (n lo hi : Int) : inB n lo hi = false ↔ n < lo ∨ hi < n := by
  rw [← Bool.not_eq_true, inB_iff]; omega
theorem ret_bool {a b : Bool} (h : a = b) : Ending.returned (.bool a) = .returned (.bool b) := by rw [h]
theorem ret_int {k : IntKind} {a b : Int} (h : a = b) : Ending.returned (.int k a) = .returned (.int k b) := by rw [h]

theorem i64_xor_nat (a b : Nat) (ha : a < 9223372036854775808) (hb : b < 9223372036854775808) : bits .xor .i64 (a : Int) (b : Int) = ((a ^^^ b : Nat) : Int) := by
  have hx : a ^^^ b < 2 ^ 63 := Nat.xor_lt_two_pow (by omega) (by omega)
  have h1 : (BitVec.ofInt 64 (a : Int)).toNat = a := by
    rw [BitVec.ofInt_natCast, BitVec.toNat_ofNat]; exact Nat.mod_eq_of_lt (by omega)
  have h2 : (BitVec.ofInt 64 (b : Int)).toNat = b := by
    rw [BitVec.ofInt_natCast, BitVec.toNat_ofNat]; exact Nat.mod_eq_of_lt (by omega)
  show IntKind.i64.wrap ((BitVec.ofInt 64 (a : Int) ^^^ BitVec.ofInt 64 (b : Int)).toNat : Int) = _
  rw [BitVec.toNat_xor, h1, h2]
  simp [IntKind.wrap, IntKind.bits, IntKind.signed]
  omega
theorem in_yes (n lo hi : Int) (h1 : lo ≤ n) (h2 : n ≤ hi) (w : World) :
    Calls Try.prog 40 #[.int .i64 n, .int .i64 lo, .int .i64 hi] w fun e w' => e = .returned (.bool true) ∧ w' = w := by
  go_enter Try.func40, Try.ntmps40
  go_wp2
  go_ret
  exact ⟨rfl, rfl⟩
theorem in_low (n lo hi : Int) (h1 : n < lo) (w : World) :
    Calls Try.prog 40 #[.int .i64 n, .int .i64 lo, .int .i64 hi] w fun e w' => e = .returned (.bool false) ∧ w' = w := by
  have h1' : ¬ lo ≤ n := by omega
  go_enter Try.func40, Try.ntmps40
  go_wp2
  go_ret
  exact ⟨rfl, rfl⟩
theorem in_high (n lo hi : Int) (h0 : lo ≤ n) (h1 : hi < n) (w : World) :
    Calls Try.prog 40 #[.int .i64 n, .int .i64 lo, .int .i64 hi] w fun e w' => e = .returned (.bool false) ∧ w' = w := by
  have h1' : ¬ n ≤ hi := by omega
  go_enter Try.func40, Try.ntmps40
  go_wp2
  go_ret
  exact ⟨rfl, rfl⟩
theorem in_no (n lo hi : Int) (h : n < lo ∨ hi < n) (w : World) :
    Calls Try.prog 40 #[.int .i64 n, .int .i64 lo, .int .i64 hi] w fun e w' => e = .returned (.bool false) ∧ w' = w := by
  by_cases h1 : n < lo
  · exact in_low n lo hi h1 w
  · exact in_high n lo hi (by omega) (by omega) w
theorem in_any (n lo hi : Int) (w : World) :
    Calls Try.prog 40 #[.int .i64 n, .int .i64 lo, .int .i64 hi] w fun e w' => e = .returned (.bool (inB n lo hi)) ∧ w' = w := by
  cases h : inB n lo hi
  · exact in_no n lo hi ((inB_not n lo hi).1 h) w
  · exact in_yes n lo hi ((inB_iff n lo hi).1 h).1 ((inB_iff n lo hi).1 h).2 w
end Go.Proofs.Ytdjadeegjbhihaa

/- Lists of bytes in memory: what a slice reads as, what a call owns, and how both outlast later steps. -/
namespace Go.Proofs.Ytdjadeegjbhihaa
open Go.RowKit

theorem Try.infoB : (Try.prog.info? 5).map (fun i => (i.zero, i.size, i.bytes)) = some (some (.int .u8 0), 1, 1) := by kernel_rfl

/-- The cells of bytes. -/
def bcells (zs : List Nat) : List Value := zs.map fun z : Nat => Value.int .u8 (z : Int)
theorem bcells_length (zs : List Nat) : (bcells zs).length = zs.length := by simp [bcells]
theorem bcells_get (zs : List Nat) (j : Nat) (h : j < zs.length) : (bcells zs)[j]? = some (.int .u8 ((zs.getD j 0 : Nat) : Int)) := by
  simp [bcells, h]
theorem bcells_one (zs : List Nat) : ∀ u ∈ bcells zs, u.oneCell' = true := by
  intro u hu
  simp only [bcells, List.mem_map] at hu
  obtain ⟨z, _, rfl⟩ := hu
  rfl
theorem bcells_append (a b : List Nat) : bcells (a ++ b) = bcells a ++ bcells b := by simp [bcells]

/-- All are bytes. -/
def Byt (zs : List Nat) : Prop := ∀ z ∈ zs, z < 256
theorem Byt.get {zs : List Nat} (h : Byt zs) (j : Nat) : zs.getD j 0 < 256 := by
  by_cases hj : j < zs.length
  · rw [List.getD_eq_getElem?_getD, List.getElem?_eq_getElem hj]; exact h _ (List.getElem_mem hj)
  · rw [List.getD_eq_getElem?_getD, List.getElem?_eq_none (by omega)]; simp
theorem Byt.take {zs : List Nat} (h : Byt zs) (n : Nat) : Byt (zs.take n) := fun z hz => h z (List.mem_of_mem_take hz)

/-- The slice v reads, in w, as the bytes zs. -/
def Rd (w : World) (v : Value) (zs : List Nat) : Prop :=
  Byt zs ∧ zs.length ≤ 2000000 ∧ ((zs = [] ∧ ∃ a c, v = .slice a 0 c ∧ (a = none → c = 0)) ∨
    ∃ b off cap, v = .slice (some ⟨b, off, none⟩) zs.length cap ∧ zs.length ≤ cap ∧ cap ≤ maxLen ∧ b < w.heap.size ∧ ∀ j, j < zs.length → w.cell? ⟨b, off + j, none⟩ = some (.int .u8 ((zs.getD j 0 : Nat) : Int)))
/-- The call owns, from block B on, the row of bytes zs. -/
def Own (w : World) (B : Nat) (v : Value) (zs : List Nat) : Prop := w.ownsRow B 5 1 v zs.length (bcells zs)

theorem Rd.kept {w w' : World} {v : Value} {zs : List Nat} (h : Rd w v zs) (hb : Below w.heap.size w w') : Rd w' v zs := by
  obtain ⟨h1, h2, h3⟩ := h
  refine ⟨h1, h2, ?_⟩
  rcases h3 with h3 | ⟨b, off, cap, e, h4, h5, h6, h7⟩
  · exact .inl h3
  · exact .inr ⟨b, off, cap, e, h4, h5, Nat.lt_of_lt_of_le h6 hb.size, fun j hj => (hb.cell (p := ⟨b, off + j, none⟩) h6).trans (h7 j hj)⟩
theorem Own.rd {w : World} {B : Nat} {v : Value} {zs : List Nat} (h : Own w B v zs) (hz : Byt zs) (hl : zs.length ≤ 2000000) : Rd w v zs := by
  refine ⟨hz, hl, ?_⟩
  have h0 := h
  rcases h.2 with ⟨e, h1⟩ | ⟨g, cap, cur, e, _, h2, h3, h4, _, _⟩
  · exact .inl ⟨List.length_eq_zero_iff.1 h1, _, _, e, fun _ => rfl⟩
  · refine .inr ⟨g, 0, cap, e, h3, h4, ?_, fun j hj => ?_⟩
    · exact (h0.lt g (by rw [e]; rfl)).2
    · unfold Own at h0
      rw [e] at h0
      rw [Nat.zero_add, h0.cellAt j (by omega), bcells_get zs j hj]
theorem below_grown {w w' : World} (hb : Below w.heap.size w w') : w.grownBy w' none := ⟨hb.os, hb.tape, hb.output, hb.size, fun k hk _ => hb.block k hk⟩
theorem Own.kept {w w' : World} {B : Nat} {v : Value} {zs : List Nat} (h : Own w B v zs) (hb : Below w.heap.size w w') : Own w' B v zs :=
  World.ownsRow.kept h (below_grown hb) (by cases v.ownBlock <;> simp)
/-- What lies in other blocks stays behind a step that writes one row. -/
theorem Own.other {w w' : World} {B : Nat} {v u : Value} {zs : List Nat} (h : Own w B v zs) (hg : w.grownBy w' u.ownBlock) (hne : ∀ k, v.ownBlock = some k → u.ownBlock ≠ some k) : Own w' B v zs :=
  World.ownsRow.kept h hg (by
    cases e : v.ownBlock with
    | none => exact .inl rfl
    | some k => exact .inr (fun e' => hne k e e'.symm))
theorem bchain {w w1 w2 : World} (h : Below w.heap.size w w1) (k : Below w1.heap.size w1 w2) : Below w.heap.size w w2 := h.trans (k.mono h.size)
theorem below_drew {w : World} (n : Nat) : Below w.heap.size w (w.drewN n) := below_drewN (Below.refl _ _) n

/-- What the law's frame tells of a slice of integers that came in. -/
def IsRow (k : IntKind) (w : World) (a : Option Addr) (len cap : Nat) (zs : List Int) : Prop :=
  (a = none ∧ len = 0 ∧ cap = 0 ∧ zs = []) ∨
  ∃ x, a = some x ∧ len ≤ cap ∧ cap ≤ maxLen ∧ zs.length = cap ∧ (∀ i, i < zs.length → w.cell? (x.add i) = some (.int k (zs.getD i 0))) ∧ ∀ n ∈ zs, (Lit.int k n).wf = true
theorem wf_u8 {n : Int} (h : (Lit.int .u8 n).wf = true) : 0 ≤ n ∧ n < 256 := by
  simp [Lit.wf, IntKind.min, IntKind.max, IntKind.bits, IntKind.signed] at h
  omega
theorem IsRow.rd {w : World} {a : Option Addr} {len cap : Nat} {zs : List Int} (h : IsRow .u8 w a len cap zs) (hl : len ≤ 2000000) : ∃ bs : List Nat, Rd w (.slice a len cap) bs ∧ bs.length = len := by
  rcases h with ⟨rfl, rfl, rfl, rfl⟩ | ⟨x, rfl, h1, h2, h3, h4, h5⟩
  · exact ⟨[], ⟨fun z hz => by simp at hz, by simp, .inl ⟨rfl, _, _, rfl, fun _ => rfl⟩⟩, rfl⟩
  · have hlen : ((zs.take len).map Int.toNat).length = len := by simp; omega
    by_cases h0 : len = 0
    · subst h0
      exact ⟨[], ⟨fun z hz => by simp at hz, by simp, .inl ⟨rfl, _, _, rfl, fun h => by simp at h⟩⟩, rfl⟩
    · obtain ⟨b, off, spot⟩ := x
      have hc := h4 0 (by omega)
      have hspot : spot = none := by simpa [Addr.add] using World.cell?_spot hc
      subst hspot
      refine ⟨(zs.take len).map Int.toNat, ⟨?_, by omega, .inr ⟨b, off, cap, by rw [hlen], by omega, h2, ?_, ?_⟩⟩, hlen⟩
      · intro z hz
        simp only [List.mem_map] at hz
        obtain ⟨y, hy, rfl⟩ := hz
        have := wf_u8 (h5 y (List.mem_of_mem_take hy))
        omega
      · exact World.block_lt_of_cell? w _ hc
      · intro j hj
        rw [hlen] at hj
        have hj2 : j < zs.length := by omega
        have e := h4 j hj2
        have hb := wf_u8 (h5 (zs[j]) (List.getElem_mem hj2))
        have ea : (⟨b, off, none⟩ : Addr).add j = ⟨b, off + j, none⟩ := by
          by_cases h : j = 0
          · subst h; rfl
          · simp [Addr.add, h]
        rw [ea] at e
        rw [e]
        simp [hj2, hj]
        omega

/-- A row of bytes that is filled from its head on. -/
def part (zs : List Nat) (k : Nat) : List Value := bcells (zs.take k) ++ List.replicate (zs.length - k) (.int .u8 0)
theorem part_zero (zs : List Nat) : part zs 0 = List.replicate zs.length (.int .u8 0) := by simp [part, bcells]
theorem part_all (zs : List Nat) : part zs zs.length = bcells zs := by simp [part]
theorem part_length (zs : List Nat) (k : Nat) (h : k ≤ zs.length) : (part zs k).length = zs.length := by simp [part, bcells]; omega
theorem part_set (zs : List Nat) (k : Nat) (h : k < zs.length) : (part zs k).set k (.int .u8 ((zs.getD k 0 : Nat) : Int)) = part zs (k + 1) := by
  have e : List.replicate (zs.length - k) (Value.int .u8 0) = .int .u8 0 :: List.replicate (zs.length - (k + 1)) (Value.int .u8 0) := by
    rw [show zs.length - k = zs.length - (k + 1) + 1 from by omega, List.replicate_succ]
  have hl : (bcells (zs.take k)).length = k := by rw [bcells_length, List.length_take]; omega
  unfold part
  rw [e, List.set_append, if_neg (by omega), hl, Nat.sub_self, List.set_cons_zero, List.take_succ_eq_append_getElem h, bcells_append]
  simp [bcells, h]

theorem made_part {w : World} (zs : List Nat) (hl : zs.length ≤ 2000000) : (w.alloc (.cells (madeCells #[.int .u8 0] zs.length) 5)).ownsRow w.heap.size 5 1 (.slice (some ⟨w.heap.size, 0, none⟩) zs.length zs.length) zs.length (part zs 0) := by
  have := World.ownsRow_lit (base := w.heap.size) (e := 5) (size := 1) w (madeCells #[.int .u8 0] zs.length) zs.length (Nat.le_refl _) (by unfold maxLen; omega) (by simp [size_madeCells])
  rwa [toList_madeCells_one, ← part_zero] at this

end Go.Proofs.Ytdjadeegjbhihaa

/- Boxed variables, whatever lies in them: a block that holds these cells and may be written. -/
namespace Go.Proofs.Ytdjadeegjbhihaa
open Go.RowKit

/-- The block b holds these cells, and they may be written. -/
def Bo (w : World) (b : Nat) (cs : Array Value) : Prop := b < w.heap.size ∧ (∀ k, w.cell? ⟨b, k, none⟩ = cs[k]?) ∧ ∀ k, w.frozen? ⟨b, k, none⟩ = false
theorem Bo.kept {w w' : World} {b : Nat} {cs : Array Value} (h : Bo w b cs) (hb : Below w.heap.size w w') : Bo w' b cs :=
  ⟨Nat.lt_of_lt_of_le h.1 hb.size, fun k => (hb.cell (p := ⟨b, k, none⟩) h.1).trans (h.2.1 k), fun k => (hb.frozen (p := ⟨b, k, none⟩) h.1).trans (h.2.2 k)⟩
theorem Bo.k {w : World} {b : Nat} {cs : Array Value} (h : Bo w b cs) : ∀ k, w.cell? ⟨b, k, none⟩ = cs[k]? := h.2.1
theorem Bo.f {w : World} {b : Nat} {cs : Array Value} (h : Bo w b cs) : ∀ k, w.frozen? ⟨b, k, none⟩ = false := h.2.2
theorem bo_far {w : World} {p q : Addr} {x : Value} (h : p ≠ q) : (w.setCell p x).cell? q = w.cell? q := by
  apply World.cell?_setCell_other
  exact h
theorem bo_here {w : World} {p : Addr} {x u : Value} (h : w.cell? p = some u) : (w.setCell p x).cell? p = some x := by
  apply World.cell?_setCell_same
  exact h
theorem Bo.put {w : World} {b : Nat} {cs : Array Value} (h : Bo w b cs) (i : Nat) (hi : i < cs.size) (x : Value) : Bo (w.setCell ⟨b, i, none⟩ x) b (cs.setIfInBounds i x) := by
  refine ⟨by simpa using h.1, fun k => ?_, fun k => by simpa using h.2.2 k⟩
  by_cases e : k = i
  · subst e
    have : w.cell? ⟨b, k, none⟩ = some cs[k] := by rw [h.2.1 k]; exact Array.getElem?_eq_getElem hi
    rw [bo_here this]
    simp [hi]
  · rw [bo_far (by intro e'; simp only [Addr.mk.injEq] at e'; omega), h.2.1 k, Array.getElem?_setIfInBounds_ne (Ne.symm e)]
theorem bo_new (w : World) (cs : Array Value) (t : TypeId) : Bo (w.alloc (.cells cs t)) w.heap.size cs := ⟨by simp, fun k => by simp, fun k => by simp⟩
theorem bo_alloc (w : World) (o : Obj) : Below w.heap.size w (w.alloc o) := (Below.refl _ _).alloc (Nat.le_refl _) o
theorem bo1 (w : World) (cs1 : Array Value) (t1 : TypeId) :
    ∃ w0, w.alloc (.cells cs1 t1) = w0 ∧ Bo w0 w.heap.size cs1 ∧ Below w.heap.size w w0 ∧ w.heap.size + 1 ≤ w0.heap.size := ⟨_, rfl, bo_new _ _ _, bo_alloc _ _, by simp⟩
theorem bo2 (w : World) (cs1 : Array Value) (t1 : TypeId) (cs2 : Array Value) (t2 : TypeId) :
    ∃ w0, (w.alloc (.cells cs1 t1)).alloc (.cells cs2 t2) = w0 ∧ Bo w0 w.heap.size cs1 ∧ Bo w0 (w.heap.size + 1) cs2 ∧ Below w.heap.size w w0 ∧ w.heap.size + 2 ≤ w0.heap.size := by
  refine ⟨_, rfl, (bo_new w cs1 t1).kept (bo_alloc _ _), ?_, bchain (bo_alloc _ _) (bo_alloc _ _), by simp⟩
  have := bo_new (w.alloc (.cells cs1 t1)) cs2 t2
  simpa using this
theorem bo3 (w : World) (cs1 : Array Value) (t1 : TypeId) (cs2 : Array Value) (t2 : TypeId) (cs3 : Array Value) (t3 : TypeId) :
    ∃ w0, ((w.alloc (.cells cs1 t1)).alloc (.cells cs2 t2)).alloc (.cells cs3 t3) = w0 ∧ Bo w0 w.heap.size cs1 ∧ Bo w0 (w.heap.size + 1) cs2 ∧ Bo w0 (w.heap.size + 1 + 1) cs3 ∧ Below w.heap.size w w0 ∧ w.heap.size + 3 ≤ w0.heap.size := by
  obtain ⟨w1, rfl, h1, h2, hb, hs⟩ := bo2 w cs1 t1 cs2 t2
  refine ⟨_, rfl, h1.kept (bo_alloc _ _), h2.kept (bo_alloc _ _), ?_, bchain hb (bo_alloc _ _), by simp⟩
  have := bo_new ((w.alloc (.cells cs1 t1)).alloc (.cells cs2 t2)) cs3 t3
  simpa using this
theorem bo4 (w : World) (cs1 : Array Value) (t1 : TypeId) (cs2 : Array Value) (t2 : TypeId) (cs3 : Array Value) (t3 : TypeId) (cs4 : Array Value) (t4 : TypeId) :
    ∃ w0, (((w.alloc (.cells cs1 t1)).alloc (.cells cs2 t2)).alloc (.cells cs3 t3)).alloc (.cells cs4 t4) = w0 ∧ Bo w0 w.heap.size cs1 ∧ Bo w0 (w.heap.size + 1) cs2 ∧ Bo w0 (w.heap.size + 1 + 1) cs3 ∧ Bo w0 (w.heap.size + 1 + 1 + 1) cs4 ∧ Below w.heap.size w w0 ∧ w.heap.size + 4 ≤ w0.heap.size := by
  obtain ⟨w1, rfl, h1, h2, h3, hb, hs⟩ := bo3 w cs1 t1 cs2 t2 cs3 t3
  refine ⟨_, rfl, h1.kept (bo_alloc _ _), h2.kept (bo_alloc _ _), h3.kept (bo_alloc _ _), ?_, bchain hb (bo_alloc _ _), by simp⟩
  have := bo_new (((w.alloc (.cells cs1 t1)).alloc (.cells cs2 t2)).alloc (.cells cs3 t3)) cs4 t4
  simpa using this
/-- The block b holds these cells of this type, whole, and may be written. -/
def Bl (w : World) (b : Nat) (cs : Array Value) (t : TypeId) : Prop := w.heap[b]? = some (.cells cs t (0, 0))
theorem Bl.lt {w : World} {b : Nat} {cs : Array Value} {t : TypeId} (h : Bl w b cs t) : b < w.heap.size := (Array.getElem?_eq_some_iff.1 h).1
theorem Bl.kept {w w' : World} {b : Nat} {cs : Array Value} {t : TypeId} (h : Bl w b cs t) (hb : Below w.heap.size w w') : Bl w' b cs t := (hb.block b h.lt).trans h
theorem Bl.k {w : World} {b : Nat} {cs : Array Value} {t : TypeId} (h : Bl w b cs t) : ∀ k, w.cell? ⟨b, k, none⟩ = cs[k]? := fun k => by
  unfold Bl at h
  simp [World.cell?, h]
theorem Bl.f {w : World} {b : Nat} {cs : Array Value} {t : TypeId} (h : Bl w b cs t) : ∀ k, w.frozen? ⟨b, k, none⟩ = false := fun k => by
  unfold Bl at h
  simp [World.frozen?, h]
theorem Bl.bo {w : World} {b : Nat} {cs : Array Value} {t : TypeId} (h : Bl w b cs t) : Bo w b cs := ⟨h.lt, h.k, h.f⟩
theorem bl_new (w : World) (cs : Array Value) (t : TypeId) : Bl (w.alloc (.cells cs t)) w.heap.size cs t := by
  unfold Bl World.alloc
  simp
/-- A block written whole. -/
theorem Bl.row {w : World} {b : Nat} {cs : Array Value} {t : TypeId} (h : Bl w b cs t) (ds : Array Value) : Bl (w.setRow b ds) b ds t := setRow_heap w b cs ds t (0, 0) h
theorem Bl.row_far {w : World} {b : Nat} {cs : Array Value} {t : TypeId} (h : Bl w b cs t) (g : Nat) (ds : Array Value) (hne : b ≠ g) : Bl (w.setRow g ds) b cs t := (setRow_other w g b ds hne).trans h
theorem below_row {n : Nat} {w w' : World} (h : Below n w w') (g : Nat) (ds : Array Value) (hg : n ≤ g) : Below n w (w'.setRow g ds) :=
  ⟨h.os, h.tape, h.output, by simpa using h.size, fun k hk => (setRow_other w' g k ds (by omega)).trans (h.block k hk)⟩
theorem bl1 (w : World) (cs1 : Array Value) (t1 : TypeId) :
    ∃ w0, w.alloc (.cells cs1 t1) = w0 ∧ Bl w0 w.heap.size cs1 t1 ∧ Below w.heap.size w w0 ∧ w.heap.size + 1 ≤ w0.heap.size := ⟨_, rfl, bl_new _ _ _, bo_alloc _ _, by simp⟩
theorem bl2 (w : World) (cs1 : Array Value) (t1 : TypeId) (cs2 : Array Value) (t2 : TypeId) :
    ∃ w0, (w.alloc (.cells cs1 t1)).alloc (.cells cs2 t2) = w0 ∧ Bl w0 w.heap.size cs1 t1 ∧ Bl w0 (w.heap.size + 1) cs2 t2 ∧ Below w.heap.size w w0 ∧ w.heap.size + 2 ≤ w0.heap.size := by
  refine ⟨_, rfl, (bl_new w cs1 t1).kept (bo_alloc _ _), ?_, bchain (bo_alloc _ _) (bo_alloc _ _), by simp⟩
  have := bl_new (w.alloc (.cells cs1 t1)) cs2 t2
  simpa using this
theorem bl3 (w : World) (cs1 : Array Value) (t1 : TypeId) (cs2 : Array Value) (t2 : TypeId) (cs3 : Array Value) (t3 : TypeId) :
    ∃ w0, ((w.alloc (.cells cs1 t1)).alloc (.cells cs2 t2)).alloc (.cells cs3 t3) = w0 ∧ Bl w0 w.heap.size cs1 t1 ∧ Bl w0 (w.heap.size + 1) cs2 t2 ∧ Bl w0 (w.heap.size + 1 + 1) cs3 t3 ∧ Below w.heap.size w w0 ∧ w.heap.size + 3 ≤ w0.heap.size := by
  obtain ⟨w1, rfl, h1, h2, hb, hs⟩ := bl2 w cs1 t1 cs2 t2
  refine ⟨_, rfl, h1.kept (bo_alloc _ _), h2.kept (bo_alloc _ _), ?_, bchain hb (bo_alloc _ _), by simp⟩
  have := bl_new ((w.alloc (.cells cs1 t1)).alloc (.cells cs2 t2)) cs3 t3
  simpa using this
theorem bl4 (w : World) (cs1 : Array Value) (t1 : TypeId) (cs2 : Array Value) (t2 : TypeId) (cs3 : Array Value) (t3 : TypeId) (cs4 : Array Value) (t4 : TypeId) :
    ∃ w0, (((w.alloc (.cells cs1 t1)).alloc (.cells cs2 t2)).alloc (.cells cs3 t3)).alloc (.cells cs4 t4) = w0 ∧ Bl w0 w.heap.size cs1 t1 ∧ Bl w0 (w.heap.size + 1) cs2 t2 ∧ Bl w0 (w.heap.size + 1 + 1) cs3 t3 ∧ Bl w0 (w.heap.size + 1 + 1 + 1) cs4 t4 ∧ Below w.heap.size w w0 ∧ w.heap.size + 4 ≤ w0.heap.size := by
  obtain ⟨w1, rfl, h1, h2, h3, hb, hs⟩ := bl3 w cs1 t1 cs2 t2 cs3 t3
  refine ⟨_, rfl, h1.kept (bo_alloc _ _), h2.kept (bo_alloc _ _), h3.kept (bo_alloc _ _), ?_, bchain hb (bo_alloc _ _), by simp⟩
  have := bl_new (((w.alloc (.cells cs1 t1)).alloc (.cells cs2 t2)).alloc (.cells cs3 t3)) cs4 t4
  simpa using this
end Go.Proofs.Ytdjadeegjbhihaa

/- What one wants: when it may be wanted, when it is nothing, the lesser of two; of the program and of the specification. -/
namespace Go.Proofs.Ytdjadeegjbhihaa
open Go.RowKit

/-- What one wants. -/
structure Opt where
  mode : Int
  win : Int
  mps : Int
  mtu : Int
  tri : Int
deriving DecidableEq
def Opt.zero : Opt := ⟨0, 0, 0, 0, 0⟩
def Opt.ok (o : Opt) : Bool := inB o.mode 1 2 && inB o.win 1 4 && inB o.mps 1 8 && inB o.mtu 1 24 && inB o.tri 1 5
def Opt.same (a b : Opt) : Bool := a.mode == b.mode && a.win == b.win && a.mps == b.mps && a.mtu == b.mtu && a.tri == b.tri
theorem Opt.same_iff (a b : Opt) : a.same b = true ↔ a = b := by
  obtain ⟨a1, a2, a3, a4, a5⟩ := a
  obtain ⟨b1, b2, b3, b4, b5⟩ := b
  simp [Opt.same, and_assoc]
def Opt.least (a b : Opt) : Opt := ⟨a.mode, min a.win b.win, min a.mps b.mps, min a.mtu b.mtu, min a.tri b.tri⟩
def meets (a b : Opt) : Bool := a.ok && b.ok && a.mode == b.mode
def meet (a b : Opt) : Opt := if meets a b then a.least b else Opt.zero

theorem opt_eq {a b : Opt} (h : a = b) : (.agg #[.int .i64 a.mode, .int .i64 a.win, .int .i64 a.mps, .int .i64 a.mtu, .int .i64 a.tri] : Value) = .agg #[.int .i64 b.mode, .int .i64 b.win, .int .i64 b.mps, .int .i64 b.mtu, .int .i64 b.tri] := by rw [h]
theorem ret_opt {a1 a2 a3 a4 a5 : Int} {b : Opt} (h1 : a1 = b.mode) (h2 : a2 = b.win) (h3 : a3 = b.mps) (h4 : a4 = b.mtu) (h5 : a5 = b.tri) : Ending.returned (.agg #[.int .i64 a1, .int .i64 a2, .int .i64 a3, .int .i64 a4, .int .i64 a5]) = .returned (.agg #[.int .i64 b.mode, .int .i64 b.win, .int .i64 b.mps, .int .i64 b.mtu, .int .i64 b.tri]) := by
  rw [h1, h2, h3, h4, h5]
theorem ret_meet {a1 a2 a3 a4 a5 : Int} {b : Opt} {x y : Bool} (h1 : a1 = b.mode) (h2 : a2 = b.win) (h3 : a3 = b.mps) (h4 : a4 = b.mtu) (h5 : a5 = b.tri) (h : x = y) : Ending.returned (.tuple #[.agg #[.int .i64 a1, .int .i64 a2, .int .i64 a3, .int .i64 a4, .int .i64 a5], .bool x]) = .returned (.tuple #[.agg #[.int .i64 b.mode, .int .i64 b.win, .int .i64 b.mps, .int .i64 b.mtu, .int .i64 b.tri], .bool y]) := by
  rw [h1, h2, h3, h4, h5, h]

theorem upto_any (n k : Int) (w : World) :
    Calls Try.prog 82 #[.int .i64 n, .int .i64 k] w fun e w' => e = .returned (.bool (inB n 1 k)) ∧ w' = w := by
  go_enter Try.func82, Try.ntmps82
  go_wp2
  all_goals
    go_ret
    refine ⟨ret_bool ?_, rfl⟩
    go_light
    rw [Bool.eq_iff_iff]
    simp only [inB_iff]
    grind
set_option maxHeartbeats 1000000 in
theorem impl_cfg (a : Opt) (w : World) :
    Calls Try.prog 48 #[.agg #[.int .i64 a.mode, .int .i64 a.win, .int .i64 a.mps, .int .i64 a.mtu, .int .i64 a.tri]] w fun e w' => e = .returned (.bool a.ok) ∧ Below w.heap.size w w' := by
  go_enter Try.func48, Try.ntmps48
  go_wp2_with (go_at_call 82; refine (upto_any _ _ _).mono ?_; rintro e w' ⟨rfl, rfl⟩)
  all_goals
    go_ret
    refine ⟨ret_bool ?_, (Below.refl _ _).alloc (Nat.le_refl _) _⟩
    go_light
    rw [Bool.eq_iff_iff]
    simp only [Opt.ok, Bool.and_eq_true, inB_iff, Bool.false_eq_true, false_iff] at *
    grind
theorem impl_cfg_v (m n p u t : Int) (w : World) :
    Calls Try.prog 48 #[.agg #[.int .i64 m, .int .i64 n, .int .i64 p, .int .i64 u, .int .i64 t]] w fun e w' => e = .returned (.bool (Opt.ok ⟨m, n, p, u, t⟩)) ∧ Below w.heap.size w w' := impl_cfg ⟨m, n, p, u, t⟩ w
set_option maxHeartbeats 1000000 in
theorem spec_cfg (a : Opt) (w : World) :
    Calls Try.prog 36 #[.agg #[.int .i64 a.mode, .int .i64 a.win, .int .i64 a.mps, .int .i64 a.mtu, .int .i64 a.tri]] w fun e w' => e = .returned (.bool a.ok) ∧ Below w.heap.size w w' := by
  go_enter Try.func36, Try.ntmps36
  go_wp2_with (go_at_call 40; refine (in_any _ _ _ _).mono ?_; rintro e w' ⟨rfl, rfl⟩)
  all_goals
    go_ret
    refine ⟨ret_bool ?_, (Below.refl _ _).alloc (Nat.le_refl _) _⟩
    go_light
    rw [Bool.eq_iff_iff]
    simp only [Opt.ok, Bool.and_eq_true, inB_iff, Bool.false_eq_true, false_iff] at *
    grind
theorem spec_cfg_v (m n p u t : Int) (w : World) :
    Calls Try.prog 36 #[.agg #[.int .i64 m, .int .i64 n, .int .i64 p, .int .i64 u, .int .i64 t]] w fun e w' => e = .returned (.bool (Opt.ok ⟨m, n, p, u, t⟩)) ∧ Below w.heap.size w w' := spec_cfg ⟨m, n, p, u, t⟩ w
end Go.Proofs.Ytdjadeegjbhihaa

/- What the laws ask at the end of a way: it is so. -/
namespace Go.Proofs.Ytdjadeegjbhihaa
open Go.RowKit
theorem li_ok (w : World) :
    Calls Try.prog 37 #[] w fun e w' => e = .returned (.bool true) ∧ Below w.heap.size w w' := by
  go_enter Try.func37, Try.ntmps37
  go_wp2_with (go_at_call 48; refine (impl_cfg_v _ _ _ _ _ _).mono ?_; rintro e w' ⟨rfl, b1⟩)
  go_ret
  exact ⟨rfl, b1⟩
end Go.Proofs.Ytdjadeegjbhihaa

/- Appending to a row of bytes that the call owns: what it reads then. -/
namespace Go.Proofs.Ytdjadeegjbhihaa
open Go.RowKit

theorem add_at (b off j : Nat) : (⟨b, off, none⟩ : Addr).add j = ⟨b, off + j, none⟩ := by
  by_cases h : j = 0
  · subst h; rfl
  · simp [Addr.add, h]

theorem wpList_app (w : World) {ops : Array Oper} {rest : List Oper} {o : Oper} {a : Act} {Q : Exit → Act → World → Prop} (hgd : o.guard = none) (s x : Operand)
    (ho : o.op = .call { callee := .builtin .append, args := #[s, x], argTypes := #[64, 64] }) (B : Nat) (v : Value) (zs : List Nat) (hs : a.eval s = v) (hown : Own w B v zs)
    (u : Value) (ys : List Nat) (hx : a.eval x = u) (hr : Rd w u ys) (hl : zs.length + ys.length ≤ 4000000) (hB : B ≤ w.heap.size)
    (h : ∀ v' w', Own w' B v' (zs ++ ys) → w.grownBy w' v.ownBlock → wpList Try.prog ops Q rest (a.put o.dst v') w') : wpList Try.prog ops Q (o :: rest) a w := by
  obtain ⟨i0, hi, hz0, hz1, hz2⟩ := info_parts Try.infoB
  obtain ⟨_, _, hr⟩ := hr
  have key : ∀ (ad : Addr) (c : Nat), u = .slice (some ad) ys.length c → (∀ j, j < ys.length → w.cell? (ad.add j) = some (.int .u8 ((ys.getD j 0 : Nat) : Int))) → wpList Try.prog ops Q (o :: rest) a w := by
    intro ad c hu hc
    refine wpList_append_own w hgd s x 64 ho B 5 i0 (.int .u8 0) 1 1 Try.underlying64 hi hz0 hz1 hz2 rfl (by decide) v zs.length (bcells zs) hs hown ad ys.length c (bcells ys) (by rw [hx, hu]) (by rw [bcells_length]; omega) ?_ (bcells_one ys) (by unfold maxLen; omega) (by omega) hB ?_
    · intro j q hj
      have hj2 : j < ys.length := by
        have := (List.getElem?_eq_some_iff.1 hj).1
        rwa [bcells_length] at this
      rw [bcells_get ys j hj2] at hj
      rw [hc j hj2, hj]
    · intro v' w' h1 h2 _
      refine h v' w' ?_ h2
      unfold Own
      rw [bcells_append, List.length_append]
      exact h1
  rcases hr with ⟨rfl, ad, c, rfl, hn⟩ | ⟨b, off, cap, rfl, _, _, _, hc⟩
  · cases ad with
    | some ad => exact key ad c rfl (fun j hj => by simp at hj)
    | none =>
      obtain rfl := hn rfl
      refine wpList_append_own_none hgd s x 64 ho B 5 i0 1 Try.underlying64 hi v zs.length (bcells zs) hs hown hx ?_
      exact h v w (by simpa using hown) ⟨rfl, rfl, rfl, Nat.le_refl _, fun _ _ _ => rfl⟩
  · exact key ⟨b, off, none⟩ cap rfl (fun j hj => by rw [add_at]; exact hc j hj)

/-- The same as one step of a statement whose order is open. -/
theorem step_app {ops : Array Oper} {o : Oper} {a : Act} {w : World} {K : Act → World → Prop} {Q : Exit → Act → World → Prop} {E : Prop} (hgd : o.guard = none) (s x : Operand)
    (ho : o.op = .call { callee := .builtin .append, args := #[s, x], argTypes := #[64, 64] }) (B : Nat) (v : Value) (zs : List Nat) (hs : a.eval s = v) (hown : Own w B v zs)
    (u : Value) (ys : List Nat) (hx : a.eval x = u) (hr : Rd w u ys) (hl : zs.length + ys.length ≤ 4000000) (hB : B ≤ w.heap.size)
    (h : ∀ v' w', Own w' B v' (zs ++ ys) → w.grownBy w' v.ownBlock → K (a.put o.dst v') w') : if Region.wanted o (yielded ops a.tmps) = true then Oper.wp Try.prog o a w K Q else E := by
  have hw : Region.wanted o (yielded ops a.tmps) = true := by simp [Region.wanted, hgd]
  rw [if_pos hw]
  obtain ⟨i0, hi, hz0, hz1, hz2⟩ := info_parts Try.infoB
  obtain ⟨_, _, hr⟩ := hr
  have key : ∀ (ad : Addr) (c : Nat), u = .slice (some ad) ys.length c → (∀ j, j < ys.length → w.cell? (ad.add j) = some (.int .u8 ((ys.getD j 0 : Nat) : Int))) → Oper.wp Try.prog o a w K Q := by
    intro ad c hu hc
    refine wp_append_own w s x 64 ho B 5 i0 (.int .u8 0) 1 1 Try.underlying64 hi hz0 hz1 hz2 rfl (by decide) v zs.length (bcells zs) hs hown ad ys.length c (bcells ys) (by rw [hx, hu]) (by rw [bcells_length]; omega) ?_ (bcells_one ys) (by unfold maxLen; omega) (by omega) hB ?_
    · intro j q hj
      have hj2 : j < ys.length := by
        have := (List.getElem?_eq_some_iff.1 hj).1
        rwa [bcells_length] at this
      rw [bcells_get ys j hj2] at hj
      rw [hc j hj2, hj]
    · intro v' w' h1 h2 _
      refine h v' w' ?_ h2
      unfold Own
      rw [bcells_append, List.length_append]
      exact h1
  rcases hr with ⟨rfl, ad, c, rfl, hn⟩ | ⟨b, off, cap, rfl, _, _, _, hc⟩
  · cases ad with
    | some ad => exact key ad c rfl (fun j hj => by simp at hj)
    | none =>
      obtain rfl := hn rfl
      have hrun := run_append_owned_none (P := Try.prog) (w := w) B 64 o.type 5 i0 1 Try.underlying64 hi v zs.length (bcells zs) hown
      unfold Oper.wp
      simp [execOp, ho, resolve, invoke, builtin, hs, hx, hrun, Result.andThen]
      exact h v w (by simpa using hown) ⟨rfl, rfl, rfl, Nat.le_refl _, fun _ _ _ => rfl⟩
  · exact key ⟨b, off, none⟩ cap rfl (fun j hj => by rw [add_at]; exact hc j hj)

theorem Rd.head {w : World} {b off cap m : Nat} {zs : List Nat} (n : Nat) (h : Rd w (.slice (some ⟨b, off, none⟩) m cap) zs) (hm : m = zs.length) (hn : n ≤ m) (h0 : 0 < m) : Rd w (.slice (some ⟨b, off, none⟩) n cap) (zs.take n) := by
  subst hm
  obtain ⟨h1, h2, h3⟩ := h
  have hl : (zs.take n).length = n := by rw [List.length_take]; omega
  refine ⟨h1.take n, by omega, .inr ⟨b, off, cap, by rw [hl], ?_, ?_, ?_, ?_⟩⟩
  all_goals
    rcases h3 with ⟨rfl, _⟩ | ⟨b', off', cap', e, h4, h5, h6, h7⟩
    · simp at h0
    · simp only [Value.slice.injEq, Option.some.injEq, Addr.mk.injEq, and_true, true_and] at e
      obtain ⟨⟨rfl, rfl⟩, rfl⟩ := e
      first
        | omega
        | (intro j hj
           rw [hl] at hj
           rw [h7 j (by omega)]
           simp [hj])

theorem own_none (w : World) (B : Nat) : Own w B (.slice none 0 0) [] := World.ownsRow_nil w B 5 1
theorem own_empty (w : World) (B : Nat) (hB : B ≤ w.heap.size) : Own (w.alloc (.cells #[] 5)) B (.slice (some ⟨w.heap.size, 0, none⟩) 0 0) [] :=
  World.ownsRow_lit (base := B) (e := 5) (size := 1) w #[] 0 hB (by unfold maxLen; omega) rfl
theorem rd_two (w : World) (x y : Nat) (hx : x < 256) (hy : y < 256) : Rd (w.alloc (.cells #[.int .u8 (x : Int), .int .u8 (y : Int)] 5)) (.slice (some ⟨w.heap.size, 0, none⟩) 2 2) [x, y] := by
  refine ⟨?_, by simp, .inr ⟨w.heap.size, 0, 2, rfl, by simp, by unfold maxLen; omega, by simp, ?_⟩⟩
  · intro z hz
    simp at hz
    omega
  · intro j hj
    match j, hj with
    | 0, _ => simp
    | 1, _ => simp
theorem Own.alloc {w : World} {B : Nat} {v : Value} {zs : List Nat} (h : Own w B v zs) (o : Obj) : Own (w.alloc o) B v zs := World.ownsRow.alloc h o
theorem Rd.alloc {w : World} {v : Value} {zs : List Nat} (h : Rd w v zs) (o : Obj) : Rd (w.alloc o) v zs := h.kept ((Below.refl _ _).alloc (Nat.le_refl _) o)
theorem run_cap (n : Nat) (hn : n ≤ 4000000) (w : World) : (Instr.makeSlice 64 (.int .i64 0) (.int .i64 (n : Int))).run Try.prog w = .ok (.slice (some ⟨w.heap.size, 0, none⟩) 0 n) (w.alloc (.cells (madeCells #[.int .u8 0] n) 5)) := by
  obtain ⟨i0, hi, hz0, hz1, hz2⟩ := info_parts Try.infoB
  have := run_make (P := Try.prog) w 64 5 i0 (.int .u8 0) Try.underlying64 hi hz0 .i64 .i64 0 (n : Int) (by omega) (by omega) (by rw [hz2]; omega) (by omega)
  rw [this, hz1]
  simp [Value.cells]
theorem own_cap (w : World) (B n : Nat) (hB : B ≤ w.heap.size) (hn : n ≤ 4000000) : Own (w.alloc (.cells (madeCells #[.int .u8 0] n) 5)) B (.slice (some ⟨w.heap.size, 0, none⟩) 0 n) [] :=
  World.ownsRow_made (base := B) (e := 5) (size := 1) w _ n hB (by unfold maxLen; omega) (by rw [size_madeCells]; omega)

theorem hide {p : Prop} (h : p) : Hid p := h
theorem unhide {p : Prop} (h : Hid p) : p := h
theorem own_apart {w1 w2 : World} {B1 B2 : Nat} {v1 v2 : Value} {z1 z2 : List Nat} (h1 : Own w1 B1 v1 z1) (hB : w1.heap.size ≤ B2) (h2 : Own w2 B2 v2 z2) : ∀ k, v1.ownBlock = some k → v2.ownBlock ≠ some k := by
  intro k e1 e2
  have a := (World.ownsRow.lt h1 k e1).2
  have b := (World.ownsRow.lt h2 k e2).1
  omega
theorem apart_symm {v1 v2 : Value} (h : ∀ k, v1.ownBlock = some k → v2.ownBlock ≠ some k) : ∀ k, v2.ownBlock = some k → v1.ownBlock ≠ some k := fun k e1 e2 => h k e2 e1
end Go.Proofs.Ytdjadeegjbhihaa

/- Frames as plain data: when one is ok. -/
namespace Go.Proofs.Ytdjadeegjbhihaa
open Go.RowKit

/-- A piece is ok. -/
def pieceB (seg len : Int) (n : Nat) : Bool := decide (n ≤ 8 ∧ ((seg = 0 ∧ len = n) ∨ (seg = 1 ∧ 1 ≤ n ∧ (n : Int) < len ∧ len ≤ 24) ∨ ((seg = 2 ∨ seg = 3) ∧ 1 ≤ n ∧ len = 0)))
/-- A frame is ok. -/
def frmB (kind seq ack : Int) (poll final : Bool) (say seg len : Int) (n : Nat) : Bool := decide (
  (kind = 1 ∧ (0 ≤ seq ∧ seq ≤ 7) ∧ (0 ≤ ack ∧ ack ≤ 7) ∧ poll = false ∧ say = 0 ∧ pieceB seg len n = true) ∨
  (kind = 2 ∧ seq = 0 ∧ (0 ≤ ack ∧ ack ≤ 7) ∧ ¬ (poll = true ∧ final = true) ∧ (0 ≤ say ∧ say ≤ 2) ∧ seg = 0 ∧ len = 0 ∧ n = 0) ∨
  (kind = 3 ∧ seq = 0 ∧ ack = 0 ∧ poll = false ∧ final = false ∧ say = 0 ∧ pieceB seg len n = true) ∨
  (kind = 4 ∧ seq = 0 ∧ ack = 0 ∧ poll = false ∧ final = false ∧ say = 0 ∧ seg = 0 ∧ (1 ≤ len ∧ len ≤ 255) ∧ n = 0))

theorem Rd.form {w : World} {v : Value} {zs : List Nat} (h : Rd w v zs) : ∃ a cap, v = .slice a zs.length cap := by
  rcases h.2.2 with ⟨rfl, a, c, rfl, _⟩ | ⟨b, off, cap, rfl, _⟩
  · exact ⟨_, _, rfl⟩
  · exact ⟨_, _, rfl⟩
theorem bool_of_iff {a b : Bool} (h : a = true ↔ b = true) : a = b := by
  cases a <;> cases b <;> simp_all
end Go.Proofs.Ytdjadeegjbhihaa

/- More on rows of bytes that the call owns, on boxed variables, and on what lies in old blocks. -/
namespace Go.Proofs.Ytdjadeegjbhihaa
open Go.RowKit

theorem Own.base {w : World} {B C : Nat} {v : Value} {zs : List Nat} (h : Own w B v zs) (hc : C ≤ B) : Own w C v zs := by
  refine ⟨h.1, ?_⟩
  rcases h.2 with h0 | ⟨g, cap, cur, e, hb, r⟩
  · exact .inl h0
  · exact .inr ⟨g, cap, cur, e, Nat.le_trans hc hb, r⟩
theorem Own.set {w : World} {B : Nat} {v : Value} {zs : List Nat} (h : Own w B v zs) (b o : Nat) (x : Value) (hb : b < B) : Own (w.setCell ⟨b, o, none⟩ x) B v zs := ownsRow_setCell_below h hb x
/-- Cells of old blocks behind a call. -/
theorem old_cell {W w1 : World} (hb : Below W.heap.size W w1) (b : Nat) (h : b < W.heap.size) : ∀ o, w1.cell? ⟨b, o, none⟩ = W.cell? ⟨b, o, none⟩ := fun o => hb.cell (p := ⟨b, o, none⟩) h
theorem old_frozen {W w1 : World} (hb : Below W.heap.size W w1) (b : Nat) (h : b < W.heap.size) : ∀ o, w1.frozen? ⟨b, o, none⟩ = W.frozen? ⟨b, o, none⟩ := fun o => hb.frozen (p := ⟨b, o, none⟩) h

theorem box_kept {w : World} {o : Obj} {w' : World} (h : Below (w.alloc o).heap.size (w.alloc o) w') : ∀ k, w'.cell? ⟨w.heap.size, k, none⟩ = (w.alloc o).cell? ⟨w.heap.size, k, none⟩ :=
  fun k => h.cell (p := ⟨w.heap.size, k, none⟩) (by simp)
theorem box_below {w : World} {o : Obj} {w' : World} (h : Below (w.alloc o).heap.size (w.alloc o) w') : Below w.heap.size w w' :=
  ((Below.refl _ _).alloc (Nat.le_refl _) _).trans (Below.mono h (by simp))
/-- The block b holds these cells. -/
def Cel (w : World) (b : Nat) (cs : Array Value) : Prop := b < w.heap.size ∧ ∀ k, w.cell? ⟨b, k, none⟩ = cs[k]?
theorem Cel.kept {w w' : World} {b : Nat} {cs : Array Value} (h : Cel w b cs) (hb : Below w.heap.size w w') : Cel w' b cs := ⟨Nat.lt_of_lt_of_le h.1 hb.size, fun k => (hb.cell (p := ⟨b, k, none⟩) h.1).trans (h.2 k)⟩
theorem Cel.other {w w' : World} {b : Nat} {cs : Array Value} {r : Option Nat} (h : Cel w b cs) (hg : w.grownBy w' r) (hne : some b ≠ r) : Cel w' b cs :=
  ⟨Nat.lt_of_lt_of_le h.1 hg.size, fun k => (World.cell?_of_block (a := ⟨b, k, none⟩) (hg.block b h.1 hne)).trans (h.2 k)⟩
theorem cel_box (w : World) (cs : Array Value) (t : TypeId) : Cel (w.alloc (.cells cs t)) w.heap.size cs := ⟨by simp, fun k => by simp⟩
theorem own_box_apart {w : World} {B : Nat} {v : Value} {zs : List Nat} (h : Own w B v zs) {b : Nat} (hb : b < B ∨ w.heap.size ≤ b) : some b ≠ v.ownBlock := by
  intro e
  have := World.ownsRow.lt h b e.symm
  omega

theorem rd_cells (w : World) (l : List Nat) (hb : Byt l) (hl : l.length ≤ 2000000) : Rd (w.alloc (.cells (bcells l).toArray 5)) (.slice (some ⟨w.heap.size, 0, none⟩) l.length l.length) l := by
  refine ⟨hb, hl, .inr ⟨w.heap.size, 0, l.length, rfl, Nat.le_refl _, by unfold maxLen; omega, by simp, fun j hj => ?_⟩⟩
  have := bcells_get l j hj
  simp [this]
theorem own_cells (w : World) (B : Nat) (l : List Nat) (hB : B ≤ w.heap.size) (hl : l.length ≤ 2000000) : Own (w.alloc (.cells (bcells l).toArray 5)) B (.slice (some ⟨w.heap.size, 0, none⟩) l.length l.length) l := by
  have := World.ownsRow_lit (base := B) (e := 5) (size := 1) w (bcells l).toArray l.length hB (by unfold maxLen; omega) (by simp [bcells_length])
  simpa [Own] using this
/-- The block b holds these cells, and they may be written. -/
def CelF (w : World) (b : Nat) (cs : Array Value) : Prop := b < w.heap.size ∧ (∀ k, w.cell? ⟨b, k, none⟩ = cs[k]?) ∧ ∀ k, w.frozen? ⟨b, k, none⟩ = false
theorem CelF.kept {w w' : World} {b : Nat} {cs : Array Value} (h : CelF w b cs) (hb : Below w.heap.size w w') : CelF w' b cs :=
  ⟨Nat.lt_of_lt_of_le h.1 hb.size, fun k => (hb.cell (p := ⟨b, k, none⟩) h.1).trans (h.2.1 k), fun k => (hb.frozen (p := ⟨b, k, none⟩) h.1).trans (h.2.2 k)⟩
theorem CelF.other {w w' : World} {b : Nat} {cs : Array Value} {r : Option Nat} (h : CelF w b cs) (hg : w.grownBy w' r) (hne : some b ≠ r) : CelF w' b cs :=
  ⟨Nat.lt_of_lt_of_le h.1 hg.size, fun k => (World.cell?_of_block (a := ⟨b, k, none⟩) (hg.block b h.1 hne)).trans (h.2.1 k), fun k => (World.frozen?_of_block (a := ⟨b, k, none⟩) (hg.block b h.1 hne)).trans (h.2.2 k)⟩
theorem celF_box (w : World) (cs : Array Value) (t : TypeId) : CelF (w.alloc (.cells cs t)) w.heap.size cs := ⟨by simp, fun k => by simp, fun k => by simp⟩
theorem grown_step {w0 w1 w2 : World} {r : Option Nat} (h : w0.grownBy w1 r) (k : w1.grownBy w2 r) : w0.grownBy w2 r :=
  ⟨k.os.trans h.os, k.tape.trans h.tape, k.output.trans h.output, Nat.le_trans h.size k.size, fun q hq hne => (k.block q (Nat.lt_of_lt_of_le hq h.size) hne).trans (h.block q hq hne)⟩
theorem grown_fresh {w0 w1 w2 : World} {r u : Option Nat} (h : w0.grownBy w1 r) (k : w1.grownBy w2 u) (hu : ∀ q, u = some q → w0.heap.size ≤ q) : w0.grownBy w2 r :=
  ⟨k.os.trans h.os, k.tape.trans h.tape, k.output.trans h.output, Nat.le_trans h.size k.size, fun q hq hne => (k.block q (Nat.lt_of_lt_of_le hq h.size) (fun e => by have := hu q e.symm; omega)).trans (h.block q hq hne)⟩
theorem grown_alloc' (w : World) (o : Obj) (r : Option Nat) : w.grownBy (w.alloc o) r := ⟨rfl, rfl, rfl, by simp, fun q hq _ => ((Below.refl w.heap.size w).alloc (Nat.le_refl _) o).block q hq⟩
theorem grown_set (w : World) (b o : Nat) (x : Value) : w.grownBy (w.setCell ⟨b, o, none⟩ x) (some b) :=
  ⟨rfl, rfl, rfl, by simp, fun k _ hne => Below.heap_setCell w _ x k (fun e => hne (by rw [e]))⟩
theorem cell_far {w : World} {p q : Addr} {x : Value} (h : p ≠ q) : (w.setCell p x).cell? q = w.cell? q := by
  apply World.cell?_setCell_other
  exact h
theorem cell_here {w : World} {p : Addr} {x u : Value} (h : w.cell? p = some u) : (w.setCell p x).cell? p = some x := by
  apply World.cell?_setCell_same
  exact h
theorem CelF.put {w : World} {b : Nat} {cs : Array Value} (h : CelF w b cs) (i : Nat) (hi : i < cs.size) (x : Value) : CelF (w.setCell ⟨b, i, none⟩ x) b (cs.setIfInBounds i x) := by
  refine ⟨by simpa using h.1, fun k => ?_, fun k => by simpa using h.2.2 k⟩
  by_cases e : k = i
  · subst e
    have : w.cell? ⟨b, k, none⟩ = some cs[k] := by rw [h.2.1 k]; exact Array.getElem?_eq_getElem hi
    rw [cell_here this]
    simp [hi]
  · rw [cell_far (by intro e'; simp only [Addr.mk.injEq] at e'; omega), h.2.1 k, Array.getElem?_setIfInBounds_ne (Ne.symm e)]
theorem Own.far {w : World} {B : Nat} {v : Value} {zs : List Nat} (h : Own w B v zs) (b o : Nat) (x : Value) (hne : some b ≠ v.ownBlock) : Own (w.setCell ⟨b, o, none⟩ x) B v zs :=
  h.other (u := .slice (some ⟨b, 0, none⟩) 0 0) (grown_set w b o x) (fun k e e' => hne (by rw [e, ← e']; rfl))
theorem CelF.far {w : World} {b : Nat} {cs : Array Value} (h : CelF w b cs) (c o : Nat) (x : Value) (hne : b ≠ c) : CelF (w.setCell ⟨c, o, none⟩ x) b cs :=
  h.other (grown_set w c o x) (fun e => hne (Option.some.inj e))
/-- A row of bytes is no block of another type. -/
theorem own_type {w : World} {B : Nat} {v : Value} {zs : List Nat} (h : Own w B v zs) {k t : Nat} {cs : Array Value} {f : Nat × Nat} (hk : w.heap[k]? = some (.cells cs t f)) (ht : t ≠ 5) : some k ≠ v.ownBlock := by
  intro e
  rcases h.2 with ⟨rfl, _⟩ | ⟨g, cap, cur, rfl, _, hg, _⟩
  · cases e
  · obtain rfl : k = g := Option.some.inj e
    rw [hg] at hk
    simp only [Option.some.injEq, Obj.cells.injEq] at hk
    exact ht hk.2.1.symm
theorem Own.form {w : World} {B : Nat} {v : Value} {zs : List Nat} (h : Own w B v zs) : ∃ a c, v = .slice a zs.length c := by
  rcases h.2 with ⟨h, h0⟩ | ⟨g, cap, cur, h, _⟩
  · exact ⟨_, _, by rw [h, h0]⟩
  · exact ⟨_, _, h⟩
/-- The block g holds cells of type t. -/
def Typ (w : World) (g t : Nat) : Prop := ∃ cs f, w.heap[g]? = some (.cells cs t f)
theorem Typ.lt {w : World} {g t : Nat} (h : Typ w g t) : g < w.heap.size := by
  obtain ⟨cs, f, h⟩ := h
  exact (Array.getElem?_eq_some_iff.1 h).1
theorem Typ.kept {w w' : World} {g t : Nat} (h : Typ w g t) (hb : Below w.heap.size w w') : Typ w' g t := by
  have hl := h.lt
  obtain ⟨cs, f, h⟩ := h
  exact ⟨cs, f, (hb.block g hl).trans h⟩
theorem Typ.below {w w' : World} {B g t : Nat} (h : Typ w g t) (hb : Below B w w') (hg : g < B) : Typ w' g t := by
  obtain ⟨cs, f, h⟩ := h
  exact ⟨cs, f, (hb.block g hg).trans h⟩
theorem Typ.other {w w' : World} {g t : Nat} {r : Option Nat} (h : Typ w g t) (hg : w.grownBy w' r) (hne : some g ≠ r) : Typ w' g t := by
  have hl := h.lt
  obtain ⟨cs, f, h⟩ := h
  exact ⟨cs, f, (hg.block g hl hne).trans h⟩
theorem Typ.set {w : World} {g t : Nat} (h : Typ w g t) (p : Addr) (x : Value) : Typ (w.setCell p x) g t := by
  obtain ⟨cs, f, h⟩ := h
  unfold Typ World.setCell
  simp only [Array.getElem?_modify]
  split
  · rw [h]; exact ⟨_, _, rfl⟩
  · exact ⟨cs, f, h⟩
theorem Typ.row {w : World} {g t B : Nat} {v : Value} {zs : List Nat} (h : Typ w g t) (ho : Own w B v zs) (ht : t ≠ 5) : some g ≠ v.ownBlock := by
  obtain ⟨cs, f, h⟩ := h
  exact own_type ho h ht
theorem typ_box (w : World) (cs : Array Value) (t : TypeId) : Typ (w.alloc (.cells cs t)) w.heap.size t := ⟨cs, (0, 0), by show (w.heap.push _)[w.heap.size]? = _; simp⟩
theorem heap_new (w : World) (cs : Array Value) (t : TypeId) : (w.alloc (.cells cs t)).heap[w.heap.size]? = some (.cells cs t (0, 0)) := by
  show (w.heap.push _)[w.heap.size]? = _
  simp
end Go.Proofs.Ytdjadeegjbhihaa

/- A piece by itself: when it is ok, of the program and of the specification. -/
namespace Go.Proofs.Ytdjadeegjbhihaa
open Go.RowKit

set_option maxHeartbeats 1000000 in
theorem piece_any (seg len : Int) (a : Option Addr) (n cap : Nat) (w : World) :
    Calls Try.prog 115 #[.agg #[.int .i64 seg, .int .i64 len, .slice a n cap]] w fun e w' => e = .returned (.bool (pieceB seg len n)) ∧ Below w.heap.size w w' := by
  go_enter Try.func115, Try.ntmps115
  go_wp2
  all_goals
    go_ret
    refine ⟨ret_bool ?_, (Below.refl _ _).alloc (Nat.le_refl _) _⟩
    go_light
    rw [Bool.eq_iff_iff]
    simp only [pieceB, decide_eq_true_eq]
    grind
set_option maxHeartbeats 2000000 in
theorem spec_seg (kind seq ack : Int) (poll final : Bool) (say seg len : Int) (a : Option Addr) (n cap : Nat) (w : World) :
    Calls Try.prog 113 #[.agg #[.int .i64 kind, .int .i64 seq, .int .i64 ack, .bool poll, .bool final, .int .i64 say, .int .i64 seg, .int .i64 len, .slice a n cap]] w fun e w' => e = .returned (.bool (pieceB seg len n)) ∧ Below w.heap.size w w' := by
  go_enter Try.func113, Try.ntmps113
  go_wp2_with (go_at_call 40; refine (in_any _ _ _ _).mono ?_; rintro e w' ⟨rfl, rfl⟩)
  all_goals
    go_ret
    refine ⟨ret_bool ?_, (Below.refl _ _).alloc (Nat.le_refl _) _⟩
    go_light
    rw [Bool.eq_iff_iff]
    simp only [pieceB, inB_iff, decide_eq_true_eq, beq_iff_eq, beq_eq_false_iff_ne, Bool.false_eq_true, true_iff, false_iff, ne_eq] at *
    omega
set_option maxHeartbeats 1000000 in
theorem impl_part (seg len : Int) (a : Option Addr) (n cap : Nat) (w : World) :
    Calls Try.prog 83 #[.agg #[.int .i64 seg, .int .i64 len, .slice a n cap]] w fun e w' => e = .returned (.bool (pieceB seg len n)) ∧ Below w.heap.size w w' := by
  go_enter Try.func83, Try.ntmps83
  go_wp2_with (go_at_call 115; refine (piece_any _ _ _ _ _ _).mono ?_; rintro e w' ⟨rfl, hb⟩)
  go_ret
  exact ⟨rfl, box_below hb⟩
set_option maxHeartbeats 1000000 in
theorem spec_part (seg len : Int) (a : Option Addr) (n cap : Nat) (w : World) :
    Calls Try.prog 77 #[.agg #[.int .i64 seg, .int .i64 len, .slice a n cap]] w fun e w' => e = .returned (.bool (pieceB seg len n)) ∧ Below w.heap.size w w' := by
  go_enter Try.func77, Try.ntmps77
  go_wp2_with (go_at_call 113; refine (spec_seg _ _ _ _ _ _ _ _ _ _ _ _).mono ?_; rintro e w' ⟨rfl, hb⟩)
  go_ret
  exact ⟨rfl, box_below hb⟩
end Go.Proofs.Ytdjadeegjbhihaa

/- A piece as plain data: its place, its message's length, its bytes. -/
namespace Go.Proofs.Ytdjadeegjbhihaa
abbrev Dat := Int × Int × List Nat
end Go.Proofs.Ytdjadeegjbhihaa

/- The program's own test whether something is a number. -/
namespace Go.Proofs.Ytdjadeegjbhihaa
open Go.RowKit

theorem number_any (n : Int) (w : World) :
    Calls Try.prog 79 #[.int .i64 n] w fun e w' => e = .returned (.bool (inB n 0 7)) ∧ w' = w := by
  go_enter Try.func79, Try.ntmps79
  go_wp2
  all_goals
    go_ret
    refine ⟨ret_bool ?_, rfl⟩
    go_light
    rw [Bool.eq_iff_iff]
    simp only [inB_iff]
    grind
end Go.Proofs.Ytdjadeegjbhihaa

/- Numbers that come round: what the program's and the specification's functions answer, at every number; the world stays. -/
namespace Go.Proofs.Ytdjadeegjbhihaa
open Go.RowKit

theorem tmod8 (n : Int) : n.tmod 8 = if 0 ≤ n ∨ n % 8 = 0 then n % 8 else n % 8 - 8 := by
  rw [Int.tmod_eq_emod]
  split <;> split <;> omega

theorem impl_round (n : Int) (w : World) :
    Calls Try.prog 81 #[.int .i64 n] w fun e w' => e = .returned (.int .i64 (n % 8)) ∧ w' = w := by
  have ht := tmod8 n
  by_cases h : 0 ≤ n ∨ n % 8 = 0
  · rw [if_pos h] at ht
    go_enter Try.func81, Try.ntmps81
    go_wp2
    all_goals (go_ret; refine ⟨ret_int ?_, rfl⟩; omega)
  · rw [if_neg h] at ht
    go_enter Try.func81, Try.ntmps81
    go_wp2
    all_goals (go_ret; refine ⟨ret_int ?_, rfl⟩; omega)

theorem impl_farto (a b : Int) (ha : 0 ≤ a ∧ a < 8) (hb : 0 ≤ b ∧ b < 8) (w : World) :
    Calls Try.prog 80 #[.int .i64 a, .int .i64 b] w fun e w' => e = .returned (.int .i64 ((b - a) % 8)) ∧ w' = w := by
  go_enter Try.func80, Try.ntmps80
  go_wp2_with (go_at_call 81; refine (impl_round _ _).mono ?_; rintro e w' ⟨rfl, rfl⟩)
  go_ret
  exact ⟨ret_int (by omega), rfl⟩

theorem impl_far (a b : Int) (ha : 0 ≤ a ∧ a < 8) (hb : 0 ≤ b ∧ b < 8) (w : World) :
    Calls Try.prog 45 #[.int .i64 a, .int .i64 b] w fun e w' => e = .returned (.int .i64 ((b - a) % 8)) ∧ w' = w := by
  have h1 : inB a 0 7 = true := (inB_iff _ _ _).2 (by omega)
  have h2 : inB b 0 7 = true := (inB_iff _ _ _).2 (by omega)
  go_enter Try.func45, Try.ntmps45
  go_wp2_with (first
    | (go_at_call 79; refine (number_any _ _).mono ?_; rintro e w' ⟨rfl, rfl⟩)
    | (go_at_call 80; refine (impl_farto _ _ ha hb _).mono ?_; rintro e w' ⟨rfl, rfl⟩))
  all_goals (go_ret; exact ⟨rfl, rfl⟩)
theorem impl_far_no (a b : Int) (h : inB a 0 7 = false ∨ inB b 0 7 = false) (w : World) :
    Calls Try.prog 45 #[.int .i64 a, .int .i64 b] w fun e w' => e = .returned (.int .i64 (-1)) ∧ w' = w := by
  cases h1 : inB a 0 7
  · go_enter Try.func45, Try.ntmps45
    go_wp2_with (go_at_call 79; refine (number_any _ _).mono ?_; rintro e w' ⟨rfl, rfl⟩)
    go_ret
    exact ⟨rfl, rfl⟩
  · have h2 : inB b 0 7 = false := by simpa [h1] using h
    go_enter Try.func45, Try.ntmps45
    go_wp2_with (go_at_call 79; refine (number_any _ _).mono ?_; rintro e w' ⟨rfl, rfl⟩)
    go_ret
    exact ⟨rfl, rfl⟩

theorem spec_far (a b : Int) (ha : 0 ≤ a ∧ a < 8) (hb : 0 ≤ b ∧ b < 8) (w : World) :
    Calls Try.prog 41 #[.int .i64 a, .int .i64 b] w fun e w' => e = .returned (.int .i64 ((b - a) % 8)) ∧ w' = w := by
  have h1 : inB a 0 7 = true := (inB_iff _ _ _).2 (by omega)
  have h2 : inB b 0 7 = true := (inB_iff _ _ _).2 (by omega)
  have ht : (b - a + 8).tmod 8 = (b - a) % 8 := by
    rw [tmod8, if_pos (by omega)]; omega
  go_enter Try.func41, Try.ntmps41
  go_wp2_with (go_at_call 40; refine (in_any _ _ _ _).mono ?_; rintro e w' ⟨rfl, rfl⟩)
  go_ret
  exact ⟨ret_int (by omega), rfl⟩
theorem spec_far_no (a b : Int) (h : inB a 0 7 = false ∨ inB b 0 7 = false) (w : World) :
    Calls Try.prog 41 #[.int .i64 a, .int .i64 b] w fun e w' => e = .returned (.int .i64 (-1)) ∧ w' = w := by
  cases h1 : inB a 0 7
  · go_enter Try.func41, Try.ntmps41
    go_wp2_with (go_at_call 40; refine (in_any _ _ _ _).mono ?_; rintro e w' ⟨rfl, rfl⟩)
    go_ret
    exact ⟨rfl, rfl⟩
  · have h2 : inB b 0 7 = false := by simpa [h1] using h
    go_enter Try.func41, Try.ntmps41
    go_wp2_with (go_at_call 40; refine (in_any _ _ _ _).mono ?_; rintro e w' ⟨rfl, rfl⟩)
    go_ret
    exact ⟨rfl, rfl⟩

theorem impl_numof (n : Int) (h : 0 ≤ n) (w : World) :
    Calls Try.prog 46 #[.int .i64 n] w fun e w' => e = .returned (.int .i64 (n % 8)) ∧ w' = w := by
  go_enter Try.func46, Try.ntmps46
  go_wp2_with (go_at_call 81; refine (impl_round _ _).mono ?_; rintro e w' ⟨rfl, rfl⟩)
  go_ret
  exact ⟨ret_int (by omega), rfl⟩
theorem impl_numof_no (n : Int) (h : n < 0) (w : World) :
    Calls Try.prog 46 #[.int .i64 n] w fun e w' => e = .returned (.int .i64 (-1)) ∧ w' = w := by
  go_enter Try.func46, Try.ntmps46
  go_wp2
  go_ret
  exact ⟨rfl, rfl⟩
theorem spec_numof (n : Int) (h : 0 ≤ n) (w : World) :
    Calls Try.prog 42 #[.int .i64 n] w fun e w' => e = .returned (.int .i64 (n % 8)) ∧ w' = w := by
  have ht : n.tmod 8 = n % 8 := by rw [tmod8, if_pos (by omega)]
  go_enter Try.func42, Try.ntmps42
  go_wp2
  go_ret
  exact ⟨ret_int (by omega), rfl⟩
theorem spec_numof_no (n : Int) (h : n < 0) (w : World) :
    Calls Try.prog 42 #[.int .i64 n] w fun e w' => e = .returned (.int .i64 (-1)) ∧ w' = w := by
  go_enter Try.func42, Try.ntmps42
  go_wp2
  go_ret
  exact ⟨rfl, rfl⟩
end Go.Proofs.Ytdjadeegjbhihaa

/- The number behind one, and so many on: of the program and of the specification. -/
namespace Go.Proofs.Ytdjadeegjbhihaa
open Go.RowKit

/-- How far it is from one number on to another one; -1 if one of both is none. -/
def farF (a b : Int) : Int := if inB a 0 7 && inB b 0 7 then (b - a) % 8 else -1
theorem farF_in {a b : Int} (ha : 0 ≤ a ∧ a < 8) (hb : 0 ≤ b ∧ b < 8) : farF a b = (b - a) % 8 := by
  have h1 : inB a 0 7 = true := (inB_iff _ _ _).2 (by omega)
  have h2 : inB b 0 7 = true := (inB_iff _ _ _).2 (by omega)
  simp [farF, h1, h2]
theorem farF_out {a b : Int} (h : inB a 0 7 = false ∨ inB b 0 7 = false) : farF a b = -1 := by
  rcases h with h | h <;> simp [farF, h]
theorem far_cases (a b : Int) : ((0 ≤ a ∧ a < 8) ∧ (0 ≤ b ∧ b < 8) ∧ farF a b = (b - a) % 8) ∨ ((inB a 0 7 = false ∨ inB b 0 7 = false) ∧ farF a b = -1 ∧ (a < 0 ∨ 8 ≤ a ∨ b < 0 ∨ 8 ≤ b)) := by
  by_cases h : inB a 0 7 = false ∨ inB b 0 7 = false
  · refine .inr ⟨h, farF_out h, ?_⟩
    simp only [inB_not] at h
    omega
  · have h1 : inB a 0 7 = true := by simpa using fun h1 => h (.inl h1)
    have h2 : inB b 0 7 = true := by simpa using fun h2 => h (.inr h2)
    rw [inB_iff] at h1 h2
    exact .inl ⟨by omega, by omega, farF_in (by omega) (by omega)⟩
theorem impl_far_any (a b : Int) (w : World) :
    Calls Try.prog 45 #[.int .i64 a, .int .i64 b] w fun e w' => e = .returned (.int .i64 (farF a b)) ∧ w' = w := by
  rcases far_cases a b with ⟨ha, hb, e⟩ | ⟨h, e, _⟩
  · rw [e]; exact impl_far a b ha hb w
  · rw [e]; exact impl_far_no a b h w
theorem spec_far_any (a b : Int) (w : World) :
    Calls Try.prog 41 #[.int .i64 a, .int .i64 b] w fun e w' => e = .returned (.int .i64 (farF a b)) ∧ w' = w := by
  rcases far_cases a b with ⟨ha, hb, e⟩ | ⟨h, e, _⟩
  · rw [e]; exact spec_far a b ha hb w
  · rw [e]; exact spec_far_no a b h w
end Go.Proofs.Ytdjadeegjbhihaa

/- Lists of pieces in memory: a row of structs that the call owns, each with a row of bytes that it owns, no two in one block. -/
namespace Go.Proofs.Ytdjadeegjbhihaa
open Go.RowKit

/-- A piece as it lies in memory: what it is, how long the message is, where its bytes are, and these. -/
structure Pc where
  seg : Int
  len : Int
  u : Value
  bs : List Nat
/-- Its cells. -/
def Pc.cells (q : Pc) : List Value := [.int .i64 q.seg, .int .i64 q.len, q.u]
def pcells (qs : List Pc) : List Value := qs.flatMap Pc.cells
theorem pcells_cons (q : Pc) (qs : List Pc) : pcells (q :: qs) = q.cells ++ pcells qs := by simp [pcells]
theorem pcells_append (a b : List Pc) : pcells (a ++ b) = pcells a ++ pcells b := by simp [pcells]
theorem pcells_length (qs : List Pc) : (pcells qs).length = qs.length * 3 := by
  induction qs with
  | nil => rfl
  | cons q r ih => rw [pcells_cons, List.length_append, ih]; simp [Pc.cells]; omega
theorem pcells_at (a : List Pc) (q : Pc) (b : List Pc) (c : Nat) (hc : c < 3) : (pcells (a ++ q :: b))[a.length * 3 + c]? = q.cells[c]? := by
  rw [pcells_append, pcells_cons, List.getElem?_append_right (by rw [pcells_length]; omega), pcells_length, show a.length * 3 + c - a.length * 3 = c by omega, List.getElem?_append_left (by simpa [Pc.cells] using hc)]
theorem pcells_set (a : List Pc) (q q' : Pc) (b : List Pc) (c : Nat) (hc : c < 3) (x : Value) (h : q.cells.set c x = q'.cells) : (pcells (a ++ q :: b)).set (a.length * 3 + c) x = pcells (a ++ q' :: b) := by
  rw [pcells_append, pcells_cons, List.set_append_right _ _ (by rw [pcells_length]; omega), pcells_length, show a.length * 3 + c - a.length * 3 = c by omega, List.set_append_left _ _ (by simpa [Pc.cells] using hc), h, pcells_append, pcells_cons]
/-- No block bears both. -/
def Apart (v u : Value) : Prop := ∀ k, v.ownBlock = some k → u.ownBlock ≠ some k
theorem Apart.symm {v u : Value} (h : Apart v u) : Apart u v := fun k e1 e2 => h k e2 e1

/-- The call owns, from block B on, the list of pieces qs. -/
def OwnP (w : World) (B : Nat) (v : Value) (qs : List Pc) : Prop :=
  w.ownsRow B 115 3 v qs.length (pcells qs) ∧ (∀ q ∈ qs, Own w B q.u q.bs) ∧ qs.Pairwise fun p q => Apart p.u q.u
/-- What is told of pieces. -/
def Pc.dat (q : Pc) : Int × Int × List Nat := (q.seg, q.len, q.bs)

theorem OwnP.kept {w w' : World} {B : Nat} {v : Value} {qs : List Pc} (h : OwnP w B v qs) (hb : Below w.heap.size w w') : OwnP w' B v qs :=
  ⟨World.ownsRow.kept h.1 (below_grown hb) (by cases v.ownBlock <;> simp), fun q hq => (h.2.1 q hq).kept hb, h.2.2⟩
theorem OwnP.base {w : World} {B C : Nat} {v : Value} {qs : List Pc} (h : OwnP w B v qs) (hc : C ≤ B) : OwnP w C v qs := by
  refine ⟨⟨h.1.1, ?_⟩, fun q hq => (h.2.1 q hq).base hc, h.2.2⟩
  rcases h.1.2 with h0 | ⟨g, cap, cur, e, hb, r⟩
  · exact .inl h0
  · exact .inr ⟨g, cap, cur, e, Nat.le_trans hc hb, r⟩
/-- What lies below its blocks may change. -/
theorem OwnP.lower {w w' : World} {B : Nat} {v : Value} {qs : List Pc} {r : Option Nat} (h : OwnP w B v qs) (hg : w.grownBy w' r) (hr : ∀ k, r = some k → k < B) : OwnP w' B v qs := by
  have key : ∀ (u : Value), (∀ k, u.ownBlock = some k → B ≤ k) → u.ownBlock = none ∨ u.ownBlock ≠ r := by
    intro u hu
    cases e : u.ownBlock with
    | none => exact .inl rfl
    | some k =>
      refine .inr (fun e' => ?_)
      have a := hu k e
      have b := hr k e'.symm
      omega
  exact ⟨World.ownsRow.kept h.1 hg (key v fun k e => (World.ownsRow.lt h.1 k e).1), fun q hq => World.ownsRow.kept (h.2.1 q hq) hg (key q.u fun k e => (World.ownsRow.lt (h.2.1 q hq) k e).1), h.2.2⟩
/-- A row of bytes that is none of its own may change. -/
theorem OwnP.byRow {w w' : World} {B C : Nat} {v u : Value} {qs : List Pc} {zs : List Nat} (h : OwnP w B v qs) (ho : Own w C u zs) (hap : ∀ p ∈ qs, Apart p.u u) (hg : w.grownBy w' u.ownBlock) : OwnP w' B v qs := by
  refine ⟨World.ownsRow.kept h.1 hg ?_, fun q hq => World.ownsRow.kept (h.2.1 q hq) hg ?_, h.2.2⟩
  · rcases h.1.2 with ⟨hv, _⟩ | ⟨g, cap, cur, hv, _, hc, _⟩
    · exact .inl (by rw [hv]; rfl)
    · refine .inr (fun e => ?_)
      have ht : Typ w g 115 := ⟨cur, _, hc⟩
      exact ht.row ho (by decide) (by rw [← e, hv]; rfl)
  · cases e : q.u.ownBlock with
    | none => exact .inl rfl
    | some k => exact .inr (fun e' => hap q hq k e e'.symm)
theorem OwnP.form {w : World} {B : Nat} {v : Value} {qs : List Pc} (h : OwnP w B v qs) : ∃ a c, v = .slice a qs.length c := by
  rcases h.1.2 with ⟨h, h0⟩ | ⟨g, cap, cur, h, _⟩
  · exact ⟨_, _, by rw [h, h0]⟩
  · exact ⟨_, _, h⟩
theorem OwnP.typ {w : World} {B g n cap : Nat} {qs : List Pc} (h : OwnP w B (.slice (some ⟨g, 0, none⟩) n cap) qs) : Typ w g 115 := by
  rcases h.1.2 with ⟨e, _⟩ | ⟨g', cap', cur, e, _, hg, _⟩
  · cases e
  · simp only [Value.slice.injEq, Option.some.injEq, Addr.mk.injEq, and_true] at e
    obtain ⟨rfl, _⟩ := e
    exact ⟨cur, _, hg⟩
theorem OwnP.nonempty {w : World} {B : Nat} {v : Value} {qs : List Pc} (h : OwnP w B v qs) (hn : 0 < qs.length) : ∃ g cap, v = .slice (some ⟨g, 0, none⟩) qs.length cap ∧ B ≤ g ∧ qs.length ≤ cap := by
  rcases h.1.2 with ⟨_, h0⟩ | ⟨g, cap, cur, h, hB, _, hc, _⟩
  · omega
  · exact ⟨g, cap, h, hB, hc⟩
/-- A cell of the row. -/
theorem OwnP.cell {w : World} {B g n cap : Nat} {a b : List Pc} {q : Pc} (h : OwnP w B (.slice (some ⟨g, 0, none⟩) n cap) (a ++ q :: b)) (hn : n = (a ++ q :: b).length) (c : Nat) (hc : c < 3) : w.cell? ⟨g, a.length * 3 + c, none⟩ = q.cells[c]? := by
  subst hn
  rw [World.ownsRow.cellAt h.1 _ (by simp; omega), pcells_at a q b c hc]
theorem OwnP.frozen {w : World} {B g n cap : Nat} {qs : List Pc} (h : OwnP w B (.slice (some ⟨g, 0, none⟩) n cap) qs) (hn : n = qs.length) (j : Nat) : w.frozen? ⟨g, j, none⟩ = false := by
  subst hn
  exact World.ownsRow.frozenAt h.1 j
/-- A number of one piece is written. -/
theorem OwnP.write {w : World} {B g n cap : Nat} {a b : List Pc} {q q' : Pc} (h : OwnP w B (.slice (some ⟨g, 0, none⟩) n cap) (a ++ q :: b)) (hn : n = (a ++ q :: b).length) (c : Nat) (hc : c < 3) (x : Value) (hx : q.cells.set c x = q'.cells) (hu : q'.u = q.u) (hb : q'.bs = q.bs) :
    OwnP (w.setCell ⟨g, a.length * 3 + c, none⟩ x) B (.slice (some ⟨g, 0, none⟩) n cap) (a ++ q' :: b) := by
  have hT := h.typ
  obtain ⟨h1, h2, h3⟩ := h
  subst hn
  have hl : (a ++ q' :: b).length = (a ++ q :: b).length := by simp
  refine ⟨?_, ?_, ?_⟩
  · have S := (World.ownsRow.stored h1 (a.length * 3 + c) x).1
    rw [pcells_set a q q' b c hc x hx] at S
    rw [hl]
    exact S
  · intro p hp
    have key : ∀ p ∈ a ++ q :: b, Own (w.setCell ⟨g, a.length * 3 + c, none⟩ x) B p.u p.bs := fun p hp => (h2 p hp).far _ _ _ (hT.row (h2 p hp) (by decide))
    rcases List.mem_append.1 hp with hp | hp
    · exact key p (List.mem_append.2 (.inl hp))
    · rcases List.mem_cons.1 hp with rfl | hp
      · rw [hu, hb]; exact key q (by simp)
      · exact key p (by simp [hp])
  · rw [List.pairwise_append, List.pairwise_cons] at h3 ⊢
    obtain ⟨p1, ⟨p2, p3⟩, p4⟩ := h3
    refine ⟨p1, ⟨fun r hr => by rw [hu]; exact p2 r hr, p3⟩, fun r hr y hy => ?_⟩
    rcases List.mem_cons.1 hy with rfl | hy
    · rw [hu]; exact p4 r hr q (by simp)
    · exact p4 r hr y (by simp [hy])
/-- The bytes of one piece are written. -/
theorem OwnP.row {w w' : World} {B g n cap : Nat} {a b : List Pc} {q q' : Pc} (h : OwnP w B (.slice (some ⟨g, 0, none⟩) n cap) (a ++ q :: b)) (hn : n = (a ++ q :: b).length) (ho : Own w' B q'.u q'.bs) (hg : w.grownBy w' q.u.ownBlock) (hu : q'.u = q.u) (hc : q'.cells = q.cells) :
    OwnP w' B (.slice (some ⟨g, 0, none⟩) n cap) (a ++ q' :: b) := by
  have hT := h.typ
  obtain ⟨h1, h2, h3⟩ := h
  subst hn
  have hl : (a ++ q' :: b).length = (a ++ q :: b).length := by simp
  have ap := h3
  rw [List.pairwise_append, List.pairwise_cons] at h3
  obtain ⟨p1, ⟨p2, p3⟩, p4⟩ := h3
  refine ⟨?_, ?_, ?_⟩
  · have hne := hT.row (h2 q (by simp)) (by decide)
    have e : pcells (a ++ q' :: b) = pcells (a ++ q :: b) := by rw [pcells_append, pcells_cons, hc, pcells_append, pcells_cons]
    rw [hl, e]
    exact World.ownsRow.kept h1 hg (.inr hne)
  · have key : ∀ p ∈ a ++ q :: b, Apart p.u q.u → Own w' B p.u p.bs := fun p hp hap => by
      refine World.ownsRow.kept (h2 p hp) hg ?_
      cases e : p.u.ownBlock with
      | none => exact .inl rfl
      | some k => exact .inr (fun e' => hap k e e'.symm)
    intro p hp
    rcases List.mem_append.1 hp with hp | hp
    · exact key p (by simp [hp]) (p4 p hp q (by simp))
    · rcases List.mem_cons.1 hp with rfl | hp
      · exact ho
      · exact key p (by simp [hp]) (Apart.symm (p2 p hp))
  · rw [List.pairwise_append, List.pairwise_cons]
    refine ⟨p1, ⟨fun x hx => by rw [hu]; exact p2 x hx, p3⟩, fun x hx y hy => ?_⟩
    rcases List.mem_cons.1 hy with rfl | hy
    · rw [hu]; exact p4 x hx q (by simp)
    · exact p4 x hx y (by simp [hy])
theorem OwnP.at {w : World} {B : Nat} {v : Value} {a b : List Pc} {q : Pc} (h : OwnP w B v (a ++ q :: b)) : Own w B q.u q.bs := h.2.1 q (by simp)
/-- Nothing; one piece. -/
theorem ownP_none (w : World) (B : Nat) : OwnP w B (.slice none 0 0) [] := ⟨World.ownsRow_nil w B _ _, by simp, by simp⟩
theorem ownP_empty (w : World) (B : Nat) (hB : B ≤ w.heap.size) : OwnP (w.alloc (.cells #[] 115)) B (.slice (some ⟨w.heap.size, 0, none⟩) 0 0) [] :=
  ⟨World.ownsRow_lit (base := B) (e := 115) (size := 3) w #[] 0 hB (by unfold maxLen; omega) rfl, by simp, by simp⟩
theorem ownP_one (w : World) (B : Nat) (q : Pc) (hB : B ≤ w.heap.size) (ho : Own w B q.u q.bs) : OwnP (w.alloc (.cells #[.int .i64 q.seg, .int .i64 q.len, q.u] 115)) B (.slice (some ⟨w.heap.size, 0, none⟩) 1 1) [q] := by
  refine ⟨?_, ?_, by simp⟩
  · have := World.ownsRow_lit (base := B) (e := 115) (size := 3) w #[.int .i64 q.seg, .int .i64 q.len, q.u] 1 hB (by unfold maxLen; omega) rfl
    simpa [pcells, Pc.cells] using this
  · intro p hp
    simp only [List.mem_singleton] at hp
    subst hp
    exact ho.alloc _
end Go.Proofs.Ytdjadeegjbhihaa

/- Parts of lists of bytes: the first ones, the rest. -/
namespace Go.Proofs.Ytdjadeegjbhihaa
open Go.RowKit

theorem rd_nil (w : World) : Rd w (.slice none 0 0) [] := ⟨fun z hz => by simp at hz, by simp, .inl ⟨rfl, _, _, rfl, fun _ => rfl⟩⟩
theorem rd_set {w : World} {s : Value} {zs : List Nat} {g o : Nat} {x : Value} (h : Rd w s zs) (hlt : ∀ b, s.ownBlock = some b → b < g) : Rd (w.setCell ⟨g, o, none⟩ x) s zs := by
  have hne : s.ownBlock ≠ some g := fun e => by have := hlt g e; omega
  obtain ⟨h1, h2, h3⟩ := h
  refine ⟨h1, h2, ?_⟩
  rcases h3 with h3 | ⟨b, off, cap, e, h4, h5, h6, h7⟩
  · exact .inl h3
  · refine .inr ⟨b, off, cap, e, h4, h5, by simpa using h6, fun j hj => ?_⟩
    have hne' : (⟨g, o, none⟩ : Addr) ≠ ⟨b, off + j, none⟩ := by
      intro e'
      simp only [Addr.mk.injEq] at e'
      rw [e] at hne
      exact hne (by simp [Value.ownBlock, e'.1])
    exact (cell_far hne').trans (h7 j hj)
theorem Rd.room {w : World} {v : Value} {zs : List Nat} (h : Rd w v zs) : ∃ a cap, v = .slice a zs.length cap ∧ zs.length ≤ cap := by
  rcases h.2.2 with ⟨rfl, a, c, rfl, _⟩ | ⟨b, off, cap, rfl, h4, _⟩
  · exact ⟨_, _, rfl, Nat.zero_le _⟩
  · exact ⟨_, _, rfl, h4⟩
theorem Rd.first {w : World} {a : Option Addr} {cap n : Nat} {zs : List Nat} (h : Rd w (.slice a zs.length cap) zs) (hn : n ≤ zs.length) : Rd w (.slice a n cap) (zs.take n) := by
  obtain ⟨h1, h2, h3⟩ := h
  refine ⟨h1.take n, by rw [List.length_take]; omega, ?_⟩
  rcases h3 with ⟨rfl, a', c', e, hnone⟩ | ⟨b, off, cap', e, h4, h5, h6, h7⟩
  · simp only [Value.slice.injEq] at e
    obtain ⟨rfl, _, rfl⟩ := e
    obtain rfl : n = 0 := by simpa using hn
    exact .inl ⟨rfl, _, _, rfl, hnone⟩
  · simp only [Value.slice.injEq, true_and] at e
    obtain ⟨rfl, rfl⟩ := e
    refine .inr ⟨b, off, cap, by rw [List.length_take, Nat.min_eq_left hn], by rw [List.length_take]; omega, h5, h6, fun j hj => ?_⟩
    rw [List.length_take] at hj
    rw [h7 j (by omega)]
    simp [show j < n by omega]
theorem Rd.rest {w : World} {a : Option Addr} {cap n : Nat} {zs : List Nat} (h : Rd w (.slice a zs.length cap) zs) (hn : n ≤ zs.length) : Rd w (.slice (if cap = n then a else a.map fun x => x.add n) (zs.length - n) (cap - n)) (zs.drop n) := by
  obtain ⟨h1, h2, h3⟩ := h
  refine ⟨fun z hz => h1 z (List.mem_of_mem_drop hz), by rw [List.length_drop]; omega, ?_⟩
  by_cases h0 : zs.length = n
  · left
    refine ⟨by rw [List.drop_eq_nil_iff]; omega, _, _, by rw [h0, Nat.sub_self], fun e => ?_⟩
    rcases h3 with ⟨rfl, a', c', e', hnone⟩ | ⟨b, off, cap', e', h4, h5, h6, h7⟩
    · simp only [Value.slice.injEq] at e'
      obtain ⟨rfl, _, rfl⟩ := e'
      split at e
      · have := hnone e; omega
      · have := hnone (by simpa using e); omega
    · simp only [Value.slice.injEq, true_and] at e'
      obtain ⟨rfl, rfl⟩ := e'
      split at e <;> simp at e
  · right
    rcases h3 with ⟨rfl, a', c', e', hnone⟩ | ⟨b, off, cap', e', h4, h5, h6, h7⟩
    · simp at hn h0; omega
    · simp only [Value.slice.injEq, true_and] at e'
      obtain ⟨rfl, rfl⟩ := e'
      refine ⟨b, off + n, cap - n, ?_, by rw [List.length_drop]; omega, by omega, h6, fun j hj => ?_⟩
      · rw [if_neg (by omega), List.length_drop, Option.map_some, add_at]
      · rw [List.length_drop] at hj
        rw [show off + n + j = off + (n + j) by omega, h7 (n + j) (by omega)]
        simp [List.getElem?_drop]
theorem head_block {a : Option Addr} {m c m' c' : Nat} : (Value.slice a m c).ownBlock = (Value.slice a m' c').ownBlock := by cases a <;> rfl
theorem rest_block {a : Option Addr} {cap n m c m' c' : Nat} : (Value.slice (if cap = n then a else a.map fun x => x.add n) m c).ownBlock = (Value.slice a m' c').ownBlock := by
  split
  · cases a <;> rfl
  · cases a with
    | none => rfl
    | some x => simp [Value.ownBlock, Addr.add]; split <;> rfl
end Go.Proofs.Ytdjadeegjbhihaa

/- One more piece behind a list of them; a new piece. -/
namespace Go.Proofs.Ytdjadeegjbhihaa
open Go.RowKit

theorem Try.infoP : (Try.prog.info? 115).map (fun i => (i.zero, i.size, i.bytes)) = some (some (.agg #[.int .i64 0, .int .i64 0, .slice none 0 0]), 3, 40) := by kernel_rfl
theorem wpList_appP (w : World) {ops : Array Oper} {rest : List Oper} {o : Oper} {a : Act} {Q : Exit → Act → World → Prop} (hgd : o.guard = none) (s x : Operand)
    (ho : o.op = .call { callee := .builtin .append, args := #[s, x], argTypes := #[31, 31] }) (B : Nat) (v : Value) (qs : List Pc) (hs : a.eval s = v) (hown : OwnP w B v qs)
    (g c : Nat) (q : Pc) (hx : a.eval x = .slice (some ⟨g, 0, none⟩) 1 c) (c0 : w.cell? ⟨g, 0, none⟩ = some (.int .i64 q.seg)) (c1 : w.cell? ⟨g, 1, none⟩ = some (.int .i64 q.len)) (c2 : w.cell? ⟨g, 2, none⟩ = some q.u)
    (hq : Own w B q.u q.bs) (hap : ∀ p ∈ qs, Apart p.u q.u) (hl : qs.length ≤ 1000000) (hB : B ≤ w.heap.size)
    (h : ∀ v' w', OwnP w' B v' (qs ++ [q]) → Below B w w' → wpList Try.prog ops Q rest (a.put o.dst v') w') : wpList Try.prog ops Q (o :: rest) a w := by
  obtain ⟨i0, hi, hz0, hz1, hz2⟩ := info_parts Try.infoP
  obtain ⟨au, cu, hu⟩ := hq.form
  refine wpList_append_own w hgd s x 31 ho B 115 i0 (.agg #[.int .i64 0, .int .i64 0, .slice none 0 0]) 3 40 Try.underlying31 hi hz0 hz1 hz2 rfl (by decide) v qs.length (pcells qs) hs hown.1 ⟨g, 0, none⟩ 1 c q.cells hx rfl ?_ ?_ (by unfold maxLen; omega) (by omega) hB ?_
  · intro j u hj
    rw [add_at, Nat.zero_add]
    match j, hj with
    | 0, hj => rw [c0]; exact hj
    | 1, hj => rw [c1]; exact hj
    | 2, hj => rw [c2]; exact hj
    | (k + 3), hj => simp [Pc.cells] at hj
  · intro u hu'
    simp only [Pc.cells, List.mem_cons, List.not_mem_nil, or_false] at hu'
    rcases hu' with rfl | rfl | rfl
    · rfl
    · rfl
    · rw [hu]; rfl
  · intro v' w' h1 h2 _
    have key : ∀ p : Pc, Own w B p.u p.bs → Own w' B p.u p.bs := by
      intro p hp
      refine World.ownsRow.kept hp h2 ?_
      cases e : p.u.ownBlock with
      | none => exact .inl rfl
      | some k =>
        refine .inr (fun e' => ?_)
        rcases hown.1.2 with ⟨hv, _⟩ | ⟨g', cap', cur, hv, _, hg, _⟩
        · rw [hv] at e'; cases e'
        · have ht : Typ w g' 115 := ⟨cur, _, hg⟩
          have hne := ht.row hp (by decide)
          rw [hv] at e'
          exact hne (by rw [e, e']; rfl)
    refine h v' w' ⟨?_, ?_, ?_⟩ ((Below.refl _ _).grown h2 hB (fun k e => (World.ownsRow.lt hown.1 k e).1))
    · rw [pcells_append, List.length_append]
      simpa [pcells] using h1
    · intro p hp
      rcases List.mem_append.1 hp with hp | hp
      · exact key p (hown.2.1 p hp)
      · simp only [List.mem_singleton] at hp
        subst hp
        exact key p hq
    · rw [List.pairwise_append]
      refine ⟨hown.2.2, by simp, fun x hx y hy => ?_⟩
      simp only [List.mem_singleton] at hy
      subst hy
      exact hap x hx
/-- Rows that were there are not new ones. -/
theorem OwnP.apart {w w' : World} {B C : Nat} {v : Value} {qs : List Pc} {u : Value} {zs : List Nat} (h : OwnP w B v qs) (hC : w.heap.size ≤ C) (ho : Own w' C u zs) : ∀ p ∈ qs, Apart p.u u := fun p hp => own_apart (h.2.1 p hp) hC ho
end Go.Proofs.Ytdjadeegjbhihaa

/- Boxed variables: a block that holds these cells, of a type that is no byte's. -/
namespace Go.Proofs.Ytdjadeegjbhihaa
open Go.RowKit

/-- The block b holds these cells, they may be written, and their type is t. -/
def BxV (w : World) (b : Nat) (cs : Array Value) (t : Nat) : Prop := CelF w b cs ∧ Typ w b t
theorem BxV.kept {w w' : World} {b : Nat} {cs : Array Value} {t : Nat} (h : BxV w b cs t) (hb : Below w.heap.size w w') : BxV w' b cs t := ⟨h.1.kept hb, h.2.kept hb⟩
theorem BxV.k {w : World} {b : Nat} {cs : Array Value} {t : Nat} (h : BxV w b cs t) : ∀ k, w.cell? ⟨b, k, none⟩ = cs[k]? := h.1.2.1
theorem BxV.f {w : World} {b : Nat} {cs : Array Value} {t : Nat} (h : BxV w b cs t) : ∀ k, w.frozen? ⟨b, k, none⟩ = false := h.1.2.2
theorem BxV.lt {w : World} {b : Nat} {cs : Array Value} {t : Nat} (h : BxV w b cs t) : b < w.heap.size := h.1.1
/-- A row of bytes is no box. -/
theorem BxV.row {w : World} {b : Nat} {cs : Array Value} {t : Nat} {B : Nat} {v : Value} {zs : List Nat} (h : BxV w b cs t) (ho : Own w B v zs) (ht : t ≠ 5) : some b ≠ v.ownBlock := h.2.row ho ht
theorem BxV.mark {w w' : World} {b : Nat} {cs : Array Value} {t : Nat} {B : Nat} {v : Value} {zs : List Nat} (h : BxV w b cs t) (ho : Own w B v zs) (hg : w.grownBy w' v.ownBlock) (ht : t ≠ 5) : BxV w' b cs t :=
  ⟨h.1.other hg (h.row ho ht), h.2.other hg (h.row ho ht)⟩
theorem BxV.put {w : World} {b : Nat} {cs : Array Value} {t : Nat} (h : BxV w b cs t) (i : Nat) (hi : i < cs.size) (x : Value) : BxV (w.setCell ⟨b, i, none⟩ x) b (cs.setIfInBounds i x) t := ⟨h.1.put i hi x, h.2.set _ _⟩
theorem bx_new (w : World) (cs : Array Value) (t : TypeId) : BxV (w.alloc (.cells cs t)) w.heap.size cs t := ⟨celF_box _ _ _, typ_box _ _ _⟩
theorem below_alloc (w : World) (o : Obj) : Below w.heap.size w (w.alloc o) := (Below.refl _ _).alloc (Nat.le_refl _) o
theorem bx_made (w : World) (cs : Array Value) (t : TypeId) : ∃ w1, w.alloc (.cells cs t) = w1 ∧ BxV w1 w.heap.size cs t ∧ Below w.heap.size w w1 := ⟨_, rfl, bx_new _ _ _, below_alloc _ _⟩
/-- One, two, three boxes. -/
theorem one_box (w : World) (cs1 : Array Value) (t1 : TypeId) :
    ∃ w0, w.alloc (.cells cs1 t1) = w0 ∧ BxV w0 w.heap.size cs1 t1 ∧ Below w.heap.size w w0 ∧ w.heap.size + 1 ≤ w0.heap.size := ⟨_, rfl, bx_new _ _ _, below_alloc _ _, by simp⟩
theorem two_boxes (w : World) (cs1 : Array Value) (t1 : TypeId) (cs2 : Array Value) (t2 : TypeId) :
    ∃ w0, (w.alloc (.cells cs1 t1)).alloc (.cells cs2 t2) = w0 ∧ BxV w0 w.heap.size cs1 t1 ∧ BxV w0 (w.heap.size + 1) cs2 t2 ∧ Below w.heap.size w w0 ∧ w.heap.size + 2 ≤ w0.heap.size := by
  refine ⟨_, rfl, (bx_new w cs1 t1).kept (below_alloc _ _), ?_, bchain (below_alloc _ _) (below_alloc _ _), by simp⟩
  have := bx_new (w.alloc (.cells cs1 t1)) cs2 t2
  simpa using this
/-- A row that the call owns stays behind a write into a box. -/
theorem Own.box {w : World} {B : Nat} {v : Value} {zs : List Nat} (ho : Own w B v zs) {b : Nat} {cs : Array Value} {t : Nat} (h : BxV w b cs t) (ht : t ≠ 5) (i : Nat) (x : Value) : Own (w.setCell ⟨b, i, none⟩ x) B v zs := ho.far _ _ _ (h.row ho ht)
end Go.Proofs.Ytdjadeegjbhihaa

/- The program's SegCut: the pieces of a message, in new memory. -/
namespace Go.Proofs.Ytdjadeegjbhihaa
open Go.RowKit

/-- The pieces behind the first one. -/
def moreD (m : Nat) (zs : List Nat) : List Dat :=
  if _h : m = 0 ∨ zs.length ≤ m then [(3, 0, zs)] else (2, 0, zs.take m) :: moreD m (zs.drop m)
termination_by zs.length
decreasing_by simp only [List.length_drop]; omega
theorem moreD_last {m : Nat} {zs : List Nat} (h : zs.length ≤ m) : moreD m zs = [(3, 0, zs)] := by
  rw [moreD, dif_pos (.inr h)]
theorem moreD_more {m : Nat} {zs : List Nat} (h1 : 1 ≤ m) (h : m < zs.length) : moreD m zs = (2, 0, zs.take m) :: moreD m (zs.drop m) := by
  rw [moreD, dif_neg (by omega)]
/-- The pieces of a message. -/
def cutD (zs : List Nat) (m : Int) : List Dat :=
  if zs.length ≤ 24 ∧ 1 ≤ m ∧ m ≤ 8 then (if (zs.length : Int) ≤ m then [(0, zs.length, zs)] else (1, zs.length, zs.take m.toNat) :: moreD m.toNat (zs.drop m.toNat)) else []
theorem moreD_small (m : Nat) : ∀ (n : Nat) (zs : List Nat), zs.length ≤ n → Byt zs → ∀ d ∈ moreD m zs, Byt d.2.2 ∧ d.2.2.length ≤ n := by
  intro n zs hn hz d hd
  induction zs using moreD.induct (m := m) generalizing n d with
  | case1 zs h =>
    rw [moreD, dif_pos h] at hd
    simp only [List.mem_singleton] at hd
    subst hd
    exact ⟨hz, hn⟩
  | case2 zs h ih =>
    rw [moreD, dif_neg h] at hd
    rcases List.mem_cons.1 hd with rfl | hd
    · exact ⟨hz.take m, by simp; omega⟩
    · exact ih n (by simp; omega) (fun z hz' => hz z (List.mem_of_mem_drop hz')) d hd
theorem cutD_small (zs : List Nat) (m : Int) (hz : Byt zs) : ∀ d ∈ cutD zs m, Byt d.2.2 ∧ d.2.2.length ≤ 24 := by
  intro d hd
  unfold cutD at hd
  split at hd
  · rename_i h
    split at hd
    · simp only [List.mem_singleton] at hd
      subst hd
      exact ⟨hz, h.1⟩
    · rcases List.mem_cons.1 hd with rfl | hd
      · exact ⟨hz.take _, by simp; omega⟩
      · exact moreD_small _ 24 _ (by simp; omega) (fun z hz' => hz z (List.mem_of_mem_drop hz')) d hd
  · simp at hd
theorem moreD_length (m : Nat) : ∀ (n : Nat) (zs : List Nat), zs.length ≤ n → (moreD m zs).length ≤ n + 1 := by
  intro n zs hn
  induction zs using moreD.induct (m := m) generalizing n with
  | case1 zs h => rw [moreD, dif_pos h]; simp
  | case2 zs h ih =>
    rw [moreD, dif_neg h]
    have := ih (n - 1) (by simp; omega)
    simp
    omega
theorem cutD_length (zs : List Nat) (m : Int) : (cutD zs m).length ≤ 30 := by
  unfold cutD
  split
  · rename_i h
    split
    · simp
    · have := moreD_length m.toNat 24 (zs.drop m.toNat) (by simp; omega)
      simp
      omega
  · simp
/-- How many cells a slice has. -/
def lenOf : Value → Nat
  | .slice _ n _ => n
  | _ => 0
theorem lenOf_slice (a : Option Addr) (n c : Nat) : lenOf (.slice a n c) = n := rfl

/-- Pieces as the document says, in new memory. -/
def CutAns (B : Nat) (zs : List Nat) (m : Int) (e : Ending) (w : World) : Prop := ∃ v qs, e = .returned v ∧ OwnP w B v qs ∧ qs.map Pc.dat = cutD zs m
end Go.Proofs.Ytdjadeegjbhihaa

/- SegCut of the specification: the pieces of a message, in new memory. -/
namespace Go.Proofs.Ytdjadeegjbhihaa
open Go.RowKit

end Go.Proofs.Ytdjadeegjbhihaa

/- FrmOk of the specification answers whether a frame is ok. -/
namespace Go.Proofs.Ytdjadeegjbhihaa
open Go.RowKit


end Go.Proofs.Ytdjadeegjbhihaa

/- What has come of a message: when it is ok, of the program and of the specification. -/
namespace Go.Proofs.Ytdjadeegjbhihaa
open Go.RowKit

/-- What has come of a message is ok. -/
def joinB (len : Int) (n : Nat) : Bool := decide ((len = 0 ∧ n = 0) ∨ (2 ≤ len ∧ len ≤ 24 ∧ 1 ≤ n ∧ (n : Int) < len))
set_option maxHeartbeats 1000000 in
theorem impl_join (len : Int) (a : Option Addr) (n cap : Nat) (w : World) :
    Calls Try.prog 126 #[.agg #[.int .i64 len, .slice a n cap]] w fun e w' => e = .returned (.bool (joinB len n)) ∧ Below w.heap.size w w' := by
  go_enter Try.func126, Try.ntmps126
  go_wp2
  all_goals
    go_ret
    refine ⟨ret_bool ?_, (Below.refl _ _).alloc (Nat.le_refl _) _⟩
    go_light
    rw [Bool.eq_iff_iff]
    simp only [joinB, decide_eq_true_eq]
    grind
set_option maxHeartbeats 1000000 in
theorem spec_join (len : Int) (a : Option Addr) (n cap : Nat) (w : World) :
    Calls Try.prog 121 #[.agg #[.int .i64 len, .slice a n cap]] w fun e w' => e = .returned (.bool (joinB len n)) ∧ Below w.heap.size w w' := by
  have hw : 2 ≤ len ∧ len ≤ 24 → wrap64 (len + -1) = len + -1 := by
    intro h
    unfold wrap64
    omega
  go_enter Try.func121, Try.ntmps121
  go_wp2_with (go_at_call 40; refine (in_any _ _ _ _).mono ?_; rintro e w' ⟨rfl, rfl⟩)
  all_goals
    go_ret
    refine ⟨ret_bool ?_, (Below.refl _ _).alloc (Nat.le_refl _) _⟩
    go_light
    rw [Bool.eq_iff_iff]
    simp only [joinB, inB_iff, decide_eq_true_eq, beq_iff_eq, Bool.false_eq_true, true_iff, false_iff] at *
    grind
end Go.Proofs.Ytdjadeegjbhihaa

/- Boxed variables by whole rows: what loads, stores of all, of a part, of one cell leave; the world behind each is whatever it is. -/
namespace Go.Proofs.Ytdjadeegjbhihaa
open Go.RowKit

theorem Bl.grown {w w' : World} {b g : Nat} {cs : Array Value} {t : TypeId} (h : Bl w b cs t) (k : w.grownBy w' (some g)) (hb : b ≠ g) : Bl w' b cs t :=
  (k.block b h.lt (fun e => hb (Option.some.inj e))).trans h
theorem below_at {n : Nat} {w w1 w2 : World} {g : Nat} (h : Below n w w1) (k : w1.grownBy w2 (some g)) (hn : n ≤ w1.heap.size) (hg : n ≤ g) : Below n w w2 :=
  h.grown k hn (fun q e => by cases e; exact hg)
/-- Cells put into a row from a place on. -/
def putAt (cs : Array Value) : Nat → List Value → Array Value
  | _, [] => cs
  | o, v :: r => putAt (cs.setIfInBounds o v) (o + 1) r
theorem grown_setCell (w : World) (g i : Nat) (v : Value) : w.grownBy (w.setCell ⟨g, i, none⟩ v) (some g) :=
  ⟨rfl, rfl, rfl, by simp [World.setCell], fun k _ hk => Below.heap_setCell _ _ _ _ (fun e => hk (by rw [e]))⟩
theorem bl_setCells {g : Nat} {t : TypeId} : ∀ (vs : List Value) (o : Nat) (cs : Array Value) (w : World), Bl w g cs t → Bl (w.setCells g o vs) g (putAt cs o vs) t ∧ w.grownBy (w.setCells g o vs) (some g)
  | [], _, _, w, h => ⟨h, rfl, rfl, rfl, Nat.le_refl _, fun _ _ _ => rfl⟩
  | v :: r, o, cs, w, h => by
    have h1 : Bl (w.setCell ⟨g, o, none⟩ v) g (cs.setIfInBounds o v) t := heap_setCell_same w g o cs t v h
    obtain ⟨h2, h3⟩ := bl_setCells r (o + 1) _ _ h1
    have h4 := grown_setCell w g o v
    exact ⟨h2, h3.os.trans h4.os, h3.tape.trans h4.tape, h3.output.trans h4.output, Nat.le_trans h4.size h3.size, fun k hk hne => (h3.block k (Nat.lt_of_lt_of_le hk h4.size) hne).trans (h4.block k hk hne)⟩
theorem bl_there {w : World} {g : Nat} {cs : Array Value} {t : TypeId} (h : Bl w g cs t) (o n : Nat) (hn : o + n ≤ cs.size) : w.there g o n := fun j hj =>
  ⟨by rw [h.k]; simp; omega, h.f _⟩
theorem bl_range {w : World} {g : Nat} {cs : Array Value} {t : TypeId} (h : Bl w g cs t) (o : Nat) (vs : List Value) (hv : ∀ j v, vs[j]? = some v → cs[o + j]? = some v) : w.rangeAt g o vs := fun j v e => by
  rw [h.k]; exact hv j v e

section
variable {ops : Array Oper} {rest : List Oper} {o : Oper} {a : Act} {w : World} {Q : Exit → Act → World → Prop} {K : Act → World → Prop}
/-- A store of all of a box. -/
theorem wp_box_store (ty : TypeId) (x y : Operand) (ho : o.op = .store ty x y) (g : Nat) (cells : Array Value) (hx : a.eval x = .pointer (some ⟨g, 0, none⟩)) (hy : a.eval y = .agg cells)
    {t : TypeId} {old : Array Value} (hg : Bl w g old t) (hi : (Try.prog.info? ty).map (·.size) = some cells.size) (hold : old.size = cells.size) (h1 : cells.all (·.oneCell') = true)
    (h : ∀ w', Bl w' g cells t → w.grownBy w' (some g) → K (a.put o.dst undef) w') : o.wp Try.prog a w K Q :=
  wp_store_row ty x y ho g cells hx hy t old hg hi hold h1 (h _ (Bl.row hg cells) ⟨rfl, rfl, rfl, by simp, fun k _ hk => setRow_other _ _ _ _ (fun e => hk (by rw [e]))⟩)
theorem box_store (hgd : o.guard = none) (ty : TypeId) (x y : Operand) (ho : o.op = .store ty x y) (g : Nat) (cells : Array Value) (hx : a.eval x = .pointer (some ⟨g, 0, none⟩)) (hy : a.eval y = .agg cells)
    {t : TypeId} {old : Array Value} (hg : Bl w g old t) (hi : (Try.prog.info? ty).map (·.size) = some cells.size) (hold : old.size = cells.size) (h1 : cells.all (·.oneCell') = true)
    (h : ∀ w', Bl w' g cells t → w.grownBy w' (some g) → wpList Try.prog ops Q rest (a.put o.dst undef) w') : wpList Try.prog ops Q (o :: rest) a w :=
  wpList_plain hgd fun _ hK => wp_box_store ty x y ho g cells hx hy hg hi hold h1 (fun w' h1 h2 => hK _ _ (h w' h1 h2))
/-- A store of a part of a box. -/
theorem wp_box_part (ty : TypeId) (x y : Operand) (ho : o.op = .store ty x y) (g i : Nat) (cells : Array Value) (hx : a.eval x = .pointer (some ⟨g, i, none⟩)) (hy : a.eval y = .agg cells)
    {t : TypeId} {old : Array Value} (hg : Bl w g old t) (hi : (Try.prog.info? ty).map (·.size) = some cells.size) (hold : i + cells.size ≤ old.size) (h1 : cells.all (·.oneCell') = true)
    (h : ∀ w', Bl w' g (putAt old i cells.toList) t → w.grownBy w' (some g) → K (a.put o.dst undef) w') : o.wp Try.prog a w K Q :=
  have e := bl_setCells cells.toList i old w hg
  wp_store_mid ty x y ho g i cells hx hy (bl_there hg i cells.size hold) hi h1 (h _ e.1 e.2)
theorem box_part (hgd : o.guard = none) (ty : TypeId) (x y : Operand) (ho : o.op = .store ty x y) (g i : Nat) (cells : Array Value) (hx : a.eval x = .pointer (some ⟨g, i, none⟩)) (hy : a.eval y = .agg cells)
    {t : TypeId} {old : Array Value} (hg : Bl w g old t) (hi : (Try.prog.info? ty).map (·.size) = some cells.size) (hold : i + cells.size ≤ old.size) (h1 : cells.all (·.oneCell') = true)
    (h : ∀ w', Bl w' g (putAt old i cells.toList) t → w.grownBy w' (some g) → wpList Try.prog ops Q rest (a.put o.dst undef) w') : wpList Try.prog ops Q (o :: rest) a w :=
  wpList_plain hgd fun _ hK => wp_box_part ty x y ho g i cells hx hy hg hi hold h1 (fun w' h1 h2 => hK _ _ (h w' h1 h2))
/-- A store of an int, of a bool. -/
theorem wp_box_int (x y : Operand) (ho : o.op = .store 3 x y) (g i : Nat) (n : Int) (hx : a.eval x = .pointer (some ⟨g, i, none⟩)) (hy : a.eval y = .int .i64 n)
    {t : TypeId} {old : Array Value} (hg : Bl w g old t) (hold : i < old.size)
    (h : ∀ w', Bl w' g (old.setIfInBounds i (.int .i64 n)) t → w.grownBy w' (some g) → K (a.put o.dst undef) w') : o.wp Try.prog a w K Q := by
  have k1 : w.cell? ⟨g, i, none⟩ = some old[i] := by rw [hg.k]; simp [hold]
  have k2 := hg.f i
  have hh := h _ (heap_setCell_same w g i old t (.int .i64 n) hg) (grown_setCell w g i _)
  unfold Oper.wp execOp
  simp only [ho, hx, hy]
  simp [go_sem, k1, k2]
  exact hh
theorem wp_box_bool (x y : Operand) (ho : o.op = .store 4 x y) (g i : Nat) (n : Bool) (hx : a.eval x = .pointer (some ⟨g, i, none⟩)) (hy : a.eval y = .bool n)
    {t : TypeId} {old : Array Value} (hg : Bl w g old t) (hold : i < old.size)
    (h : ∀ w', Bl w' g (old.setIfInBounds i (.bool n)) t → w.grownBy w' (some g) → K (a.put o.dst undef) w') : o.wp Try.prog a w K Q := by
  have k1 : w.cell? ⟨g, i, none⟩ = some old[i] := by rw [hg.k]; simp [hold]
  have k2 := hg.f i
  have hh := h _ (heap_setCell_same w g i old t (.bool n) hg) (grown_setCell w g i _)
  unfold Oper.wp execOp
  simp only [ho, hx, hy]
  simp [go_sem, k1, k2]
  exact hh
theorem box_int (hgd : o.guard = none) (x y : Operand) (ho : o.op = .store 3 x y) (g i : Nat) (n : Int) (hx : a.eval x = .pointer (some ⟨g, i, none⟩)) (hy : a.eval y = .int .i64 n)
    {t : TypeId} {old : Array Value} (hg : Bl w g old t) (hold : i < old.size)
    (h : ∀ w', Bl w' g (old.setIfInBounds i (.int .i64 n)) t → w.grownBy w' (some g) → wpList Try.prog ops Q rest (a.put o.dst undef) w') : wpList Try.prog ops Q (o :: rest) a w :=
  wpList_plain hgd fun _ hK => wp_box_int x y ho g i n hx hy hg hold (fun w' h1 h2 => hK _ _ (h w' h1 h2))
theorem box_bool (hgd : o.guard = none) (x y : Operand) (ho : o.op = .store 4 x y) (g i : Nat) (n : Bool) (hx : a.eval x = .pointer (some ⟨g, i, none⟩)) (hy : a.eval y = .bool n)
    {t : TypeId} {old : Array Value} (hg : Bl w g old t) (hold : i < old.size)
    (h : ∀ w', Bl w' g (old.setIfInBounds i (.bool n)) t → w.grownBy w' (some g) → wpList Try.prog ops Q rest (a.put o.dst undef) w') : wpList Try.prog ops Q (o :: rest) a w :=
  wpList_plain hgd fun _ hK => wp_box_bool x y ho g i n hx hy hg hold (fun w' h1 h2 => hK _ _ (h w' h1 h2))
/-- A new box, with its type's zero in it. -/
theorem run_new {ty : TypeId} {zs : Array Value} (hz : ∀ w, (zeroValue ty).run Try.prog w = .ok (.agg zs) w) (w : World) :
    (Instr.alloc ty true (.tuple #[])).run Try.prog w = .ok (.pointer (some ⟨w.heap.size, 0, none⟩)) (w.alloc (.cells zs ty)) := by
  simp [Instr.alloc, hz, newVar, newRow, Value.cells, go_sem]
theorem run_box {ty : TypeId} (zs : Array Value) (w : World) :
    (Instr.box ty (.agg zs)).run Try.prog w = .ok (.pointer (some ⟨w.heap.size, 0, none⟩)) (w.alloc (.cells zs ty)) := by
  simp [Instr.box, newVar, newRow, Value.cells, go_sem]
theorem wp_box_new (ty : TypeId) (ho : o.op = .alloc ty) (zs : Array Value) (hz : ∀ w, (zeroValue ty).run Try.prog w = .ok (.agg zs) w)
    (h : ∀ w', Bl w' w.heap.size zs ty → Below w.heap.size w w' → K (a.put o.dst (.pointer (some ⟨w.heap.size, 0, none⟩))) w') : o.wp Try.prog a w K Q := by
  have hh := h _ (bl_new w zs ty) (bo_alloc w _)
  unfold Oper.wp execOp
  simp only [ho, run_new hz, Sem.run_bind, Sem.run_pure, Result.andThen_ok]
  exact hh
theorem box_new {d : Tmp} (hgd : o.guard = none) (_hd : o.dst = some d) (ty : TypeId) (ho : o.op = .alloc ty) (zs : Array Value) (hz : ∀ w, (zeroValue ty).run Try.prog w = .ok (.agg zs) w)
    (h : ∀ w', Bl w' w.heap.size zs ty → Below w.heap.size w w' → wpList Try.prog ops Q rest (a.put o.dst (.pointer (some ⟨w.heap.size, 0, none⟩))) w') : wpList Try.prog ops Q (o :: rest) a w :=
  wpList_plain hgd fun _ hK => wp_box_new ty ho zs hz (fun w' h1 h2 => hK _ _ (h w' h1 h2))
theorem wp_box_box (ty : TypeId) (x : Operand) (ho : o.op = .box ty x) (zs : Array Value) (hx : a.eval x = .agg zs)
    (h : ∀ w', Bl w' w.heap.size zs ty → Below w.heap.size w w' → K (a.put o.dst (.pointer (some ⟨w.heap.size, 0, none⟩))) w') : o.wp Try.prog a w K Q := by
  have hh := h _ (bl_new w zs ty) (bo_alloc w _)
  unfold Oper.wp execOp
  simp only [ho, hx, run_box, Sem.run_bind, Sem.run_pure, Result.andThen_ok]
  exact hh
theorem box_box {d : Tmp} (hgd : o.guard = none) (_hd : o.dst = some d) (ty : TypeId) (x : Operand) (ho : o.op = .box ty x) (zs : Array Value) (hx : a.eval x = .agg zs)
    (h : ∀ w', Bl w' w.heap.size zs ty → Below w.heap.size w w' → wpList Try.prog ops Q rest (a.put o.dst (.pointer (some ⟨w.heap.size, 0, none⟩))) w') : wpList Try.prog ops Q (o :: rest) a w :=
  wpList_plain hgd fun _ hK => wp_box_box ty x ho zs hx (fun w' h1 h2 => hK _ _ (h w' h1 h2))
theorem box_load (hgd : o.guard = none) (ty : TypeId) (x : Operand) (ho : o.op = .load ty x) (g : Nat) (hx : a.eval x = .pointer (some ⟨g, 0, none⟩)) {cs : Array Value} {d : TypeDesc} (hg : Bl w g cs ty)
    (hu : Try.prog.underlying ty = some d) (hd : d.isRow = true) (hi : (Try.prog.info? ty).map (·.size) = some cs.size) (h : wpList Try.prog ops Q rest (a.put o.dst (.agg cs)) w) : wpList Try.prog ops Q (o :: rest) a w := by
  have e := wpList_load_mid (P := Try.prog) (ops := ops) (rest := rest) (w := w) (Q := Q) hgd ty x ho g 0 hx cs.toList d (bl_range hg 0 cs.toList (fun j v e => by simpa using e)) hu hd (by simpa using hi)
  rw [Array.toArray_toList] at e
  exact e h
theorem box_loadg (hw : Region.wanted o (yielded ops a.tmps) = true) (ty : TypeId) (x : Operand) (ho : o.op = .load ty x) (g : Nat) (hx : a.eval x = .pointer (some ⟨g, 0, none⟩)) {cs : Array Value} {d : TypeDesc} (hg : Bl w g cs ty)
    (hu : Try.prog.underlying ty = some d) (hd : d.isRow = true) (hi : (Try.prog.info? ty).map (·.size) = some cs.size) (h : wpList Try.prog ops Q rest (a.put o.dst (.agg cs)) w) : wpList Try.prog ops Q (o :: rest) a w := by
  have e := wp_load_mid (P := Try.prog) (op := o) (a := a) (w := w) (K := wpList Try.prog ops Q rest) (Q := Q) ty x ho g 0 hx cs.toList d (bl_range hg 0 cs.toList (fun j v e => by simpa using e)) hu hd (by simpa using hi)
  rw [Array.toArray_toList] at e
  unfold wpList
  rw [if_pos hw]
  exact .inl (e h)
theorem at_loadg (ty : TypeId) {d : Option Tmp} {x : Operand} {t : TypeId} {pos : String} {af : Array Edge} {gd : Nat × Bool} (h : wpList Try.prog ops Q (⟨d, .load ty x, t, pos, af, some gd⟩ :: rest) a w) : wpList Try.prog ops Q (⟨d, .load ty x, t, pos, af, some gd⟩ :: rest) a w := h
/-! Where an arm fits: told by the first operation alone. -/
theorem at_load (ty : TypeId) {d : Option Tmp} {x : Operand} {t : TypeId} {pos : String} {af : Array Edge} (h : wpList Try.prog ops Q (⟨d, .load ty x, t, pos, af, none⟩ :: rest) a w) : wpList Try.prog ops Q (⟨d, .load ty x, t, pos, af, none⟩ :: rest) a w := h
theorem at_store (ty : TypeId) {d : Option Tmp} {x y : Operand} {t : TypeId} {pos : String} {af : Array Edge} (h : wpList Try.prog ops Q (⟨d, .store ty x y, t, pos, af, none⟩ :: rest) a w) : wpList Try.prog ops Q (⟨d, .store ty x y, t, pos, af, none⟩ :: rest) a w := h
theorem at_new (d : Tmp) (ty : TypeId) {t : TypeId} {pos : String} {af : Array Edge} (h : wpList Try.prog ops Q (⟨some d, .alloc ty, t, pos, af, none⟩ :: rest) a w) : wpList Try.prog ops Q (⟨some d, .alloc ty, t, pos, af, none⟩ :: rest) a w := h
theorem at_box (d : Tmp) (ty : TypeId) {x : Operand} {t : TypeId} {pos : String} {af : Array Edge} (h : wpList Try.prog ops Q (⟨some d, .box ty x, t, pos, af, none⟩ :: rest) a w) : wpList Try.prog ops Q (⟨some d, .box ty x, t, pos, af, none⟩ :: rest) a w := h
end
/-! What a function hands back out of its boxes. -/
theorem run_row {w : World} {g : Nat} {cs : Array Value} {t : TypeId} {d : TypeDesc} (h : Bl w g cs t) (hu : Try.prog.underlying t = some d) (hd : d.isRow = true) (hi : (Try.prog.info? t).map (·.size) = some cs.size) : (loadVar t ⟨g, 0, none⟩).run Try.prog w = .ok (.agg cs) w := by
  have e := run_loadVar_mid (P := Try.prog) w g 0 t cs.toList d (bl_range h 0 cs.toList (fun j v e => by simpa using e)) hu hd (by simpa using hi)
  rwa [Array.toArray_toList] at e
theorem results_ct {fn : Func} {p r : Tmp} {t : TypeId} (h : fn.results = #[.cell p t, .tmp r]) (tmps : Array Value) (w : World) (g : Nat) (cs : Array Value) (d : TypeDesc) (hp : tmps.getD p undef = .pointer (some ⟨g, 0, none⟩)) (hg : Bl w g cs t) (hu : Try.prog.underlying t = some d) (hd : d.isRow = true) (hi : (Try.prog.info? t).map (·.size) = some cs.size) :
    (results fn tmps).run Try.prog w = .ok (.tuple #[.agg cs, tmps.getD r undef]) w := by
  have hp' : tmps[p]?.getD undef = .pointer (some ⟨g, 0, none⟩) := by simpa using hp
  simp [results, h, hp', asAddr, run_row hg hu hd hi]
theorem results_cc {fn : Func} {p q : Tmp} {t u : TypeId} (h : fn.results = #[.cell p t, .cell q u]) (tmps : Array Value) (w : World) (g : Nat) (cs : Array Value) (d : TypeDesc) (hp : tmps.getD p undef = .pointer (some ⟨g, 0, none⟩)) (hg : Bl w g cs t) (hu : Try.prog.underlying t = some d) (hd : d.isRow = true) (hi : (Try.prog.info? t).map (·.size) = some cs.size)
    (g' : Nat) (cs' : Array Value) (d' : TypeDesc) (hp' : tmps.getD q undef = .pointer (some ⟨g', 0, none⟩)) (hg' : Bl w g' cs' u) (hu' : Try.prog.underlying u = some d') (hd' : d'.isRow = true) (hi' : (Try.prog.info? u).map (·.size) = some cs'.size) :
    (results fn tmps).run Try.prog w = .ok (.tuple #[.agg cs, .agg cs']) w := by
  have e1 : tmps[p]?.getD undef = .pointer (some ⟨g, 0, none⟩) := by simpa using hp
  have e2 : tmps[q]?.getD undef = .pointer (some ⟨g', 0, none⟩) := by simpa using hp'
  simp [results, h, e1, e2, asAddr, run_row hg hu hd hi, run_row hg' hu' hd' hi']
theorem results_cct {fn : Func} {p q r : Tmp} {t u : TypeId} (h : fn.results = #[.cell p t, .cell q u, .tmp r]) (tmps : Array Value) (w : World) (g : Nat) (cs : Array Value) (d : TypeDesc) (hp : tmps.getD p undef = .pointer (some ⟨g, 0, none⟩)) (hg : Bl w g cs t) (hu : Try.prog.underlying t = some d) (hd : d.isRow = true) (hi : (Try.prog.info? t).map (·.size) = some cs.size)
    (g' : Nat) (cs' : Array Value) (d' : TypeDesc) (hp' : tmps.getD q undef = .pointer (some ⟨g', 0, none⟩)) (hg' : Bl w g' cs' u) (hu' : Try.prog.underlying u = some d') (hd' : d'.isRow = true) (hi' : (Try.prog.info? u).map (·.size) = some cs'.size) :
    (results fn tmps).run Try.prog w = .ok (.tuple #[.agg cs, .agg cs', tmps.getD r undef]) w := by
  have e1 : tmps[p]?.getD undef = .pointer (some ⟨g, 0, none⟩) := by simpa using hp
  have e2 : tmps[q]?.getD undef = .pointer (some ⟨g', 0, none⟩) := by simpa using hp'
  simp [results, h, e1, e2, asAddr, run_row hg hu hd hi, run_row hg' hu' hd' hi']
end Go.Proofs.Ytdjadeegjbhihaa

/- A statement whose order is open: what only reads may be done first, whatever else makes memory meanwhile, as long as it leaves what is read alone (a class of worlds). -/
namespace Go.Proofs.Ytdjadeegjbhihaa

section
variable {P : Program} {ops : Array Oper} {md : Region.Mode} {C : World → Prop} {Q : Exit → Act → World → Prop} {n : Nat}

/-- In the state a, in every world of the class, o leaves the value v, and the world as it is. -/
def ReadsAs (P : Program) (ops : Array Oper) (C : World → Prop) (o : Oper) (v : Value) (a : Act) : Prop :=
  (Region.wanted o (yielded ops a.tmps) = true ∧ ∀ w, C w → ((execOp a.eval o).run P w = .ok (.value v) w ∨ ((execOp a.eval o).run P w = .ok .skip w ∧ v = undef))) ∨
  (Region.wanted o (yielded ops a.tmps) = false ∧ v = undef)
theorem ReadsAs.moved {o : Oper} {v : Value} {a a' : Act} (h : ReadsAs P ops C o v a) (he : execOp a'.eval o = execOp a.eval o)
    (hw : Region.wanted o (yielded ops a'.tmps) = Region.wanted o (yielded ops a.tmps)) : ReadsAs P ops C o v a' := by
  unfold ReadsAs at *
  rw [he, hw]
  exact h
theorem ReadsAs.op {i : Nat} {o : Oper} {v : Value} {a : Act} {w : World} (hi : ops[i]? = some o) (h : ReadsAs P ops C o v a) (hC : C w) {K : Act → World → Prop} (hK : K (a.put o.dst v) w) : wpOp P ops Q i K a w := by
  unfold wpOp
  simp only [hi]
  rcases h with ⟨hw, hv⟩ | ⟨hw, rfl⟩
  · rw [if_pos hw]
    left
    unfold Oper.wp
    rcases hv w hC with e | ⟨e, rfl⟩
    · rw [e]; exact hK
    · rw [e]; exact hK
  · rw [if_neg (by rw [hw]; exact Bool.false_ne_true)]
    exact hK

/-- What one operation leaves is the same, whether the other one's value lies there already. -/
theorem upon_late {x : Option Tmp} {oj : Oper} {v : Value} {a : Act} (h2 : ∀ d, x = some d → oj.dst ≠ some d) (hQ : ∀ c a w, Q (.panic c) (a.put x v) w → Q (.panic c) a w)
    {G : Act → Prop} (hG : ∀ u, G (a.put oj.dst u)) (hGd : ∀ d u, G ({ a with defers := d :: a.defers }.put oj.dst u)) {K : Act → World → Prop} :
    ∀ r, oj.upon P (a.put x v) K Q r → oj.upon P a (fun a' w' => G a' ∧ K (a'.put x v) w') Q r := by
  intro r h
  have sw : ∀ u, (a.put x v).put oj.dst u = (a.put oj.dst u).put x v := fun u => Act.put_comm a v u h2
  match r with
  | .ok (.value u) w' => exact ⟨hG u, by rw [← sw]; exact h⟩
  | .ok .skip w' => exact ⟨hG _, by rw [← sw]; exact h⟩
  | .ok (.defer d) w' => exact ⟨hGd d _, by rw [← Act.put_comm _ v undef h2, ← Act.put_defers]; exact h⟩
  | .ok (.enter f args) w' =>
    refine Calls.mono h fun e w'' he => ?_
    match e with
    | .returned u => exact ⟨hG u, by rw [← sw]; exact he⟩
    | .panicked c => exact hQ _ _ _ he
    | .outgrown => exact he
  | .ok (.row row args) w' => exact Rows.mono h fun u w'' he => ⟨hG u, by rw [← sw]; exact he⟩
  | .halt (.panic u) w' => exact hQ _ _ _ h
theorem op_late {j : Nat} {oi oj : Oper} {v : Value} (hj : ops[j]? = some oj) (hap : oi.apart ops oj = true) (hsi : ∀ cs b, oi.op ≠ .select cs b) (hsj : ∀ cs b, oj.op ≠ .select cs b)
    (hQ : ∀ c a w, Q (.panic c) (a.put oi.dst v) w → Q (.panic c) a w) {K : Act → World → Prop} {a : Act} {w : World} (hy : ReadsAs P ops C oi v a) (h : wpOp P ops Q j K (a.put oi.dst v) w) :
    wpOp P ops Q j (fun a' w' => ReadsAs P ops C oi v a' ∧ K (a'.put oi.dst v) w') a w := by
  obtain ⟨h1, h2, h3⟩ := Oper.apart_spec hap
  have keep : ∀ (b : Act), ReadsAs P ops C oi v b → ∀ u, ReadsAs P ops C oi v (b.put oj.dst u) := fun b hb u => hb.moved (execOp_put oi hsi b oj.dst u h3) (wanted_put oi b oj.dst u h3)
  have keepD : ∀ d, ReadsAs P ops C oi v { a with defers := d :: a.defers } := fun d => hy.moved rfl rfl
  unfold wpOp at *
  simp only [hj] at *
  rw [wanted_put oj a oi.dst v h1] at h
  by_cases hw : Region.wanted oj (yielded ops a.tmps) = true
  · rw [if_pos hw] at h ⊢
    rcases h with h | ⟨ha, hl⟩
    · left
      unfold Oper.wp at *
      rw [execOp_put oj hsj a oi.dst v h1] at h
      exact upon_late h2 hQ (keep a hy) (fun d u => keep _ (keepD d) u) _ h
    · right
      unfold Oper.asks at *
      rw [execOp_put oj hsj a oi.dst v h1] at ha
      exact ⟨ha, hl⟩
  · rw [if_neg hw] at h ⊢
    exact ⟨keep a hy _, by rw [← Act.put_comm a v undef h2]; exact h⟩

/-- Whatever comes up next, from here on: what is one of the first n leaves a world of the class. -/
def wpAnyC (P : Program) (md : Region.Mode) (ops : Array Oper) (C : World → Prop) (n : Nat) (Q : Exit → Act → World → Prop) : Nat → Array Bool → Act → World → Prop
  | 0, listed, a, w => Region.ready md ops listed = [] ∧ Q .normal a w
  | f + 1, listed, a, w => (Region.ready md ops listed = [] → Q .normal a w) ∧
      ∀ i ∈ Region.ready md ops listed, wpOp P ops Q i (fun a' w' => (i < n → C w') ∧ wpAnyC P md ops C n Q f (listed.setIfInBounds i true) a' w') a w
theorem wpAnyC.plain : ∀ (f : Nat) (listed : Array Bool) (a : Act) (w : World), wpAnyC P md ops C n Q f listed a w → wpAny P md ops Q f listed a w
  | 0, _, _, _, h => h
  | f + 1, _, _, _, h => ⟨h.1, fun i hi => wpOp_mono (fun a' w' h' => wpAnyC.plain f _ a' w' h'.2) (h.2 i hi)⟩

/-- Each operation behind the first n waits for all of these. -/
def tailB (md : Region.Mode) (ops : Array Oper) (n : Nat) : Bool :=
  (List.range ops.size).all fun t => decide (t < n) || (List.range n).all fun i => match ops[t]? with
    | some o => o.after.any fun e => Region.binds md e && e.on == i
    | none => false
theorem tailB_waits (h : tailB md ops n = true) {t i : Nat} (hi : i < n) {listed : Array Bool} (hun : listed.getD i true = false) (hr : t ∈ Region.ready md ops listed) : t < n := by
  by_cases ht : t < n
  · exact ht
  · exfalso
    obtain ⟨_, o, ho, hall⟩ := mem_ready.1 hr
    have htl : t < ops.size := (Array.getElem?_eq_some_iff.1 ho).1
    have h1 := List.all_eq_true.1 h t (List.mem_range.2 htl)
    simp only [Bool.or_eq_true, decide_eq_true_eq] at h1
    have h2 := List.all_eq_true.1 (h1.resolve_left ht) i (List.mem_range.2 hi)
    rw [ho] at h2
    obtain ⟨e, he, hb⟩ := Array.any_eq_true'.1 h2
    simp only [Bool.and_eq_true, beq_iff_eq] at hb
    have h3 := hall e he hb.1
    rw [hb.2] at h3
    rcases Nat.lt_or_ge i listed.size with h' | h'
    · simp [h'] at hun h3; rw [hun] at h3; cases h3
    · simp [Array.getElem?_eq_none h'] at h3

theorem take_first {i : Nat} {oi : Oper} {v : Value} (hi : ops[i]? = some oi) (hsel : ∀ (j : Nat) (o : Oper) cs b, ops[j]? = some o → o.op ≠ .select cs b)
    (hQ : ∀ c a w, Q (.panic c) (a.put oi.dst v) w → Q (.panic c) a w) (hin : i < n) (ht : tailB md ops n = true) :
    ∀ (f : Nat) (listed : Array Bool) (a : Act) (w : World), C w →
      (∀ j oj, ops[j]? = some oj → j ≠ i → listed.getD j true = false → (∀ e ∈ oj.after, Region.binds md e = true → e.on ≠ i) → oi.apart ops oj = true) →
      i ∈ Region.ready md ops listed → ReadsAs P ops C oi v a →
      wpAnyC P md ops C n Q f (listed.setIfInBounds i true) (a.put oi.dst v) w → wpAnyC P md ops C n Q (f + 1) listed a w := by
  intro f
  induction f with
  | zero =>
    intro listed a w hC _ hr hy H
    refine ⟨fun h => (by rw [h] at hr; cases hr), fun j hj => ?_⟩
    by_cases hji : j = i
    · subst hji; exact hy.op hi hC ⟨fun _ => hC, H⟩
    · have := ready_mono hj hji
      rw [H.1] at this
      cases this
  | succ f ih =>
    intro listed a w hC hfree hr hy H
    have hun := (mem_ready.1 hr).1
    refine ⟨fun h => (by rw [h] at hr; cases hr), fun j hj => ?_⟩
    by_cases hji : j = i
    · subst hji; exact hy.op hi hC ⟨fun _ => hC, H⟩
    · have hjn : j < n := tailB_waits ht hin hun hj
      have h1 := H.2 j (ready_mono hj hji)
      obtain ⟨hjun, oj, hoj, hall⟩ := mem_ready.1 hj
      have hnot : ∀ e ∈ oj.after, Region.binds md e = true → e.on ≠ i := fun e he hb heq => by
        have h3 := hall e he hb
        rw [heq] at h3
        rcases Nat.lt_or_ge i listed.size with h' | h'
        · simp [h'] at hun h3; rw [hun] at h3; cases h3
        · simp [Array.getElem?_eq_none h'] at h3
      have h2 := op_late hoj (hfree j oj hoj hji hjun hnot) (fun cs b => hsel i oi cs b hi) (fun cs b => hsel j oj cs b hoj) hQ hy h1
      refine wpOp_mono (fun a' w' h3 => ?_) h2
      obtain ⟨hy', hC', H'⟩ := h3
      have hC2 := hC' hjn
      refine ⟨fun _ => hC2, ih (listed.setIfInBounds j true) a' w' hC2 ?_ (ready_mono hr (Ne.symm hji)) hy' ?_⟩
      · intro k ok hk hki hkun hno
        refine hfree k ok hk hki ?_ hno
        by_cases hjk : j = k
        · subst hjk; exact hjun
        · rw [getD_set_ne true hjk] at hkun; exact hkun
      · rw [Array.setIfInBounds_comm _ _ hji]
        exact H'

/-- The operations in the order in which they are walked: its place, whether it only reads, itself; R: what is asked then. -/
def wpBy (P : Program) (ops : Array Oper) (C : World → Prop) (n : Nat) (Q : Exit → Act → World → Prop) (R : Act → World → Prop) : List (Nat × Bool × Oper) → Act → World → Prop
  | [], a, w => R a w
  | (_, true, o) :: rest, a, w => ∃ v, ReadsAs P ops C o v a ∧ wpBy P ops C n Q R rest (a.put o.dst v) w
  | (i, false, _) :: rest, a, w => wpOp P ops Q i (fun a' w' => (i < n → C w') ∧ wpBy P ops C n Q R rest a' w') a w
/-- Places that have come up. -/
def markL (listed : Array Bool) (p : List (Nat × Bool)) : Array Bool := p.foldl (fun l x => l.setIfInBounds x.1 true) listed
def byB (md : Region.Mode) (ops : Array Oper) (n : Nat) : List (Nat × Bool) → Array Bool → Bool
  | [], _ => true
  | (i, true) :: rest, listed => decide (i < n) && (Region.ready md ops listed).contains i && Region.free md ops listed i && byB md ops n rest (listed.setIfInBounds i true)
  | (i, false) :: rest, listed => decide (Region.ready md ops listed = [i]) && (decide (i < n) || rest.all fun x => decide (n ≤ x.1)) && byB md ops n rest (listed.setIfInBounds i true)
def arrange (l : List Oper) (p : List (Nat × Bool)) (d : Oper) : List (Nat × Bool × Oper) := p.map fun x => (x.1, x.2, l.getD x.1 d)

theorem wpAnyC_of_by {l : List Oper} {d : Oper} {f : Nat} (hs : Region.noSelect l.toArray = true) (ht : tailB md l.toArray n = true) (hQ : ∀ x v c a w, Q (.panic c) (Act.put a x v) w → Q (.panic c) a w) :
    ∀ (p : List (Nat × Bool)) (listed : Array Bool) (a : Act) (w : World), byB md l.toArray n p listed = true → (C w ∨ p.all (fun x => decide (n ≤ x.1)) = true) →
      wpBy P l.toArray C n Q (fun a w => wpAnyC P md l.toArray C n Q f (markL listed p) a w) (arrange l p d) a w → wpAnyC P md l.toArray C n Q (p.length + f) listed a w
  | [], listed, a, w, _, _, h => by rw [List.length_nil, Nat.zero_add]; exact h
  | (i, true) :: p, listed, a, w, hB, hC, h => by
    simp only [byB, Bool.and_eq_true, decide_eq_true_eq] at hB
    obtain ⟨⟨⟨hin, hr⟩, hf⟩, hB'⟩ := hB
    have hr' : i ∈ Region.ready md l.toArray listed := by simpa using hr
    obtain ⟨_, oi, hoi, _⟩ := mem_ready.1 hr'
    have hoi2 : l.getD i d = oi := by
      have : l[i]? = some oi := by simpa using hoi
      simp [List.getD, this]
    have hC' : C w := by
      rcases hC with hC | hC
      · exact hC
      · simp only [List.all_cons, Bool.and_eq_true, decide_eq_true_eq] at hC
        omega
    obtain ⟨v, hy, hK⟩ := h
    rw [hoi2] at hy hK
    rw [List.length_cons, show p.length + 1 + f = (p.length + f) + 1 by omega]
    exact take_first hoi (Region.noSelect_spec hs) (hQ _ _) hin ht (p.length + f) listed a w hC' (Region.free_spec hoi hf) hr' hy (wpAnyC_of_by hs ht hQ p _ _ w hB' (.inl hC') hK)
  | (i, false) :: p, listed, a, w, hB, hC, h => by
    simp only [byB, Bool.and_eq_true, Bool.or_eq_true, decide_eq_true_eq] at hB
    obtain ⟨⟨hr, hn⟩, hB'⟩ := hB
    rw [List.length_cons, show p.length + 1 + f = (p.length + f) + 1 by omega]
    refine ⟨fun h0 => (by rw [hr] at h0; cases h0), fun j hj => ?_⟩
    rw [hr] at hj
    have hji : j = i := by simpa using hj
    subst hji
    refine wpOp_mono (fun a' w' h' => ⟨h'.1, wpAnyC_of_by hs ht hQ p _ a' w' hB' ?_ h'.2⟩) h
    rcases hn with hn | hn
    · exact .inl (h'.1 hn)
    · exact .inr hn

theorem wpBy_end {R R' : Act → World → Prop} (hR : ∀ a w, R a w → R' a w) : ∀ (l : List (Nat × Bool × Oper)) (a : Act) (w : World), wpBy P ops C n Q R l a w → wpBy P ops C n Q R' l a w
  | [], a, w, h => hR a w h
  | (_, true, _) :: rest, _, _, ⟨v, hy, h⟩ => ⟨v, hy, wpBy_end hR rest _ _ h⟩
  | (_, false, _) :: rest, _, _, h => wpOp_mono (fun a' w' h' => ⟨h'.1, wpBy_end hR rest a' w' h'.2⟩) h

/-- THE REGION, its operations in one order. -/
theorem region_by {id : Nat} {a : Act} {w : World} {l : List Oper} (C : World → Prop) (n : Nat) (p : List (Nat × Bool)) (d : Oper) (hm : P.follows .mixedOrders = true)
    (hB : (decide (p.length = l.length) && Region.noSelect l.toArray && tailB .any l.toArray n && byB .any l.toArray n p (Array.replicate l.length false) && (Region.ready .any l.toArray (markL (Array.replicate l.length false) p)).isEmpty) = true) (hC : C w.drew)
    (hQ : ∀ x v c a w, Q (.panic c) (Act.put a x v) w → Q (.panic c) a w) (h : wpBy P l.toArray C n Q (Q .normal) (arrange l p d) a w.drew) : (Code.region id l.toArray true).wp P Q a w := by
  simp only [Bool.and_eq_true, decide_eq_true_eq, List.isEmpty_iff] at hB
  obtain ⟨⟨⟨⟨hl, hs⟩, ht⟩, hb⟩, he⟩ := hB
  refine wp_region_any hm ?_
  have := wpAnyC.plain _ _ _ _ (wpAnyC_of_by (f := 0) hs ht hQ p (Array.replicate l.length false) a w.drew hb (.inl hC) (wpBy_end (fun a w hq => ⟨he, hq⟩) _ _ _ h))
  rw [Nat.add_zero, hl] at this
  simpa using this
/-- THE REGION, its first operations in one order, and then whatever comes up. -/
theorem region_part {id : Nat} {a : Act} {w : World} {l : List Oper} (C : World → Prop) (n : Nat) (p : List (Nat × Bool)) (f : Nat) (d : Oper) (hm : P.follows .mixedOrders = true)
    (hB : (decide (p.length + f = l.length) && Region.noSelect l.toArray && tailB .any l.toArray n && byB .any l.toArray n p (Array.replicate l.length false)) = true) (hC : C w.drew)
    (hQ : ∀ x v c a w, Q (.panic c) (Act.put a x v) w → Q (.panic c) a w)
    (h : wpBy P l.toArray C n Q (fun a w => wpAnyC P .any l.toArray C n Q f (markL (Array.replicate l.length false) p) a w) (arrange l p d) a w.drew) : (Code.region id l.toArray true).wp P Q a w := by
  simp only [Bool.and_eq_true, decide_eq_true_eq] at hB
  obtain ⟨⟨⟨hl, hs⟩, ht⟩, hb⟩ := hB
  refine wp_region_any hm ?_
  have := wpAnyC.plain _ _ _ _ (wpAnyC_of_by hs ht hQ p (Array.replicate l.length false) a w.drew hb (.inl hC) h)
  rw [hl] at this
  simpa using this
/-- What is left, in one order. -/
theorem rest_by {l : List Oper} {a : Act} {w : World} {listed : Array Bool} (p : List (Nat × Bool)) (d : Oper)
    (hB : (Region.noSelect l.toArray && tailB md l.toArray n && byB md l.toArray n p listed && (Region.ready md l.toArray (markL listed p)).isEmpty) = true) (hC : C w)
    (hQ : ∀ x v c a w, Q (.panic c) (Act.put a x v) w → Q (.panic c) a w) (h : wpBy P l.toArray C n Q (Q .normal) (arrange l p d) a w) : wpAnyC P md l.toArray C n Q p.length listed a w := by
  simp only [Bool.and_eq_true, List.isEmpty_iff] at hB
  obtain ⟨⟨⟨hs, ht⟩, hb⟩, he⟩ := hB
  have := wpAnyC_of_by (f := 0) hs ht hQ p listed a w hb (.inl hC) (wpBy_end (fun a w hq => ⟨he, hq⟩) _ _ _ h)
  rwa [Nat.add_zero] at this
/-- What is left: one of two comes up. -/
theorem rest_two {l : List Oper} {a : Act} {w : World} {listed : Array Bool} {f : Nat} (i j : Nat) (d : Oper) (hr : decide (Region.ready md l.toArray listed = [i, j]) = true)
    (hi : wpBy P l.toArray C n Q (fun a w => wpAnyC P md l.toArray C n Q f (listed.setIfInBounds i true) a w) (arrange l [(i, false)] d) a w)
    (hj : wpBy P l.toArray C n Q (fun a w => wpAnyC P md l.toArray C n Q f (listed.setIfInBounds j true) a w) (arrange l [(j, false)] d) a w) : wpAnyC P md l.toArray C n Q (f + 1) listed a w := by
  simp only [decide_eq_true_eq] at hr
  refine ⟨fun h0 => (by rw [hr] at h0; cases h0), fun k hk => ?_⟩
  rw [hr] at hk
  simp only [List.mem_cons, List.not_mem_nil, or_false] at hk
  rcases hk with rfl | rfl
  · exact hi
  · exact hj

theorem by_nil {R : Act → World → Prop} {a : Act} {w : World} (h : R a w) : wpBy P ops C n Q R [] a w := h
/-- One that makes memory, or calls. -/
theorem by_move {R : Act → World → Prop} {i : Nat} {o : Oper} {rest : List (Nat × Bool × Oper)} {a : Act} {w : World} (ho : ops[i]? = some o)
    (h : ∀ K : Act → World → Prop, (∀ a' w', (i < n → C w') → wpBy P ops C n Q R rest a' w' → K a' w') → if Region.wanted o (yielded ops a.tmps) = true then o.wp P a w K Q else K (a.put o.dst undef) w) :
    wpBy P ops C n Q R ((i, false, o) :: rest) a w := by
  show wpOp P ops Q i _ a w
  unfold wpOp
  simp only [ho]
  have := h (fun a' w' => (i < n → C w') ∧ wpBy P ops C n Q R rest a' w') (fun _ _ h1 h2 => ⟨h1, h2⟩)
  split
  · rename_i hw; rw [if_pos hw] at this; exact .inl this
  · rename_i hw; rw [if_neg hw] at this; exact this

/-- What never enters a function. -/
def readB : Op → Bool
  | .move _ | .assign _ | .pick .. | .load .. | .binOp .. | .unOp .. | .convert .. | .fieldAddr .. | .field .. | .indexAddr .. | .index .. | .extract .. | .slice .. | .build .. | .makeInterface .. => true
  | .call { callee := .builtin .len, .. } | .call { callee := .builtin .cap, .. } => true
  | _ => false
end
end Go.Proofs.Ytdjadeegjbhihaa

/- The steps of a statement whose order is open that only read. -/
namespace Go.Proofs.Ytdjadeegjbhihaa

section
variable {P : Program} {ops : Array Oper} {C : World → Prop} {Q : Exit → Act → World → Prop} {n : Nat}

theorem value_enter {s : Sem Value} {w w' : World} {f : FuncId} {args : Array Value} (h : (do pure (Next.value (← s)) : Sem Next).run P w = .ok (.enter f args) w') : False := by
  simp only [Sem.run_bind] at h
  generalize s.run P w = r at h
  cases r with
  | ok u w1 => simp [Result.andThen, Sem.run_pure] at h
  | halt x w1 => simp [Result.andThen] at h
theorem and_enter {r : Result Value} {w' : World} {f : FuncId} {args : Array Value} (h : (r.andThen fun a w' => Result.ok (Next.value a) w') = Result.ok (Next.enter f args) w') : False := by
  cases r with
  | ok u w1 => simp [Result.andThen] at h
  | halt x w1 => simp [Result.andThen] at h
theorem read_enter {o : Oper} (hr : readB o.op = true) {ρ : Operand → Value} {w w' : World} {f : FuncId} {args : Array Value} (h : (execOp ρ o).run P w = .ok (.enter f args) w') : False := by
  obtain ⟨dst, op, type, pos, after, guard⟩ := o
  unfold execOp at h
  cases op
  case pick c a b => exact value_enter (s := do pure (if ← asBool (ρ c) then ρ a else ρ b)) (by simpa using h)
  case call c =>
    obtain ⟨callee, args', tys⟩ := c
    cases callee with
    | builtin b =>
      cases b <;> simp [readB] at hr
      all_goals
        simp [resolve, invoke, builtin] at h
        exact and_enter h
    | _ => simp [readB] at hr
  all_goals first
    | (simp [readB] at hr; done)
    | exact value_enter h
    | (simp [Sem.run_pure] at h; done)
theorem by_read {R : Act → World → Prop} {i : Nat} {o : Oper} {rest : List (Nat × Bool × Oper)} {a : Act} {w : World} (hr : readB o.op = true)
    (h : ∀ K : Act → Prop, (∀ a', wpBy P ops C n Q R rest a' w → K a') → if Region.wanted o (yielded ops a.tmps) = true then o.quiet P a C K else K (a.put o.dst undef)) :
    wpBy P ops C n Q R ((i, true, o) :: rest) a w := by
  have := h (fun a' => wpBy P ops C n Q R rest a' w) (fun _ h => h)
  by_cases hw : Region.wanted o (yielded ops a.tmps) = true
  · rw [if_pos hw] at this
    obtain ⟨v, hv, hK⟩ := this
    refine ⟨v, .inl ⟨hw, fun w' hC => ?_⟩, hK⟩
    have h1 := hv w' hC
    have h2 := @read_enter P o hr a.eval w'
    unfold Oper.quietAt at h1
    generalize (execOp a.eval o).run P w' = r at h1 h2 ⊢
    cases r with
    | halt x w1 => exact h1.elim
    | ok nx w1 =>
      cases nx
      case value u => obtain ⟨rfl, rfl⟩ := h1; exact .inl rfl
      case skip => obtain ⟨rfl, rfl⟩ := h1; exact .inr ⟨rfl, rfl⟩
      case enter f args => exact (h2 rfl).elim
      all_goals exact h1.elim
  · rw [if_neg hw] at this
    exact ⟨undef, .inr ⟨by simpa using hw, rfl⟩, this⟩
/-- A look at a pointer that is something. -/
theorem by_check {R : Act → World → Prop} {i : Nat} {o : Oper} {rest : List (Nat × Bool × Oper)} {a : Act} {w : World} (x : Operand) (p : Addr) (ho : o.op = .nilCheck x) (hg : o.guard = none) (hx : a.eval x = .pointer (some p))
    (h : wpBy P ops C n Q R rest (a.put o.dst (.pointer (some p))) w) : wpBy P ops C n Q R ((i, true, o) :: rest) a w :=
  ⟨_, .inl ⟨by simp [Region.wanted, hg], fun w' _ => .inl (by unfold execOp; simp [ho, hx])⟩, h⟩
end
/-- A class of worlds, under names of its own. -/
theorem cls (p : World → Prop) : ∃ (ι : Type) (W : ι → World), (∀ w', p w' → ∃ x, w' = W x) ∧ ∀ x, p (W x) := ⟨{ w' // p w' }, Subtype.val, fun w' h => ⟨⟨w', h⟩, rfl⟩, fun x => x.2⟩
end Go.Proofs.Ytdjadeegjbhihaa

/- A statement whose order is open, by what each of its operations leaves: whatever comes up next finds what it waits for, and leaves what the others found. -/
namespace Go.Proofs.Ytdjadeegjbhihaa
section
variable {P : Program} {Q : Exit → Act → World → Prop}

/-- Where an operation's value goes. -/
def dstOf (l : List Oper) (j : Nat) : Option Tmp := (l[j]?).bind (·.dst)
/-- All values of the first n, laid in their order. -/
def puts (a : Act) (l : List Oper) (vals : Nat → Value) : Nat → Act
  | 0 => a
  | n + 1 => (puts a l vals n).put (dstOf l n) (vals n)
/-- The first n: each has a place of its own for its value, and no guard; those behind wait for all of them. -/
def openB (l : List Oper) (n : Nat) : Bool :=
  decide (n ≤ l.length) && tailB .any l.toArray n &&
  ((List.range n).all fun i => match l[i]? with
    | some o => o.guard.isNone && o.dst.isSome && ((List.range n).all fun j => i == j || dstOf l i != dstOf l j) && o.after.all fun e => !Region.binds .any e || decide (e.on < i)
    | none => false)
/-- What is known where an operation comes up: what was there before the statement, and what those that it waits for left. -/
structure Known (l : List Oper) (n : Nat) (PR : Nat → Value → World → Prop) (a0 a : Act) (w : World) (o : Oper) : Prop where
  size : a.tmps.size = a0.tmps.size
  old : ∀ k, (∀ j, j < n → dstOf l j ≠ some k) → a.eval (.tmp k) = a0.eval (.tmp k)
  new : ∀ j d, j < n → (o.after.any fun e => Region.binds .any e && e.on == j) = true → dstOf l j = some d → d < a0.tmps.size → PR j (a.eval (.tmp d)) w

theorem eval_put_same (a : Act) (d : Tmp) (v : Value) (h : d < a.tmps.size) : (a.put (some d) v).eval (.tmp d) = v := by
  simp [Act.put, Act.eval, h]
theorem eval_put_ne (a : Act) (x : Option Tmp) (k : Tmp) (v : Value) (h : x ≠ some k) : (a.put x v).eval (.tmp k) = a.eval (.tmp k) := by
  cases x with
  | none => rfl
  | some d =>
    have : d ≠ k := fun e => h (by rw [e])
    simp [Act.put, Act.eval, Array.getElem?_setIfInBounds_ne this]
theorem size_put (a : Act) (x : Option Tmp) (v : Value) : (a.put x v).tmps.size = a.tmps.size := by
  cases x <;> simp [Act.put]
theorem defers_put (a : Act) (x : Option Tmp) (v : Value) : (a.put x v).defers = a.defers := by
  cases x <;> simp [Act.put]
theorem size_puts (a : Act) (l : List Oper) (vals : Nat → Value) (n : Nat) : (puts a l vals n).tmps.size = a.tmps.size := by
  induction n with
  | zero => rfl
  | succ n ih => rw [puts, size_put, ih]
theorem defers_puts (a : Act) (l : List Oper) (vals : Nat → Value) (n : Nat) : (puts a l vals n).defers = a.defers := by
  induction n with
  | zero => rfl
  | succ n ih => rw [puts, defers_put, ih]
theorem eval_puts_old (a : Act) (l : List Oper) (vals : Nat → Value) (k : Tmp) : ∀ n, (∀ j, j < n → dstOf l j ≠ some k) → (puts a l vals n).eval (.tmp k) = a.eval (.tmp k)
  | 0, _ => rfl
  | n + 1, h => by rw [puts, eval_put_ne _ _ _ _ (h n (Nat.lt_succ_self n)), eval_puts_old a l vals k n (fun j hj => h j (by omega))]
theorem eval_puts_new (a : Act) (l : List Oper) (vals : Nat → Value) (j k : Nat) (hk : k < a.tmps.size) (hd : dstOf l j = some k) : ∀ n, j < n → (∀ i, i < n → i ≠ j → dstOf l i ≠ dstOf l j) → (puts a l vals n).eval (.tmp k) = vals j
  | 0, h, _ => absurd h (by omega)
  | n + 1, h, hne => by
    rw [puts]
    by_cases hj : n = j
    · subst hj; rw [hd]; exact eval_put_same _ _ _ (by rw [size_puts]; exact hk)
    · rw [eval_put_ne _ _ _ _ (by rw [← hd]; exact hne n (Nat.lt_succ_self n) hj)]
      exact eval_puts_new a l vals j k hk hd n (by omega) (fun i hi h => hne i (by omega) h)
theorem act_ext {a b : Act} (hs : a.tmps.size = b.tmps.size) (hd : a.defers = b.defers) (h : ∀ k, k < b.tmps.size → a.eval (.tmp k) = b.eval (.tmp k)) : a = b := by
  obtain ⟨t, d⟩ := a
  obtain ⟨t', d'⟩ := b
  simp only at hs hd
  subst hd
  have : t = t' := by
    apply Array.ext hs
    intro i h1 h2
    have := h i (by simpa using h2)
    simpa [Act.eval, h1, h2] using this
  rw [this]

theorem openB_spec {l : List Oper} {n : Nat} (h : openB l n = true) : n ≤ l.length ∧ tailB .any l.toArray n = true ∧ ∀ i, i < n → ∃ o d, l[i]? = some o ∧ o.guard = none ∧ o.dst = some d ∧ (∀ j, j < n → j ≠ i → dstOf l j ≠ some d) ∧ ∀ e ∈ o.after, Region.binds .any e = true → e.on < i := by
  simp only [openB, Bool.and_eq_true, decide_eq_true_eq] at h
  obtain ⟨⟨h1, h2⟩, h3⟩ := h
  refine ⟨h1, h2, fun i hi => ?_⟩
  have h4 := List.all_eq_true.1 h3 i (List.mem_range.2 hi)
  cases ho : l[i]? with
  | none => rw [ho] at h4; cases h4
  | some o =>
    rw [ho] at h4
    simp only [Bool.and_eq_true, Option.isNone_iff_eq_none, Option.isSome_iff_exists] at h4
    obtain ⟨⟨⟨hg, d, hd⟩, ha⟩, haf⟩ := h4
    refine ⟨o, d, rfl, hg, hd, fun j hj hne he => ?_, fun e he hb => by simpa [hb] using Array.all_eq_true'.1 haf e he⟩
    have h5 := List.all_eq_true.1 ha j (List.mem_range.2 hj)
    simp only [Bool.or_eq_true, beq_iff_eq, bne_iff_ne, ne_eq] at h5
    rcases h5 with h5 | h5
    · exact hne h5.symm
    · exact h5 (by rw [he]; simp [dstOf, ho, hd])

theorem binds_of {o : Oper} {j : Nat} (h : (o.after.any fun e => Region.binds .any e && e.on == j) = true) : ∃ e ∈ o.after, Region.binds .any e = true ∧ e.on = j := by
  obtain ⟨e, he, hb⟩ := Array.any_eq_true'.1 h
  simp only [Bool.and_eq_true, beq_iff_eq] at hb
  exact ⟨e, he, hb.1, hb.2⟩

/-- How many have come up, of the first n. -/
def cnt (listed : Array Bool) : Nat → Nat
  | 0 => 0
  | n + 1 => cnt listed n + if listed.getD n false = true then 1 else 0
theorem cnt_le (listed : Array Bool) : ∀ n, cnt listed n ≤ n
  | 0 => Nat.le_refl _
  | n + 1 => by have := cnt_le listed n; unfold cnt; split <;> omega
theorem cnt_set {listed : Array Bool} {i : Nat} (hi : listed.getD i true = false) : ∀ n, i < n → cnt (listed.setIfInBounds i true) n = cnt listed n + 1
  | 0, h => absurd h (by omega)
  | n + 1, h => by
    have hlt : i < listed.size := by
      rcases Nat.lt_or_ge i listed.size with h' | h'
      · exact h'
      · simp [Array.getElem?_eq_none h'] at hi
    unfold cnt
    by_cases hn : i = n
    · subst hn
      have e1 : (listed.setIfInBounds i true).getD i false = true := by simp [hlt]
      have e2 : listed.getD i false = false := by simp [hlt] at hi ⊢; exact hi
      have e3 : ∀ m, m ≤ i → cnt (listed.setIfInBounds i true) m = cnt listed m := by
        intro m
        induction m with
        | zero => intro _; rfl
        | succ m ih => intro hm; unfold cnt; rw [ih (by omega), getD_set_ne false (by omega)]
      rw [e1, e2, e3 i (Nat.le_refl _)]
      simp
    · rw [cnt_set hi n (by omega), getD_set_ne false hn]
      omega
theorem cnt_full {listed : Array Bool} : ∀ {n : Nat}, cnt listed n = n → ∀ i, i < n → listed.getD i false = true
  | 0, _, i, hi => absurd hi (by omega)
  | n + 1, h, i, hi => by
    unfold cnt at h
    have h1 := cnt_le listed n
    have h2 : cnt listed n = n ∧ listed.getD n false = true := by
      by_cases hh : listed.getD n false = true
      · rw [if_pos hh] at h; exact ⟨by omega, hh⟩
      · rw [if_neg hh] at h; omega
    by_cases hn : i = n
    · subst hn; exact h2.2
    · exact cnt_full h2.1 i (by omega)

theorem open_go {l : List Oper} {a0 : Act} (n : Nat) (PR : Nat → Value → World → Prop) (G : Nat → World → Prop) (T : World → World → Prop)
    (hB : openB l n = true) (hd0 : ∀ j d, j < n → dstOf l j = some d → d < a0.tmps.size)
    (hT : ∀ j v w w', PR j v w → T w w' → PR j v w')
    (step : ∀ i o, i < n → l[i]? = some o → ∀ (a : Act) (w : World) (c : Nat), c < n → G c w → Known l n PR a0 a w o → o.wp P a w (fun a' w' => ∃ v, a' = a.put o.dst v ∧ PR i v w' ∧ G (c + 1) w' ∧ T w w') Q)
    (fin : ∀ (vals : Nat → Value) (w : World), G n w → (∀ j, j < n → PR j (vals j) w) → wpAny P .any l.toArray Q (l.length - n) (markL (Array.replicate l.length false) ((List.range n).map fun i => (i, true))) (puts a0 l vals n) w) :
    ∀ (f : Nat) (listed : Array Bool) (a : Act) (w : World), listed.size = l.length → (∀ i, n ≤ i → i < l.length → listed.getD i true = false) → f + cnt listed n = l.length → G (cnt listed n) w → a.tmps.size = a0.tmps.size → a.defers = a0.defers →
      (∀ k, (∀ j, j < n → dstOf l j ≠ some k) → a.eval (.tmp k) = a0.eval (.tmp k)) → (∀ j, j < n → listed.getD j false = false → ∀ d, dstOf l j = some d → a.eval (.tmp d) = a0.eval (.tmp d)) →
      (∀ j d, j < n → listed.getD j false = true → dstOf l j = some d → PR j (a.eval (.tmp d)) w) → wpAny P .any l.toArray Q f listed a w := by
  obtain ⟨hn, ht, hop⟩ := openB_spec hB
  have done : ∀ (f : Nat) (listed : Array Bool) (a : Act) (w : World), cnt listed n = n → listed.size = l.length → (∀ i, n ≤ i → i < l.length → listed.getD i true = false) → f + cnt listed n = l.length → G (cnt listed n) w → a.tmps.size = a0.tmps.size → a.defers = a0.defers →
      (∀ k, (∀ j, j < n → dstOf l j ≠ some k) → a.eval (.tmp k) = a0.eval (.tmp k)) →
      (∀ j d, j < n → listed.getD j false = true → dstOf l j = some d → PR j (a.eval (.tmp d)) w) → wpAny P .any l.toArray Q f listed a w := by
    intro f listed a w hc hsz hbeh hf hG hs hdf hold hnew
    have hall := cnt_full hc
    have hfull : listed = markL (Array.replicate l.length false) ((List.range n).map fun i => (i, true)) := by
      have hm : ∀ m, m ≤ n → (markL (Array.replicate l.length false) ((List.range m).map fun i => (i, true))).size = l.length ∧ ∀ k, k < l.length → (markL (Array.replicate l.length false) ((List.range m).map fun i => (i, true))).getD k false = decide (k < m) := by
        intro m
        induction m with
        | zero => intro _; exact ⟨by simp [markL], fun k hk => by simp [markL, hk]⟩
        | succ m ih =>
          intro hmn
          obtain ⟨h1, h2⟩ := ih (by omega)
          have e : markL (Array.replicate l.length false) ((List.range (m + 1)).map fun i => (i, true)) = (markL (Array.replicate l.length false) ((List.range m).map fun i => (i, true))).setIfInBounds m true := by
            simp [markL, List.range_succ, List.map_append, List.foldl_append]
          rw [e]
          refine ⟨by simp [h1], fun k hk => ?_⟩
          by_cases hmk : m = k
          · subst hmk; simp [h1, hk]
          · rw [getD_set_ne false hmk, h2 k hk]
            by_cases hkm : k < m
            · simp [hkm]; omega
            · simp [hkm]; omega
      obtain ⟨h1, h2⟩ := hm n (Nat.le_refl n)
      apply Array.ext (by rw [hsz, h1])
      intro k hk1 hk2
      have h3 := h2 k (by omega)
      have h4 : listed.getD k false = decide (k < n) := by
        by_cases hkn : k < n
        · rw [hall k hkn]; simp [hkn]
        · have := hbeh k (by omega) (by omega)
          simp [hk1] at this ⊢
          rw [this]; simp [hkn]
      simpa [hk1, hk2] using h4.trans h3.symm
    let vals : Nat → Value := fun j => match dstOf l j with
      | some d => a.eval (.tmp d)
      | none => undef
    have hvals : ∀ j d, dstOf l j = some d → vals j = a.eval (.tmp d) := fun j d h => by simp [vals, h]
    have ha : a = puts a0 l vals n := by
      apply act_ext (by rw [hs, size_puts]) (by rw [hdf, defers_puts])
      intro k hk
      rw [size_puts] at hk
      by_cases hex : ∃ j, j < n ∧ dstOf l j = some k
      · obtain ⟨j, hj, hdj⟩ := hex
        obtain ⟨o, d, ho, _, hd, hne, _⟩ := hop j hj
        have hdk : dstOf l j = some d := by simp [dstOf, ho, hd]
        rw [eval_puts_new a0 l vals j k hk hdj n hj (fun i hi hij => by rw [hdk]; exact hne i hi hij), hvals j k hdj]
      · rw [eval_puts_old a0 l vals k n (fun j hj he => hex ⟨j, hj, he⟩)]
        exact hold k (fun j hj he => hex ⟨j, hj, he⟩)
    have hfn : f = l.length - n := by omega
    rw [hfn, hfull, ha]
    refine fin vals w (by rw [hc] at hG; exact hG) (fun j hj => ?_)
    obtain ⟨o, d, ho, _, hd, _, _⟩ := hop j hj
    have hdk : dstOf l j = some d := by simp [dstOf, ho, hd]
    rw [hvals j d hdk]
    exact hnew j d hj (hall j hj) hdk
  intro f
  induction f with
  | zero =>
    intro listed a w hsz hbeh hf hG hs hdf hold hun hnew
    have := cnt_le listed n
    exact done 0 listed a w (by omega) hsz hbeh hf hG hs hdf hold hnew
  | succ f ih =>
    intro listed a w hsz hbeh hf hG hs hdf hold hun hnew
    by_cases hc : cnt listed n = n
    · exact done (f + 1) listed a w hc hsz hbeh hf hG hs hdf hold hnew
    have hcl := cnt_le listed n
    -- one of the first is missing: so what comes up is one of them
    obtain ⟨m, hm, hmun⟩ : ∃ m, m < n ∧ listed.getD m true = false := by
      refine Classical.byContradiction fun hno => hc ?_
      have : ∀ k, k ≤ n → cnt listed k = k := by
        intro k
        induction k with
        | zero => intro _; rfl
        | succ k ihk =>
          intro hk
          unfold cnt
          rw [ihk (by omega)]
          have hkl : k < listed.size := by omega
          have : listed.getD k false = true := by
            refine Classical.byContradiction fun h => hno ⟨k, by omega, ?_⟩
            simp [hkl] at h ⊢; exact h
          rw [this]; simp
      exact this n (Nat.le_refl n)
    have hnon : ∀ i ∈ Region.ready .any l.toArray listed, i < n := fun i hi => tailB_waits ht hm hmun hi
    refine ⟨fun h0 => ?_, fun i hi => ?_⟩
    · exfalso
      have : ∀ k, k < n → listed.getD k false = true := by
        intro k
        induction k using Nat.strongRecOn with
        | ind k ihk =>
          intro hk
          refine Classical.byContradiction fun hkf => ?_
          obtain ⟨o, d, ho, _, _, _, haf⟩ := hop k hk
          have hkl : k < listed.size := by omega
          have : k ∈ Region.ready .any l.toArray listed := mem_ready.2 ⟨by simp [hkl] at hkf ⊢; exact hkf, o, by simpa using ho, fun e he hb => ihk e.on (haf e he hb) (by have := haf e he hb; omega)⟩
          rw [h0] at this
          cases this
      have h1 := this m hm
      have hml : m < listed.size := by omega
      simp [hml] at h1 hmun
      rw [h1] at hmun
      cases hmun
    · have hin := hnon i hi
      obtain ⟨hiun, o', ho', hall⟩ := mem_ready.1 hi
      obtain ⟨o, d, ho, hg, hd, hne, haf⟩ := hop i hin
      obtain rfl : o' = o := by
        have : l[i]? = some o' := by simpa using ho'
        rw [ho] at this; exact (Option.some.inj this).symm
      have hdi : dstOf l i = some d := by simp [dstOf, ho, hd]
      have hil : i < listed.size := by omega
      have hknown : Known l n PR a0 a w o' := ⟨hs, hold, fun j dj hj hw hdj _ => by
        obtain ⟨e, he, hb, hej⟩ := binds_of hw
        have h3 := hall e he hb
        rw [hej] at h3
        exact hnew j dj hj h3 hdj⟩
      have hst := step i o' hin ho a w (cnt listed n) (by omega) hG hknown
      unfold wpOp
      simp only [ho']
      rw [if_pos (by simp [Region.wanted, hg])]
      refine .inl (Oper.wp_mono (fun a' w' h' => ?_) hst)
      obtain ⟨v, rfl, hp, hG', hT'⟩ := h'
      have hcs := cnt_set hiun n hin
      refine ih (listed.setIfInBounds i true) _ w' (by simp [hsz]) (fun k hk1 hk2 => by rw [getD_set_ne true (by omega)]; exact hbeh k hk1 hk2) (by rw [hcs]; omega) (by rw [hcs]; exact hG') (by rw [size_put, hs]) (by rw [defers_put, hdf]) (fun k hk => ?_) (fun j hj hjf dj hdj => ?_) (fun j dj hj hjt hdj => ?_)
      · rw [eval_put_ne _ _ _ _ (by rw [hd, ← hdi]; exact hk i hin)]
        exact hold k hk
      · by_cases hij : i = j
        · subst hij; simp [hil] at hjf
        · rw [getD_set_ne false hij] at hjf
          rw [eval_put_ne _ _ _ _ (by rw [hd]; intro e; exact hne j hj (Ne.symm hij) (by rw [hdj, ← e]))]
          exact hun j hj hjf dj hdj
      · by_cases hij : i = j
        · subst hij
          rw [hdi] at hdj
          obtain rfl := Option.some.inj hdj
          rw [hd, eval_put_same _ _ _ (by rw [hs]; exact hd0 i _ hin hdi)]
          exact hp
        · rw [getD_set_ne false hij] at hjt
          rw [eval_put_ne _ _ _ _ (by rw [hd]; intro e; exact hne j hj (Ne.symm hij) (by rw [hdj, ← e]))]
          exact hT j _ w w' (hnew j dj hj hjt hdj) hT'
/-- THE REGION, by what each operation leaves. -/
theorem region_open {id : Nat} {a0 : Act} {w : World} {l : List Oper} (n : Nat) (PR : Nat → Value → World → Prop) (G : Nat → World → Prop) (T : World → World → Prop) (hm : P.follows .mixedOrders = true)
    (hB : openB l n = true) (hd0 : ∀ j d, j < n → dstOf l j = some d → d < a0.tmps.size) (hG : G 0 w.drew)
    (hT : ∀ j v w w', PR j v w → T w w' → PR j v w')
    (step : ∀ i o, i < n → l[i]? = some o → ∀ (a : Act) (w : World) (c : Nat), c < n → G c w → Known l n PR a0 a w o → o.wp P a w (fun a' w' => ∃ v, a' = a.put o.dst v ∧ PR i v w' ∧ G (c + 1) w' ∧ T w w') Q)
    (fin : ∀ (vals : Nat → Value) (w : World), G n w → (∀ j, j < n → PR j (vals j) w) → wpAny P .any l.toArray Q (l.length - n) (markL (Array.replicate l.length false) ((List.range n).map fun i => (i, true))) (puts a0 l vals n) w) :
    (Code.region id l.toArray true).wp P Q a0 w := by
  refine wp_region_any hm ?_
  have hz : ∀ m, cnt (Array.replicate l.toArray.size false) m = 0 := by
    intro m
    induction m with
    | zero => rfl
    | succ m ih =>
      unfold cnt
      rw [ih]
      by_cases h : m < l.length <;> simp [h]
  have hf : ∀ k, (Array.replicate l.toArray.size false).getD k false = false := by
    intro k
    by_cases h : k < l.length <;> simp [h]
  refine open_go n PR G T hB hd0 hT step fin _ _ a0 _ (by simp) (fun i _ hi => by simp [hi]) (by rw [hz]; simp) (by rw [hz]; exact hG) rfl rfl (fun _ _ => rfl) (fun _ _ _ _ _ => rfl) (fun j d _ h => ?_)
  rw [hf] at h
  cases h
/-- Nothing of the first n goes to k. -/
theorem Known.was {l : List Oper} {n : Nat} {PR : Nat → Value → World → Prop} {a0 a : Act} {w : World} {o : Oper} (h : Known l n PR a0 a w o) (k : Tmp) (hB : ((List.range n).all fun j => dstOf l j != some k) = true) : a.eval (.tmp k) = a0.eval (.tmp k) :=
  h.old k (fun j hj e => by
    have := List.all_eq_true.1 hB j (List.mem_range.2 hj)
    rw [e] at this
    simp at this)
theorem Known.has {l : List Oper} {n : Nat} {PR : Nat → Value → World → Prop} {a0 a : Act} {w : World} {o : Oper} (h : Known l n PR a0 a w o) (j d : Nat) (hB : (decide (j < n) && (o.after.any fun e => Region.binds .any e && e.on == j) && (dstOf l j == some d)) = true) (hd : d < a0.tmps.size) : PR j (a.eval (.tmp d)) w := by
  simp only [Bool.and_eq_true, decide_eq_true_eq, beq_iff_eq] at hB
  exact h.new j d hB.1.1 hB.1.2 hB.2 hd
theorem dsts_in {l : List Oper} {n sz : Nat} (h : ((List.range n).all fun j => match dstOf l j with | some d => decide (d < sz) | none => true) = true) (j d : Nat) (hj : j < n) (hd : dstOf l j = some d) : d < sz := by
  have := List.all_eq_true.1 h j (List.mem_range.2 hj)
  rw [hd] at this
  simpa using this
/-- Values laid at places, one behind the other. -/
def putsL (a : Act) (vals : Nat → Value) : Nat → List Tmp → Act
  | _, [] => a
  | j, d :: ds => putsL (a.put (some d) (vals j)) vals (j + 1) ds
theorem putsL_snoc (vals : Nat → Value) (d : Tmp) : ∀ (ds : List Tmp) (a : Act) (j : Nat), putsL a vals j (ds ++ [d]) = (putsL a vals j ds).put (some d) (vals (j + ds.length))
  | [], a, j => rfl
  | x :: ds, a, j => by
    rw [List.cons_append, putsL, putsL, putsL_snoc vals d ds, List.length_cons]
    congr 2
    omega
theorem puts_list (a : Act) (l : List Oper) (vals : Nat → Value) : ∀ (n : Nat) (ds : List Tmp), (List.range n).map (dstOf l) = ds.map some → puts a l vals n = putsL a vals 0 ds
  | 0, ds, h => by
    cases ds with
    | nil => rfl
    | cons _ _ => simp at h
  | n + 1, ds, h => by
    rw [List.range_succ, List.map_append] at h
    rcases List.eq_nil_or_concat ds with rfl | ⟨ds', d, rfl⟩
    · simp at h
    · rw [List.concat_eq_append, List.map_append] at h
      obtain ⟨h1, h2⟩ := List.append_inj' h (by simp)
      have hd : dstOf l n = some d := by simpa using h2
      have hl : ds'.length = n := by
        have := congrArg List.length h1
        simpa using this.symm
      rw [List.concat_eq_append, putsL_snoc, puts, puts_list a l vals n ds' h1, hd, hl, Nat.zero_add]
def seqB (ops : Array Oper) : List Nat → Array Bool → Bool
  | [], listed => decide (Region.ready .any ops listed = [])
  | i :: rest, listed => decide (Region.ready .any ops listed = [i]) && seqB ops rest (listed.setIfInBounds i true)
theorem any_seq {ops : Array Oper} : ∀ (p : List Nat) (listed : Array Bool) (a : Act) (w : World), seqB ops p listed = true → wpOps P ops Q p a w → wpAny P .any ops Q p.length listed a w
  | [], listed, a, w, hB, h => by
    simp only [seqB, decide_eq_true_eq] at hB
    exact ⟨hB, by simpa [wpOps] using h⟩
  | i :: rest, listed, a, w, hB, h => by
    simp only [seqB, Bool.and_eq_true, decide_eq_true_eq] at hB
    rw [wpOps_cons] at h
    refine ⟨fun h0 => (by rw [hB.1] at h0; cases h0), fun j hj => ?_⟩
    rw [hB.1] at hj
    have hji : j = i := by simpa using hj
    subst hji
    exact wpOp_mono (fun a' w' h' => any_seq rest _ a' w' hB.2 h') h
/-- THE REGION, by what each operation leaves; then the last ones, in their order. -/
theorem region_tail {id : Nat} {a0 : Act} {w : World} {l : List Oper} (n : Nat) (ds : List Tmp) (tl : List Nat) (PR : Nat → Value → World → Prop) (G : Nat → World → Prop) (T : World → World → Prop) (hm : P.follows .mixedOrders = true)
    (hB : (openB l n && decide (n + tl.length = l.length) && decide ((List.range n).map (dstOf l) = ds.map some) && seqB l.toArray tl (markL (Array.replicate l.length false) ((List.range n).map fun i => (i, true)))) = true)
    (hd0 : ∀ j d, j < n → dstOf l j = some d → d < a0.tmps.size) (hG : G 0 w.drew)
    (hT : ∀ j v w w', PR j v w → T w w' → PR j v w')
    (step : ∀ i o, i < n → l[i]? = some o → ∀ (a : Act) (w : World) (c : Nat), c < n → G c w → Known l n PR a0 a w o → o.wp P a w (fun a' w' => ∃ v, a' = a.put o.dst v ∧ PR i v w' ∧ G (c + 1) w' ∧ T w w') Q)
    (fin : ∀ (vals : Nat → Value) (w : World), G n w → (∀ j, j < n → PR j (vals j) w) → wpOps P l.toArray Q tl (putsL a0 vals 0 ds) w) :
    (Code.region id l.toArray true).wp P Q a0 w := by
  simp only [Bool.and_eq_true, decide_eq_true_eq] at hB
  obtain ⟨⟨⟨h1, h2⟩, h3⟩, h4⟩ := hB
  refine region_open n PR G T hm h1 hd0 hG hT step (fun vals w hG' hv => ?_)
  rw [puts_list a0 l vals n ds h3, show l.length - n = tl.length by omega]
  exact any_seq tl _ _ _ h4 (fin vals w hG' hv)
theorem tail_cons {l : List Oper} {i : Nat} {rest : List Nat} {o : Oper} {a : Act} {w : World} (ho : l[i]? = some o) (hg : o.guard = none) (h : o.wp P a w (wpOps P l.toArray Q rest) Q) : wpOps P l.toArray Q (i :: rest) a w := by
  rw [wpOps_cons]
  unfold wpOp
  have : l.toArray[i]? = some o := by simpa using ho
  simp only [this]
  rw [if_pos (by simp [Region.wanted, hg])]
  exact .inl h
theorem tail_nil {ops : Array Oper} {a : Act} {w : World} (h : Q .normal a w) : wpOps P ops Q [] a w := by simpa [wpOps] using h
theorem tail_one {l : List Oper} {i : Nat} {o : Oper} {a : Act} {w : World} (ho : l[i]? = some o) (hg : o.guard = none) (h : o.wp P a w (fun a w => Q .normal a w) Q) : wpOps P l.toArray Q [i] a w :=
  tail_cons ho hg (Oper.wp_mono (fun _ _ h => tail_nil h) h)
end
end Go.Proofs.Ytdjadeegjbhihaa

/- Statements whose order is open, over boxes held as whole rows: loads and values that may be taken first, stores, and what each operation of a statement leaves where new memory alone is made. -/
namespace Go.Proofs.Ytdjadeegjbhihaa
open Go.RowKit

theorem Bl.drew {w : World} {b : Nat} {cs : Array Value} {t : TypeId} (h : Bl w b cs t) : Bl w.drew b cs t := h
section
variable {ops : Array Oper} {C : World → Prop} {Q : Exit → Act → World → Prop} {R : Act → World → Prop} {n i : Nat} {o : Oper} {rest : List (Nat × Bool × Oper)} {a : Act} {w : World}
theorem by_run (hg : o.guard = none) (v : Value) (hr : ∀ w', C w' → (execOp a.eval o).run Try.prog w' = .ok (.value v) w') (h : wpBy Try.prog ops C n Q R rest (a.put o.dst v) w) : wpBy Try.prog ops C n Q R ((i, true, o) :: rest) a w :=
  ⟨v, .inl ⟨by simp [Region.wanted, hg], fun w' hC => .inl (hr w' hC)⟩, h⟩
theorem run_load_row {w : World} (ty : TypeId) (x : Operand) (ho : o.op = .load ty x) (g : Nat) (hx : a.eval x = .pointer (some ⟨g, 0, none⟩)) {t : TypeId} {cs : Array Value} {d : TypeDesc} (hg : Bl w g cs t)
    (hu : Try.prog.underlying ty = some d) (hd : d.isRow = true) (hi : (Try.prog.info? ty).map (·.size) = some cs.size) :
    (execOp a.eval o).run Try.prog w = .ok (.value (.agg cs)) w := by
  have e := run_loadVar_mid (P := Try.prog) w g 0 ty cs.toList d (bl_range hg 0 cs.toList (fun j v e => by simpa using e)) hu hd (by simpa using hi)
  rw [Array.toArray_toList] at e
  unfold execOp
  simp only [ho, hx, Instr.loadAt, Instr.sureAddr, Sem.run_bind, Sem.run_pure, Result.andThen_ok, e]
theorem by_load (hgd : o.guard = none) (ty : TypeId) (x : Operand) (ho : o.op = .load ty x) (g : Nat) (hx : a.eval x = .pointer (some ⟨g, 0, none⟩)) {t : TypeId} {cs : Array Value} {d : TypeDesc} (hC : ∀ w', C w' → Bl w' g cs t)
    (hu : Try.prog.underlying ty = some d) (hd : d.isRow = true) (hi : (Try.prog.info? ty).map (·.size) = some cs.size)
    (h : wpBy Try.prog ops C n Q R rest (a.put o.dst (.agg cs)) w) : wpBy Try.prog ops C n Q R ((i, true, o) :: rest) a w :=
  by_run hgd _ (fun _ h => run_load_row ty x ho g hx (hC _ h) hu hd hi) h
theorem by_wp (ho : ops[i]? = some o) (hg : o.guard = none) (h : o.wp Try.prog a w (fun a' w' => (i < n → C w') ∧ wpBy Try.prog ops C n Q R rest a' w') Q) : wpBy Try.prog ops C n Q R ((i, false, o) :: rest) a w := by
  show wpOp Try.prog ops Q i _ a w
  unfold wpOp
  simp only [ho]
  rw [if_pos (by simp [Region.wanted, hg])]
  exact .inl h
theorem by_store (hops : ops[i]? = some o) (hgd : o.guard = none) (ty : TypeId) (x y : Operand) (ho : o.op = .store ty x y) (g : Nat) (cells : Array Value) (hx : a.eval x = .pointer (some ⟨g, 0, none⟩)) (hy : a.eval y = .agg cells)
    {t : TypeId} {old : Array Value} (hg : Bl w g old t) (hi : (Try.prog.info? ty).map (·.size) = some cells.size) (hold : old.size = cells.size) (h1 : cells.all (·.oneCell') = true)
    (h : ∀ w', Bl w' g cells t → w.grownBy w' (some g) → (i < n → C w') ∧ wpBy Try.prog ops C n Q R rest (a.put o.dst undef) w') : wpBy Try.prog ops C n Q R ((i, false, o) :: rest) a w :=
  by_wp hops hgd (wp_box_store ty x y ho g cells hx hy hg hi hold h1 h)
theorem by_set (hops : ops[i]? = some o) (hgd : o.guard = none) (x : Operand) (ho : o.op = .assign x) (h : (i < n → C w) ∧ wpBy Try.prog ops C n Q R rest (a.put o.dst (a.eval x)) w) : wpBy Try.prog ops C n Q R ((i, false, o) :: rest) a w :=
  by_wp hops hgd (by unfold Oper.wp execOp; simp only [ho, Sem.run_pure]; exact h)
theorem by_setv (hops : ops[i]? = some o) (hgd : o.guard = none) (x : Operand) (ho : o.op = .assign x) (v : Value) (hv : a.eval x = v) (h : (i < n → C w) ∧ wpBy Try.prog ops C n Q R rest (a.put o.dst v) w) : wpBy Try.prog ops C n Q R ((i, false, o) :: rest) a w :=
  by_set hops hgd x ho (by rw [hv]; exact h)
end
/-! Where new memory alone is made. -/
def Gk (w0 : World) (_ : Nat) (w : World) : Prop := Below w0.heap.size w0 w
/-- A new box of a statement. -/
def KBox (B : Nat) (cs : Array Value) (t : TypeId) (v : Value) (w : World) : Prop := ∃ b, v = .pointer (some ⟨b, 0, none⟩) ∧ B ≤ b ∧ Bl w b cs t
theorem KBox.mono {B : Nat} {cs : Array Value} {t : TypeId} {v : Value} {w w' : World} (h : KBox B cs t v w) (k : Below w.heap.size w w') : KBox B cs t v w' := by
  obtain ⟨b, h1, h2, h3⟩ := h
  exact ⟨b, h1, h2, h3.kept k⟩
section
variable {Q : Exit → Act → World → Prop} {o : Oper} {a : Act} {w w0 : World} {c : Nat} {PR : Value → World → Prop}
theorem kt_val {v : Value} (ho : (execOp a.eval o).run Try.prog w = .ok (.value v) w) (hG : Gk w0 c w) (h : PR v w) :
    o.wp Try.prog a w (fun a' w' => ∃ v, a' = a.put o.dst v ∧ PR v w' ∧ Gk w0 (c + 1) w' ∧ Below w.heap.size w w') Q := by
  unfold Oper.wp
  rw [ho]
  exact ⟨v, rfl, h, hG, Below.refl _ _⟩
theorem kt_call {f : FuncId} {args : Array Value} (ho : (execOp a.eval o).run Try.prog w = .ok (.enter f args) w) (hG : Gk w0 c w)
    (hc : Calls Try.prog f args w (fun e w' => ∃ v, e = .returned v ∧ PR v w' ∧ Below w.heap.size w w')) :
    o.wp Try.prog a w (fun a' w' => ∃ v, a' = a.put o.dst v ∧ PR v w' ∧ Gk w0 (c + 1) w' ∧ Below w.heap.size w w') Q := by
  unfold Oper.wp
  rw [ho]
  refine hc.mono ?_
  rintro e w' ⟨v, rfl, h1, h2⟩
  exact ⟨v, rfl, h1, bchain hG h2, h2⟩
theorem kt_new {ty : TypeId} {zs : Array Value} (ho : o.op = .alloc ty) (hz : ∀ w, (zeroValue ty).run Try.prog w = .ok (.agg zs) w) (hG : Gk w0 c w) :
    o.wp Try.prog a w (fun a' w' => ∃ v, a' = a.put o.dst v ∧ KBox w0.heap.size zs ty v w' ∧ Gk w0 (c + 1) w' ∧ Below w.heap.size w w') Q :=
  wp_box_new ty ho zs hz (fun _ h1 h2 => ⟨_, rfl, ⟨_, rfl, hG.size, h1⟩, bchain hG h2, h2⟩)
end
end Go.Proofs.Ytdjadeegjbhihaa

/- Steps of a statement whose order is open that lie behind a guard. -/
namespace Go.Proofs.Ytdjadeegjbhihaa
open Go.RowKit
section
variable {ops : Array Oper} {C : World → Prop} {Q : Exit → Act → World → Prop} {R : Act → World → Prop} {n i : Nat} {o : Oper} {rest : List (Nat × Bool × Oper)} {a : Act} {w : World}
theorem by_rung (hw : Region.wanted o (yielded ops a.tmps) = true) (v : Value) (hr : ∀ w', C w' → (execOp a.eval o).run Try.prog w' = .ok (.value v) w') (h : wpBy Try.prog ops C n Q R rest (a.put o.dst v) w) : wpBy Try.prog ops C n Q R ((i, true, o) :: rest) a w :=
  ⟨v, .inl ⟨hw, fun w' hC => .inl (hr w' hC)⟩, h⟩
theorem by_wpg (ho : ops[i]? = some o) (hw : Region.wanted o (yielded ops a.tmps) = true) (h : o.wp Try.prog a w (fun a' w' => (i < n → C w') ∧ wpBy Try.prog ops C n Q R rest a' w') Q) : wpBy Try.prog ops C n Q R ((i, false, o) :: rest) a w := by
  show wpOp Try.prog ops Q i _ a w
  unfold wpOp
  simp only [ho]
  rw [if_pos hw]
  exact .inl h
end
end Go.Proofs.Ytdjadeegjbhihaa

/- Who hears, and who grants, is ok: of both. -/
namespace Go.Proofs.Ytdjadeegjbhihaa
open Go.RowKit
section
variable {ops : Array Oper} {C : World → Prop} {Q : Exit → Act → World → Prop} {R : Act → World → Prop} {n i : Nat} {o : Oper} {rest : List (Nat × Bool × Oper)} {a : Act} {w : World}
theorem by_skipr (hw : Region.wanted o (yielded ops a.tmps) = false) (h : wpBy Try.prog ops C n Q R rest (a.put o.dst undef) w) : wpBy Try.prog ops C n Q R ((i, true, o) :: rest) a w :=
  ⟨undef, .inr ⟨hw, rfl⟩, h⟩
theorem by_skipw (ho : ops[i]? = some o) (hw : Region.wanted o (yielded ops a.tmps) = false) (hC : i < n → C w) (h : wpBy Try.prog ops C n Q R rest (a.put o.dst undef) w) : wpBy Try.prog ops C n Q R ((i, false, o) :: rest) a w := by
  show wpOp Try.prog ops Q i _ a w
  unfold wpOp
  simp only [ho]
  rw [if_neg (by rw [hw]; simp)]
  exact ⟨hC, h⟩
end
section
variable {ρ : Operand → Value} {w : World} {d : Option Tmp} {t : TypeId} {pos : String} {af : Array Edge} {gd : Option (Nat × Bool)} {x y z : Operand}
theorem run_ldp {ty : TypeId} {g k : Nat} {cs : Array Value} {e : TypeDesc} (hx : ρ x = .pointer (some ⟨g, k, none⟩)) (hr : w.rangeAt g k cs.toList) (hu : Try.prog.underlying ty = some e) (hd : e.isRow = true) (hi : (Try.prog.info? ty).map (·.size) = some cs.size) : (execOp ρ ⟨d, .load ty x, t, pos, af, gd⟩).run Try.prog w = .ok (.value (.agg cs)) w := by
  have e := run_loadVar_mid (P := Try.prog) w g k ty cs.toList e hr hu hd (by simpa using hi)
  rw [Array.toArray_toList] at e
  unfold execOp
  simp only [hx, Instr.loadAt, Instr.sureAddr, Sem.run_bind, Sem.run_pure, Result.andThen_ok, e]
theorem run_mv {v : Value} (h : ρ x = v) : (execOp ρ ⟨d, .move x, t, pos, af, gd⟩).run Try.prog w = .ok (.value v) w := by
  simp [execOp, h]
theorem run_lc {g k : Nat} {v : Int} (hx : ρ x = .pointer (some ⟨g, k, none⟩)) (hv : w.cell? ⟨g, k, none⟩ = some (.int .i64 v)) : (execOp ρ ⟨d, .load 3 x, t, pos, af, gd⟩).run Try.prog w = .ok (.value (.int .i64 v)) w := by
  simp [execOp, hx, hv, go_sem]
theorem run_c1 {f : FuncId} {u : Value} {ty : Array TypeId} (hf : ρ (.func f) = .func (.func f) #[] #[]) (h1 : ρ x = u) (hc : ∀ (args : Array Value) (w : World), (callFunc f args).run Try.prog w = .ok (.enter f args) w) : (execOp ρ ⟨d, .call { callee := .value (.func f), args := #[x], argTypes := ty }, t, pos, af, gd⟩).run Try.prog w = .ok (.enter f #[u]) w := by
  simp [execOp, resolve, invoke, hf, h1, hc, go_sem]
theorem run_c2 {f : FuncId} {u v : Value} {ty : Array TypeId} (hf : ρ (.func f) = .func (.func f) #[] #[]) (h1 : ρ x = u) (h2 : ρ y = v) (hc : ∀ (args : Array Value) (w : World), (callFunc f args).run Try.prog w = .ok (.enter f args) w) : (execOp ρ ⟨d, .call { callee := .value (.func f), args := #[x, y], argTypes := ty }, t, pos, af, gd⟩).run Try.prog w = .ok (.enter f #[u, v]) w := by
  simp [execOp, resolve, invoke, hf, h1, h2, hc, go_sem]
theorem run_c3 {f : FuncId} {u v s : Value} {ty : Array TypeId} (hf : ρ (.func f) = .func (.func f) #[] #[]) (h1 : ρ x = u) (h2 : ρ y = v) (h3 : ρ z = s) (hc : ∀ (args : Array Value) (w : World), (callFunc f args).run Try.prog w = .ok (.enter f args) w) : (execOp ρ ⟨d, .call { callee := .value (.func f), args := #[x, y, z], argTypes := ty }, t, pos, af, gd⟩).run Try.prog w = .ok (.enter f #[u, v, s]) w := by
  simp [execOp, resolve, invoke, hf, h1, h2, h3, hc, go_sem]
end
theorem noneTo_any (n hi : Int) (w : World) :
    Calls Try.prog 47 #[.int .i64 n, .int .i64 hi] w fun e w' => e = .returned (.bool (inB n 0 hi)) ∧ w' = w := by
  go_enter Try.func47, Try.ntmps47
  go_wp2
  all_goals
    go_ret
    refine ⟨ret_bool ?_, rfl⟩
    go_light
    rw [Bool.eq_iff_iff]
    simp only [inB_iff]
    grind
def rxB (ex ct len : Int) (n : Nat) : Bool := inB ct 0 9999 && (ct % 8 == ex) && joinB len n
set_option maxRecDepth 100000 in
set_option maxHeartbeats 4000000 in
theorem impl_rx (ex ct len : Int) (a : Option Addr) (n cap : Nat) (ag bu de : Bool) (w : World) :
    Calls Try.prog 91 #[.agg #[.int .i64 ex, .int .i64 ct, .int .i64 len, .slice a n cap, .bool ag, .bool bu, .bool de]] w fun e w' => e = .returned (.bool (rxB ex ct len n)) ∧ Below w.heap.size w w' := by
  have b0 : Below w.heap.size w w := Below.refl _ _
  cases h1 : inB ct 0 9999
  · go_enter Try.func91, Try.ntmps91
    go_wp2_with (first
      | ((with_reducible refine at_box 1 72 ?_); refine box_box (d := 1) rfl rfl 72 _ rfl _ rfl ?_; intro w' B1 bb; have n1 := b0.size;    replace b0 := bchain b0 bb;  clear bb; skip))
    replace b0 := b0.drew
    replace B1 := B1.drew
    refine region_by (fun wx => Bl wx w.heap.size #[.int .i64 ex, .int .i64 ct, .int .i64 len, .slice a n cap, .bool ag, .bool bu, .bool de] 72) 17 [(0, true), (1, true), (2, false), (3, true), (4, true), (5, true), (7, true), (8, true), (6, false), (9, true), (10, true), (11, true), (12, true), (13, true), (14, false), (15, true), (16, false)] ⟨none, .assign (.tmp 0), 0, "", #[], none⟩ (by kernel_rfl) (by kernel_rfl) B1 (fun x _ _ _ _ h => by cases x <;> exact h) ?_
    simp only [arrange, List.map_cons, List.map_nil, List.getD_cons_zero, List.getD_cons_succ]
    generalize World.drew _ = dw at b0 B1 ⊢
    refine by_rung (by rfl) (.pointer (some ⟨w.heap.size, 1, none⟩)) (fun _ h => by simp [execOp, go_sem]) ?_
    simp only [Act.put, List.setIfInBounds_toArray, List.set]
    refine by_rung (by rfl) (.int .i64 ct) (fun _ h => run_lc rfl ((h.k 1).trans rfl)) ?_
    simp only [Act.put, List.setIfInBounds_toArray, List.set]
    refine by_wpg rfl (by rfl) ?_
    unfold Oper.wp
    rw [run_c2 rfl rfl rfl (fun _ _ => by kernel_rfl)]
    refine (noneTo_any _ _ _).mono ?_
    rintro e w' ⟨rfl, rfl⟩
    rw [h1]
    refine ⟨fun _ => B1, ?_⟩
    simp only [Act.put, List.setIfInBounds_toArray, List.set]
    refine by_rung (by rfl) (.bool false) (fun _ h => run_mv rfl) ?_
    simp only [Act.put, List.setIfInBounds_toArray, List.set]
    refine by_skipr (by rfl) ?_
    simp only [Act.put, List.setIfInBounds_toArray, List.set]
    refine by_skipr (by rfl) ?_
    simp only [Act.put, List.setIfInBounds_toArray, List.set]
    refine by_skipr (by rfl) ?_
    simp only [Act.put, List.setIfInBounds_toArray, List.set]
    refine by_skipr (by rfl) ?_
    simp only [Act.put, List.setIfInBounds_toArray, List.set]
    refine by_skipw rfl (by rfl) (fun _ => B1) ?_
    simp only [Act.put, List.setIfInBounds_toArray, List.set]
    refine by_skipr (by rfl) ?_
    simp only [Act.put, List.setIfInBounds_toArray, List.set]
    refine by_rung (by rfl) (.bool false) (fun _ h => by simp [execOp, go_sem]) ?_
    simp only [Act.put, List.setIfInBounds_toArray, List.set]
    refine by_rung (by rfl) (.bool false) (fun _ h => run_mv rfl) ?_
    simp only [Act.put, List.setIfInBounds_toArray, List.set]
    refine by_skipr (by rfl) ?_
    simp only [Act.put, List.setIfInBounds_toArray, List.set]
    refine by_skipr (by rfl) ?_
    simp only [Act.put, List.setIfInBounds_toArray, List.set]
    refine by_skipw rfl (by rfl) (fun _ => B1) ?_
    simp only [Act.put, List.setIfInBounds_toArray, List.set]
    refine by_rung (by rfl) (.bool false) (fun _ h => by simp [execOp, go_sem]) ?_
    simp only [Act.put, List.setIfInBounds_toArray, List.set]
    refine by_setv rfl rfl _ rfl (.bool false) rfl ⟨fun _ => B1, ?_⟩
    refine by_nil ?_
    go_wp2
    go_ret
    refine ⟨ret_bool ?_, b0⟩
    simp [rxB, h1]
  have hc := (inB_iff ct 0 9999).1 h1
  cases h2 : (ct % 8 == ex)
  · go_enter Try.func91, Try.ntmps91
    go_wp2_with (first
      | ((with_reducible refine at_box 1 72 ?_); refine box_box (d := 1) rfl rfl 72 _ rfl _ rfl ?_; intro w' B1 bb; have n1 := b0.size;    replace b0 := bchain b0 bb;  clear bb; skip))
    replace b0 := b0.drew
    replace B1 := B1.drew
    refine region_by (fun wx => Bl wx w.heap.size #[.int .i64 ex, .int .i64 ct, .int .i64 len, .slice a n cap, .bool ag, .bool bu, .bool de] 72) 17 [(0, true), (1, true), (2, false), (3, true), (4, true), (5, true), (7, true), (8, true), (6, false), (9, true), (10, true), (11, true), (12, true), (13, true), (14, false), (15, true), (16, false)] ⟨none, .assign (.tmp 0), 0, "", #[], none⟩ (by kernel_rfl) (by kernel_rfl) B1 (fun x _ _ _ _ h => by cases x <;> exact h) ?_
    simp only [arrange, List.map_cons, List.map_nil, List.getD_cons_zero, List.getD_cons_succ]
    generalize World.drew _ = dw at b0 B1 ⊢
    refine by_rung (by rfl) (.pointer (some ⟨w.heap.size, 1, none⟩)) (fun _ h => by simp [execOp, go_sem]) ?_
    simp only [Act.put, List.setIfInBounds_toArray, List.set]
    refine by_rung (by rfl) (.int .i64 ct) (fun _ h => run_lc rfl ((h.k 1).trans rfl)) ?_
    simp only [Act.put, List.setIfInBounds_toArray, List.set]
    refine by_wpg rfl (by rfl) ?_
    unfold Oper.wp
    rw [run_c2 rfl rfl rfl (fun _ _ => by kernel_rfl)]
    refine (noneTo_any _ _ _).mono ?_
    rintro e w' ⟨rfl, rfl⟩
    rw [h1]
    refine ⟨fun _ => B1, ?_⟩
    simp only [Act.put, List.setIfInBounds_toArray, List.set]
    refine by_rung (by rfl) (.bool true) (fun _ h => run_mv rfl) ?_
    simp only [Act.put, List.setIfInBounds_toArray, List.set]
    refine by_rung (by rfl) (.pointer (some ⟨w.heap.size, 1, none⟩)) (fun _ h => by simp [execOp, go_sem]) ?_
    simp only [Act.put, List.setIfInBounds_toArray, List.set]
    refine by_rung (by rfl) (.int .i64 ct) (fun _ h => run_lc rfl ((h.k 1).trans rfl)) ?_
    simp only [Act.put, List.setIfInBounds_toArray, List.set]
    refine by_rung (by rfl) (.pointer (some ⟨w.heap.size, 0, none⟩)) (fun _ h => by simp [execOp, go_sem]) ?_
    simp only [Act.put, List.setIfInBounds_toArray, List.set]
    refine by_rung (by rfl) (.int .i64 ex) (fun _ h => run_lc rfl ((h.k 0).trans rfl)) ?_
    simp only [Act.put, List.setIfInBounds_toArray, List.set]
    refine by_wpg rfl (by rfl) ?_
    unfold Oper.wp
    rw [run_c1 rfl rfl (fun _ _ => by kernel_rfl)]
    refine (impl_numof _ (by omega) _).mono ?_
    rintro e w' ⟨rfl, rfl⟩
    refine ⟨fun _ => B1, ?_⟩
    simp only [Act.put, List.setIfInBounds_toArray, List.set]
    refine by_rung (by rfl) (.bool false) (fun _ h => by simp [execOp, go_sem, h2]) ?_
    simp only [Act.put, List.setIfInBounds_toArray, List.set]
    refine by_rung (by rfl) (.bool false) (fun _ h => by simp [execOp, go_sem]) ?_
    simp only [Act.put, List.setIfInBounds_toArray, List.set]
    refine by_rung (by rfl) (.bool false) (fun _ h => run_mv rfl) ?_
    simp only [Act.put, List.setIfInBounds_toArray, List.set]
    refine by_skipr (by rfl) ?_
    simp only [Act.put, List.setIfInBounds_toArray, List.set]
    refine by_skipr (by rfl) ?_
    simp only [Act.put, List.setIfInBounds_toArray, List.set]
    refine by_skipw rfl (by rfl) (fun _ => B1) ?_
    simp only [Act.put, List.setIfInBounds_toArray, List.set]
    refine by_rung (by rfl) (.bool false) (fun _ h => by simp [execOp, go_sem]) ?_
    simp only [Act.put, List.setIfInBounds_toArray, List.set]
    refine by_setv rfl rfl _ rfl (.bool false) rfl ⟨fun _ => B1, ?_⟩
    refine by_nil ?_
    go_wp2
    go_ret
    refine ⟨ret_bool ?_, b0⟩
    simp [rxB, h2]
  · go_enter Try.func91, Try.ntmps91
    go_wp2_with (first
      | ((with_reducible refine at_box 1 72 ?_); refine box_box (d := 1) rfl rfl 72 _ rfl _ rfl ?_; intro w' B1 bb; have n1 := b0.size;    replace b0 := bchain b0 bb;  clear bb; skip))
    replace b0 := b0.drew
    replace B1 := B1.drew
    refine region_by (fun wx => Bl wx w.heap.size #[.int .i64 ex, .int .i64 ct, .int .i64 len, .slice a n cap, .bool ag, .bool bu, .bool de] 72) 17 [(0, true), (1, true), (2, false), (3, true), (4, true), (5, true), (7, true), (8, true), (6, false), (9, true), (10, true), (11, true), (12, true), (13, true), (14, false), (15, true), (16, false)] ⟨none, .assign (.tmp 0), 0, "", #[], none⟩ (by kernel_rfl) (by kernel_rfl) B1 (fun x _ _ _ _ h => by cases x <;> exact h) ?_
    simp only [arrange, List.map_cons, List.map_nil, List.getD_cons_zero, List.getD_cons_succ]
    generalize World.drew _ = dw at b0 B1 ⊢
    refine by_rung (by rfl) (.pointer (some ⟨w.heap.size, 1, none⟩)) (fun _ h => by simp [execOp, go_sem]) ?_
    simp only [Act.put, List.setIfInBounds_toArray, List.set]
    refine by_rung (by rfl) (.int .i64 ct) (fun _ h => run_lc rfl ((h.k 1).trans rfl)) ?_
    simp only [Act.put, List.setIfInBounds_toArray, List.set]
    refine by_wpg rfl (by rfl) ?_
    unfold Oper.wp
    rw [run_c2 rfl rfl rfl (fun _ _ => by kernel_rfl)]
    refine (noneTo_any _ _ _).mono ?_
    rintro e w' ⟨rfl, rfl⟩
    rw [h1]
    refine ⟨fun _ => B1, ?_⟩
    simp only [Act.put, List.setIfInBounds_toArray, List.set]
    refine by_rung (by rfl) (.bool true) (fun _ h => run_mv rfl) ?_
    simp only [Act.put, List.setIfInBounds_toArray, List.set]
    refine by_rung (by rfl) (.pointer (some ⟨w.heap.size, 1, none⟩)) (fun _ h => by simp [execOp, go_sem]) ?_
    simp only [Act.put, List.setIfInBounds_toArray, List.set]
    refine by_rung (by rfl) (.int .i64 ct) (fun _ h => run_lc rfl ((h.k 1).trans rfl)) ?_
    simp only [Act.put, List.setIfInBounds_toArray, List.set]
    refine by_rung (by rfl) (.pointer (some ⟨w.heap.size, 0, none⟩)) (fun _ h => by simp [execOp, go_sem]) ?_
    simp only [Act.put, List.setIfInBounds_toArray, List.set]
    refine by_rung (by rfl) (.int .i64 ex) (fun _ h => run_lc rfl ((h.k 0).trans rfl)) ?_
    simp only [Act.put, List.setIfInBounds_toArray, List.set]
    refine by_wpg rfl (by rfl) ?_
    unfold Oper.wp
    rw [run_c1 rfl rfl (fun _ _ => by kernel_rfl)]
    refine (impl_numof _ (by omega) _).mono ?_
    rintro e w' ⟨rfl, rfl⟩
    refine ⟨fun _ => B1, ?_⟩
    simp only [Act.put, List.setIfInBounds_toArray, List.set]
    refine by_rung (by rfl) (.bool true) (fun _ h => by simp [execOp, go_sem, h2]) ?_
    simp only [Act.put, List.setIfInBounds_toArray, List.set]
    refine by_rung (by rfl) (.bool true) (fun _ h => by simp [execOp, go_sem]) ?_
    simp only [Act.put, List.setIfInBounds_toArray, List.set]
    refine by_rung (by rfl) (.bool true) (fun _ h => run_mv rfl) ?_
    simp only [Act.put, List.setIfInBounds_toArray, List.set]
    refine by_rung (by rfl) (.pointer (some ⟨w.heap.size, 2, none⟩)) (fun _ h => by simp [execOp, go_sem]) ?_
    simp only [Act.put, List.setIfInBounds_toArray, List.set]
    refine by_rung (by rfl) (.agg #[.int .i64 len, .slice a n cap]) (fun _ h => run_ldp (cs := #[.int .i64 len, .slice a n cap]) rfl (bl_range h 2 _ (fun j v e => by match j, e with | 0, e => exact e | 1, e => exact e | (j + 2), e => simp at e)) Try.underlying70 rfl (by kernel_rfl)) ?_
    simp only [Act.put, List.setIfInBounds_toArray, List.set]
    refine by_wpg rfl (by rfl) ?_
    unfold Oper.wp
    rw [run_c1 rfl rfl (fun _ _ => by kernel_rfl)]
    refine (impl_join _ _ _ _ _).mono ?_
    rintro e w' ⟨rfl, bb⟩
    replace b0 := bchain b0 bb
    replace B1 := B1.kept bb
    clear bb
    refine ⟨fun _ => B1, ?_⟩
    simp only [Act.put, List.setIfInBounds_toArray, List.set]
    refine by_rung (by rfl) (.bool (joinB len n)) (fun _ h => by simp [execOp, go_sem]) ?_
    simp only [Act.put, List.setIfInBounds_toArray, List.set]
    refine by_setv rfl rfl _ rfl (.bool (joinB len n)) rfl ⟨fun _ => B1, ?_⟩
    refine by_nil ?_
    go_wp2
    go_ret
    refine ⟨ret_bool ?_, b0⟩
    simp [rxB, h1, h2]
set_option maxRecDepth 100000 in
set_option maxHeartbeats 4000000 in
theorem spec_rx (ex ct len : Int) (a : Option Addr) (n cap : Nat) (ag bu de : Bool) (w : World) :
    Calls Try.prog 87 #[.agg #[.int .i64 ex, .int .i64 ct, .int .i64 len, .slice a n cap, .bool ag, .bool bu, .bool de]] w fun e w' => e = .returned (.bool (rxB ex ct len n)) ∧ Below w.heap.size w w' := by
  have b0 : Below w.heap.size w w := Below.refl _ _
  cases h0 : inB ex 0 7
  · have hz : rxB ex ct len n = false := by
      rw [← Bool.not_eq_true]
      intro h
      simp only [rxB, Bool.and_eq_true, beq_iff_eq] at h
      have : inB ex 0 7 = true := by rw [inB_iff]; omega
      rw [h0] at this
      cases this
    go_enter Try.func87, Try.ntmps87
    go_wp2_with (first
      | ((with_reducible refine at_box 1 72 ?_); refine box_box (d := 1) rfl rfl 72 _ rfl _ rfl ?_; intro w' B1 bb; have n1 := b0.size;    replace b0 := bchain b0 bb;  clear bb; skip))
    replace b0 := b0.drew
    replace B1 := B1.drew
    refine region_by (fun wx => Bl wx w.heap.size #[.int .i64 ex, .int .i64 ct, .int .i64 len, .slice a n cap, .bool ag, .bool bu, .bool de] 72) 22 [(0, true), (1, true), (2, false), (3, true), (4, true), (5, true), (6, false), (7, true), (8, true), (9, true), (10, true), (12, true), (13, true), (11, false), (14, true), (15, true), (16, true), (17, true), (18, true), (19, false), (20, true), (21, false)] ⟨none, .assign (.tmp 0), 0, "", #[], none⟩ (by kernel_rfl) (by kernel_rfl) B1 (fun x _ _ _ _ h => by cases x <;> exact h) ?_
    simp only [arrange, List.map_cons, List.map_nil, List.getD_cons_zero, List.getD_cons_succ]
    generalize World.drew _ = dw at b0 B1 ⊢
    refine by_rung (by rfl) (.pointer (some ⟨w.heap.size, 0, none⟩)) (fun _ h => by simp [execOp, go_sem]) ?_
    simp only [Act.put, List.setIfInBounds_toArray, List.set]
    refine by_rung (by rfl) (.int .i64 ex) (fun _ h => run_lc rfl ((h.k 0).trans rfl)) ?_
    simp only [Act.put, List.setIfInBounds_toArray, List.set]
    refine by_wpg rfl (by rfl) ?_
    unfold Oper.wp
    rw [run_c3 rfl rfl rfl rfl (fun _ _ => by kernel_rfl)]
    refine (in_any _ _ _ _).mono ?_
    rintro e w' ⟨rfl, rfl⟩
    rw [h0]
    refine ⟨fun _ => B1, ?_⟩
    simp only [Act.put, List.setIfInBounds_toArray, List.set]
    refine by_rung (by rfl) (.bool false) (fun _ h => run_mv rfl) ?_
    simp only [Act.put, List.setIfInBounds_toArray, List.set]
    refine by_skipr (by rfl) ?_
    simp only [Act.put, List.setIfInBounds_toArray, List.set]
    refine by_skipr (by rfl) ?_
    simp only [Act.put, List.setIfInBounds_toArray, List.set]
    refine by_skipw rfl (by rfl) (fun _ => B1) ?_
    simp only [Act.put, List.setIfInBounds_toArray, List.set]
    refine by_rung (by rfl) (.bool false) (fun _ h => by simp [execOp, go_sem]) ?_
    simp only [Act.put, List.setIfInBounds_toArray, List.set]
    refine by_rung (by rfl) (.bool false) (fun _ h => run_mv rfl) ?_
    simp only [Act.put, List.setIfInBounds_toArray, List.set]
    refine by_skipr (by rfl) ?_
    simp only [Act.put, List.setIfInBounds_toArray, List.set]
    refine by_skipr (by rfl) ?_
    simp only [Act.put, List.setIfInBounds_toArray, List.set]
    refine by_skipr (by rfl) ?_
    simp only [Act.put, List.setIfInBounds_toArray, List.set]
    refine by_skipr (by rfl) ?_
    simp only [Act.put, List.setIfInBounds_toArray, List.set]
    refine by_skipw rfl (by rfl) (fun _ => B1) ?_
    simp only [Act.put, List.setIfInBounds_toArray, List.set]
    refine by_skipr (by rfl) ?_
    simp only [Act.put, List.setIfInBounds_toArray, List.set]
    refine by_rung (by rfl) (.bool false) (fun _ h => by simp [execOp, go_sem]) ?_
    simp only [Act.put, List.setIfInBounds_toArray, List.set]
    refine by_rung (by rfl) (.bool false) (fun _ h => run_mv rfl) ?_
    simp only [Act.put, List.setIfInBounds_toArray, List.set]
    refine by_skipr (by rfl) ?_
    simp only [Act.put, List.setIfInBounds_toArray, List.set]
    refine by_skipr (by rfl) ?_
    simp only [Act.put, List.setIfInBounds_toArray, List.set]
    refine by_skipw rfl (by rfl) (fun _ => B1) ?_
    simp only [Act.put, List.setIfInBounds_toArray, List.set]
    refine by_rung (by rfl) (.bool false) (fun _ h => by simp [execOp, go_sem]) ?_
    simp only [Act.put, List.setIfInBounds_toArray, List.set]
    refine by_setv rfl rfl _ rfl (.bool false) rfl ⟨fun _ => B1, ?_⟩
    refine by_nil ?_
    go_wp2
    go_ret
    refine ⟨ret_bool ?_, b0⟩
    rw [hz]
  cases h1 : inB ct 0 9999
  · go_enter Try.func87, Try.ntmps87
    go_wp2_with (first
      | ((with_reducible refine at_box 1 72 ?_); refine box_box (d := 1) rfl rfl 72 _ rfl _ rfl ?_; intro w' B1 bb; have n1 := b0.size;    replace b0 := bchain b0 bb;  clear bb; skip))
    replace b0 := b0.drew
    replace B1 := B1.drew
    refine region_by (fun wx => Bl wx w.heap.size #[.int .i64 ex, .int .i64 ct, .int .i64 len, .slice a n cap, .bool ag, .bool bu, .bool de] 72) 22 [(0, true), (1, true), (2, false), (3, true), (4, true), (5, true), (6, false), (7, true), (8, true), (9, true), (10, true), (12, true), (13, true), (11, false), (14, true), (15, true), (16, true), (17, true), (18, true), (19, false), (20, true), (21, false)] ⟨none, .assign (.tmp 0), 0, "", #[], none⟩ (by kernel_rfl) (by kernel_rfl) B1 (fun x _ _ _ _ h => by cases x <;> exact h) ?_
    simp only [arrange, List.map_cons, List.map_nil, List.getD_cons_zero, List.getD_cons_succ]
    generalize World.drew _ = dw at b0 B1 ⊢
    refine by_rung (by rfl) (.pointer (some ⟨w.heap.size, 0, none⟩)) (fun _ h => by simp [execOp, go_sem]) ?_
    simp only [Act.put, List.setIfInBounds_toArray, List.set]
    refine by_rung (by rfl) (.int .i64 ex) (fun _ h => run_lc rfl ((h.k 0).trans rfl)) ?_
    simp only [Act.put, List.setIfInBounds_toArray, List.set]
    refine by_wpg rfl (by rfl) ?_
    unfold Oper.wp
    rw [run_c3 rfl rfl rfl rfl (fun _ _ => by kernel_rfl)]
    refine (in_any _ _ _ _).mono ?_
    rintro e w' ⟨rfl, rfl⟩
    rw [h0]
    refine ⟨fun _ => B1, ?_⟩
    simp only [Act.put, List.setIfInBounds_toArray, List.set]
    refine by_rung (by rfl) (.bool true) (fun _ h => run_mv rfl) ?_
    simp only [Act.put, List.setIfInBounds_toArray, List.set]
    refine by_rung (by rfl) (.pointer (some ⟨w.heap.size, 1, none⟩)) (fun _ h => by simp [execOp, go_sem]) ?_
    simp only [Act.put, List.setIfInBounds_toArray, List.set]
    refine by_rung (by rfl) (.int .i64 ct) (fun _ h => run_lc rfl ((h.k 1).trans rfl)) ?_
    simp only [Act.put, List.setIfInBounds_toArray, List.set]
    refine by_wpg rfl (by rfl) ?_
    unfold Oper.wp
    rw [run_c3 rfl rfl rfl rfl (fun _ _ => by kernel_rfl)]
    refine (in_any _ _ _ _).mono ?_
    rintro e w' ⟨rfl, rfl⟩
    rw [h1]
    refine ⟨fun _ => B1, ?_⟩
    simp only [Act.put, List.setIfInBounds_toArray, List.set]
    refine by_rung (by rfl) (.bool false) (fun _ h => by simp [execOp, go_sem]) ?_
    simp only [Act.put, List.setIfInBounds_toArray, List.set]
    refine by_rung (by rfl) (.bool false) (fun _ h => run_mv rfl) ?_
    simp only [Act.put, List.setIfInBounds_toArray, List.set]
    refine by_skipr (by rfl) ?_
    simp only [Act.put, List.setIfInBounds_toArray, List.set]
    refine by_skipr (by rfl) ?_
    simp only [Act.put, List.setIfInBounds_toArray, List.set]
    refine by_skipr (by rfl) ?_
    simp only [Act.put, List.setIfInBounds_toArray, List.set]
    refine by_skipr (by rfl) ?_
    simp only [Act.put, List.setIfInBounds_toArray, List.set]
    refine by_skipw rfl (by rfl) (fun _ => B1) ?_
    simp only [Act.put, List.setIfInBounds_toArray, List.set]
    refine by_skipr (by rfl) ?_
    simp only [Act.put, List.setIfInBounds_toArray, List.set]
    refine by_rung (by rfl) (.bool false) (fun _ h => by simp [execOp, go_sem]) ?_
    simp only [Act.put, List.setIfInBounds_toArray, List.set]
    refine by_rung (by rfl) (.bool false) (fun _ h => run_mv rfl) ?_
    simp only [Act.put, List.setIfInBounds_toArray, List.set]
    refine by_skipr (by rfl) ?_
    simp only [Act.put, List.setIfInBounds_toArray, List.set]
    refine by_skipr (by rfl) ?_
    simp only [Act.put, List.setIfInBounds_toArray, List.set]
    refine by_skipw rfl (by rfl) (fun _ => B1) ?_
    simp only [Act.put, List.setIfInBounds_toArray, List.set]
    refine by_rung (by rfl) (.bool false) (fun _ h => by simp [execOp, go_sem]) ?_
    simp only [Act.put, List.setIfInBounds_toArray, List.set]
    refine by_setv rfl rfl _ rfl (.bool false) rfl ⟨fun _ => B1, ?_⟩
    refine by_nil ?_
    go_wp2
    go_ret
    refine ⟨ret_bool ?_, b0⟩
    simp [rxB, h1]
  have hc := (inB_iff ct 0 9999).1 h1
  cases h2 : (ct % 8 == ex)
  · go_enter Try.func87, Try.ntmps87
    go_wp2_with (first
      | ((with_reducible refine at_box 1 72 ?_); refine box_box (d := 1) rfl rfl 72 _ rfl _ rfl ?_; intro w' B1 bb; have n1 := b0.size;    replace b0 := bchain b0 bb;  clear bb; skip))
    replace b0 := b0.drew
    replace B1 := B1.drew
    refine region_by (fun wx => Bl wx w.heap.size #[.int .i64 ex, .int .i64 ct, .int .i64 len, .slice a n cap, .bool ag, .bool bu, .bool de] 72) 22 [(0, true), (1, true), (2, false), (3, true), (4, true), (5, true), (6, false), (7, true), (8, true), (9, true), (10, true), (12, true), (13, true), (11, false), (14, true), (15, true), (16, true), (17, true), (18, true), (19, false), (20, true), (21, false)] ⟨none, .assign (.tmp 0), 0, "", #[], none⟩ (by kernel_rfl) (by kernel_rfl) B1 (fun x _ _ _ _ h => by cases x <;> exact h) ?_
    simp only [arrange, List.map_cons, List.map_nil, List.getD_cons_zero, List.getD_cons_succ]
    generalize World.drew _ = dw at b0 B1 ⊢
    refine by_rung (by rfl) (.pointer (some ⟨w.heap.size, 0, none⟩)) (fun _ h => by simp [execOp, go_sem]) ?_
    simp only [Act.put, List.setIfInBounds_toArray, List.set]
    refine by_rung (by rfl) (.int .i64 ex) (fun _ h => run_lc rfl ((h.k 0).trans rfl)) ?_
    simp only [Act.put, List.setIfInBounds_toArray, List.set]
    refine by_wpg rfl (by rfl) ?_
    unfold Oper.wp
    rw [run_c3 rfl rfl rfl rfl (fun _ _ => by kernel_rfl)]
    refine (in_any _ _ _ _).mono ?_
    rintro e w' ⟨rfl, rfl⟩
    rw [h0]
    refine ⟨fun _ => B1, ?_⟩
    simp only [Act.put, List.setIfInBounds_toArray, List.set]
    refine by_rung (by rfl) (.bool true) (fun _ h => run_mv rfl) ?_
    simp only [Act.put, List.setIfInBounds_toArray, List.set]
    refine by_rung (by rfl) (.pointer (some ⟨w.heap.size, 1, none⟩)) (fun _ h => by simp [execOp, go_sem]) ?_
    simp only [Act.put, List.setIfInBounds_toArray, List.set]
    refine by_rung (by rfl) (.int .i64 ct) (fun _ h => run_lc rfl ((h.k 1).trans rfl)) ?_
    simp only [Act.put, List.setIfInBounds_toArray, List.set]
    refine by_wpg rfl (by rfl) ?_
    unfold Oper.wp
    rw [run_c3 rfl rfl rfl rfl (fun _ _ => by kernel_rfl)]
    refine (in_any _ _ _ _).mono ?_
    rintro e w' ⟨rfl, rfl⟩
    rw [h1]
    refine ⟨fun _ => B1, ?_⟩
    simp only [Act.put, List.setIfInBounds_toArray, List.set]
    refine by_rung (by rfl) (.bool true) (fun _ h => by simp [execOp, go_sem]) ?_
    simp only [Act.put, List.setIfInBounds_toArray, List.set]
    refine by_rung (by rfl) (.bool true) (fun _ h => run_mv rfl) ?_
    simp only [Act.put, List.setIfInBounds_toArray, List.set]
    refine by_rung (by rfl) (.pointer (some ⟨w.heap.size, 1, none⟩)) (fun _ h => by simp [execOp, go_sem]) ?_
    simp only [Act.put, List.setIfInBounds_toArray, List.set]
    refine by_rung (by rfl) (.int .i64 ct) (fun _ h => run_lc rfl ((h.k 1).trans rfl)) ?_
    simp only [Act.put, List.setIfInBounds_toArray, List.set]
    refine by_rung (by rfl) (.pointer (some ⟨w.heap.size, 0, none⟩)) (fun _ h => by simp [execOp, go_sem]) ?_
    simp only [Act.put, List.setIfInBounds_toArray, List.set]
    refine by_rung (by rfl) (.int .i64 ex) (fun _ h => run_lc rfl ((h.k 0).trans rfl)) ?_
    simp only [Act.put, List.setIfInBounds_toArray, List.set]
    refine by_wpg rfl (by rfl) ?_
    unfold Oper.wp
    rw [run_c1 rfl rfl (fun _ _ => by kernel_rfl)]
    refine (spec_numof _ (by omega) _).mono ?_
    rintro e w' ⟨rfl, rfl⟩
    refine ⟨fun _ => B1, ?_⟩
    simp only [Act.put, List.setIfInBounds_toArray, List.set]
    refine by_rung (by rfl) (.bool false) (fun _ h => by simp [execOp, go_sem, h2]) ?_
    simp only [Act.put, List.setIfInBounds_toArray, List.set]
    refine by_rung (by rfl) (.bool false) (fun _ h => by simp [execOp, go_sem]) ?_
    simp only [Act.put, List.setIfInBounds_toArray, List.set]
    refine by_rung (by rfl) (.bool false) (fun _ h => run_mv rfl) ?_
    simp only [Act.put, List.setIfInBounds_toArray, List.set]
    refine by_skipr (by rfl) ?_
    simp only [Act.put, List.setIfInBounds_toArray, List.set]
    refine by_skipr (by rfl) ?_
    simp only [Act.put, List.setIfInBounds_toArray, List.set]
    refine by_skipw rfl (by rfl) (fun _ => B1) ?_
    simp only [Act.put, List.setIfInBounds_toArray, List.set]
    refine by_rung (by rfl) (.bool false) (fun _ h => by simp [execOp, go_sem]) ?_
    simp only [Act.put, List.setIfInBounds_toArray, List.set]
    refine by_setv rfl rfl _ rfl (.bool false) rfl ⟨fun _ => B1, ?_⟩
    refine by_nil ?_
    go_wp2
    go_ret
    refine ⟨ret_bool ?_, b0⟩
    simp [rxB, h2]
  · go_enter Try.func87, Try.ntmps87
    go_wp2_with (first
      | ((with_reducible refine at_box 1 72 ?_); refine box_box (d := 1) rfl rfl 72 _ rfl _ rfl ?_; intro w' B1 bb; have n1 := b0.size;    replace b0 := bchain b0 bb;  clear bb; skip))
    replace b0 := b0.drew
    replace B1 := B1.drew
    refine region_by (fun wx => Bl wx w.heap.size #[.int .i64 ex, .int .i64 ct, .int .i64 len, .slice a n cap, .bool ag, .bool bu, .bool de] 72) 22 [(0, true), (1, true), (2, false), (3, true), (4, true), (5, true), (6, false), (7, true), (8, true), (9, true), (10, true), (12, true), (13, true), (11, false), (14, true), (15, true), (16, true), (17, true), (18, true), (19, false), (20, true), (21, false)] ⟨none, .assign (.tmp 0), 0, "", #[], none⟩ (by kernel_rfl) (by kernel_rfl) B1 (fun x _ _ _ _ h => by cases x <;> exact h) ?_
    simp only [arrange, List.map_cons, List.map_nil, List.getD_cons_zero, List.getD_cons_succ]
    generalize World.drew _ = dw at b0 B1 ⊢
    refine by_rung (by rfl) (.pointer (some ⟨w.heap.size, 0, none⟩)) (fun _ h => by simp [execOp, go_sem]) ?_
    simp only [Act.put, List.setIfInBounds_toArray, List.set]
    refine by_rung (by rfl) (.int .i64 ex) (fun _ h => run_lc rfl ((h.k 0).trans rfl)) ?_
    simp only [Act.put, List.setIfInBounds_toArray, List.set]
    refine by_wpg rfl (by rfl) ?_
    unfold Oper.wp
    rw [run_c3 rfl rfl rfl rfl (fun _ _ => by kernel_rfl)]
    refine (in_any _ _ _ _).mono ?_
    rintro e w' ⟨rfl, rfl⟩
    rw [h0]
    refine ⟨fun _ => B1, ?_⟩
    simp only [Act.put, List.setIfInBounds_toArray, List.set]
    refine by_rung (by rfl) (.bool true) (fun _ h => run_mv rfl) ?_
    simp only [Act.put, List.setIfInBounds_toArray, List.set]
    refine by_rung (by rfl) (.pointer (some ⟨w.heap.size, 1, none⟩)) (fun _ h => by simp [execOp, go_sem]) ?_
    simp only [Act.put, List.setIfInBounds_toArray, List.set]
    refine by_rung (by rfl) (.int .i64 ct) (fun _ h => run_lc rfl ((h.k 1).trans rfl)) ?_
    simp only [Act.put, List.setIfInBounds_toArray, List.set]
    refine by_wpg rfl (by rfl) ?_
    unfold Oper.wp
    rw [run_c3 rfl rfl rfl rfl (fun _ _ => by kernel_rfl)]
    refine (in_any _ _ _ _).mono ?_
    rintro e w' ⟨rfl, rfl⟩
    rw [h1]
    refine ⟨fun _ => B1, ?_⟩
    simp only [Act.put, List.setIfInBounds_toArray, List.set]
    refine by_rung (by rfl) (.bool true) (fun _ h => by simp [execOp, go_sem]) ?_
    simp only [Act.put, List.setIfInBounds_toArray, List.set]
    refine by_rung (by rfl) (.bool true) (fun _ h => run_mv rfl) ?_
    simp only [Act.put, List.setIfInBounds_toArray, List.set]
    refine by_rung (by rfl) (.pointer (some ⟨w.heap.size, 1, none⟩)) (fun _ h => by simp [execOp, go_sem]) ?_
    simp only [Act.put, List.setIfInBounds_toArray, List.set]
    refine by_rung (by rfl) (.int .i64 ct) (fun _ h => run_lc rfl ((h.k 1).trans rfl)) ?_
    simp only [Act.put, List.setIfInBounds_toArray, List.set]
    refine by_rung (by rfl) (.pointer (some ⟨w.heap.size, 0, none⟩)) (fun _ h => by simp [execOp, go_sem]) ?_
    simp only [Act.put, List.setIfInBounds_toArray, List.set]
    refine by_rung (by rfl) (.int .i64 ex) (fun _ h => run_lc rfl ((h.k 0).trans rfl)) ?_
    simp only [Act.put, List.setIfInBounds_toArray, List.set]
    refine by_wpg rfl (by rfl) ?_
    unfold Oper.wp
    rw [run_c1 rfl rfl (fun _ _ => by kernel_rfl)]
    refine (spec_numof _ (by omega) _).mono ?_
    rintro e w' ⟨rfl, rfl⟩
    refine ⟨fun _ => B1, ?_⟩
    simp only [Act.put, List.setIfInBounds_toArray, List.set]
    refine by_rung (by rfl) (.bool true) (fun _ h => by simp [execOp, go_sem, h2]) ?_
    simp only [Act.put, List.setIfInBounds_toArray, List.set]
    refine by_rung (by rfl) (.bool true) (fun _ h => by simp [execOp, go_sem]) ?_
    simp only [Act.put, List.setIfInBounds_toArray, List.set]
    refine by_rung (by rfl) (.bool true) (fun _ h => run_mv rfl) ?_
    simp only [Act.put, List.setIfInBounds_toArray, List.set]
    refine by_rung (by rfl) (.pointer (some ⟨w.heap.size, 2, none⟩)) (fun _ h => by simp [execOp, go_sem]) ?_
    simp only [Act.put, List.setIfInBounds_toArray, List.set]
    refine by_rung (by rfl) (.agg #[.int .i64 len, .slice a n cap]) (fun _ h => run_ldp (cs := #[.int .i64 len, .slice a n cap]) rfl (bl_range h 2 _ (fun j v e => by match j, e with | 0, e => exact e | 1, e => exact e | (j + 2), e => simp at e)) Try.underlying70 rfl (by kernel_rfl)) ?_
    simp only [Act.put, List.setIfInBounds_toArray, List.set]
    refine by_wpg rfl (by rfl) ?_
    unfold Oper.wp
    rw [run_c1 rfl rfl (fun _ _ => by kernel_rfl)]
    refine (spec_join _ _ _ _ _).mono ?_
    rintro e w' ⟨rfl, bb⟩
    replace b0 := bchain b0 bb
    replace B1 := B1.kept bb
    clear bb
    refine ⟨fun _ => B1, ?_⟩
    simp only [Act.put, List.setIfInBounds_toArray, List.set]
    refine by_rung (by rfl) (.bool (joinB len n)) (fun _ h => by simp [execOp, go_sem]) ?_
    simp only [Act.put, List.setIfInBounds_toArray, List.set]
    refine by_setv rfl rfl _ rfl (.bool (joinB len n)) rfl ⟨fun _ => B1, ?_⟩
    refine by_nil ?_
    go_wp2
    go_ret
    refine ⟨ret_bool ?_, b0⟩
    simp [rxB, h1, h2]
set_option maxRecDepth 100000 in
set_option maxHeartbeats 2000000 in
theorem impl_crx (out len : Int) (a : Option Addr) (n cap : Nat) (de : Bool) (w : World) :
    Calls Try.prog 92 #[.agg #[.int .i64 out, .int .i64 len, .slice a n cap, .bool de]] w fun e w' => e = .returned (.bool (inB out 0 255 && joinB len n)) ∧ Below w.heap.size w w' := by
  have b0 : Below w.heap.size w w := Below.refl _ _
  go_enter Try.func92, Try.ntmps92
  go_wp2_with (first
    | ((with_reducible refine at_box 1 74 ?_); refine box_box (d := 1) rfl rfl 74 _ rfl _ rfl ?_; intro w' B1 bb; have n1 := b0.size;   (try clear k1); replace b0 := bchain b0 bb;  clear bb; (try have k1 := B1.k))
    | (go_at_call 47; refine (noneTo_any _ _ _).mono ?_; rintro e w' ⟨rfl, rfl⟩; skip)
    | (go_at_call 126; refine (impl_join _ _ _ _ _).mono ?_; rintro e w' ⟨rfl, bb⟩; (try clear k1); replace b0 := bchain b0 bb; (try replace B1 := B1.kept bb); clear bb; (try have k1 := B1.k)))
  all_goals
    go_ret
    refine ⟨ret_bool ?_, b0⟩
    go_light
    simp_all
set_option maxRecDepth 100000 in
set_option maxHeartbeats 2000000 in
theorem spec_crx (out len : Int) (a : Option Addr) (n cap : Nat) (de : Bool) (w : World) :
    Calls Try.prog 88 #[.agg #[.int .i64 out, .int .i64 len, .slice a n cap, .bool de]] w fun e w' => e = .returned (.bool (inB out 0 255 && joinB len n)) ∧ Below w.heap.size w w' := by
  have b0 : Below w.heap.size w w := Below.refl _ _
  go_enter Try.func88, Try.ntmps88
  go_wp2_with (first
    | ((with_reducible refine at_box 1 74 ?_); refine box_box (d := 1) rfl rfl 74 _ rfl _ rfl ?_; intro w' B1 bb; have n1 := b0.size;   (try clear k1); replace b0 := bchain b0 bb;  clear bb; (try have k1 := B1.k))
    | (go_at_call 40; refine (in_any _ _ _ _).mono ?_; rintro e w' ⟨rfl, rfl⟩; skip)
    | (go_at_call 121; refine (spec_join _ _ _ _ _).mono ?_; rintro e w' ⟨rfl, bb⟩; (try clear k1); replace b0 := bchain b0 bb; (try replace B1 := B1.kept bb); clear bb; (try have k1 := B1.k)))
  all_goals
    go_ret
    refine ⟨ret_bool ?_, b0⟩
    go_light
    simp_all
end Go.Proofs.Ytdjadeegjbhihaa

/- Comparisons of what two want, as one operation. -/
namespace Go.Proofs.Ytdjadeegjbhihaa
open Go.RowKit
theorem Opt.same_self (a : Opt) : a.same a = true := (Opt.same_iff a a).2 rfl
section
variable {ops : Array Oper} {rest : List Oper} {o : Oper} {a : Act} {w : World} {Q : Exit → Act → World → Prop}
theorem run_cfg_eq (x y : Operand) (ho : o.op = .binOp .eql 29 x y 29) (a1 a2 a3 a4 a5 b1 b2 b3 b4 b5 : Int) (hx : a.eval x = .agg #[.int .i64 a1, .int .i64 a2, .int .i64 a3, .int .i64 a4, .int .i64 a5]) (hy : a.eval y = .agg #[.int .i64 b1, .int .i64 b2, .int .i64 b3, .int .i64 b4, .int .i64 b5])
    (E : Bool) (hE : Opt.same ⟨a1, a2, a3, a4, a5⟩ ⟨b1, b2, b3, b4, b5⟩ = E) (w : World) : (execOp a.eval o).run Try.prog w = .ok (.value (.bool E)) w := by
  have hu := Try.underlying29
  have hg : Try.prog.eqGuardType Try.prog.depth 29 = false := by kernel_rfl
  have hp : Try.prog.stoodInHeld 29 = false := by kernel_rfl
  unfold execOp
  simp only [ho, hx, hy]
  subst hE
  simp [go_sem, hg, hp, hu, Opt.same]
  clear hu hg hp hx hy ho
  repeat' split
  all_goals simp_all
theorem run_cfg_ne (x y : Operand) (ho : o.op = .binOp .neq 29 x y 29) (a1 a2 a3 a4 a5 b1 b2 b3 b4 b5 : Int) (hx : a.eval x = .agg #[.int .i64 a1, .int .i64 a2, .int .i64 a3, .int .i64 a4, .int .i64 a5]) (hy : a.eval y = .agg #[.int .i64 b1, .int .i64 b2, .int .i64 b3, .int .i64 b4, .int .i64 b5])
    (E : Bool) (hE : Opt.same ⟨a1, a2, a3, a4, a5⟩ ⟨b1, b2, b3, b4, b5⟩ = E) (w : World) : (execOp a.eval o).run Try.prog w = .ok (.value (.bool (!E))) w := by
  have hu := Try.underlying29
  have hg : Try.prog.eqGuardType Try.prog.depth 29 = false := by kernel_rfl
  have hp : Try.prog.stoodInHeld 29 = false := by kernel_rfl
  unfold execOp
  simp only [ho, hx, hy]
  subst hE
  simp [go_sem, hg, hp, hu, Opt.same]
  clear hu hg hp hx hy ho
  repeat' split
  all_goals simp_all
theorem at_cmp (c : BinOp) (ty : TypeId) {d : Option Tmp} {x y : Operand} {t u : TypeId} {pos : String} {af : Array Edge} (h : wpList Try.prog ops Q (⟨d, .binOp c ty x y u, t, pos, af, none⟩ :: rest) a w) : wpList Try.prog ops Q (⟨d, .binOp c ty x y u, t, pos, af, none⟩ :: rest) a w := h
theorem cfg_eq (hgd : o.guard = none) (x y : Operand) (ho : o.op = .binOp .eql 29 x y 29) (a1 a2 a3 a4 a5 b1 b2 b3 b4 b5 : Int) (hx : a.eval x = .agg #[.int .i64 a1, .int .i64 a2, .int .i64 a3, .int .i64 a4, .int .i64 a5]) (hy : a.eval y = .agg #[.int .i64 b1, .int .i64 b2, .int .i64 b3, .int .i64 b4, .int .i64 b5])
    (E : Bool) (hE : Opt.same ⟨a1, a2, a3, a4, a5⟩ ⟨b1, b2, b3, b4, b5⟩ = E) (h : wpList Try.prog ops Q rest (a.put o.dst (.bool E)) w) : wpList Try.prog ops Q (o :: rest) a w :=
  wpList_plain hgd fun _ hK => by
    unfold Oper.wp
    rw [run_cfg_eq x y ho a1 a2 a3 a4 a5 b1 b2 b3 b4 b5 hx hy E hE w]
    exact hK _ _ h
theorem cfg_ne (hgd : o.guard = none) (x y : Operand) (ho : o.op = .binOp .neq 29 x y 29) (a1 a2 a3 a4 a5 b1 b2 b3 b4 b5 : Int) (hx : a.eval x = .agg #[.int .i64 a1, .int .i64 a2, .int .i64 a3, .int .i64 a4, .int .i64 a5]) (hy : a.eval y = .agg #[.int .i64 b1, .int .i64 b2, .int .i64 b3, .int .i64 b4, .int .i64 b5])
    (E : Bool) (hE : Opt.same ⟨a1, a2, a3, a4, a5⟩ ⟨b1, b2, b3, b4, b5⟩ = E) (h : wpList Try.prog ops Q rest (a.put o.dst (.bool (!E))) w) : wpList Try.prog ops Q (o :: rest) a w :=
  wpList_plain hgd fun _ hK => by
    unfold Oper.wp
    rw [run_cfg_ne x y ho a1 a2 a3 a4 a5 b1 b2 b3 b4 b5 hx hy E hE w]
    exact hK _ _ h
end
section
variable {ops : Array Oper} {C : World → Prop} {Q : Exit → Act → World → Prop} {R : Act → World → Prop} {n i : Nat} {o : Oper} {rest : List (Nat × Bool × Oper)} {a : Act} {w : World}
/-- A load of a part of a box, taken first. -/
theorem by_part (hgd : o.guard = none) (ty : TypeId) (x : Operand) (ho : o.op = .load ty x) (g k : Nat) (hx : a.eval x = .pointer (some ⟨g, k, none⟩)) {t : TypeId} {cs : Array Value} {d : TypeDesc} (hC : ∀ w', C w' → Bl w' g cs t) (sub : List Value) (hs : (cs.toList.drop k).take sub.length = sub)
    (hu : Try.prog.underlying ty = some d) (hd : d.isRow = true) (hi : (Try.prog.info? ty).map (·.size) = some sub.length)
    (h : wpBy Try.prog ops C n Q R rest (a.put o.dst (.agg sub.toArray)) w) : wpBy Try.prog ops C n Q R ((i, true, o) :: rest) a w := by
  refine by_run hgd _ (fun w' hw => ?_) h
  have e := run_loadVar_mid (P := Try.prog) w' g k ty sub d (bl_range (hC w' hw) k sub (fun j v e => by
    rw [← hs] at e
    have hj : j < sub.length := by
      have := (List.getElem?_eq_some_iff.1 e).1
      simp at this
      omega
    simpa [List.getElem?_take, hj] using e)) hu hd hi
  unfold execOp
  simp only [ho, hx, Instr.loadAt, Instr.sureAddr, Sem.run_bind, Sem.run_pure, Result.andThen_ok, e]
/-- A field's place, taken first. -/
theorem by_addr (hgd : o.guard = none) (ty : TypeId) (x : Operand) (k : Nat) (ho : o.op = .fieldAddr ty x k) (g off : Nat) (hx : a.eval x = .pointer (some ⟨g, 0, none⟩)) (hf : ∀ (g : Nat) (w : World), (Instr.fieldAt ty (.pointer (some ⟨g, 0, none⟩)) k).run Try.prog w = .ok (.pointer (some ⟨g, off, none⟩)) w)
    (h : wpBy Try.prog ops C n Q R rest (a.put o.dst (.pointer (some ⟨g, off, none⟩))) w) : wpBy Try.prog ops C n Q R ((i, true, o) :: rest) a w :=
  by_run hgd _ (fun w' _ => by
    unfold execOp
    simp only [ho, hx, hf, Sem.run_bind, Sem.run_pure, Result.andThen_ok]) h
end
end Go.Proofs.Ytdjadeegjbhihaa
