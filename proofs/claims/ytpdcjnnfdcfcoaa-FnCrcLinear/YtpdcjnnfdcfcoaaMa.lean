/- Laws and contracts that the proof stands on: In, Bytes, Boxes, Cfg, LiOk, CrcMath, CrcStep, CrcOf. -/
import Derived.Test.YtpdcjnnfdcfcoaaRows
import Derived.WalkKit
import Derived.WalkLawsBesides
import Derived.WalkSpells
import Derived.WalkSmall
import Derived.Deep.OwnRows
import Derived.Deep.QuietTactic
import Derived.BigQuiet
import Derived.Laws.Tables
import Derived.Deep.Light
import Derived.Laws.StructEq
import Derived.Handy
/- Whether a number lies between two bounds: the specification's own test. -/
namespace Go.Proofs.Ytpdcjnnfdcfcoaa
open Go.RowKit

def inB (n lo hi : Int) : Bool := decide (lo ≤ n) && decide (n ≤ hi)
theorem inB_iff (n lo hi : Int) : inB n lo hi = true ↔ lo ≤ n ∧ n ≤ hi := by simp [inB]
theorem inB_not (n lo hi : Int) : inB n lo hi = false ↔ n < lo ∨ hi < n := by
  rw [← Bool.not_eq_true, inB_iff]; omega
theorem ret_bool {a b : Bool} (h : a = b) : Ending.returned (.bool a) = .returned (.bool b) := by rw [h]
theorem ret_int {k : IntKind} {a b : Int} (h : a = b) : Ending.returned (.int k a) = .returned (.int k b) := by rw [h]

theorem i64_xor_nat (a b : Nat) (ha : a < 9223372036854775808) (hb : b < 9223372036854775808) : bits .xor .i64 (a : Int) (b : Int) = ((a ^^^ b : Nat) : Int) := by
  have hx : a ^^^ b < 2 ^ 63 := Nat.xor_lt_two_pow (by omega) (by omega)
  have h1 : (BitVec.ofInt 64 (a : Int)).toNat = a := by
    rw [BitVec.ofInt_natCast, BitVec.toNat_ofNat]; exact Nat.mod_eq_of_lt (by omega)
  have h2 : (BitVec.ofInt 64 (b : Int)).toNat = b := by
    rw [BitVec.ofInt_natCast, BitVec.toNat_ofNat]; exact Nat.mod_eq_of_lt (by omega)
  show IntKind.i64.wrap ((BitVec.ofInt 64 (a : Int) ^^^ BitVec.ofInt 64 (b : Int)).toNat : Int) = _
  rw [BitVec.toNat_xor, h1, h2]
  simp [IntKind.wrap, IntKind.bits, IntKind.signed]
  omega
theorem in_yes (n lo hi : Int) (h1 : lo ≤ n) (h2 : n ≤ hi) (w : World) :
    Calls Try.prog 16 #[.int .i64 n, .int .i64 lo, .int .i64 hi] w fun e w' => e = .returned (.bool true) ∧ w' = w := by
  go_enter Try.func16, Try.ntmps16
  go_wp2
  go_ret
  exact ⟨rfl, rfl⟩
theorem in_low (n lo hi : Int) (h1 : n < lo) (w : World) :
    Calls Try.prog 16 #[.int .i64 n, .int .i64 lo, .int .i64 hi] w fun e w' => e = .returned (.bool false) ∧ w' = w := by
  have h1' : ¬ lo ≤ n := by omega
  go_enter Try.func16, Try.ntmps16
  go_wp2
  go_ret
  exact ⟨rfl, rfl⟩
theorem in_high (n lo hi : Int) (h0 : lo ≤ n) (h1 : hi < n) (w : World) :
    Calls Try.prog 16 #[.int .i64 n, .int .i64 lo, .int .i64 hi] w fun e w' => e = .returned (.bool false) ∧ w' = w := by
  have h1' : ¬ n ≤ hi := by omega
  go_enter Try.func16, Try.ntmps16
  go_wp2
  go_ret
  exact ⟨rfl, rfl⟩
theorem in_no (n lo hi : Int) (h : n < lo ∨ hi < n) (w : World) :
    Calls Try.prog 16 #[.int .i64 n, .int .i64 lo, .int .i64 hi] w fun e w' => e = .returned (.bool false) ∧ w' = w := by
  by_cases h1 : n < lo
  · exact in_low n lo hi h1 w
  · exact in_high n lo hi (by omega) (by omega) w
theorem in_any (n lo hi : Int) (w : World) :
    Calls Try.prog 16 #[.int .i64 n, .int .i64 lo, .int .i64 hi] w fun e w' => e = .returned (.bool (inB n lo hi)) ∧ w' = w := by
  cases h : inB n lo hi
  · exact in_no n lo hi ((inB_not n lo hi).1 h) w
  · exact in_yes n lo hi ((inB_iff n lo hi).1 h).1 ((inB_iff n lo hi).1 h).2 w
end Go.Proofs.Ytpdcjnnfdcfcoaa

/- Lists of bytes in memory: what a slice reads as, what a call owns, and how both outlast later steps. -/
namespace Go.Proofs.Ytpdcjnnfdcfcoaa
open Go.RowKit

theorem Try.infoB : (Try.prog.info? 5).map (fun i => (i.zero, i.size, i.bytes)) = some (some (.int .u8 0), 1, 1) := by kernel_rfl

/-- The cells of bytes. -/
def bcells (zs : List Nat) : List Value := zs.map fun z : Nat => Value.int .u8 (z : Int)
theorem bcells_length (zs : List Nat) : (bcells zs).length = zs.length := by simp [bcells]
theorem bcells_get (zs : List Nat) (j : Nat) (h : j < zs.length) : (bcells zs)[j]? = some (.int .u8 ((zs.getD j 0 : Nat) : Int)) := by
  simp [bcells, h]
theorem bcells_one (zs : List Nat) : ∀ u ∈ bcells zs, u.oneCell' = true := by
  intro u hu
  simp only [bcells, List.mem_map] at hu
  obtain ⟨z, _, rfl⟩ := hu
  rfl
theorem bcells_append (a b : List Nat) : bcells (a ++ b) = bcells a ++ bcells b := by simp [bcells]

/-- All are bytes. -/
def Byt (zs : List Nat) : Prop := ∀ z ∈ zs, z < 256
theorem Byt.get {zs : List Nat} (h : Byt zs) (j : Nat) : zs.getD j 0 < 256 := by
  by_cases hj : j < zs.length
  · rw [List.getD_eq_getElem?_getD, List.getElem?_eq_getElem hj]; exact h _ (List.getElem_mem hj)
  · rw [List.getD_eq_getElem?_getD, List.getElem?_eq_none (by omega)]; simp
theorem Byt.take {zs : List Nat} (h : Byt zs) (n : Nat) : Byt (zs.take n) := fun z hz => h z (List.mem_of_mem_take hz)

/-- The slice v reads, in w, as the bytes zs. -/
def Rd (w : World) (v : Value) (zs : List Nat) : Prop :=
  Byt zs ∧ zs.length ≤ 2000000 ∧ ((zs = [] ∧ ∃ a c, v = .slice a 0 c ∧ (a = none → c = 0)) ∨
    ∃ b off cap, v = .slice (some ⟨b, off, none⟩) zs.length cap ∧ zs.length ≤ cap ∧ cap ≤ maxLen ∧ b < w.heap.size ∧ ∀ j, j < zs.length → w.cell? ⟨b, off + j, none⟩ = some (.int .u8 ((zs.getD j 0 : Nat) : Int)))
/-- The call owns, from block B on, the row of bytes zs. -/
def Own (w : World) (B : Nat) (v : Value) (zs : List Nat) : Prop := w.ownsRow B 5 1 v zs.length (bcells zs)

theorem Rd.kept {w w' : World} {v : Value} {zs : List Nat} (h : Rd w v zs) (hb : Below w.heap.size w w') : Rd w' v zs := by
  obtain ⟨h1, h2, h3⟩ := h
  refine ⟨h1, h2, ?_⟩
  rcases h3 with h3 | ⟨b, off, cap, e, h4, h5, h6, h7⟩
  · exact .inl h3
  · exact .inr ⟨b, off, cap, e, h4, h5, Nat.lt_of_lt_of_le h6 hb.size, fun j hj => (hb.cell (p := ⟨b, off + j, none⟩) h6).trans (h7 j hj)⟩
theorem Own.rd {w : World} {B : Nat} {v : Value} {zs : List Nat} (h : Own w B v zs) (hz : Byt zs) (hl : zs.length ≤ 2000000) : Rd w v zs := by
  refine ⟨hz, hl, ?_⟩
  have h0 := h
  rcases h.2 with ⟨e, h1⟩ | ⟨g, cap, cur, e, _, h2, h3, h4, _, _⟩
  · exact .inl ⟨List.length_eq_zero_iff.1 h1, _, _, e, fun _ => rfl⟩
  · refine .inr ⟨g, 0, cap, e, h3, h4, ?_, fun j hj => ?_⟩
    · exact (h0.lt g (by rw [e]; rfl)).2
    · unfold Own at h0
      rw [e] at h0
      rw [Nat.zero_add, h0.cellAt j (by omega), bcells_get zs j hj]
theorem below_grown {w w' : World} (hb : Below w.heap.size w w') : w.grownBy w' none := ⟨hb.os, hb.tape, hb.output, hb.size, fun k hk _ => hb.block k hk⟩
theorem Own.kept {w w' : World} {B : Nat} {v : Value} {zs : List Nat} (h : Own w B v zs) (hb : Below w.heap.size w w') : Own w' B v zs :=
  World.ownsRow.kept h (below_grown hb) (by cases v.ownBlock <;> simp)
/-- What lies in other blocks stays behind a step that writes one row. -/
theorem Own.other {w w' : World} {B : Nat} {v u : Value} {zs : List Nat} (h : Own w B v zs) (hg : w.grownBy w' u.ownBlock) (hne : ∀ k, v.ownBlock = some k → u.ownBlock ≠ some k) : Own w' B v zs :=
  World.ownsRow.kept h hg (by
    cases e : v.ownBlock with
    | none => exact .inl rfl
    | some k => exact .inr (fun e' => hne k e e'.symm))
theorem bchain {w w1 w2 : World} (h : Below w.heap.size w w1) (k : Below w1.heap.size w1 w2) : Below w.heap.size w w2 := h.trans (k.mono h.size)
theorem below_drew {w : World} (n : Nat) : Below w.heap.size w (w.drewN n) := below_drewN (Below.refl _ _) n

/-- What the law's frame tells of a slice of integers that came in. -/
def IsRow (k : IntKind) (w : World) (a : Option Addr) (len cap : Nat) (zs : List Int) : Prop :=
  (a = none ∧ len = 0 ∧ cap = 0 ∧ zs = []) ∨
  ∃ x, a = some x ∧ len ≤ cap ∧ cap ≤ maxLen ∧ zs.length = cap ∧ (∀ i, i < zs.length → w.cell? (x.add i) = some (.int k (zs.getD i 0))) ∧ ∀ n ∈ zs, (Lit.int k n).wf = true
theorem wf_u8 {n : Int} (h : (Lit.int .u8 n).wf = true) : 0 ≤ n ∧ n < 256 := by
  simp [Lit.wf, IntKind.min, IntKind.max, IntKind.bits, IntKind.signed] at h
  omega
theorem IsRow.rd {w : World} {a : Option Addr} {len cap : Nat} {zs : List Int} (h : IsRow .u8 w a len cap zs) (hl : len ≤ 2000000) : ∃ bs : List Nat, Rd w (.slice a len cap) bs ∧ bs.length = len := by
  rcases h with ⟨rfl, rfl, rfl, rfl⟩ | ⟨x, rfl, h1, h2, h3, h4, h5⟩
  · exact ⟨[], ⟨fun z hz => by simp at hz, by simp, .inl ⟨rfl, _, _, rfl, fun _ => rfl⟩⟩, rfl⟩
  · have hlen : ((zs.take len).map Int.toNat).length = len := by simp; omega
    by_cases h0 : len = 0
    · subst h0
      exact ⟨[], ⟨fun z hz => by simp at hz, by simp, .inl ⟨rfl, _, _, rfl, fun h => by simp at h⟩⟩, rfl⟩
    · obtain ⟨b, off, spot⟩ := x
      have hc := h4 0 (by omega)
      have hspot : spot = none := by simpa [Addr.add] using World.cell?_spot hc
      subst hspot
      refine ⟨(zs.take len).map Int.toNat, ⟨?_, by omega, .inr ⟨b, off, cap, by rw [hlen], by omega, h2, ?_, ?_⟩⟩, hlen⟩
      · intro z hz
        simp only [List.mem_map] at hz
        obtain ⟨y, hy, rfl⟩ := hz
        have := wf_u8 (h5 y (List.mem_of_mem_take hy))
        omega
      · exact World.block_lt_of_cell? w _ hc
      · intro j hj
        rw [hlen] at hj
        have hj2 : j < zs.length := by omega
        have e := h4 j hj2
        have hb := wf_u8 (h5 (zs[j]) (List.getElem_mem hj2))
        have ea : (⟨b, off, none⟩ : Addr).add j = ⟨b, off + j, none⟩ := by
          by_cases h : j = 0
          · subst h; rfl
          · simp [Addr.add, h]
        rw [ea] at e
        rw [e]
        simp [hj2, hj]
        omega

/-- A row of bytes that is filled from its head on. -/
def part (zs : List Nat) (k : Nat) : List Value := bcells (zs.take k) ++ List.replicate (zs.length - k) (.int .u8 0)
theorem part_zero (zs : List Nat) : part zs 0 = List.replicate zs.length (.int .u8 0) := by simp [part, bcells]
theorem part_all (zs : List Nat) : part zs zs.length = bcells zs := by simp [part]
theorem part_length (zs : List Nat) (k : Nat) (h : k ≤ zs.length) : (part zs k).length = zs.length := by simp [part, bcells]; omega
theorem part_set (zs : List Nat) (k : Nat) (h : k < zs.length) : (part zs k).set k (.int .u8 ((zs.getD k 0 : Nat) : Int)) = part zs (k + 1) := by
  have e : List.replicate (zs.length - k) (Value.int .u8 0) = .int .u8 0 :: List.replicate (zs.length - (k + 1)) (Value.int .u8 0) := by
    rw [show zs.length - k = zs.length - (k + 1) + 1 from by omega, List.replicate_succ]
  have hl : (bcells (zs.take k)).length = k := by rw [bcells_length, List.length_take]; omega
  unfold part
  rw [e, List.set_append, if_neg (by omega), hl, Nat.sub_self, List.set_cons_zero, List.take_succ_eq_append_getElem h, bcells_append]
  simp [bcells, h]

theorem made_part {w : World} (zs : List Nat) (hl : zs.length ≤ 2000000) : (w.alloc (.cells (madeCells #[.int .u8 0] zs.length) 5)).ownsRow w.heap.size 5 1 (.slice (some ⟨w.heap.size, 0, none⟩) zs.length zs.length) zs.length (part zs 0) := by
  have := World.ownsRow_lit (base := w.heap.size) (e := 5) (size := 1) w (madeCells #[.int .u8 0] zs.length) zs.length (Nat.le_refl _) (by unfold maxLen; omega) (by simp [size_madeCells])
  rwa [toList_madeCells_one, ← part_zero] at this

end Go.Proofs.Ytpdcjnnfdcfcoaa

/- Boxed variables, whatever lies in them: a block that holds these cells and may be written. -/
namespace Go.Proofs.Ytpdcjnnfdcfcoaa
open Go.RowKit

/-- The block b holds these cells, and they may be written. -/
def Bo (w : World) (b : Nat) (cs : Array Value) : Prop := b < w.heap.size ∧ (∀ k, w.cell? ⟨b, k, none⟩ = cs[k]?) ∧ ∀ k, w.frozen? ⟨b, k, none⟩ = false
theorem Bo.kept {w w' : World} {b : Nat} {cs : Array Value} (h : Bo w b cs) (hb : Below w.heap.size w w') : Bo w' b cs :=
  ⟨Nat.lt_of_lt_of_le h.1 hb.size, fun k => (hb.cell (p := ⟨b, k, none⟩) h.1).trans (h.2.1 k), fun k => (hb.frozen (p := ⟨b, k, none⟩) h.1).trans (h.2.2 k)⟩
theorem Bo.k {w : World} {b : Nat} {cs : Array Value} (h : Bo w b cs) : ∀ k, w.cell? ⟨b, k, none⟩ = cs[k]? := h.2.1
theorem Bo.f {w : World} {b : Nat} {cs : Array Value} (h : Bo w b cs) : ∀ k, w.frozen? ⟨b, k, none⟩ = false := h.2.2
theorem bo_far {w : World} {p q : Addr} {x : Value} (h : p ≠ q) : (w.setCell p x).cell? q = w.cell? q := by
  apply World.cell?_setCell_other
  exact h
theorem bo_here {w : World} {p : Addr} {x u : Value} (h : w.cell? p = some u) : (w.setCell p x).cell? p = some x := by
  apply World.cell?_setCell_same
  exact h
theorem Bo.put {w : World} {b : Nat} {cs : Array Value} (h : Bo w b cs) (i : Nat) (hi : i < cs.size) (x : Value) : Bo (w.setCell ⟨b, i, none⟩ x) b (cs.setIfInBounds i x) := by
  refine ⟨by simpa using h.1, fun k => ?_, fun k => by simpa using h.2.2 k⟩
  by_cases e : k = i
  · subst e
    have : w.cell? ⟨b, k, none⟩ = some cs[k] := by rw [h.2.1 k]; exact Array.getElem?_eq_getElem hi
    rw [bo_here this]
    simp [hi]
  · rw [bo_far (by intro e'; simp only [Addr.mk.injEq] at e'; omega), h.2.1 k, Array.getElem?_setIfInBounds_ne (Ne.symm e)]
theorem bo_new (w : World) (cs : Array Value) (t : TypeId) : Bo (w.alloc (.cells cs t)) w.heap.size cs := ⟨by simp, fun k => by simp, fun k => by simp⟩
theorem bo_alloc (w : World) (o : Obj) : Below w.heap.size w (w.alloc o) := (Below.refl _ _).alloc (Nat.le_refl _) o
theorem bo1 (w : World) (cs1 : Array Value) (t1 : TypeId) :
    ∃ w0, w.alloc (.cells cs1 t1) = w0 ∧ Bo w0 w.heap.size cs1 ∧ Below w.heap.size w w0 ∧ w.heap.size + 1 ≤ w0.heap.size := ⟨_, rfl, bo_new _ _ _, bo_alloc _ _, by simp⟩
theorem bo2 (w : World) (cs1 : Array Value) (t1 : TypeId) (cs2 : Array Value) (t2 : TypeId) :
    ∃ w0, (w.alloc (.cells cs1 t1)).alloc (.cells cs2 t2) = w0 ∧ Bo w0 w.heap.size cs1 ∧ Bo w0 (w.heap.size + 1) cs2 ∧ Below w.heap.size w w0 ∧ w.heap.size + 2 ≤ w0.heap.size := by
  refine ⟨_, rfl, (bo_new w cs1 t1).kept (bo_alloc _ _), ?_, bchain (bo_alloc _ _) (bo_alloc _ _), by simp⟩
  have := bo_new (w.alloc (.cells cs1 t1)) cs2 t2
  simpa using this
theorem bo3 (w : World) (cs1 : Array Value) (t1 : TypeId) (cs2 : Array Value) (t2 : TypeId) (cs3 : Array Value) (t3 : TypeId) :
    ∃ w0, ((w.alloc (.cells cs1 t1)).alloc (.cells cs2 t2)).alloc (.cells cs3 t3) = w0 ∧ Bo w0 w.heap.size cs1 ∧ Bo w0 (w.heap.size + 1) cs2 ∧ Bo w0 (w.heap.size + 1 + 1) cs3 ∧ Below w.heap.size w w0 ∧ w.heap.size + 3 ≤ w0.heap.size := by
  obtain ⟨w1, rfl, h1, h2, hb, hs⟩ := bo2 w cs1 t1 cs2 t2
  refine ⟨_, rfl, h1.kept (bo_alloc _ _), h2.kept (bo_alloc _ _), ?_, bchain hb (bo_alloc _ _), by simp⟩
  have := bo_new ((w.alloc (.cells cs1 t1)).alloc (.cells cs2 t2)) cs3 t3
  simpa using this
theorem bo4 (w : World) (cs1 : Array Value) (t1 : TypeId) (cs2 : Array Value) (t2 : TypeId) (cs3 : Array Value) (t3 : TypeId) (cs4 : Array Value) (t4 : TypeId) :
    ∃ w0, (((w.alloc (.cells cs1 t1)).alloc (.cells cs2 t2)).alloc (.cells cs3 t3)).alloc (.cells cs4 t4) = w0 ∧ Bo w0 w.heap.size cs1 ∧ Bo w0 (w.heap.size + 1) cs2 ∧ Bo w0 (w.heap.size + 1 + 1) cs3 ∧ Bo w0 (w.heap.size + 1 + 1 + 1) cs4 ∧ Below w.heap.size w w0 ∧ w.heap.size + 4 ≤ w0.heap.size := by
  obtain ⟨w1, rfl, h1, h2, h3, hb, hs⟩ := bo3 w cs1 t1 cs2 t2 cs3 t3
  refine ⟨_, rfl, h1.kept (bo_alloc _ _), h2.kept (bo_alloc _ _), h3.kept (bo_alloc _ _), ?_, bchain hb (bo_alloc _ _), by simp⟩
  have := bo_new (((w.alloc (.cells cs1 t1)).alloc (.cells cs2 t2)).alloc (.cells cs3 t3)) cs4 t4
  simpa using this
/-- The block b holds these cells of this type, whole, and may be written. -/
def Bl (w : World) (b : Nat) (cs : Array Value) (t : TypeId) : Prop := w.heap[b]? = some (.cells cs t (0, 0))
theorem Bl.lt {w : World} {b : Nat} {cs : Array Value} {t : TypeId} (h : Bl w b cs t) : b < w.heap.size := (Array.getElem?_eq_some_iff.1 h).1
theorem Bl.kept {w w' : World} {b : Nat} {cs : Array Value} {t : TypeId} (h : Bl w b cs t) (hb : Below w.heap.size w w') : Bl w' b cs t := (hb.block b h.lt).trans h
theorem Bl.k {w : World} {b : Nat} {cs : Array Value} {t : TypeId} (h : Bl w b cs t) : ∀ k, w.cell? ⟨b, k, none⟩ = cs[k]? := fun k => by
  unfold Bl at h
  simp [World.cell?, h]
theorem Bl.f {w : World} {b : Nat} {cs : Array Value} {t : TypeId} (h : Bl w b cs t) : ∀ k, w.frozen? ⟨b, k, none⟩ = false := fun k => by
  unfold Bl at h
  simp [World.frozen?, h]
theorem Bl.bo {w : World} {b : Nat} {cs : Array Value} {t : TypeId} (h : Bl w b cs t) : Bo w b cs := ⟨h.lt, h.k, h.f⟩
theorem bl_new (w : World) (cs : Array Value) (t : TypeId) : Bl (w.alloc (.cells cs t)) w.heap.size cs t := by
  unfold Bl World.alloc
  simp
/-- A block written whole. -/
theorem Bl.row {w : World} {b : Nat} {cs : Array Value} {t : TypeId} (h : Bl w b cs t) (ds : Array Value) : Bl (w.setRow b ds) b ds t := setRow_heap w b cs ds t (0, 0) h
theorem Bl.row_far {w : World} {b : Nat} {cs : Array Value} {t : TypeId} (h : Bl w b cs t) (g : Nat) (ds : Array Value) (hne : b ≠ g) : Bl (w.setRow g ds) b cs t := (setRow_other w g b ds hne).trans h
theorem below_row {n : Nat} {w w' : World} (h : Below n w w') (g : Nat) (ds : Array Value) (hg : n ≤ g) : Below n w (w'.setRow g ds) :=
  ⟨h.os, h.tape, h.output, by simpa using h.size, fun k hk => (setRow_other w' g k ds (by omega)).trans (h.block k hk)⟩
theorem bl1 (w : World) (cs1 : Array Value) (t1 : TypeId) :
    ∃ w0, w.alloc (.cells cs1 t1) = w0 ∧ Bl w0 w.heap.size cs1 t1 ∧ Below w.heap.size w w0 ∧ w.heap.size + 1 ≤ w0.heap.size := ⟨_, rfl, bl_new _ _ _, bo_alloc _ _, by simp⟩
theorem bl2 (w : World) (cs1 : Array Value) (t1 : TypeId) (cs2 : Array Value) (t2 : TypeId) :
    ∃ w0, (w.alloc (.cells cs1 t1)).alloc (.cells cs2 t2) = w0 ∧ Bl w0 w.heap.size cs1 t1 ∧ Bl w0 (w.heap.size + 1) cs2 t2 ∧ Below w.heap.size w w0 ∧ w.heap.size + 2 ≤ w0.heap.size := by
  refine ⟨_, rfl, (bl_new w cs1 t1).kept (bo_alloc _ _), ?_, bchain (bo_alloc _ _) (bo_alloc _ _), by simp⟩
  have := bl_new (w.alloc (.cells cs1 t1)) cs2 t2
  simpa using this
theorem bl3 (w : World) (cs1 : Array Value) (t1 : TypeId) (cs2 : Array Value) (t2 : TypeId) (cs3 : Array Value) (t3 : TypeId) :
    ∃ w0, ((w.alloc (.cells cs1 t1)).alloc (.cells cs2 t2)).alloc (.cells cs3 t3) = w0 ∧ Bl w0 w.heap.size cs1 t1 ∧ Bl w0 (w.heap.size + 1) cs2 t2 ∧ Bl w0 (w.heap.size + 1 + 1) cs3 t3 ∧ Below w.heap.size w w0 ∧ w.heap.size + 3 ≤ w0.heap.size := by
  obtain ⟨w1, rfl, h1, h2, hb, hs⟩ := bl2 w cs1 t1 cs2 t2
  refine ⟨_, rfl, h1.kept (bo_alloc _ _), h2.kept (bo_alloc _ _), ?_, bchain hb (bo_alloc _ _), by simp⟩
  have := bl_new ((w.alloc (.cells cs1 t1)).alloc (.cells cs2 t2)) cs3 t3
  simpa using this
theorem bl4 (w : World) (cs1 : Array Value) (t1 : TypeId) (cs2 : Array Value) (t2 : TypeId) (cs3 : Array Value) (t3 : TypeId) (cs4 : Array Value) (t4 : TypeId) :
    ∃ w0, (((w.alloc (.cells cs1 t1)).alloc (.cells cs2 t2)).alloc (.cells cs3 t3)).alloc (.cells cs4 t4) = w0 ∧ Bl w0 w.heap.size cs1 t1 ∧ Bl w0 (w.heap.size + 1) cs2 t2 ∧ Bl w0 (w.heap.size + 1 + 1) cs3 t3 ∧ Bl w0 (w.heap.size + 1 + 1 + 1) cs4 t4 ∧ Below w.heap.size w w0 ∧ w.heap.size + 4 ≤ w0.heap.size := by
  obtain ⟨w1, rfl, h1, h2, h3, hb, hs⟩ := bl3 w cs1 t1 cs2 t2 cs3 t3
  refine ⟨_, rfl, h1.kept (bo_alloc _ _), h2.kept (bo_alloc _ _), h3.kept (bo_alloc _ _), ?_, bchain hb (bo_alloc _ _), by simp⟩
  have := bl_new (((w.alloc (.cells cs1 t1)).alloc (.cells cs2 t2)).alloc (.cells cs3 t3)) cs4 t4
  simpa using this
end Go.Proofs.Ytpdcjnnfdcfcoaa

/- What one wants: when it may be wanted, when it is nothing, the lesser of two; of the program and of the specification. -/
namespace Go.Proofs.Ytpdcjnnfdcfcoaa
open Go.RowKit

/-- What one wants. -/
structure Opt where
  mode : Int
  win : Int
  mps : Int
  mtu : Int
  tri : Int
deriving DecidableEq
def Opt.zero : Opt := ⟨0, 0, 0, 0, 0⟩
def Opt.ok (o : Opt) : Bool := inB o.mode 1 2 && inB o.win 1 4 && inB o.mps 1 8 && inB o.mtu 1 24 && inB o.tri 1 5
def Opt.same (a b : Opt) : Bool := a.mode == b.mode && a.win == b.win && a.mps == b.mps && a.mtu == b.mtu && a.tri == b.tri
theorem Opt.same_iff (a b : Opt) : a.same b = true ↔ a = b := by
  obtain ⟨a1, a2, a3, a4, a5⟩ := a
  obtain ⟨b1, b2, b3, b4, b5⟩ := b
  simp [Opt.same, and_assoc]
def Opt.least (a b : Opt) : Opt := ⟨a.mode, min a.win b.win, min a.mps b.mps, min a.mtu b.mtu, min a.tri b.tri⟩
def meets (a b : Opt) : Bool := a.ok && b.ok && a.mode == b.mode
def meet (a b : Opt) : Opt := if meets a b then a.least b else Opt.zero

theorem opt_eq {a b : Opt} (h : a = b) : (.agg #[.int .i64 a.mode, .int .i64 a.win, .int .i64 a.mps, .int .i64 a.mtu, .int .i64 a.tri] : Value) = .agg #[.int .i64 b.mode, .int .i64 b.win, .int .i64 b.mps, .int .i64 b.mtu, .int .i64 b.tri] := by rw [h]
theorem ret_opt {a1 a2 a3 a4 a5 : Int} {b : Opt} (h1 : a1 = b.mode) (h2 : a2 = b.win) (h3 : a3 = b.mps) (h4 : a4 = b.mtu) (h5 : a5 = b.tri) : Ending.returned (.agg #[.int .i64 a1, .int .i64 a2, .int .i64 a3, .int .i64 a4, .int .i64 a5]) = .returned (.agg #[.int .i64 b.mode, .int .i64 b.win, .int .i64 b.mps, .int .i64 b.mtu, .int .i64 b.tri]) := by
  rw [h1, h2, h3, h4, h5]
theorem ret_meet {a1 a2 a3 a4 a5 : Int} {b : Opt} {x y : Bool} (h1 : a1 = b.mode) (h2 : a2 = b.win) (h3 : a3 = b.mps) (h4 : a4 = b.mtu) (h5 : a5 = b.tri) (h : x = y) : Ending.returned (.tuple #[.agg #[.int .i64 a1, .int .i64 a2, .int .i64 a3, .int .i64 a4, .int .i64 a5], .bool x]) = .returned (.tuple #[.agg #[.int .i64 b.mode, .int .i64 b.win, .int .i64 b.mps, .int .i64 b.mtu, .int .i64 b.tri], .bool y]) := by
  rw [h1, h2, h3, h4, h5, h]

theorem upto_any (n k : Int) (w : World) :
    Calls Try.prog 17 #[.int .i64 n, .int .i64 k] w fun e w' => e = .returned (.bool (inB n 1 k)) ∧ w' = w := by
  go_enter Try.func17, Try.ntmps17
  go_wp2
  all_goals
    go_ret
    refine ⟨ret_bool ?_, rfl⟩
    go_light
    rw [Bool.eq_iff_iff]
    simp only [inB_iff]
    grind
set_option maxHeartbeats 1000000 in
theorem impl_cfg (a : Opt) (w : World) :
    Calls Try.prog 12 #[.agg #[.int .i64 a.mode, .int .i64 a.win, .int .i64 a.mps, .int .i64 a.mtu, .int .i64 a.tri]] w fun e w' => e = .returned (.bool a.ok) ∧ Below w.heap.size w w' := by
  go_enter Try.func12, Try.ntmps12
  go_wp2_with (go_at_call 17; refine (upto_any _ _ _).mono ?_; rintro e w' ⟨rfl, rfl⟩)
  all_goals
    go_ret
    refine ⟨ret_bool ?_, (Below.refl _ _).alloc (Nat.le_refl _) _⟩
    go_light
    rw [Bool.eq_iff_iff]
    simp only [Opt.ok, Bool.and_eq_true, inB_iff, Bool.false_eq_true, false_iff] at *
    grind
theorem impl_cfg_v (m n p u t : Int) (w : World) :
    Calls Try.prog 12 #[.agg #[.int .i64 m, .int .i64 n, .int .i64 p, .int .i64 u, .int .i64 t]] w fun e w' => e = .returned (.bool (Opt.ok ⟨m, n, p, u, t⟩)) ∧ Below w.heap.size w w' := impl_cfg ⟨m, n, p, u, t⟩ w
end Go.Proofs.Ytpdcjnnfdcfcoaa

/- What the laws ask at the end of a way: it is so. -/
namespace Go.Proofs.Ytpdcjnnfdcfcoaa
open Go.RowKit
theorem li_ok (w : World) :
    Calls Try.prog 7 #[] w fun e w' => e = .returned (.bool true) ∧ Below w.heap.size w w' := by
  go_enter Try.func7, Try.ntmps7
  go_wp2_with (go_at_call 12; refine (impl_cfg_v _ _ _ _ _ _).mono ?_; rintro e w' ⟨rfl, b1⟩)
  go_ret
  exact ⟨rfl, b1⟩
end Go.Proofs.Ytpdcjnnfdcfcoaa

/- Plain arithmetic of the sums (no Go in sight): the half step is linear and injective, eight of them split by bytes. -/
namespace Go.Proofs.Ytpdcjnnfdcfcoaa.CrcM
def half (x : Nat) : Nat := if x % 2 = 1 then (x / 2) ^^^ 40961 else x / 2
def it : Nat → Nat → Nat
  | 0, x => x
  | k + 1, x => half (it k x)
def stp (s b : Nat) : Nat := it 8 (s ^^^ b)
def crc (l : List Nat) : Nat := l.foldl stp 0
theorem half_lt {x : Nat} (h : x < 65536) : half x < 65536 := by
  unfold half
  split
  · exact Nat.xor_lt_two_pow (n := 16) (by omega) (by decide)
  · omega
theorem it_lt (k : Nat) {x : Nat} (h : x < 65536) : it k x < 65536 := by
  induction k with
  | zero => exact h
  | succ k ih => exact half_lt ih
theorem stp_lt {s b : Nat} (h : s < 65536) (hb : b < 256) : stp s b < 65536 := it_lt 8 (Nat.xor_lt_two_pow (n := 16) h (by omega))
theorem half_xor (x y : Nat) : half (x ^^^ y) = half x ^^^ half y := by
  unfold half
  have h1 : (x ^^^ y) % 2 = (x + y) % 2 := by
    have := Nat.xor_mod_two_eq_one (a := x) (b := y)
    omega
  have h2 : (x ^^^ y) / 2 = x / 2 ^^^ y / 2 := Nat.xor_div_two
  rw [h1, h2]
  rcases Nat.mod_two_eq_zero_or_one x with hx | hx <;> rcases Nat.mod_two_eq_zero_or_one y with hy | hy
  · rw [if_neg (by omega), if_neg (by omega), if_neg (by omega)]
  · rw [if_pos (by omega), if_neg (by omega), if_pos (by omega), Nat.xor_assoc]
  · rw [if_pos (by omega), if_pos (by omega), if_neg (by omega), Nat.xor_assoc, Nat.xor_comm (y / 2), Nat.xor_assoc]
  · rw [if_neg (by omega), if_pos (by omega), if_pos (by omega)]
    rw [show (x / 2 ^^^ 40961) ^^^ (y / 2 ^^^ 40961) = (x / 2 ^^^ y / 2) ^^^ (40961 ^^^ 40961) from by ac_rfl, Nat.xor_self, Nat.xor_zero]
theorem it_xor (k x y : Nat) : it k (x ^^^ y) = it k x ^^^ it k y := by
  induction k with
  | zero => rfl
  | succ k ih => show half _ = half _ ^^^ half _; rw [ih, half_xor]
theorem it_zero (k : Nat) : it k 0 = 0 := by
  induction k with
  | zero => rfl
  | succ k ih => show half _ = 0; rw [ih]; rfl
theorem half_two (z : Nat) : half (2 * z) = z := by unfold half; rw [if_neg (by omega)]; omega
theorem it_front (k x : Nat) : it (k + 1) x = it k (half x) := by
  induction k with
  | zero => rfl
  | succ k ih => show half (it (k + 1) x) = half (it k (half x)); rw [ih]
theorem it8_256 (y : Nat) : it 8 (256 * y) = y := by
  rw [show 256 * y = 2 * (128 * y) from by omega, it_front, half_two, show 128 * y = 2 * (64 * y) from by omega, it_front, half_two, show 64 * y = 2 * (32 * y) from by omega, it_front, half_two,
    show 32 * y = 2 * (16 * y) from by omega, it_front, half_two, show 16 * y = 2 * (8 * y) from by omega, it_front, half_two, show 8 * y = 2 * (4 * y) from by omega, it_front, half_two,
    show 4 * y = 2 * (2 * y) from by omega, it_front, half_two, it_front, half_two]
  rfl
theorem add_xor (m q r : Nat) (h : r < 2 ^ m) : 2 ^ m * q + r = 2 ^ m * q ^^^ r := by
  apply Nat.eq_of_testBit_eq
  intro j
  rw [Nat.testBit_xor, Nat.testBit_two_pow_mul_add _ h]
  have e : (2 ^ m * q).testBit j = if j < m then false else q.testBit (j - m) := by
    have := Nat.testBit_two_pow_mul_add (b := 0) q (Nat.two_pow_pos m) j
    simpa using this
  rw [e]
  split
  · simp
  · rw [Nat.testBit_lt_two_pow (Nat.lt_of_lt_of_le h (Nat.pow_le_pow_right (by decide) (by omega)))]; simp
theorem it8_split (x : Nat) : it 8 x = x / 256 ^^^ it 8 (x % 256) := by
  have h : x = 256 * (x / 256) ^^^ x % 256 := by
    have := add_xor 8 (x / 256) (x % 256) (by omega)
    simp at this
    omega
  calc it 8 x = it 8 (256 * (x / 256) ^^^ x % 256) := by rw [← h]
    _ = _ := by rw [it_xor, it8_256]
/-- what the closure over the table answers -/
theorem stp_table (s b : Nat) (hb : b < 256) : s / 256 ^^^ it 8 (s % 256 ^^^ b) = stp s b := by
  unfold stp
  rw [it8_split (s ^^^ b)]
  have e1 : (s ^^^ b) / 256 = s / 256 := by
    have := Nat.xor_div_two_pow (a := s) (b := b) (n := 8)
    simp at this
    rw [this, Nat.div_eq_of_lt hb, Nat.xor_zero]
  have e2 : (s ^^^ b) % 256 = s % 256 ^^^ b := by
    have := Nat.xor_mod_two_pow (a := s) (b := b) (n := 8)
    simp at this
    rw [this, Nat.mod_eq_of_lt hb]
  rw [e1, e2]
/-- the table's doubling -/
theorem tab_double (m low : Nat) (h : low < 2 ^ m) : it 8 (2 ^ m + low) = it 8 low ^^^ it 8 (2 ^ m) := by
  have := add_xor m 1 low h
  simp at this
  rw [this, it_xor, Nat.xor_comm]
theorem crc_snoc (l : List Nat) (b : Nat) : crc (l ++ [b]) = stp (crc l) b := by simp [crc]
theorem crc_lt (l : List Nat) (h : ∀ b ∈ l, b < 256) : crc l < 65536 := by
  unfold crc
  suffices ∀ s, s < 65536 → l.foldl stp s < 65536 from this 0 (by decide)
  induction l with
  | nil => intro s hs; exact hs
  | cons a l ih => intro s hs; exact ih (fun b hb => h b (by simp [hb])) _ (stp_lt hs (h a (by simp)))
theorem xor_zero_eq {a b : Nat} (h : a ^^^ b = 0) : a = b := by
  have : (a ^^^ b) ^^^ b = b := by rw [h, Nat.zero_xor]
  rwa [Nat.xor_assoc, Nat.xor_self, Nat.xor_zero] at this
theorem xor_inj {a b c : Nat} (h : a ^^^ b = a ^^^ c) : b = c := by
  have : a ^^^ (a ^^^ b) = a ^^^ (a ^^^ c) := by rw [h]
  rwa [← Nat.xor_assoc, ← Nat.xor_assoc, Nat.xor_self, Nat.zero_xor, Nat.zero_xor] at this
theorem half_zero {x : Nat} (hx : x < 65536) (h : half x = 0) : x = 0 := by
  unfold half at h
  split at h
  · have : x / 2 = 40961 := xor_zero_eq h
    omega
  · omega
theorem it_eq_zero (k : Nat) {x : Nat} (hx : x < 65536) (h : it k x = 0) : x = 0 := by
  induction k with
  | zero => exact h
  | succ k ih => exact ih (half_zero (it_lt k hx) h)
theorem it_inj (k : Nat) {x y : Nat} (hx : x < 65536) (hy : y < 65536) (h : it k x = it k y) : x = y := by
  have e : it k (x ^^^ y) = 0 := by rw [it_xor, h, Nat.xor_self]
  exact xor_zero_eq (it_eq_zero k (Nat.xor_lt_two_pow (n := 16) hx hy) e)
theorem stp_inj_left {s t b : Nat} (hs : s < 65536) (ht : t < 65536) (hb : b < 256) (h : stp s b = stp t b) : s = t := by
  have := it_inj 8 (Nat.xor_lt_two_pow (n := 16) hs (by omega)) (Nat.xor_lt_two_pow (n := 16) ht (by omega)) h
  exact xor_inj (a := b) (by rw [Nat.xor_comm b s, Nat.xor_comm b t]; exact this)
theorem stp_inj_right {s b c : Nat} (hs : s < 65536) (hb : b < 256) (hc : c < 256) (h : stp s b = stp s c) : b = c := by
  have := it_inj 8 (Nat.xor_lt_two_pow (n := 16) hs (by omega)) (Nat.xor_lt_two_pow (n := 16) hs (by omega)) h
  exact xor_inj this
end Go.Proofs.Ytpdcjnnfdcfcoaa.CrcM

/- CrcStep of the specification and of the program: both answer the same number, at every sum and every byte; the world stays. -/
namespace Go.Proofs.Ytpdcjnnfdcfcoaa
open Go.RowKit

set_option maxHeartbeats 400000 in
theorem spec_step (s b : Nat) (hs : s < 65536) (hb : b < 256) (w : World) :
    Calls Try.prog 11 #[.int .i64 s, .int .u8 b] w fun e w' => e = .returned (.int .i64 (CrcM.stp s b)) ∧ w' = w := by
  have hx := i64_xor_nat s b (by omega) (by omega)
  have hlt : s ^^^ b < 65536 := Nat.xor_lt_two_pow (n := 16) hs (by omega)
  go_enter Try.func11, Try.ntmps11
  go_wp2_with (go_at_call 16; refine (in_yes _ _ _ (by omega) (by omega) _).mono ?_; rintro e w' ⟨rfl, rfl⟩)
  clear hx
  go_loop [0, 5] (fun x i => ∃ k : Nat, k ≤ 8 ∧ i = .int .i64 k ∧ x = .int .i64 (CrcM.it k (s ^^^ b))) (fun _ i => 8 - (intOf i).toNat)
  case atStart => exact ⟨0, Nat.zero_le _, rfl, rfl⟩
  case round =>
    obtain ⟨k, hk, rfl, rfl⟩ := hrel
    by_cases hk8 : k < 8
    · have hX := CrcM.it_lt k hlt
      have HS : Hid (CrcM.it (k + 1) (s ^^^ b) = CrcM.half (CrcM.it k (s ^^^ b))) := rfl
      generalize CrcM.it k (s ^^^ b) = X at *
      have hx2 : bits .xor .i64 ((X : Int) / 2) 40961 = ((X / 2 ^^^ 40961 : Nat) : Int) := i64_xor_nat (X / 2) 40961 (by omega) (by decide)
      by_cases ho : X % 2 = 1
      · have HH : Hid (CrcM.half X = X / 2 ^^^ 40961) := by unfold CrcM.half; exact if_pos ho
        have ho' : (X : Int) % 2 = 1 := by omega
        clear ho
        go_wp2
        go_round
        case rel => exact ⟨k + 1, by omega, by go_num, by rw [HS.out, HH.out]⟩
        case measure => simp [intOf]; omega
      · have HH : Hid (CrcM.half X = X / 2) := by unfold CrcM.half; exact if_neg ho
        have ho' : (X : Int) % 2 = 0 := by omega
        clear ho
        go_wp2
        go_round
        case rel => exact ⟨k + 1, by omega, by go_num, by rw [HS.out, HH.out]; go_num⟩
        case measure => simp [intOf]; omega
    · have : k = 8 := by omega
      subst this
      go_wp2
      go_ret
      exact ⟨rfl, rfl⟩

set_option maxHeartbeats 400000 in
theorem spec_step_no (s : Int) (b : Nat) (hs : s < 0 ∨ 65535 < s) (w : World) :
    Calls Try.prog 11 #[.int .i64 s, .int .u8 b] w fun e w' => e = .returned (.int .i64 (-1)) ∧ w' = w := by
  go_enter Try.func11, Try.ntmps11
  go_wp2_with (go_at_call 16; refine (in_no _ _ _ hs _).mono ?_; rintro e w' ⟨rfl, rfl⟩)
  go_ret
  exact ⟨rfl, rfl⟩

set_option maxHeartbeats 400000 in
theorem impl_step (s b : Nat) (hs : s < 65536) (hb : b < 256) (w : World) :
    Calls Try.prog 14 #[.int .i64 s, .int .u8 b] w fun e w' => e = .returned (.int .i64 (CrcM.stp s b)) ∧ w' = w := by
  have hx := i64_xor_nat s b (by omega) (by omega)
  have hlt : s ^^^ b < 65536 := Nat.xor_lt_two_pow (n := 16) hs (by omega)
  have hs1 : ¬ (s : Int) < 0 := by omega
  have hs2 : ¬ (65535 : Int) < (s : Int) := by omega
  go_enter Try.func14, Try.ntmps14
  go_wp2
  clear hx
  go_loop [0, 16] (fun x i => ∃ k : Nat, k ≤ 8 ∧ i = .int .i64 k ∧ x = .int .i64 (CrcM.it k (s ^^^ b))) (fun _ i => 8 - (intOf i).toNat)
  case atStart => exact ⟨0, Nat.zero_le _, rfl, rfl⟩
  case round =>
    obtain ⟨k, hk, rfl, rfl⟩ := hrel
    by_cases hk8 : k < 8
    · have hX := CrcM.it_lt k hlt
      have HS : Hid (CrcM.it (k + 1) (s ^^^ b) = CrcM.half (CrcM.it k (s ^^^ b))) := rfl
      generalize CrcM.it k (s ^^^ b) = X at *
      have hx2 : bits .xor .i64 ((X : Int) / 2) 40961 = ((X / 2 ^^^ 40961 : Nat) : Int) := i64_xor_nat (X / 2) 40961 (by omega) (by decide)
      by_cases ho : X % 2 = 1
      · have HH : Hid (CrcM.half X = X / 2 ^^^ 40961) := by unfold CrcM.half; exact if_pos ho
        have ho' : (X : Int) % 2 = 1 := by omega
        clear ho
        go_wp2
        go_round
        case rel => exact ⟨k + 1, by omega, by go_num, by rw [HS.out, HH.out]⟩
        case measure => simp [intOf]; omega
      · have HH : Hid (CrcM.half X = X / 2) := by unfold CrcM.half; exact if_neg ho
        have ho' : (X : Int) % 2 = 0 := by omega
        clear ho
        go_wp2
        go_round
        case rel => exact ⟨k + 1, by omega, by go_num, by rw [HS.out, HH.out]; go_num⟩
        case measure => simp [intOf]; omega
    · have : k = 8 := by omega
      subst this
      go_wp2
      go_ret
      exact ⟨rfl, rfl⟩

set_option maxHeartbeats 400000 in
theorem impl_step_no (s : Int) (b : Nat) (hs : s < 0 ∨ 65535 < s) (w : World) :
    Calls Try.prog 14 #[.int .i64 s, .int .u8 b] w fun e w' => e = .returned (.int .i64 (-1)) ∧ w' = w := by
  by_cases h1 : s < 0
  · go_enter Try.func14, Try.ntmps14
    go_wp2
    go_ret
    exact ⟨rfl, rfl⟩
  · have h2 : 65535 < s := by omega
    go_enter Try.func14, Try.ntmps14
    go_wp2
    go_ret
    exact ⟨rfl, rfl⟩
end Go.Proofs.Ytpdcjnnfdcfcoaa

/- CrcOf of the specification and of the program, each of a list of bytes in memory: both answer the sum of the bytes. -/
namespace Go.Proofs.Ytpdcjnnfdcfcoaa
open Go.RowKit

set_option maxHeartbeats 800000 in
theorem spec_of (v : Value) (zs : List Nat) (w : World) (hv : Rd w v zs) :
    Calls Try.prog 6 #[v] w fun e w' => e = .returned (.int .i64 (CrcM.crc zs)) ∧ w' = w := by
  obtain ⟨hby, hlen, hv⟩ := hv
  rcases hv with ⟨rfl, a, c, rfl, _⟩ | ⟨b, off, cap, rfl, _, _, hb, hc⟩
  · go_enter Try.func6, Try.ntmps6
    go_wp2
    go_loop [3, 4] (fun q i => i = .int .i64 0 ∧ q = .int .i64 0) (fun _ _ => 0)
    case atStart => exact ⟨rfl, rfl⟩
    case round =>
      obtain ⟨rfl, rfl⟩ := hrel
      go_wp2
      go_ret
      exact ⟨rfl, rfl⟩
  · go_enter Try.func6, Try.ntmps6
    go_wp2
    go_loop [3, 4] (fun q i => ∃ k : Nat, k ≤ zs.length ∧ i = .int .i64 k ∧ q = .int .i64 ((CrcM.crc (zs.take k) : Nat) : Int)) (fun _ i => zs.length - (intOf i).toNat)
    case atStart => exact ⟨0, Nat.zero_le _, rfl, rfl⟩
    case round =>
      obtain ⟨k, hk, rfl, rfl⟩ := hrel
      by_cases hlt : k < zs.length
      · have c1 := hc k hlt
        have hx : zs.getD k 0 < 256 := hby.get k
        have hs := CrcM.crc_lt (zs.take k) (hby.take k)
        have HS : Hid (CrcM.crc (zs.take (k + 1)) = CrcM.stp (CrcM.crc (zs.take k)) (zs.getD k 0)) := by
          show _ = _
          rw [List.take_succ_eq_append_getElem hlt, CrcM.crc_snoc]
          simp [hlt]
        clear hc
        generalize zs.getD k 0 = x at *
        generalize CrcM.crc (zs.take k) = q at *
        go_wp2_with (go_at_call 11; refine (spec_step _ _ hs hx _).mono ?_; rintro e w' ⟨rfl, rfl⟩)
        go_round
        case rel => exact ⟨k + 1, by omega, by go_num, by rw [HS.out]⟩
        case measure => simp [intOf]; omega
      · have : k = zs.length := by omega
        subst this
        go_wp2
        go_ret
        exact ⟨rfl, rfl⟩

/-- The table as it begins. -/
def zeros : Array Value := Array.replicate 256 (.int .u16 0)
theorem zeros_run (w : World) : Sem.run Try.prog (zeroValue 40) w = .ok (.agg zeros) w := by kernel_rfl

/-- What the table holds when its first m places are made. -/
def tab (m i : Nat) : Value := .int .u16 (((if i < m then CrcM.it 8 i else 0 : Nat)) : Int)
theorem tab_lo {m i : Nat} (h : i < m) : tab m i = .int .u16 ((CrcM.it 8 i : Nat) : Int) := by simp [tab, h]
theorem tab_start (w : World) : (w.alloc (.cells zeros 40)).rowIs w.heap.size 40 256 (tab 1) := by
  have h : zeros.size = 256 := by simp [zeros]
  have := World.rowIs_alloc w zeros 40 (tab 1) (by
    intro i hi
    rw [h] at hi
    have e : zeros[i]? = some (.int .u16 0) := by simp [zeros, hi]
    rw [e]
    unfold tab
    by_cases h0 : i < 1
    · have : i = 0 := by omega
      subst this
      simp [CrcM.it_zero]
    · simp [h0])
  rwa [h] at this
theorem tab_next {m low : Nat} {b t : Nat} {w : World} (h : w.rowIs b t 256 (tab (m + low))) : (w.setCell ⟨b, m + low, none⟩ (.int .u16 ((CrcM.it 8 (m + low) : Nat) : Int))).rowIs b t 256 (tab (m + low + 1)) := by
  refine (h.set (m + low) _).congr fun i _ => ?_
  unfold tab
  by_cases e : i = m + low
  · subst e; simp
  · by_cases e2 : i < m + low
    · rw [if_neg e, if_pos e2, if_pos (by omega)]
    · rw [if_neg e, if_neg e2, if_neg (by omega)]

theorem impl_step_zero (b : Nat) (hb : b < 256) (w : World) :
    Calls Try.prog 14 #[.int .i64 0, .int .u8 b] w fun e w' => e = .returned (.int .i64 (CrcM.it 8 b)) ∧ w' = w := by
  have := impl_step 0 b (by decide) hb w
  unfold CrcM.stp at this
  rw [Nat.zero_xor] at this
  exact this

set_option maxRecDepth 100000 in
set_option maxHeartbeats 1000000 in
theorem table_any (w : World) :
    Calls Try.prog 10 #[] w fun e w' => ∃ g, e = .returned (.func (.func 15) #[] #[.pointer (some ⟨g, 0, none⟩)]) ∧ g < w'.heap.size ∧ (∀ i : Nat, i < 256 → w'.cell? ⟨g, i, none⟩ = some (.int .u16 ((CrcM.it 8 i : Nat) : Int))) ∧ Below w.heap.size w w' := by
  have hz := zeros_run
  have hst := tab_start w
  go_enter Try.func10, Try.ntmps10
  go_wp2
  clear hz
  go_loopw [2] (fun t wr => ∃ m : Nat, m ≤ 8 ∧ t = .int .i64 ((2 ^ m : Nat) : Int) ∧ wr.rowIs w.heap.size 40 256 (tab (2 ^ m)) ∧ Below w.heap.size w wr) (fun t _ => 256 - (intOf t).toNat)
  case atStart => exact ⟨0, by omega, rfl, hst, (Below.refl _ _).alloc (Nat.le_refl _) _⟩
  case round =>
    obtain ⟨m, hm, rfl, hrow, hbl⟩ := hrel
    clear hst
    by_cases hm8 : m < 8
    · have hbit : 2 ^ m ≤ 128 := Nat.pow_le_pow_right (n := 2) (by decide) (show m ≤ 7 by omega)
      have hpos : 1 ≤ 2 ^ m := Nat.one_le_two_pow
      have HD : Hid (∀ low, low < 2 ^ m → CrcM.it 8 (2 ^ m + low) = CrcM.it 8 low ^^^ CrcM.it 8 (2 ^ m)) := fun low h => CrcM.tab_double m low h
      have HN : Hid (2 ^ m * 2 = 2 ^ (m + 1)) := (Nat.pow_succ 2 m).symm
      generalize 2 ^ m = bit at *
      have hlt := CrcM.it_lt 8 (show bit < 65536 by omega)
      have hw : IntKind.u8.wrap (bit : Int) = (bit : Int) := by rw [IntKind.wrap_u8']; omega
      have HT : Hid (∀ low, low < 65536 → bits .xor .u16 ((CrcM.it 8 low : Nat) : Int) ((CrcM.it 8 bit : Nat) : Int) = ((CrcM.it 8 low ^^^ CrcM.it 8 bit : Nat) : Int)) := fun low h => u16_xor_nat _ _ (CrcM.it_lt 8 h) hlt
      have hw2 : IntKind.u16.wrap ((CrcM.it 8 bit : Nat) : Int) = ((CrcM.it 8 bit : Nat) : Int) := by rw [IntKind.wrap_u16]; omega
      go_wp2_with (go_at_call 14; refine (impl_step_zero _ (by omega) _).mono ?_; rintro e w' ⟨rfl, rfl⟩)
      clear hw hw2
      go_loopw [14] (fun t wi => ∃ low : Nat, low ≤ bit ∧ t = .int .i64 (low : Int) ∧ wi.rowIs w.heap.size 40 256 (tab (bit + low)) ∧ Below w.heap.size w wi) (fun t _ => bit - (intOf t).toNat)
      case atStart => exact ⟨0, by omega, rfl, hrow, hbl⟩
      case round =>
        clear hrow hbl
        obtain ⟨low, hlow, rfl, hrow, hbl⟩ := hrel
        by_cases hl : low < bit
        · have c1 : wr.cell? ⟨w.heap.size, low, none⟩ = some (.int .u16 ((CrcM.it 8 low : Nat) : Int)) := by rw [hrow.cell (show low < 256 by omega), tab_lo (by omega)]
          have c2 : wr.cell? ⟨w.heap.size, bit + low, none⟩ = some (tab (bit + low) (bit + low)) := hrow.cell (by omega)
          have c3 := hrow.frozen (bit + low)
          have hx := HT.out low (by omega)
          have hxx := HD.out low hl
          have S := tab_next hrow
          have HB : Below w.heap.size w (wr.setCell ⟨w.heap.size, bit + low, none⟩ (.int .u16 ((CrcM.it 8 (bit + low) : Nat) : Int))) := hbl.setCell (Nat.le_refl _) _
          rw [hxx] at S HB
          clear hxx
          generalize tab (bit + low) (bit + low) = old at *
          go_wp2
          go_roundw
          case rel => exact ⟨low + 1, by omega, by go_num, S, HB⟩
          case measure => simp [intOf]; omega
        · have : low = bit := by omega
          subst this
          go_wp2
          go_roundw
          case rel => exact ⟨m + 1, by omega, by rw [← HN.out]; go_num, by rw [← HN.out, Nat.mul_two]; exact hrow, hbl⟩
          case measure => simp [intOf]; omega
    · have : m = 8 := by omega
      subst this
      go_wp2
      go_ret
      exact ⟨_, rfl, hrow.lt, fun i hi => by rw [hrow.cell hi, tab_lo hi], hbl⟩

/- The closure over the table: a step. -/
set_option maxRecDepth 100000 in
set_option maxHeartbeats 1000000 in
theorem closure_any (s b g : Nat) (hs : s < 65536) (hb : b < 256) (w : World) (hcell : ∀ i : Nat, i < 256 → w.cell? ⟨g, i, none⟩ = some (.int .u16 ((CrcM.it 8 i : Nat) : Int))) :
    Calls Try.prog 15 #[.int .i64 s, .int .u8 b, .pointer (some ⟨g, 0, none⟩)] w fun e w' => e = .returned (.int .i64 (CrcM.stp s b)) ∧ w' = w := by
  have hw : IntKind.u8.wrap (s : Int) = (s : Int) % 256 := by rw [IntKind.wrap_u8']
  have hx8 : bits .xor .u8 ((s : Int) % 256) (b : Int) = ((s % 256 ^^^ b : Nat) : Int) := u8_xor_nat (s % 256) b (by omega) hb
  have hxl : s % 256 ^^^ b < 256 := Nat.xor_lt_two_pow (n := 8) (by omega) (by omega)
  have c1 := hcell _ hxl
  have hx64 : bits .xor .i64 ((s : Int) / 256) ((CrcM.it 8 (s % 256 ^^^ b) : Nat) : Int) = ((s / 256 ^^^ CrcM.it 8 (s % 256 ^^^ b) : Nat) : Int) := i64_xor_nat (s / 256) (CrcM.it 8 (s % 256 ^^^ b)) (by omega) (by have := CrcM.it_lt 8 (show s % 256 ^^^ b < 65536 by omega); omega)
  rw [CrcM.stp_table s b hb] at hx64
  have hl := CrcM.it_lt 8 (show s % 256 ^^^ b < 65536 by omega)
  generalize CrcM.it 8 (s % 256 ^^^ b) = X at *
  generalize s % 256 ^^^ b = Y at *
  generalize CrcM.stp s b = Z at *
  clear hcell
  go_enter Try.func15, Try.ntmps15
  go_wp2
  go_ret
  exact ⟨rfl, rfl⟩

set_option maxRecDepth 100000 in
set_option maxHeartbeats 1000000 in
theorem impl_of (v : Value) (zs : List Nat) (w : World) (hv : Rd w v zs) :
    Calls Try.prog 5 #[v] w fun e w' => e = .returned (.int .i64 (CrcM.crc zs)) ∧ Below w.heap.size w w' := by
  obtain ⟨hby, hlen, hv⟩ := hv
  rcases hv with ⟨rfl, a, c, rfl, _⟩ | ⟨b, off, cap, rfl, _, _, hb, hc⟩
  · go_enter Try.func5, Try.ntmps5
    go_wp2_with (go_at_call 10; refine (table_any _).mono ?_; rintro e w1 ⟨g, rfl, hg, hcell, hbl⟩)
    go_loop [4, 10] (fun q i => i = .int .i64 0 ∧ q = .int .i64 0) (fun _ _ => 0)
    case atStart => exact ⟨rfl, rfl⟩
    case round =>
      obtain ⟨rfl, rfl⟩ := hrel
      go_wp2
      go_ret
      exact ⟨rfl, hbl⟩
  · go_enter Try.func5, Try.ntmps5
    go_wp2_with (go_at_call 10; refine (table_any _).mono ?_; rintro e w1 ⟨g, rfl, hg, hcell, hbl⟩)
    go_loop [4, 6, 10] (fun q _ i => ∃ k : Nat, k ≤ zs.length ∧ i = .int .i64 k ∧ q = .int .i64 ((CrcM.crc (zs.take k) : Nat) : Int)) (fun _ _ i => zs.length - (intOf i).toNat)
    case atStart => exact ⟨0, Nat.zero_le _, rfl, rfl⟩
    case round =>
      obtain ⟨k, hk, rfl, rfl⟩ := hrel
      by_cases hlt : k < zs.length
      · have c1 : w1.cell? ⟨b, off + k, none⟩ = some (.int .u8 ((zs.getD k 0 : Nat) : Int)) := (hbl.cell (p := ⟨b, off + k, none⟩) hb).trans (hc k hlt)
        have hx : zs.getD k 0 < 256 := hby.get k
        have hs := CrcM.crc_lt (zs.take k) (hby.take k)
        have HS : Hid (CrcM.crc (zs.take (k + 1)) = CrcM.stp (CrcM.crc (zs.take k)) (zs.getD k 0)) := by
          show _ = _
          rw [List.take_succ_eq_append_getElem hlt, CrcM.crc_snoc]
          simp [hlt]
        clear hc
        generalize zs.getD k 0 = x at *
        generalize CrcM.crc (zs.take k) = q at *
        go_wp2_with (go_at_call 15; refine (closure_any _ _ _ hs hx _ hcell).mono ?_; rintro e w' ⟨rfl, rfl⟩)
        go_round
        case rel => exact ⟨k + 1, by omega, by go_num, by rw [HS.out]⟩
        case measure => simp [intOf]; omega
      · have : k = zs.length := by omega
        subst this
        go_wp2
        go_ret
        exact ⟨rfl, hbl⟩
end Go.Proofs.Ytpdcjnnfdcfcoaa
