/- Lists of bytes in memory: what a slice reads as, what a call owns, and how both outlast later steps. -/
import Derived.Test.YthbmafoikloocasRows
import Derived.WalkKit
import Derived.WalkLawsBesides
import Derived.WalkSpells
import Derived.WalkSmall
import Derived.Deep.OwnRows
import Derived.Deep.QuietTactic
import Derived.BigQuiet
namespace Go.Proofs.Ythbmafoikloocas
open Go.RowKit

theorem Try.infoB : (Try.prog.info? 5).map (fun i => (i.zero, i.size, i.bytes)) = some (some (.int .u8 0), 1, 1) := by kernel_rfl

/-- The cells of bytes. -/
def bcells (zs : List Nat) : List Value := zs.map fun z : Nat => Value.int .u8 (z : Int)
theorem bcells_length (zs : List Nat) : (bcells zs).length = zs.length := by simp [bcells]
theorem bcells_get (zs : List Nat) (j : Nat) (h : j < zs.length) : (bcells zs)[j]? = some (.int .u8 ((zs.getD j 0 : Nat) : Int)) := by
  simp [bcells, h]
theorem bcells_one (zs : List Nat) : ∀ u ∈ bcells zs, u.oneCell' = true := by
  intro u hu
  simp only [bcells, List.mem_map] at hu
  obtain ⟨z, _, rfl⟩ := hu
  rfl
theorem bcells_append (a b : List Nat) : bcells (a ++ b) = bcells a ++ bcells b := by simp [bcells]

/-- All are bytes. -/
def Byt (zs : List Nat) : Prop := ∀ z ∈ zs, z < 256
theorem Byt.get {zs : List Nat} (h : Byt zs) (j : Nat) : zs.getD j 0 < 256 := by
  by_cases hj : j < zs.length
  · rw [List.getD_eq_getElem?_getD, List.getElem?_eq_getElem hj]; exact h _ (List.getElem_mem hj)
  · rw [List.getD_eq_getElem?_getD, List.getElem?_eq_none (by omega)]; simp
theorem Byt.take {zs : List Nat} (h : Byt zs) (n : Nat) : Byt (zs.take n) := fun z hz => h z (List.mem_of_mem_take hz)

/-- The slice v reads, in w, as the bytes zs. -/
def Rd (w : World) (v : Value) (zs : List Nat) : Prop :=
  Byt zs ∧ zs.length ≤ 2000000 ∧ ((zs = [] ∧ ∃ a c, v = .slice a 0 c ∧ (a = none → c = 0)) ∨
    ∃ b off cap, v = .slice (some ⟨b, off, none⟩) zs.length cap ∧ zs.length ≤ cap ∧ cap ≤ maxLen ∧ b < w.heap.size ∧ ∀ j, j < zs.length → w.cell? ⟨b, off + j, none⟩ = some (.int .u8 ((zs.getD j 0 : Nat) : Int)))
/-- The call owns, from block B on, the row of bytes zs. -/
def Own (w : World) (B : Nat) (v : Value) (zs : List Nat) : Prop := w.ownsRow B 5 1 v zs.length (bcells zs)

theorem Rd.kept {w w' : World} {v : Value} {zs : List Nat} (h : Rd w v zs) (hb : Below w.heap.size w w') : Rd w' v zs := by
  obtain ⟨h1, h2, h3⟩ := h
  refine ⟨h1, h2, ?_⟩
  rcases h3 with h3 | ⟨b, off, cap, e, h4, h5, h6, h7⟩
  · exact .inl h3
  · exact .inr ⟨b, off, cap, e, h4, h5, Nat.lt_of_lt_of_le h6 hb.size, fun j hj => (hb.cell (p := ⟨b, off + j, none⟩) h6).trans (h7 j hj)⟩
theorem Own.rd {w : World} {B : Nat} {v : Value} {zs : List Nat} (h : Own w B v zs) (hz : Byt zs) (hl : zs.length ≤ 2000000) : Rd w v zs := by
  refine ⟨hz, hl, ?_⟩
  have h0 := h
  rcases h.2 with ⟨e, h1⟩ | ⟨g, cap, cur, e, _, h2, h3, h4, _, _⟩
  · exact .inl ⟨List.length_eq_zero_iff.1 h1, _, _, e, fun _ => rfl⟩
  · refine .inr ⟨g, 0, cap, e, h3, h4, ?_, fun j hj => ?_⟩
    · exact (h0.lt g (by rw [e]; rfl)).2
    · unfold Own at h0
      rw [e] at h0
      rw [Nat.zero_add, h0.cellAt j (by omega), bcells_get zs j hj]
theorem below_grown {w w' : World} (hb : Below w.heap.size w w') : w.grownBy w' none := ⟨hb.os, hb.tape, hb.output, hb.size, fun k hk _ => hb.block k hk⟩
theorem Own.kept {w w' : World} {B : Nat} {v : Value} {zs : List Nat} (h : Own w B v zs) (hb : Below w.heap.size w w') : Own w' B v zs :=
  World.ownsRow.kept h (below_grown hb) (by cases v.ownBlock <;> simp)
/-- What lies in other blocks stays behind a step that writes one row. -/
theorem Own.other {w w' : World} {B : Nat} {v u : Value} {zs : List Nat} (h : Own w B v zs) (hg : w.grownBy w' u.ownBlock) (hne : ∀ k, v.ownBlock = some k → u.ownBlock ≠ some k) : Own w' B v zs :=
  World.ownsRow.kept h hg (by
    cases e : v.ownBlock with
    | none => exact .inl rfl
    | some k => exact .inr (fun e' => hne k e e'.symm))
theorem bchain {w w1 w2 : World} (h : Below w.heap.size w w1) (k : Below w1.heap.size w1 w2) : Below w.heap.size w w2 := h.trans (k.mono h.size)
theorem below_drew {w : World} (n : Nat) : Below w.heap.size w (w.drewN n) := below_drewN (Below.refl _ _) n

/-- What the law's frame tells of a slice of integers that came in. -/
def IsRow (k : IntKind) (w : World) (a : Option Addr) (len cap : Nat) (zs : List Int) : Prop :=
  (a = none ∧ len = 0 ∧ cap = 0 ∧ zs = []) ∨
  ∃ x, a = some x ∧ len ≤ cap ∧ cap ≤ maxLen ∧ zs.length = cap ∧ (∀ i, i < zs.length → w.cell? (x.add i) = some (.int k (zs.getD i 0))) ∧ ∀ n ∈ zs, (Lit.int k n).wf = true
theorem wf_u8 {n : Int} (h : (Lit.int .u8 n).wf = true) : 0 ≤ n ∧ n < 256 := by
  simp [Lit.wf, IntKind.min, IntKind.max, IntKind.bits, IntKind.signed] at h
  omega
theorem IsRow.rd {w : World} {a : Option Addr} {len cap : Nat} {zs : List Int} (h : IsRow .u8 w a len cap zs) (hl : len ≤ 2000000) : ∃ bs : List Nat, Rd w (.slice a len cap) bs ∧ bs.length = len := by
  rcases h with ⟨rfl, rfl, rfl, rfl⟩ | ⟨x, rfl, h1, h2, h3, h4, h5⟩
  · exact ⟨[], ⟨fun z hz => by simp at hz, by simp, .inl ⟨rfl, _, _, rfl, fun _ => rfl⟩⟩, rfl⟩
  · have hlen : ((zs.take len).map Int.toNat).length = len := by simp; omega
    by_cases h0 : len = 0
    · subst h0
      exact ⟨[], ⟨fun z hz => by simp at hz, by simp, .inl ⟨rfl, _, _, rfl, fun h => by simp at h⟩⟩, rfl⟩
    · obtain ⟨b, off, spot⟩ := x
      have hc := h4 0 (by omega)
      have hspot : spot = none := by simpa [Addr.add] using World.cell?_spot hc
      subst hspot
      refine ⟨(zs.take len).map Int.toNat, ⟨?_, by omega, .inr ⟨b, off, cap, by rw [hlen], by omega, h2, ?_, ?_⟩⟩, hlen⟩
      · intro z hz
        simp only [List.mem_map] at hz
        obtain ⟨y, hy, rfl⟩ := hz
        have := wf_u8 (h5 y (List.mem_of_mem_take hy))
        omega
      · exact World.block_lt_of_cell? w _ hc
      · intro j hj
        rw [hlen] at hj
        have hj2 : j < zs.length := by omega
        have e := h4 j hj2
        have hb := wf_u8 (h5 (zs[j]) (List.getElem_mem hj2))
        have ea : (⟨b, off, none⟩ : Addr).add j = ⟨b, off + j, none⟩ := by
          by_cases h : j = 0
          · subst h; rfl
          · simp [Addr.add, h]
        rw [ea] at e
        rw [e]
        simp [hj2, hj]
        omega

/-- A row of bytes that is filled from its head on. -/
def part (zs : List Nat) (k : Nat) : List Value := bcells (zs.take k) ++ List.replicate (zs.length - k) (.int .u8 0)
theorem part_zero (zs : List Nat) : part zs 0 = List.replicate zs.length (.int .u8 0) := by simp [part, bcells]
theorem part_all (zs : List Nat) : part zs zs.length = bcells zs := by simp [part]
theorem part_length (zs : List Nat) (k : Nat) (h : k ≤ zs.length) : (part zs k).length = zs.length := by simp [part, bcells]; omega
theorem part_set (zs : List Nat) (k : Nat) (h : k < zs.length) : (part zs k).set k (.int .u8 ((zs.getD k 0 : Nat) : Int)) = part zs (k + 1) := by
  have e : List.replicate (zs.length - k) (Value.int .u8 0) = .int .u8 0 :: List.replicate (zs.length - (k + 1)) (Value.int .u8 0) := by
    rw [show zs.length - k = zs.length - (k + 1) + 1 from by omega, List.replicate_succ]
  have hl : (bcells (zs.take k)).length = k := by rw [bcells_length, List.length_take]; omega
  unfold part
  rw [e, List.set_append, if_neg (by omega), hl, Nat.sub_self, List.set_cons_zero, List.take_succ_eq_append_getElem h, bcells_append]
  simp [bcells, h]

theorem made_part {w : World} (zs : List Nat) (hl : zs.length ≤ 2000000) : (w.alloc (.cells (madeCells #[.int .u8 0] zs.length) 5)).ownsRow w.heap.size 5 1 (.slice (some ⟨w.heap.size, 0, none⟩) zs.length zs.length) zs.length (part zs 0) := by
  have := World.ownsRow_lit (base := w.heap.size) (e := 5) (size := 1) w (madeCells #[.int .u8 0] zs.length) zs.length (Nat.le_refl _) (by unfold maxLen; omega) (by simp [size_madeCells])
  rwa [toList_madeCells_one, ← part_zero] at this

set_option maxHeartbeats 800000 in
theorem toBytes_any (v : Value) (zs : List Nat) (w : World) (hv : Rd w v zs) :
    Calls Try.prog 6 #[v] w fun e w' => ∃ v', e = .returned v' ∧ Own w' w.heap.size v' zs ∧ Below w.heap.size w w' := by
  obtain ⟨hby, hlen, hv⟩ := hv
  rcases hv with ⟨rfl, a, c, rfl, _⟩ | ⟨b, off, cap, rfl, hcap, hm, hb, hc⟩
  · have hmk : ∀ w : World, (Instr.makeSlice 22 (.int .i64 0) (.int .i64 0)).run Try.prog w = .ok (.slice (some ⟨w.heap.size, 0, none⟩) 0 0) (w.alloc (.cells (madeCells #[.int .u8 0] 0) 5)) := run_make_row' (P := Try.prog) 22 5 (.int .u8 0) 1 Try.underlying22 Try.infoB rfl .i64 .i64 0 (by omega) (by omega)
    go_enter Try.func6, Try.ntmps6
    go_wp2
    go_loopw [4] (fun i wr => i = .int .i64 0 ∧ wr = w.alloc (.cells (madeCells #[.int .u8 0] 0) 5)) (fun _ _ => 0)
    case atStart => exact ⟨rfl, rfl⟩
    case round =>
      obtain ⟨rfl, rfl⟩ := hrel
      go_wp2
      go_ret
      exact ⟨_, rfl, made_part [] (by simp), (Below.refl _ _).alloc (Nat.le_refl _) _⟩
  · have hmk := run_make_row' (P := Try.prog) 22 5 (.int .u8 0) 1 Try.underlying22 Try.infoB rfl .i64 .i64 zs.length (by omega) (by omega)
    go_enter Try.func6, Try.ntmps6
    go_wp2
    clear hmk
    go_loopw [4] (fun i wr => ∃ k : Nat, k ≤ zs.length ∧ i = .int .i64 k ∧ wr.ownsRow w.heap.size 5 1 (.slice (some ⟨w.heap.size, 0, none⟩) zs.length zs.length) zs.length (part zs k) ∧ Below w.heap.size w wr) (fun i _ => zs.length - (intOf i).toNat)
    case atStart => exact ⟨0, Nat.zero_le _, rfl, made_part zs hlen, (Below.refl _ _).alloc (Nat.le_refl _) _⟩
    case round =>
      obtain ⟨k, hk, rfl, hown, hbl⟩ := hrel
      by_cases hlt : k < zs.length
      · have c1 : wr.cell? ⟨b, off + k, none⟩ = some (.int .u8 ((zs.getD k 0 : Nat) : Int)) := (hbl.cell (p := ⟨b, off + k, none⟩) hb).trans (hc k hlt)
        obtain ⟨u, c2⟩ : ∃ u, wr.cell? ⟨w.heap.size, k, none⟩ = some u := by
          rw [hown.cellAt k (by omega)]
          exact ⟨_, List.getElem?_eq_getElem (by rw [part_length zs k hk]; exact hlt)⟩
        have c3 := hown.frozenAt k
        have S := hown.stored k (.int .u8 ((zs.getD k 0 : Nat) : Int))
        rw [part_set zs k hlt] at S
        have HS := S.1
        have HB : Below w.heap.size w (wr.setCell ⟨w.heap.size, k, none⟩ (.int .u8 ((zs.getD k 0 : Nat) : Int))) := hbl.setCell (Nat.le_refl _) _
        clear S
        generalize zs.getD k 0 = x at *
        go_wp2
        go_roundw
        case rel => exact ⟨k + 1, by omega, by go_num, HS, HB⟩
        case measure => simp [intOf]; omega
      · have : k = zs.length := by omega
        subst this
        rw [part_all] at hown
        go_wp2
        go_ret
        exact ⟨_, rfl, hown, hbl⟩

set_option maxHeartbeats 800000 in
theorem eqBytes_same (v u : Value) (zs : List Nat) (w : World) (hv : Rd w v zs) (hu : Rd w u zs) :
    Calls Try.prog 8 #[v, u] w fun e w' => e = .returned (.bool true) ∧ ∃ n, w' = w.drewN n := by
  obtain ⟨hby, hlen, hv⟩ := hv
  obtain ⟨_, _, hu⟩ := hu
  by_cases hn : zs.length = 0
  · obtain rfl := List.length_eq_zero_iff.1 hn
    obtain ⟨a, c, rfl⟩ : ∃ a c, v = .slice a 0 c := by
      rcases hv with ⟨_, a, c, rfl, _⟩ | ⟨b, off, cap, rfl, _⟩
      · exact ⟨_, _, rfl⟩
      · exact ⟨_, _, rfl⟩
    obtain ⟨a', c', rfl⟩ : ∃ a c, u = .slice a 0 c := by
      rcases hu with ⟨_, a, c, rfl, _⟩ | ⟨b, off, cap, rfl, _⟩
      · exact ⟨_, _, rfl⟩
      · exact ⟨_, _, rfl⟩
    clear hv hu hn
    go_enter Try.func8, Try.ntmps8
    go_wp2
    go_loop [5] (fun i => i = .int .i64 0) (fun _ => 0)
    case atStart => exact rfl
    case round =>
      obtain rfl := hrel
      go_wp2
      go_ret
      exact ⟨rfl, 0, rfl⟩
  · rcases hv with ⟨rfl, _⟩ | ⟨b, off, cap, rfl, _, _, hb, hc⟩
    · simp at hn
    rcases hu with ⟨rfl, _⟩ | ⟨b', off', cap', rfl, _, _, hb', hc'⟩
    · simp at hn
    go_enter Try.func8, Try.ntmps8
    go_wp2
    go_loopw [5] (fun i wr => ∃ k n : Nat, k ≤ zs.length ∧ i = .int .i64 k ∧ wr = w.drewN n) (fun i _ => zs.length - (intOf i).toNat)
    case atStart => exact ⟨0, 0, Nat.zero_le _, rfl, rfl⟩
    case round =>
      obtain ⟨k, n, hk, rfl, rfl⟩ := hrel
      by_cases hlt : k < zs.length
      · have c1 := hc k hlt
        have c2 := hc' k hlt
        clear hc hc'
        generalize zs.getD k 0 = x at *
        go_wp2
        go_quiet (fail)
        go_wp2
        go_roundw
        case rel => exact ⟨k + 1, _, by omega, by go_num, rfl⟩
        case measure => simp [intOf]; omega
      · have : k = zs.length := by omega
        subst this
        go_wp2
        go_ret
        exact ⟨rfl, _, rfl⟩

/-- Marks: a number a place, from k on, as bytes. -/
def marks (k n : Nat) : List Nat := (List.range n).map fun j => (k + j) % 256
theorem marks_length (k n : Nat) : (marks k n).length = n := by simp [marks]
theorem marks_byt (k n : Nat) : Byt (marks k n) := by
  intro z hz
  simp only [marks, List.mem_map] at hz
  obtain ⟨j, _, rfl⟩ := hz
  omega
theorem marks_get (k n j : Nat) (h : j < n) : (marks k n).getD j 0 = (k + j) % 256 := by simp [marks, h]
/-- The row zs whose first j places are marked. -/
def marked (k : Nat) (zs : List Nat) (j : Nat) : List Nat := marks k j ++ zs.drop j
theorem marked_zero (k : Nat) (zs : List Nat) : marked k zs 0 = zs := by simp [marked, marks]
theorem marked_all (k : Nat) (zs : List Nat) : marked k zs zs.length = marks k zs.length := by simp [marked]
theorem marked_length (k : Nat) (zs : List Nat) (j : Nat) (h : j ≤ zs.length) : (marked k zs j).length = zs.length := by simp [marked, marks_length]; omega
theorem marked_set (k : Nat) (zs : List Nat) (j : Nat) (h : j < zs.length) : (marked k zs j).set j ((k + j) % 256) = marked k zs (j + 1) := by
  unfold marked
  rw [List.set_append, if_neg (by rw [marks_length]; omega), marks_length, Nat.sub_self, List.drop_eq_getElem_cons h, List.set_cons_zero]
  simp [marks, List.range_succ]

theorem byte_wrap (n : Nat) : IntKind.u8.wrap (n : Int) = ((n % 256 : Nat) : Int) := by
  rw [IntKind.wrap_u8']; omega

set_option maxHeartbeats 800000 in
theorem mark_any (B : Nat) (v : Value) (zs : List Nat) (k : Nat) (w : World) (hown : Own w B v zs) (hlen : zs.length ≤ 2000000) (hk : k ≤ 2000000) :
    Calls Try.prog 9 #[v, .int .i64 k] w fun e w' => e = .returned (.int .i64 ((k + zs.length : Nat) : Int)) ∧ Own w' B v (marks k zs.length) ∧ w.grownBy w' v.ownBlock := by
  have h0 := hown
  rcases hown.2 with ⟨rfl, hz⟩ | ⟨g, cap, cur, rfl, _⟩
  · obtain rfl := List.length_eq_zero_iff.1 hz
    go_enter Try.func9, Try.ntmps9
    go_wp2
    go_loop [1, 5] (fun q i => i = .int .i64 0 ∧ q = .int .i64 k) (fun _ _ => 0)
    case atStart => exact ⟨rfl, rfl⟩
    case round =>
      obtain ⟨rfl, rfl⟩ := hrel
      go_wp2
      go_ret
      exact ⟨rfl, h0, ⟨rfl, rfl, rfl, Nat.le_refl _, fun _ _ _ => rfl⟩⟩
  · clear hown
    go_enter Try.func9, Try.ntmps9
    go_wp2
    go_loopw [1, 5] (fun q i wr => ∃ j : Nat, j ≤ zs.length ∧ i = .int .i64 j ∧ q = .int .i64 ((k + j : Nat) : Int) ∧ wr.ownsRow B 5 1 (.slice (some ⟨g, 0, none⟩) zs.length cap) zs.length (bcells (marked k zs j)) ∧ w.grownBy wr (some g)) (fun _ i _ => zs.length - (intOf i).toNat)
    case atStart => exact ⟨0, Nat.zero_le _, rfl, rfl, by rw [marked_zero]; exact h0, ⟨rfl, rfl, rfl, Nat.le_refl _, fun _ _ _ => rfl⟩⟩
    case round =>
      obtain ⟨j, hj, rfl, rfl, hown, hgr⟩ := hrel
      by_cases hlt : j < zs.length
      · obtain ⟨u, c2⟩ : ∃ u, wr.cell? ⟨g, j, none⟩ = some u := by
          rw [hown.cellAt j (by omega)]
          exact ⟨_, List.getElem?_eq_getElem (by rw [bcells_length, marked_length k zs j hj]; exact hlt)⟩
        have c3 := hown.frozenAt j
        have S := hown.stored j (.int .u8 (((k + j) % 256 : Nat) : Int))
        have e : (bcells (marked k zs j)).set j (.int .u8 (((k + j) % 256 : Nat) : Int)) = bcells (marked k zs (j + 1)) := by
          rw [← marked_set k zs j hlt]; simp [bcells, List.map_set]
        rw [e] at S
        obtain ⟨S1, S2⟩ := S
        have HG : w.grownBy (wr.setCell ⟨g, j, none⟩ (.int .u8 (((k + j) % 256 : Nat) : Int))) (some g) :=
          ⟨S2.os.trans hgr.os, S2.tape.trans hgr.tape, S2.output.trans hgr.output, Nat.le_trans hgr.size S2.size, fun q hq hne => (S2.block q (Nat.lt_of_lt_of_le hq hgr.size) hne).trans (hgr.block q hq hne)⟩
        have HE : Hid ((bcells (marked k zs j)).set j (.int .u8 (((k + j) % 256 : Nat) : Int)) = bcells (marked k zs (j + 1))) := e
        have hw := byte_wrap (k + j)
        clear e S2
        go_wp2
        go_roundw
        case rel => exact ⟨j + 1, by omega, by go_num, by go_num, S1, HG⟩
        case measure => simp [intOf]; omega
      · have : j = zs.length := by omega
        subst this
        rw [marked_all] at hown
        go_wp2
        go_ret
        refine ⟨rfl, ?_, hgr⟩
        unfold Own
        rw [marks_length]
        exact hown

set_option maxHeartbeats 800000 in
theorem held_any (v : Value) (k n : Nat) (w : World) (hv : Rd w v (marks k n)) (hn : n ≤ 2000000) (hk : k ≤ 2000000) :
    Calls Try.prog 10 #[v, .int .i64 k] w fun e w' => e = .returned (.int .i64 ((k + n : Nat) : Int)) ∧ w' = w := by
  obtain ⟨hby, hlen, hv⟩ := hv
  simp only [marks_length] at hv hlen
  by_cases h0 : n = 0
  · subst h0
    obtain ⟨a, c, rfl⟩ : ∃ a c, v = .slice a 0 c := by
      rcases hv with ⟨_, a, c, rfl, _⟩ | ⟨b, off, cap, rfl, _⟩
      · exact ⟨_, _, rfl⟩
      · exact ⟨_, _, rfl⟩
    clear hv
    go_enter Try.func10, Try.ntmps10
    go_wp2
    go_loop [1, 5] (fun q i => i = .int .i64 0 ∧ q = .int .i64 k) (fun _ _ => 0)
    case atStart => exact ⟨rfl, rfl⟩
    case round =>
      obtain ⟨rfl, rfl⟩ := hrel
      go_wp2
      go_ret
      exact ⟨rfl, rfl⟩
  · rcases hv with ⟨h, _⟩ | ⟨b, off, cap, rfl, _, _, hb, hc⟩
    · exact absurd (by rw [← marks_length k n, h]; rfl) h0
    go_enter Try.func10, Try.ntmps10
    go_wp2
    go_loop [1, 5] (fun q i => ∃ j : Nat, j ≤ n ∧ i = .int .i64 j ∧ q = .int .i64 ((k + j : Nat) : Int)) (fun _ i => n - (intOf i).toNat)
    case atStart => exact ⟨0, Nat.zero_le _, rfl, rfl⟩
    case round =>
      obtain ⟨j, hj, rfl, rfl⟩ := hrel
      by_cases hlt : j < n
      · have c1 := hc j hlt
        rw [marks_get k n j hlt] at c1
        have hw := byte_wrap (k + j)
        clear hc
        go_wp2
        go_round
        case rel => exact ⟨j + 1, by omega, by go_num, by go_num⟩
        case measure => simp [intOf]; omega
      · have : j = n := by omega
        subst this
        go_wp2
        go_ret
        exact ⟨rfl, rfl⟩
end Go.Proofs.Ythbmafoikloocas
