/- CrcOf of the specification and of the program, each of a list of bytes in memory: both answer the sum of the bytes. -/
import Derived.Test.YteennkfgnbhhhabBytes
import Derived.Test.YteennkfgnbhhhabCrcStep
namespace Go.Proofs.Yteennkfgnbhhhab
open Go.RowKit

set_option maxHeartbeats 800000 in
theorem spec_of (v : Value) (zs : List Nat) (w : World) (hv : Rd w v zs) :
    Calls Try.prog 9 #[v] w fun e w' => e = .returned (.int .i64 (CrcM.crc zs)) ∧ w' = w := by
  obtain ⟨hby, hlen, hv⟩ := hv
  rcases hv with ⟨rfl, a, c, rfl, _⟩ | ⟨b, off, cap, rfl, _, _, hb, hc⟩
  · go_enter Try.func9, Try.ntmps9
    go_wp2
    go_loop [3, 4] (fun q i => i = .int .i64 0 ∧ q = .int .i64 0) (fun _ _ => 0)
    case atStart => exact ⟨rfl, rfl⟩
    case round =>
      obtain ⟨rfl, rfl⟩ := hrel
      go_wp2
      go_ret
      exact ⟨rfl, rfl⟩
  · go_enter Try.func9, Try.ntmps9
    go_wp2
    go_loop [3, 4] (fun q i => ∃ k : Nat, k ≤ zs.length ∧ i = .int .i64 k ∧ q = .int .i64 ((CrcM.crc (zs.take k) : Nat) : Int)) (fun _ i => zs.length - (intOf i).toNat)
    case atStart => exact ⟨0, Nat.zero_le _, rfl, rfl⟩
    case round =>
      obtain ⟨k, hk, rfl, rfl⟩ := hrel
      by_cases hlt : k < zs.length
      · have c1 := hc k hlt
        have hx : zs.getD k 0 < 256 := hby.get k
        have hs := CrcM.crc_lt (zs.take k) (hby.take k)
        have HS : Hid (CrcM.crc (zs.take (k + 1)) = CrcM.stp (CrcM.crc (zs.take k)) (zs.getD k 0)) := by
          show _ = _
          rw [List.take_succ_eq_append_getElem hlt, CrcM.crc_snoc]
          simp [hlt]
        clear hc
        generalize zs.getD k 0 = x at *
        generalize CrcM.crc (zs.take k) = q at *
        go_wp2_with (go_at_call 19; refine (spec_step _ _ hs hx _).mono ?_; rintro e w' ⟨rfl, rfl⟩)
        go_round
        case rel => exact ⟨k + 1, by omega, by go_num, by rw [HS.out]⟩
        case measure => simp [intOf]; omega
      · have : k = zs.length := by omega
        subst this
        go_wp2
        go_ret
        exact ⟨rfl, rfl⟩

/-- The table as it begins. -/
def zeros : Array Value := Array.replicate 256 (.int .u16 0)
theorem zeros_run (w : World) : Sem.run Try.prog (zeroValue 54) w = .ok (.agg zeros) w := by kernel_rfl

/-- What the table holds when its first m places are made. -/
def tab (m i : Nat) : Value := .int .u16 (((if i < m then CrcM.it 8 i else 0 : Nat)) : Int)
theorem tab_lo {m i : Nat} (h : i < m) : tab m i = .int .u16 ((CrcM.it 8 i : Nat) : Int) := by simp [tab, h]
theorem tab_start (w : World) : (w.alloc (.cells zeros 54)).rowIs w.heap.size 54 256 (tab 1) := by
  have h : zeros.size = 256 := by simp [zeros]
  have := World.rowIs_alloc w zeros 54 (tab 1) (by
    intro i hi
    rw [h] at hi
    have e : zeros[i]? = some (.int .u16 0) := by simp [zeros, hi]
    rw [e]
    unfold tab
    by_cases h0 : i < 1
    · have : i = 0 := by omega
      subst this
      simp [CrcM.it_zero]
    · simp [h0])
  rwa [h] at this
theorem tab_next {m low : Nat} {b t : Nat} {w : World} (h : w.rowIs b t 256 (tab (m + low))) : (w.setCell ⟨b, m + low, none⟩ (.int .u16 ((CrcM.it 8 (m + low) : Nat) : Int))).rowIs b t 256 (tab (m + low + 1)) := by
  refine (h.set (m + low) _).congr fun i _ => ?_
  unfold tab
  by_cases e : i = m + low
  · subst e; simp
  · by_cases e2 : i < m + low
    · rw [if_neg e, if_pos e2, if_pos (by omega)]
    · rw [if_neg e, if_neg e2, if_neg (by omega)]

theorem impl_step_zero (b : Nat) (hb : b < 256) (w : World) :
    Calls Try.prog 10 #[.int .i64 0, .int .u8 b] w fun e w' => e = .returned (.int .i64 (CrcM.it 8 b)) ∧ w' = w := by
  have := impl_step 0 b (by decide) hb w
  unfold CrcM.stp at this
  rw [Nat.zero_xor] at this
  exact this

set_option maxRecDepth 100000 in
set_option maxHeartbeats 1000000 in
theorem table_any (w : World) :
    Calls Try.prog 18 #[] w fun e w' => ∃ g, e = .returned (.func (.func 27) #[] #[.pointer (some ⟨g, 0, none⟩)]) ∧ g < w'.heap.size ∧ (∀ i : Nat, i < 256 → w'.cell? ⟨g, i, none⟩ = some (.int .u16 ((CrcM.it 8 i : Nat) : Int))) ∧ Below w.heap.size w w' := by
  have hz := zeros_run
  have hst := tab_start w
  go_enter Try.func18, Try.ntmps18
  go_wp2
  clear hz
  go_loopw [2] (fun t wr => ∃ m : Nat, m ≤ 8 ∧ t = .int .i64 ((2 ^ m : Nat) : Int) ∧ wr.rowIs w.heap.size 54 256 (tab (2 ^ m)) ∧ Below w.heap.size w wr) (fun t _ => 256 - (intOf t).toNat)
  case atStart => exact ⟨0, by omega, rfl, hst, (Below.refl _ _).alloc (Nat.le_refl _) _⟩
  case round =>
    obtain ⟨m, hm, rfl, hrow, hbl⟩ := hrel
    clear hst
    by_cases hm8 : m < 8
    · have hbit : 2 ^ m ≤ 128 := Nat.pow_le_pow_right (n := 2) (by decide) (show m ≤ 7 by omega)
      have hpos : 1 ≤ 2 ^ m := Nat.one_le_two_pow
      have HD : Hid (∀ low, low < 2 ^ m → CrcM.it 8 (2 ^ m + low) = CrcM.it 8 low ^^^ CrcM.it 8 (2 ^ m)) := fun low h => CrcM.tab_double m low h
      have HN : Hid (2 ^ m * 2 = 2 ^ (m + 1)) := (Nat.pow_succ 2 m).symm
      generalize 2 ^ m = bit at *
      have hlt := CrcM.it_lt 8 (show bit < 65536 by omega)
      have hw : IntKind.u8.wrap (bit : Int) = (bit : Int) := by rw [IntKind.wrap_u8']; omega
      have HT : Hid (∀ low, low < 65536 → bits .xor .u16 ((CrcM.it 8 low : Nat) : Int) ((CrcM.it 8 bit : Nat) : Int) = ((CrcM.it 8 low ^^^ CrcM.it 8 bit : Nat) : Int)) := fun low h => u16_xor_nat _ _ (CrcM.it_lt 8 h) hlt
      have hw2 : IntKind.u16.wrap ((CrcM.it 8 bit : Nat) : Int) = ((CrcM.it 8 bit : Nat) : Int) := by rw [IntKind.wrap_u16]; omega
      go_wp2_with (go_at_call 10; refine (impl_step_zero _ (by omega) _).mono ?_; rintro e w' ⟨rfl, rfl⟩)
      clear hw hw2
      go_loopw [14] (fun t wi => ∃ low : Nat, low ≤ bit ∧ t = .int .i64 (low : Int) ∧ wi.rowIs w.heap.size 54 256 (tab (bit + low)) ∧ Below w.heap.size w wi) (fun t _ => bit - (intOf t).toNat)
      case atStart => exact ⟨0, by omega, rfl, hrow, hbl⟩
      case round =>
        clear hrow hbl
        obtain ⟨low, hlow, rfl, hrow, hbl⟩ := hrel
        by_cases hl : low < bit
        · have c1 : wr.cell? ⟨w.heap.size, low, none⟩ = some (.int .u16 ((CrcM.it 8 low : Nat) : Int)) := by rw [hrow.cell (show low < 256 by omega), tab_lo (by omega)]
          have c2 : wr.cell? ⟨w.heap.size, bit + low, none⟩ = some (tab (bit + low) (bit + low)) := hrow.cell (by omega)
          have c3 := hrow.frozen (bit + low)
          have hx := HT.out low (by omega)
          have hxx := HD.out low hl
          have S := tab_next hrow
          have HB : Below w.heap.size w (wr.setCell ⟨w.heap.size, bit + low, none⟩ (.int .u16 ((CrcM.it 8 (bit + low) : Nat) : Int))) := hbl.setCell (Nat.le_refl _) _
          rw [hxx] at S HB
          clear hxx
          generalize tab (bit + low) (bit + low) = old at *
          go_wp2
          go_roundw
          case rel => exact ⟨low + 1, by omega, by go_num, S, HB⟩
          case measure => simp [intOf]; omega
        · have : low = bit := by omega
          subst this
          go_wp2
          go_roundw
          case rel => exact ⟨m + 1, by omega, by rw [← HN.out]; go_num, by rw [← HN.out, Nat.mul_two]; exact hrow, hbl⟩
          case measure => simp [intOf]; omega
    · have : m = 8 := by omega
      subst this
      go_wp2
      go_ret
      exact ⟨_, rfl, hrow.lt, fun i hi => by rw [hrow.cell hi, tab_lo hi], hbl⟩

/- The closure over the table: a step. -/
set_option maxRecDepth 100000 in
set_option maxHeartbeats 1000000 in
theorem closure_any (s b g : Nat) (hs : s < 65536) (hb : b < 256) (w : World) (hcell : ∀ i : Nat, i < 256 → w.cell? ⟨g, i, none⟩ = some (.int .u16 ((CrcM.it 8 i : Nat) : Int))) :
    Calls Try.prog 27 #[.int .i64 s, .int .u8 b, .pointer (some ⟨g, 0, none⟩)] w fun e w' => e = .returned (.int .i64 (CrcM.stp s b)) ∧ w' = w := by
  have hw : IntKind.u8.wrap (s : Int) = (s : Int) % 256 := by rw [IntKind.wrap_u8']
  have hx8 : bits .xor .u8 ((s : Int) % 256) (b : Int) = ((s % 256 ^^^ b : Nat) : Int) := u8_xor_nat (s % 256) b (by omega) hb
  have hxl : s % 256 ^^^ b < 256 := Nat.xor_lt_two_pow (n := 8) (by omega) (by omega)
  have c1 := hcell _ hxl
  have hx64 : bits .xor .i64 ((s : Int) / 256) ((CrcM.it 8 (s % 256 ^^^ b) : Nat) : Int) = ((s / 256 ^^^ CrcM.it 8 (s % 256 ^^^ b) : Nat) : Int) := i64_xor_nat (s / 256) (CrcM.it 8 (s % 256 ^^^ b)) (by omega) (by have := CrcM.it_lt 8 (show s % 256 ^^^ b < 65536 by omega); omega)
  rw [CrcM.stp_table s b hb] at hx64
  have hl := CrcM.it_lt 8 (show s % 256 ^^^ b < 65536 by omega)
  generalize CrcM.it 8 (s % 256 ^^^ b) = X at *
  generalize s % 256 ^^^ b = Y at *
  generalize CrcM.stp s b = Z at *
  clear hcell
  go_enter Try.func27, Try.ntmps27
  go_wp2
  go_ret
  exact ⟨rfl, rfl⟩

set_option maxRecDepth 100000 in
set_option maxHeartbeats 1000000 in
theorem impl_of (v : Value) (zs : List Nat) (w : World) (hv : Rd w v zs) :
    Calls Try.prog 8 #[v] w fun e w' => e = .returned (.int .i64 (CrcM.crc zs)) ∧ Below w.heap.size w w' := by
  obtain ⟨hby, hlen, hv⟩ := hv
  rcases hv with ⟨rfl, a, c, rfl, _⟩ | ⟨b, off, cap, rfl, _, _, hb, hc⟩
  · go_enter Try.func8, Try.ntmps8
    go_wp2_with (go_at_call 18; refine (table_any _).mono ?_; rintro e w1 ⟨g, rfl, hg, hcell, hbl⟩)
    go_loop [4, 10] (fun q i => i = .int .i64 0 ∧ q = .int .i64 0) (fun _ _ => 0)
    case atStart => exact ⟨rfl, rfl⟩
    case round =>
      obtain ⟨rfl, rfl⟩ := hrel
      go_wp2
      go_ret
      exact ⟨rfl, hbl⟩
  · go_enter Try.func8, Try.ntmps8
    go_wp2_with (go_at_call 18; refine (table_any _).mono ?_; rintro e w1 ⟨g, rfl, hg, hcell, hbl⟩)
    go_loop [4, 6, 10] (fun q _ i => ∃ k : Nat, k ≤ zs.length ∧ i = .int .i64 k ∧ q = .int .i64 ((CrcM.crc (zs.take k) : Nat) : Int)) (fun _ _ i => zs.length - (intOf i).toNat)
    case atStart => exact ⟨0, Nat.zero_le _, rfl, rfl⟩
    case round =>
      obtain ⟨k, hk, rfl, rfl⟩ := hrel
      by_cases hlt : k < zs.length
      · have c1 : w1.cell? ⟨b, off + k, none⟩ = some (.int .u8 ((zs.getD k 0 : Nat) : Int)) := (hbl.cell (p := ⟨b, off + k, none⟩) hb).trans (hc k hlt)
        have hx : zs.getD k 0 < 256 := hby.get k
        have hs := CrcM.crc_lt (zs.take k) (hby.take k)
        have HS : Hid (CrcM.crc (zs.take (k + 1)) = CrcM.stp (CrcM.crc (zs.take k)) (zs.getD k 0)) := by
          show _ = _
          rw [List.take_succ_eq_append_getElem hlt, CrcM.crc_snoc]
          simp [hlt]
        clear hc
        generalize zs.getD k 0 = x at *
        generalize CrcM.crc (zs.take k) = q at *
        go_wp2_with (go_at_call 27; refine (closure_any _ _ _ hs hx _ hcell).mono ?_; rintro e w' ⟨rfl, rfl⟩)
        go_round
        case rel => exact ⟨k + 1, by omega, by go_num, by rw [HS.out]⟩
        case measure => simp [intOf]; omega
      · have : k = zs.length := by omega
        subst this
        go_wp2
        go_ret
        exact ⟨rfl, hbl⟩
end Go.Proofs.Yteennkfgnbhhhab
