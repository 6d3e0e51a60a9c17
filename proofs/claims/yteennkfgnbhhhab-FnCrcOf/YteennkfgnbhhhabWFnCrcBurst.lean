/- The law of sums of what is turned within two bytes, promise 66, returns true at every two codes. -/
import Derived.Test.YteennkfgnbhhhabDrawSum
import Derived.Test.YteennkfgnbhhhabLiOk
import Derived.RowKit3
namespace Go.Proofs.Yteennkfgnbhhhab.fnCrcBurst
open Go.RowKit

theorem u8_xor_nat (a b : Nat) (ha : a < 256) (hb : b < 256) : bits .xor .u8 (a : Int) (b : Int) = ((a ^^^ b : Nat) : Int) := by
  have hx : a ^^^ b < 2 ^ 8 := Nat.xor_lt_two_pow (by omega) (by omega)
  have h1 : (BitVec.ofInt 8 (a : Int)).toNat = a := by
    rw [BitVec.ofInt_natCast, BitVec.toNat_ofNat]; exact Nat.mod_eq_of_lt (by omega)
  have h2 : (BitVec.ofInt 8 (b : Int)).toNat = b := by
    rw [BitVec.ofInt_natCast, BitVec.toNat_ofNat]; exact Nat.mod_eq_of_lt (by omega)
  show IntKind.u8.wrap ((BitVec.ofInt 8 (a : Int) ^^^ BitVec.ofInt 8 (b : Int)).toNat : Int) = _
  rw [BitVec.toNat_xor, h1, h2, IntKind.wrap_u8']
  omega
theorem own_turn {w : World} {B go cap : Nat} {zs : List Nat} (h : Own w B (.slice (some ⟨go, 0, none⟩) zs.length cap) zs) (hb : Byt zs) (k x : Nat) (_hk : k < zs.length) (hx : x < 256) :
    Own (w.setCell ⟨go, k, none⟩ (.int .u8 (x : Int))) B (.slice (some ⟨go, 0, none⟩) zs.length cap) (zs.set k x) ∧ Byt (zs.set k x) ∧ w.grownBy (w.setCell ⟨go, k, none⟩ (.int .u8 (x : Int))) (some go) := by
  have S := World.ownsRow.stored h k (.int .u8 (x : Int))
  have e6 : (bcells zs).set k (.int .u8 (x : Int)) = bcells (zs.set k x) := by simp [bcells, List.map_set]
  rw [e6] at S
  refine ⟨?_, ?_, S.2⟩
  · unfold Own
    rw [List.length_set]
    exact S.1
  · intro z hz
    rcases List.mem_or_eq_of_mem_set hz with hz | rfl
    · exact hb z hz
    · exact hx
theorem own_cell {w : World} {B go cap : Nat} {zs : List Nat} (h : Own w B (.slice (some ⟨go, 0, none⟩) zs.length cap) zs) (k : Nat) (hk : k < zs.length) : w.cell? ⟨go, k, none⟩ = some (.int .u8 ((zs.getD k 0 : Nat) : Int)) := by
  have := (World.ownsRow.cellAt h k (by simpa using hk)).trans (bcells_get zs k hk)
  simpa using this

set_option maxRecDepth 100000 in
set_option maxHeartbeats 8000000 in
theorem small (a0 a1 : Option Addr) (len0 cap0 len1 cap1 : Nat) (cz : List Nat) (w : World) (hs0 : ¬ (1048576 : Int) < (len0 : Int)) (hs1 : ¬ (1048576 : Int) < (len1 : Int)) (hR0 : Rd w (.slice a0 len0 cap0) cz) :
    Calls Try.prog 5 #[.slice a0 len0 cap0, .slice a1 len1 cap1] w fun e w' => e = .returned (.bool true) ∧ Below w.heap.size w w' := by
  go_enter Try.func5, Try.ntmps5
  go_wp2_with fail
  refine (drawOf_any _ cz _ hR0).mono ?_
  rintro e w2 ⟨vB, bs, rfl, oB, yB, lB, bl⟩
  have rd2 := oB.rd yB (by omega)
  go_wp2_with fail
  refine (impl_of _ _ _ rd2).mono ?_
  rintro e w3 ⟨rfl, b3⟩
  replace bl := bchain bl b3
  have rd3 := rd2.kept b3
  go_wp2_with fail
  refine (spec_of _ _ _ rd3).mono ?_
  rintro e w4 ⟨rfl, rfl⟩
  obtain ⟨aB, capB, rfl⟩ : ∃ a cap, vB = .slice a bs.length cap := by
    rcases rd3.2.2 with ⟨rfl, a, c, rfl, _⟩ | ⟨b, off, cap, rfl, _⟩
    · exact ⟨_, _, rfl⟩
    · exact ⟨_, _, rfl⟩
  have rd4 := rd3
  clear rd2 rd3 b3 oB hR0
  by_cases hL : (bs.length : Int) < 2
  · go_wp2_with (go_at_call 12; refine (li_ok _).mono ?_; rintro e w5 ⟨rfl, b5⟩)
    go_ret
    exact ⟨rfl, bchain bl b5⟩
  · obtain ⟨at_, hat⟩ : ∃ n, n = len1 % (bs.length - 1) := ⟨_, rfl⟩
    have hal : at_ + 1 < bs.length := by have := Nat.mod_lt len1 (show 0 < bs.length - 1 by omega); omega
    have ham : (len1 : Int) % ((bs.length : Int) - 1) = (at_ : Int) := by
      rw [hat, show ((bs.length : Int) - 1) = ((bs.length - 1 : Nat) : Int) by omega]; rfl
    have hat2 : (len1 : Int).tmod ((bs.length : Int) - 1) = (at_ : Int) := by
      rw [hat, show ((bs.length : Int) - 1) = ((bs.length - 1 : Nat) : Int) by omega]; rfl
    obtain ⟨o, hO⟩ : ∃ o : Nat, IntKind.u8.wrap ((len1 : Int) * 7) = (o : Int) := ⟨(IntKind.u8.wrap ((len1 : Int) * 7)).toNat, by rw [IntKind.wrap_u8']; omega⟩
    have ho : o < 256 := by rw [IntKind.wrap_u8'] at hO; omega
    obtain ⟨t, hT⟩ : ∃ t : Nat, IntKind.u8.wrap ((len0 : Int) * 13 + (len1 : Int)) = (t : Int) := ⟨(IntKind.u8.wrap ((len0 : Int) * 13 + (len1 : Int))).toNat, by rw [IntKind.wrap_u8']; omega⟩
    have ht : t < 256 := by rw [IntKind.wrap_u8'] at hT; omega
    have hne1 : ¬ (bs.length : Int) - 1 = 0 := by omega
    have hai : (at_ : Int) < (bs.length : Int) := by omega
    have hai2 : (at_ : Int) + 1 < (bs.length : Int) := by omega
    clear hat
    have split : (((o : Int) == 0) = true ∧ ((t : Int) == 0) = true) ∨ (((o : Int) == 0) = true ∧ ((t : Int) == 0) = false ∧ ¬ (o = 0 ∧ t = 0)) ∨ (((o : Int) == 0) = false ∧ ¬ (o = 0 ∧ t = 0)) := by
      simp only [beq_iff_eq, beq_eq_false_iff_ne]
      omega
    rcases split with ⟨z1, z2⟩ | ⟨z1, z2, hne⟩ | ⟨z1, hne⟩
    · have o3 := own_empty w4 w.heap.size (by have := bl.size; omega)
      have rd3 := rd4.alloc (.cells #[] 5)
      have z4 := bl.size
      go_wp2_with (at_builtin; refine wpList_app _ rfl (.tmp 54) (.tmp 55) rfl w.heap.size _ [] rfl o3 _ bs rfl rd3 (by simp; omega) (by simp; omega) ?_)
      intro v5 w5 o5 g5
      have b5 : Below w.heap.size w w5 := (bl.alloc bl.size (.cells #[] 5)).grown g5 (by have := bl.size; simp; omega) (fun q e => by simp [Value.ownBlock] at e; have := bl.size; omega)
      obtain ⟨go, c5, rfl⟩ : ∃ go c, v5 = .slice (some ⟨go, 0, none⟩) bs.length c := by
        rcases o5.2 with ⟨_, e⟩ | ⟨go, c, _, e, _⟩
        · simp at e; simp [e] at hL
        · exact ⟨go, c, e⟩
      have o5z : Own w5 w.heap.size (.slice (some ⟨go, 0, none⟩) bs.length c5) bs := by simpa using o5
      have hgo := (World.ownsRow.lt o5z go rfl).1
      obtain ⟨o6, by6, g6⟩ := own_turn o5z yB at_ (bs.getD at_ 0 ^^^ 1) (by omega) (Nat.xor_lt_two_pow (n := 8) (yB.get at_) (by omega))
      have o6z : Own (w5.setCell ⟨go, at_, none⟩ (.int .u8 ((bs.getD at_ 0 ^^^ 1 : Nat) : Int))) w.heap.size (.slice (some ⟨go, 0, none⟩) (bs.set at_ (bs.getD at_ 0 ^^^ 1)).length c5) (bs.set at_ (bs.getD at_ 0 ^^^ 1)) := by simpa using o6
      obtain ⟨o7, by7, g7⟩ := own_turn o6z by6 (at_ + 1) (bs.getD (at_ + 1) 0 ^^^ t) (by simp; omega) (Nat.xor_lt_two_pow (n := 8) (yB.get (at_ + 1)) ht)
      have c5a : w5.cell? ⟨go, at_, none⟩ = some (.int .u8 ((bs.getD at_ 0 : Nat) : Int)) := own_cell o5z at_ (by omega)
      have c6a : (w5.setCell ⟨go, at_, none⟩ (.int .u8 ((bs.getD at_ 0 ^^^ 1 : Nat) : Int))).cell? ⟨go, at_ + 1, none⟩ = some (.int .u8 ((bs.getD (at_ + 1) 0 : Nat) : Int)) := by
        have := own_cell o6z (at_ + 1) (by simp; omega)
        rw [this, List.getD_eq_getElem?_getD, List.getElem?_set_ne (by omega), ← List.getD_eq_getElem?_getD]
      have f5 := World.ownsRow.frozenAt o5z at_
      have f6 := World.ownsRow.frozenAt o6z (at_ + 1)
      have x5 : bits .xor .u8 ((bs.getD at_ 0 : Nat) : Int) 1 = ((bs.getD at_ 0 ^^^ 1 : Nat) : Int) := u8_xor_nat (bs.getD at_ 0) 1 (yB.get at_) (by omega)
      have x6 := u8_xor_nat (bs.getD (at_ + 1) 0) t (yB.get (at_ + 1)) ht
      have b7 : Below w.heap.size w _ := (b5.grown g6 b5.size (fun q e => by cases e; exact hgo)).grown g7 (by have := b5.size; have := g6.size; omega) (fun q e => by cases e; exact hgo)
      have rd7 := o7.rd by7 (by simp; omega)
      have hX := CrcM.crc_two (l := bs) yB (i := at_) (o := 1) (t := t) (by omega) (by omega) ht (by omega)
      have hx7 : ((CrcM.crc ((bs.set at_ (bs.getD at_ 0 ^^^ 1)).set (at_ + 1) (bs.getD (at_ + 1) 0 ^^^ t)) : Nat) : Int) ≠ ((CrcM.crc bs : Nat) : Int) := fun e => hX (by omega)
      have hq : (((CrcM.crc ((bs.set at_ (bs.getD at_ 0 ^^^ 1)).set (at_ + 1) (bs.getD (at_ + 1) 0 ^^^ t)) : Nat) : Int) == ((CrcM.crc bs : Nat) : Int)) = false := beq_eq_false_iff_ne.2 hx7
      clear o3 rd3 g5 o5 o6 o5z o6z g6 g7 o7 by6 by7 hX hx7 rd4 bl b5 hgo
      generalize bs.getD at_ 0 = y1 at *
      generalize bs.getD (at_ + 1) 0 = y2 at *
      go_wp2_with fail
      refine (impl_of _ _ _ (by simpa using rd7)).mono ?_
      rintro e w8 ⟨rfl, b8⟩
      go_wp2
      go_ret
      exact ⟨by first | rfl | simp_all, bchain b7 b8⟩
    · have o3 := own_empty w4 w.heap.size (by have := bl.size; omega)
      have rd3 := rd4.alloc (.cells #[] 5)
      have z4 := bl.size
      go_wp2_with (at_builtin; refine wpList_app _ rfl (.tmp 54) (.tmp 55) rfl w.heap.size _ [] rfl o3 _ bs rfl rd3 (by simp; omega) (by simp; omega) ?_)
      intro v5 w5 o5 g5
      have b5 : Below w.heap.size w w5 := (bl.alloc bl.size (.cells #[] 5)).grown g5 (by have := bl.size; simp; omega) (fun q e => by simp [Value.ownBlock] at e; have := bl.size; omega)
      obtain ⟨go, c5, rfl⟩ : ∃ go c, v5 = .slice (some ⟨go, 0, none⟩) bs.length c := by
        rcases o5.2 with ⟨_, e⟩ | ⟨go, c, _, e, _⟩
        · simp at e; simp [e] at hL
        · exact ⟨go, c, e⟩
      have o5z : Own w5 w.heap.size (.slice (some ⟨go, 0, none⟩) bs.length c5) bs := by simpa using o5
      have hgo := (World.ownsRow.lt o5z go rfl).1
      obtain ⟨o6, by6, g6⟩ := own_turn o5z yB at_ (bs.getD at_ 0 ^^^ o) (by omega) (Nat.xor_lt_two_pow (n := 8) (yB.get at_) ho)
      have o6z : Own (w5.setCell ⟨go, at_, none⟩ (.int .u8 ((bs.getD at_ 0 ^^^ o : Nat) : Int))) w.heap.size (.slice (some ⟨go, 0, none⟩) (bs.set at_ (bs.getD at_ 0 ^^^ o)).length c5) (bs.set at_ (bs.getD at_ 0 ^^^ o)) := by simpa using o6
      obtain ⟨o7, by7, g7⟩ := own_turn o6z by6 (at_ + 1) (bs.getD (at_ + 1) 0 ^^^ t) (by simp; omega) (Nat.xor_lt_two_pow (n := 8) (yB.get (at_ + 1)) ht)
      have c5a : w5.cell? ⟨go, at_, none⟩ = some (.int .u8 ((bs.getD at_ 0 : Nat) : Int)) := own_cell o5z at_ (by omega)
      have c6a : (w5.setCell ⟨go, at_, none⟩ (.int .u8 ((bs.getD at_ 0 ^^^ o : Nat) : Int))).cell? ⟨go, at_ + 1, none⟩ = some (.int .u8 ((bs.getD (at_ + 1) 0 : Nat) : Int)) := by
        have := own_cell o6z (at_ + 1) (by simp; omega)
        rw [this, List.getD_eq_getElem?_getD, List.getElem?_set_ne (by omega), ← List.getD_eq_getElem?_getD]
      have f5 := World.ownsRow.frozenAt o5z at_
      have f6 := World.ownsRow.frozenAt o6z (at_ + 1)
      have x5 : bits .xor .u8 ((bs.getD at_ 0 : Nat) : Int) o = ((bs.getD at_ 0 ^^^ o : Nat) : Int) := u8_xor_nat (bs.getD at_ 0) o (yB.get at_) ho
      have x6 := u8_xor_nat (bs.getD (at_ + 1) 0) t (yB.get (at_ + 1)) ht
      have b7 : Below w.heap.size w _ := (b5.grown g6 b5.size (fun q e => by cases e; exact hgo)).grown g7 (by have := b5.size; have := g6.size; omega) (fun q e => by cases e; exact hgo)
      have rd7 := o7.rd by7 (by simp; omega)
      have hX := CrcM.crc_two (l := bs) yB (i := at_) (o := o) (t := t) (by omega) ho ht hne
      have hx7 : ((CrcM.crc ((bs.set at_ (bs.getD at_ 0 ^^^ o)).set (at_ + 1) (bs.getD (at_ + 1) 0 ^^^ t)) : Nat) : Int) ≠ ((CrcM.crc bs : Nat) : Int) := fun e => hX (by omega)
      have hq : (((CrcM.crc ((bs.set at_ (bs.getD at_ 0 ^^^ o)).set (at_ + 1) (bs.getD (at_ + 1) 0 ^^^ t)) : Nat) : Int) == ((CrcM.crc bs : Nat) : Int)) = false := beq_eq_false_iff_ne.2 hx7
      clear o3 rd3 g5 o5 o6 o5z o6z g6 g7 o7 by6 by7 hX hx7 rd4 bl b5 hgo
      generalize bs.getD at_ 0 = y1 at *
      generalize bs.getD (at_ + 1) 0 = y2 at *
      go_wp2_with fail
      refine (impl_of _ _ _ (by simpa using rd7)).mono ?_
      rintro e w8 ⟨rfl, b8⟩
      go_wp2
      go_ret
      exact ⟨by first | rfl | simp_all, bchain b7 b8⟩
    · have o3 := own_empty w4 w.heap.size (by have := bl.size; omega)
      have rd3 := rd4.alloc (.cells #[] 5)
      have z4 := bl.size
      go_wp2_with (at_builtin; refine wpList_app _ rfl (.tmp 54) (.tmp 55) rfl w.heap.size _ [] rfl o3 _ bs rfl rd3 (by simp; omega) (by simp; omega) ?_)
      intro v5 w5 o5 g5
      have b5 : Below w.heap.size w w5 := (bl.alloc bl.size (.cells #[] 5)).grown g5 (by have := bl.size; simp; omega) (fun q e => by simp [Value.ownBlock] at e; have := bl.size; omega)
      obtain ⟨go, c5, rfl⟩ : ∃ go c, v5 = .slice (some ⟨go, 0, none⟩) bs.length c := by
        rcases o5.2 with ⟨_, e⟩ | ⟨go, c, _, e, _⟩
        · simp at e; simp [e] at hL
        · exact ⟨go, c, e⟩
      have o5z : Own w5 w.heap.size (.slice (some ⟨go, 0, none⟩) bs.length c5) bs := by simpa using o5
      have hgo := (World.ownsRow.lt o5z go rfl).1
      obtain ⟨o6, by6, g6⟩ := own_turn o5z yB at_ (bs.getD at_ 0 ^^^ o) (by omega) (Nat.xor_lt_two_pow (n := 8) (yB.get at_) ho)
      have o6z : Own (w5.setCell ⟨go, at_, none⟩ (.int .u8 ((bs.getD at_ 0 ^^^ o : Nat) : Int))) w.heap.size (.slice (some ⟨go, 0, none⟩) (bs.set at_ (bs.getD at_ 0 ^^^ o)).length c5) (bs.set at_ (bs.getD at_ 0 ^^^ o)) := by simpa using o6
      obtain ⟨o7, by7, g7⟩ := own_turn o6z by6 (at_ + 1) (bs.getD (at_ + 1) 0 ^^^ t) (by simp; omega) (Nat.xor_lt_two_pow (n := 8) (yB.get (at_ + 1)) ht)
      have c5a : w5.cell? ⟨go, at_, none⟩ = some (.int .u8 ((bs.getD at_ 0 : Nat) : Int)) := own_cell o5z at_ (by omega)
      have c6a : (w5.setCell ⟨go, at_, none⟩ (.int .u8 ((bs.getD at_ 0 ^^^ o : Nat) : Int))).cell? ⟨go, at_ + 1, none⟩ = some (.int .u8 ((bs.getD (at_ + 1) 0 : Nat) : Int)) := by
        have := own_cell o6z (at_ + 1) (by simp; omega)
        rw [this, List.getD_eq_getElem?_getD, List.getElem?_set_ne (by omega), ← List.getD_eq_getElem?_getD]
      have f5 := World.ownsRow.frozenAt o5z at_
      have f6 := World.ownsRow.frozenAt o6z (at_ + 1)
      have x5 : bits .xor .u8 ((bs.getD at_ 0 : Nat) : Int) o = ((bs.getD at_ 0 ^^^ o : Nat) : Int) := u8_xor_nat (bs.getD at_ 0) o (yB.get at_) ho
      have x6 := u8_xor_nat (bs.getD (at_ + 1) 0) t (yB.get (at_ + 1)) ht
      have b7 : Below w.heap.size w _ := (b5.grown g6 b5.size (fun q e => by cases e; exact hgo)).grown g7 (by have := b5.size; have := g6.size; omega) (fun q e => by cases e; exact hgo)
      have rd7 := o7.rd by7 (by simp; omega)
      have hX := CrcM.crc_two (l := bs) yB (i := at_) (o := o) (t := t) (by omega) ho ht hne
      have hx7 : ((CrcM.crc ((bs.set at_ (bs.getD at_ 0 ^^^ o)).set (at_ + 1) (bs.getD (at_ + 1) 0 ^^^ t)) : Nat) : Int) ≠ ((CrcM.crc bs : Nat) : Int) := fun e => hX (by omega)
      have hq : (((CrcM.crc ((bs.set at_ (bs.getD at_ 0 ^^^ o)).set (at_ + 1) (bs.getD (at_ + 1) 0 ^^^ t)) : Nat) : Int) == ((CrcM.crc bs : Nat) : Int)) = false := beq_eq_false_iff_ne.2 hx7
      clear o3 rd3 g5 o5 o6 o5z o6z g6 g7 o7 by6 by7 hX hx7 rd4 bl b5 hgo
      generalize bs.getD at_ 0 = y1 at *
      generalize bs.getD (at_ + 1) 0 = y2 at *
      go_wp2_with fail
      refine (impl_of _ _ _ (by simpa using rd7)).mono ?_
      rintro e w8 ⟨rfl, b8⟩
      go_wp2
      go_ret
      exact ⟨by first | rfl | simp_all, bchain b7 b8⟩
theorem walk (a0 : Option Addr) (len0 cap0 : Nat) (z0 : List Int) (a1 : Option Addr) (len1 cap1 : Nat) (z1 : List Int) (w : World) (w0 : IsRow .u8 w a0 len0 cap0 z0) (w1 : IsRow .u8 w a1 len1 cap1 z1) :
    Calls Try.prog 5 #[.slice a0 len0 cap0, .slice a1 len1 cap1] w fun e w' => e = .returned (.bool true) ∧ Below w.heap.size w w' := by
  have _ := w1
  by_cases hs0 : (1048576 : Int) < (len0 : Int)
  · go_enter Try.func5, Try.ntmps5
    go_wp2
    go_ret
    exact ⟨rfl, Below.refl _ _⟩
  · by_cases hs1 : (1048576 : Int) < (len1 : Int)
    · go_enter Try.func5, Try.ntmps5
      go_wp2
      go_ret
      exact ⟨rfl, Below.refl _ _⟩
    · obtain ⟨cz, hR0, _⟩ := w0.rd (by omega)
      exact small a0 a1 len0 cap0 len1 cap1 cz w hs0 hs1 hR0
end Go.Proofs.Yteennkfgnbhhhab.fnCrcBurst
