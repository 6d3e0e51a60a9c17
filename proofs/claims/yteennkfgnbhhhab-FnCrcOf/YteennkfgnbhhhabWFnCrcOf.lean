/- The law of CrcOf, promise 12, returns true at every code. -/
import Derived.Test.YteennkfgnbhhhabSumMath
import Derived.Test.YteennkfgnbhhhabWFnCrcBurst
import Derived.Test.YteennkfgnbhhhabLiOk
import Derived.Deep.RegionLaw
import Derived.RowKit3
namespace Go.Proofs.Yteennkfgnbhhhab.fnCrcOf
open Go.RowKit Go.Proofs.Yteennkfgnbhhhab.fnCrcBurst

set_option maxRecDepth 100000 in
set_option maxHeartbeats 8000000 in
theorem small (a0 : Option Addr) (len0 cap0 : Nat) (cz : List Nat) (w : World) (hs0 : ¬ (1048576 : Int) < (len0 : Int)) (hR0 : Rd w (.slice a0 len0 cap0) cz) :
    Calls Try.prog 3 #[.slice a0 len0 cap0] w fun e w' => e = .returned (.bool true) ∧ Below w.heap.size w w' := by
  go_enter Try.func3, Try.ntmps3
  go_wp2_with fail
  refine (drawOf_any _ cz _ hR0).mono ?_
  rintro e w2 ⟨vB, bs, rfl, oB, yB, lB, bl⟩
  have rd2 := oB.rd yB (by omega)
  go_wp2_with fail
  refine (impl_of _ _ _ rd2).mono ?_
  rintro e w3 ⟨rfl, b3⟩
  replace bl := bchain bl b3
  have rd3 := rd2.kept b3
  go_wp2_with fail
  refine (spec_of _ _ _ rd3).mono ?_
  rintro e w4 ⟨rfl, rfl⟩
  obtain ⟨aB, capB, rfl⟩ : ∃ a cap, vB = .slice a bs.length cap := by
    rcases rd3.2.2 with ⟨rfl, a, c, rfl, _⟩ | ⟨b, off, cap, rfl, _⟩
    · exact ⟨_, _, rfl⟩
    · exact ⟨_, _, rfl⟩
  have rd4 := rd3
  clear rd2 rd3 b3 oB hR0
  go_wp2_with fail
  go_loopw [5, 6] (fun q i wr => ∃ k : Nat, k ≤ bs.length ∧ i = .int .i64 k ∧ q = .int .i64 ((CrcM.crc (bs.take k) : Nat) : Int) ∧ wr = w4) (fun _ i _ => bs.length - (intOf i).toNat)
  case atStart => exact ⟨0, Nat.zero_le _, rfl, rfl, rfl⟩
  case round =>
    obtain ⟨k, hk, rfl, rfl, rfl⟩ := hrel
    by_cases hlt : k < bs.length
    · obtain ⟨b, off, cap, he, hb, hc⟩ : ∃ b off cap, Value.slice aB bs.length capB = .slice (some ⟨b, off, none⟩) bs.length cap ∧ b < wr.heap.size ∧ ∀ j, j < bs.length → wr.cell? ⟨b, off + j, none⟩ = some (.int .u8 ((bs.getD j 0 : Nat) : Int)) := by
        rcases rd4.2.2 with ⟨rfl, _⟩ | ⟨b, off, cap, he, _, _, hb, hc⟩
        · simp at hlt
        · exact ⟨b, off, cap, he, hb, hc⟩
      simp only [Value.slice.injEq] at he
      obtain ⟨rfl, _, rfl⟩ := he
      have c1 := hc k hlt
      have hx : bs.getD k 0 < 256 := yB.get k
      have hs := CrcM.crc_lt (bs.take k) (yB.take k)
      have HS : Hid (CrcM.crc (bs.take (k + 1)) = CrcM.stp (CrcM.crc (bs.take k)) (bs.getD k 0)) := by
        show _ = _
        rw [List.take_succ_eq_append_getElem hlt, CrcM.crc_snoc]
        simp [hlt]
      have hki : (k : Int) < (bs.length : Int) := by omega
      clear hc
      generalize bs.getD k 0 = x at *
      generalize CrcM.crc (bs.take k) = q at *
      go_wp2_with (go_at_call 10; refine (impl_step _ _ hs hx _).mono ?_; rintro e w' ⟨rfl, rfl⟩)
      go_roundw
      case rel => exact ⟨k + 1, by omega, by go_num, by rw [HS.out], trivial⟩
      case measure => simp [intOf]; omega
    · have hkl : k = bs.length := by omega
      subst hkl
      rw [List.take_length]
      go_wp2_with fail
      refine (impl_put _ _ _ rd4 (by omega)).mono ?_
      rintro e w5 ⟨vP, rfl, oP, b5⟩
      have rdP := oP.rd (putL_byt yB) (by rw [putL_length]; omega)
      replace bl := bchain bl b5
      replace rd4 := rd4.kept b5
      clear b5
      go_wp2_with fail
      refine (impl_of _ _ _ rdP).mono ?_
      rw [CrcM.crc_put]
      rintro e w6 ⟨rfl, b6⟩
      replace bl := bchain bl b6
      replace rd4 := rd4.kept b6
      clear b6 oP rdP
      by_cases hL : bs.length = 0
      · obtain rfl := List.length_eq_zero_iff.1 hL
        go_wp2_with (go_at_call 12; refine (li_ok _).mono ?_; rintro e w7 ⟨rfl, b7⟩)
        go_ret
        exact ⟨rfl, bchain bl b7⟩
      · have hLp : 0 < bs.length := by omega
        obtain ⟨at_, hat⟩ : ∃ n, n = len0 % bs.length := ⟨_, rfl⟩
        have hal : at_ < bs.length := by rw [hat]; exact Nat.mod_lt _ hLp
        have ham : (len0 : Int) % (bs.length : Int) = (at_ : Int) := by rw [hat]; rfl
        have hat2 : (len0 : Int).tmod (bs.length : Int) = (at_ : Int) := by rw [hat]; rfl
        obtain ⟨o, hO⟩ : ∃ o : Nat, o = 1 + len0 % 255 := ⟨_, rfl⟩
        have ho : o < 256 := by omega
        have ho0 : o ≠ 0 := by omega
        have hm : (len0 : Int) % 255 = (o : Int) - 1 := by omega
        have hm2 : (len0 : Int).tmod 255 = (o : Int) - 1 := by rw [show (len0 : Int).tmod 255 = (len0 : Int) % 255 from rfl]; exact hm
        have hw1 : IntKind.i64.wrap (1 + ((o : Int) - 1)) = (o : Int) := by rw [IntKind.wrap_i64]; omega
        have hw2 : IntKind.u8.wrap (o : Int) = (o : Int) := by rw [IntKind.wrap_u8']; omega
        have hai : (at_ : Int) < (bs.length : Int) := by omega
        have hLn : ¬ (bs.length : Int) = 0 := by omega
        clear hat hO
        have o3 := own_empty w6 w.heap.size bl.size
        have rd3 := rd4.alloc (.cells #[] 5)
        have z4 := bl.size
        go_wp2_with (at_builtin; refine wpList_app _ rfl (.tmp 48) (.tmp 49) rfl w.heap.size _ [] rfl o3 _ bs rfl rd3 (by simp; omega) (by simp; omega) ?_)
        intro v7 w7 o7 g7
        have b7 : Below w.heap.size w w7 := (bl.alloc bl.size (.cells #[] 5)).grown g7 (by simp; omega) (fun q e => by simp [Value.ownBlock] at e; omega)
        obtain ⟨go, c7, rfl⟩ : ∃ go c, v7 = .slice (some ⟨go, 0, none⟩) bs.length c := by
          rcases o7.2 with ⟨_, e⟩ | ⟨go, c, _, e, _⟩
          · simp at e; simp [e] at hL
          · exact ⟨go, c, e⟩
        have o7z : Own w7 w.heap.size (.slice (some ⟨go, 0, none⟩) bs.length c7) bs := by simpa using o7
        have o7d : Own w7.drew w.heap.size (.slice (some ⟨go, 0, none⟩) bs.length c7) bs := World.ownsRow.drew o7z
        have hgo := (World.ownsRow.lt o7z go rfl).1
        obtain ⟨o8, by8, g8⟩ := own_turn o7d yB at_ (bs.getD at_ 0 ^^^ o) (by omega) (Nat.xor_lt_two_pow (n := 8) (yB.get at_) ho)
        have c7d : w7.drew.cell? ⟨go, at_, none⟩ = some (.int .u8 ((bs.getD at_ 0 : Nat) : Int)) := own_cell o7d at_ (by omega)
        have f7d := World.ownsRow.frozenAt o7d at_
        have x7 : bits .xor .u8 ((bs.getD at_ 0 : Nat) : Int) o = ((bs.getD at_ 0 ^^^ o : Nat) : Int) := u8_xor_nat (bs.getD at_ 0) o (yB.get at_) ho
        have b8 : Below w.heap.size w _ := b7.drew.grown g8 b7.drew.size (fun q e => by cases e; exact hgo)
        have rd8 := o8.rd by8 (by simp; omega)
        have hX := CrcM.crc_one (l := bs) yB (i := at_) (o := o) (by omega) ho ho0
        have hx7 : ((CrcM.crc (bs.set at_ (bs.getD at_ 0 ^^^ o)) : Nat) : Int) ≠ ((CrcM.crc bs : Nat) : Int) := fun e => hX (by omega)
        have hq : (((CrcM.crc (bs.set at_ (bs.getD at_ 0 ^^^ o)) : Nat) : Int) == ((CrcM.crc bs : Nat) : Int)) = false := beq_eq_false_iff_ne.2 hx7
        clear o3 rd3 g7 o7 o7z o7d g8 o8 by8 hX hx7 rd4 bl b7 hgo z4
        generalize bs.getD at_ 0 = y1 at *
        go_wp2
        go_region_law (fail)
        all_goals
          go_wp2_with fail
          refine (impl_of _ _ _ (by exact rd8)).mono ?_
          rintro e w9 ⟨rfl, b9⟩
          go_wp2
          go_ret
          exact ⟨by first | rfl | simp_all, bchain b8 b9⟩
theorem walk (a0 : Option Addr) (len0 cap0 : Nat) (z0 : List Int) (w : World) (w0 : IsRow .u8 w a0 len0 cap0 z0) :
    Calls Try.prog 3 #[.slice a0 len0 cap0] w fun e w' => e = .returned (.bool true) ∧ Below w.heap.size w w' := by
  by_cases hs0 : (1048576 : Int) < (len0 : Int)
  · go_enter Try.func3, Try.ntmps3
    go_wp2
    go_ret
    exact ⟨rfl, Below.refl _ _⟩
  · obtain ⟨cz, hR0, _⟩ := w0.rd (by omega)
    exact small a0 len0 cap0 cz w hs0 hR0
end Go.Proofs.Yteennkfgnbhhhab.fnCrcOf
