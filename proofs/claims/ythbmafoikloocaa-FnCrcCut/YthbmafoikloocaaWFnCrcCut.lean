/- The law of CrcCut, promise 13, returns true at every code. -/
import Derived.Test.YthbmafoikloocaaDrawCrc
import Derived.Test.YthbmafoikloocaaCutPut
import Derived.Test.YthbmafoikloocaaLiBytes
namespace Go.Proofs.Ythbmafoikloocaa.fnCrcCut
open Go.RowKit

set_option maxRecDepth 100000 in
set_option maxHeartbeats 8000000 in
theorem small (a0 a1 : Option Addr) (len0 cap0 len1 cap1 : Nat) (cz mz : List Nat) (w : World) (hs0 : ¬ (1048576 : Int) < (len0 : Int)) (hs1 : ¬ (1048576 : Int) < (len1 : Int)) (hR0 : Rd w (.slice a0 len0 cap0) cz) (hR1 : Rd w (.slice a1 len1 cap1) mz) :
    Calls Try.prog 3 #[.slice a0 len0 cap0, .slice a1 len1 cap1] w fun e w' => e = .returned (.bool true) ∧ Below w.heap.size w w' := by
  go_enter Try.func3, Try.ntmps3
  -- what is drawn
  go_wp2_with fail
  refine (drawPut_any _ cz _ hR0).mono ?_
  rintro e w1 ⟨vB, bs, rfl, oB, yB, lB, b1⟩
  have bl := b1
  have z1 := bl.size
  go_wp2_with fail
  refine (drawCut_any _ mz _ (hR1.kept bl)).mono ?_
  rintro e w2 ⟨vC, qs, rfl, oC, yC, lC, b2⟩
  replace oB := oB.kept b2
  replace bl := bchain bl b2
  have z2 := bl.size
  have pB := putL_byt yB
  have plB := putL_length bs
  have cY := cutL_byt yC
  have clC := cutL_length qs
  go_wp2_with fail
  refine (impl_put vB bs _ (oB.rd yB (by omega)) (by omega)).mono ?_
  rintro e w3 ⟨vP, rfl, oP, b3⟩
  replace oB := oB.kept b3
  replace oC := oC.kept b3
  replace bl := bchain bl b3
  have z3 := bl.size
  go_wp2_with fail
  refine (impl_cut vC qs _ (oC.rd yC (by omega))).mono ?_
  rintro e w4 ⟨vX, rfl, oX, b4⟩
  replace oB := oB.kept b4
  replace oC := oC.kept b4
  replace oP := oP.kept b4
  replace bl := bchain bl b4
  have z4 := bl.size
  go_wp2_with fail
  refine (spec_cut vC qs _ (oC.rd yC (by omega))).mono ?_
  rintro e w5 ⟨vW, rfl, oW, b5⟩
  replace oB := oB.kept b5
  replace oC := oC.kept b5
  replace oP := oP.kept b5
  replace oX := oX.kept b5
  replace bl := bchain bl b5
  have z5 := bl.size
  -- both alike
  go_wp2_with fail
  refine (spec_put vB bs _ (oB.rd yB (by omega)) (by omega)).mono ?_
  rintro e w6 ⟨vQ, rfl, oQ, b6⟩
  replace oB := oB.kept b6
  replace oC := oC.kept b6
  replace oP := oP.kept b6
  replace oX := oX.kept b6
  replace oW := oW.kept b6
  replace bl := bchain bl b6
  have z6 := bl.size
  go_wp2_with fail
  refine (li_b vP vQ (putL bs) _ (oP.rd pB (by omega)) (oQ.rd pB (by omega))).mono ?_
  rintro e w7 ⟨rfl, b7⟩
  replace oB := oB.kept b7
  replace oC := oC.kept b7
  replace oP := oP.kept b7
  replace oX := oX.kept b7
  replace oW := oW.kept b7
  replace oQ := oQ.kept b7
  replace bl := bchain bl b7
  have z7 := bl.size
  go_wp2_with fail
  refine (li_b vX vW (cutL qs) _ (oX.rd cY (by omega)) (oW.rd cY (by omega))).mono ?_
  rintro e w8 ⟨rfl, b8⟩
  replace oB := oB.kept b8
  replace oC := oC.kept b8
  replace oP := oP.kept b8
  replace oX := oX.kept b8
  replace oW := oW.kept b8
  replace oQ := oQ.kept b8
  replace bl := bchain bl b8
  have z8 := bl.size
  by_cases hcb : cutB qs = true
  · -- what is cut has, with its sum put, all the bytes
    go_wp2_with fail
    refine (impl_put vX (cutL qs) _ (oX.rd cY (by omega)) (by omega)).mono ?_
    rintro e w9 ⟨vR, rfl, oR, b9⟩
    replace oB := oB.kept b9
    replace oC := oC.kept b9
    replace oP := oP.kept b9
    replace oX := oX.kept b9
    replace oW := oW.kept b9
    replace oQ := oQ.kept b9
    replace bl := bchain bl b9
    have z9 := bl.size
    rw [put_cut yC hcb] at oR
    go_wp2_with fail
    refine (li_b vR vC qs _ (oR.rd yC (by omega)) (oC.rd yC (by omega))).mono ?_
    rintro e w10 ⟨rfl, b10⟩
    replace oB := oB.kept b10
    replace oC := oC.kept b10
    replace oP := oP.kept b10
    replace oX := oX.kept b10
    replace oW := oW.kept b10
    replace oQ := oQ.kept b10
    replace oR := oR.kept b10
    replace bl := bchain bl b10
    have z10 := bl.size
    -- what was put is cut
    go_wp2_with fail
    refine (impl_cut vP (putL bs) _ (oP.rd pB (by omega))).mono ?_
    rintro e w11 ⟨vY, rfl, oY, b11⟩
    replace oB := oB.kept b11
    replace oP := oP.kept b11
    replace bl := bchain bl b11
    have z11 := bl.size
    rw [cut_put_L yB] at oY
    have hcp := cut_put_B yB
    go_wp2_with fail
    refine (li_b vY vB bs _ (oY.rd yB (by omega)) (oB.rd yB (by omega))).mono ?_
    rintro e w12 ⟨rfl, b12⟩
    replace oB := oB.kept b12
    replace oP := oP.kept b12
    replace oY := oY.kept b12
    replace bl := bchain bl b12
    have z12 := bl.size
    obtain ⟨gp, cp, rfl⟩ : ∃ gp cp, vP = .slice (some ⟨gp, 0, none⟩) (bs.length + 2) cp := by
      rcases oP.2 with ⟨_, e⟩ | ⟨gp, cp, _, e, _⟩
      · omega
      · exact ⟨gp, cp, by rw [← plB]; exact e⟩
    obtain ⟨ab, cb, rfl⟩ : ∃ ab cb, vB = .slice ab bs.length cb := by
      rcases oB.2 with ⟨e, e'⟩ | ⟨gp, cp, _, e, _⟩
      · exact ⟨none, 0, by rw [e, e']⟩
      · exact ⟨_, _, e⟩
    have e1 : ((len1 : Int) * 37 + (len0 : Int)) % ((bs.length : Int) + 2) = (((len1 * 37 + len0) % (bs.length + 2) : Nat) : Int) := rfl
    have hat : (len1 * 37 + len0) % (bs.length + 2) < bs.length + 2 := Nat.mod_lt _ (by omega)
    have hLpos : (0 : Int) < (bs.length : Int) + 2 := by omega
    generalize (len1 * 37 + len0) % (bs.length + 2) = i at *
    have o0 := own_empty w12 w.heap.size bl.size
    have rdP := (oP.rd pB (by omega)).alloc (.cells #[] 5)
    go_wp2_with (at_builtin; refine wpList_app _ rfl (.tmp 105) (.tmp 106) rfl w.heap.size _ [] rfl o0 _ (putL bs) rfl rdP (by simp; omega) (by simp; omega) ?_)
    intro vz wz oz gz
    replace bl : Below w.heap.size w wz := (bl.alloc bl.size _).grown gz (by simp; have := bl.size; omega) (by simp [Value.ownBlock]; omega)
    obtain ⟨go, c4, rfl⟩ : ∃ go c, vz = .slice (some ⟨go, 0, none⟩) (bs.length + 2) c := by
      rcases oz.2 with ⟨_, e⟩ | ⟨go, c, _, e, _⟩
      · simp [plB] at e
      · exact ⟨go, c, by rw [← plB]; simpa using e⟩
    have oz' : Own wz w.heap.size (.slice (some ⟨go, 0, none⟩) (bs.length + 2) c4) (putL bs) := by simpa using oz
    have hgo := (World.ownsRow.lt oz go rfl).1
    have oz2 : wz.ownsRow w.heap.size 5 1 (.slice (some ⟨go, 0, none⟩) (bs.length + 2) c4) (bs.length + 2) (bcells (putL bs)) := by rw [← plB]; rw [← plB] at oz'; exact oz'
    have cz0 : wz.cell? ⟨go, i, none⟩ = some (.int .u8 (((putL bs).getD i 0 : Nat) : Int)) := (oz2.cellAt i (by omega)).trans (bcells_get (putL bs) i (by omega))
    have fz := oz2.frozenAt i
    have hx := pB.get i
    have hk0 : (i : Int) < (bs.length : Int) + 2 := by omega
    have hw2 : IntKind.u8.wrap (1 + (len1 : Int) % 255) = 1 + (len1 : Int) % 255 := by rw [IntKind.wrap_u8']; omega
    have hx8 : bits .xor .u8 (((putL bs).getD i 0 : Nat) : Int) (1 + (len1 : Int) % 255) = (((putL bs).getD i 0 ^^^ (1 + len1 % 255) : Nat) : Int) := u8_xor_nat _ (1 + len1 % 255) hx (by omega)
    have hxl : (putL bs).getD i 0 ^^^ (1 + len1 % 255) < 256 := Nat.xor_lt_two_pow (n := 8) (by omega) (by omega)
    have hxne : (putL bs).getD i 0 ^^^ (1 + len1 % 255) ≠ (putL bs).getD i 0 := by
      intro e
      have : 1 + len1 % 255 = 0 := CrcM.xor_inj (a := (putL bs).getD i 0) (by rw [e, Nat.xor_zero])
      omega
    have hbent := cut_bent yB (show i < (putL bs).length by omega) hxl hxne
    have S := oz2.stored i (.int .u8 (((putL bs).getD i 0 ^^^ (1 + len1 % 255) : Nat) : Int))
    have e6 : (bcells (putL bs)).set i (.int .u8 (((putL bs).getD i 0 ^^^ (1 + len1 % 255) : Nat) : Int)) = bcells ((putL bs).set i ((putL bs).getD i 0 ^^^ (1 + len1 % 255))) := by simp [bcells, List.map_set]
    rw [e6] at S
    have o6 : Own (wz.setCell ⟨go, i, none⟩ (.int .u8 (((putL bs).getD i 0 ^^^ (1 + len1 % 255) : Nat) : Int))) w.heap.size (.slice (some ⟨go, 0, none⟩) (bs.length + 2) c4) ((putL bs).set i ((putL bs).getD i 0 ^^^ (1 + len1 % 255))) := by
      unfold Own
      rw [List.length_set, plB]
      exact S.1
    have by6 : Byt ((putL bs).set i ((putL bs).getD i 0 ^^^ (1 + len1 % 255))) := by
      intro z hz
      rcases List.mem_or_eq_of_mem_set hz with hz | rfl
      · exact pB z hz
      · exact hxl
    have ln6 : ((putL bs).set i ((putL bs).getD i 0 ^^^ (1 + len1 % 255))).length ≤ 22 := by rw [List.length_set]; omega
    have bl6 : Below w.heap.size w (wz.setCell ⟨go, i, none⟩ (.int .u8 (((putL bs).getD i 0 ^^^ (1 + len1 % 255) : Nat) : Int))) := bl.setCell hgo _
    clear S e6 oz oz' oz2 gz o0 rdP
    generalize (putL bs).set i ((putL bs).getD i 0 ^^^ (1 + len1 % 255)) = zb at *
    generalize (putL bs).getD i 0 ^^^ (1 + len1 % 255) = nx at *
    generalize (putL bs).getD i 0 = ox at *
    go_wp2_with fail
    refine (impl_cut _ zb _ (o6.rd by6 (by omega))).mono ?_
    rintro e wl ⟨vl, rfl, ol, bll⟩
    have blf := bl6.trans (bll.mono bl6.size)
    go_wp2
    go_ret
    exact ⟨rfl, blf⟩
  · have hcb' : cutB qs = false := by simpa using hcb
    have hcl : cutL qs = [] := by unfold cutL; rw [if_neg hcb]
    obtain ⟨ax, cx, rfl⟩ : ∃ ax cx, vX = .slice ax 0 cx := by
      rcases oX.2 with ⟨e, _⟩ | ⟨gp, cp, _, e, _⟩
      · exact ⟨none, 0, e⟩
      · exact ⟨_, cp, by rw [hcl] at e; exact e⟩
    clear hcl
    -- what was put is cut
    go_wp2_with fail
    refine (impl_cut vP (putL bs) _ (oP.rd pB (by omega))).mono ?_
    rintro e w9 ⟨vY, rfl, oY, b9⟩
    replace oB := oB.kept b9
    replace oP := oP.kept b9
    replace bl := bchain bl b9
    have z9 := bl.size
    rw [cut_put_L yB] at oY
    have hcp := cut_put_B yB
    go_wp2_with fail
    refine (li_b vY vB bs _ (oY.rd yB (by omega)) (oB.rd yB (by omega))).mono ?_
    rintro e w10 ⟨rfl, b10⟩
    replace oB := oB.kept b10
    replace oP := oP.kept b10
    replace oY := oY.kept b10
    replace bl := bchain bl b10
    have z10 := bl.size
    obtain ⟨gp, cp, rfl⟩ : ∃ gp cp, vP = .slice (some ⟨gp, 0, none⟩) (bs.length + 2) cp := by
      rcases oP.2 with ⟨_, e⟩ | ⟨gp, cp, _, e, _⟩
      · omega
      · exact ⟨gp, cp, by rw [← plB]; exact e⟩
    obtain ⟨ab, cb, rfl⟩ : ∃ ab cb, vB = .slice ab bs.length cb := by
      rcases oB.2 with ⟨e, e'⟩ | ⟨gp, cp, _, e, _⟩
      · exact ⟨none, 0, by rw [e, e']⟩
      · exact ⟨_, _, e⟩
    have e1 : ((len1 : Int) * 37 + (len0 : Int)) % ((bs.length : Int) + 2) = (((len1 * 37 + len0) % (bs.length + 2) : Nat) : Int) := rfl
    have hat : (len1 * 37 + len0) % (bs.length + 2) < bs.length + 2 := Nat.mod_lt _ (by omega)
    have hLpos : (0 : Int) < (bs.length : Int) + 2 := by omega
    generalize (len1 * 37 + len0) % (bs.length + 2) = i at *
    have o0 := own_empty w10 w.heap.size bl.size
    have rdP := (oP.rd pB (by omega)).alloc (.cells #[] 5)
    go_wp2_with (at_builtin; refine wpList_app _ rfl (.tmp 105) (.tmp 106) rfl w.heap.size _ [] rfl o0 _ (putL bs) rfl rdP (by simp; omega) (by simp; omega) ?_)
    intro vz wz oz gz
    replace bl : Below w.heap.size w wz := (bl.alloc bl.size _).grown gz (by simp; have := bl.size; omega) (by simp [Value.ownBlock]; omega)
    obtain ⟨go, c4, rfl⟩ : ∃ go c, vz = .slice (some ⟨go, 0, none⟩) (bs.length + 2) c := by
      rcases oz.2 with ⟨_, e⟩ | ⟨go, c, _, e, _⟩
      · simp [plB] at e
      · exact ⟨go, c, by rw [← plB]; simpa using e⟩
    have oz' : Own wz w.heap.size (.slice (some ⟨go, 0, none⟩) (bs.length + 2) c4) (putL bs) := by simpa using oz
    have hgo := (World.ownsRow.lt oz go rfl).1
    have oz2 : wz.ownsRow w.heap.size 5 1 (.slice (some ⟨go, 0, none⟩) (bs.length + 2) c4) (bs.length + 2) (bcells (putL bs)) := by rw [← plB]; rw [← plB] at oz'; exact oz'
    have cz0 : wz.cell? ⟨go, i, none⟩ = some (.int .u8 (((putL bs).getD i 0 : Nat) : Int)) := (oz2.cellAt i (by omega)).trans (bcells_get (putL bs) i (by omega))
    have fz := oz2.frozenAt i
    have hx := pB.get i
    have hk0 : (i : Int) < (bs.length : Int) + 2 := by omega
    have hw2 : IntKind.u8.wrap (1 + (len1 : Int) % 255) = 1 + (len1 : Int) % 255 := by rw [IntKind.wrap_u8']; omega
    have hx8 : bits .xor .u8 (((putL bs).getD i 0 : Nat) : Int) (1 + (len1 : Int) % 255) = (((putL bs).getD i 0 ^^^ (1 + len1 % 255) : Nat) : Int) := u8_xor_nat _ (1 + len1 % 255) hx (by omega)
    have hxl : (putL bs).getD i 0 ^^^ (1 + len1 % 255) < 256 := Nat.xor_lt_two_pow (n := 8) (by omega) (by omega)
    have hxne : (putL bs).getD i 0 ^^^ (1 + len1 % 255) ≠ (putL bs).getD i 0 := by
      intro e
      have : 1 + len1 % 255 = 0 := CrcM.xor_inj (a := (putL bs).getD i 0) (by rw [e, Nat.xor_zero])
      omega
    have hbent := cut_bent yB (show i < (putL bs).length by omega) hxl hxne
    have S := oz2.stored i (.int .u8 (((putL bs).getD i 0 ^^^ (1 + len1 % 255) : Nat) : Int))
    have e6 : (bcells (putL bs)).set i (.int .u8 (((putL bs).getD i 0 ^^^ (1 + len1 % 255) : Nat) : Int)) = bcells ((putL bs).set i ((putL bs).getD i 0 ^^^ (1 + len1 % 255))) := by simp [bcells, List.map_set]
    rw [e6] at S
    have o6 : Own (wz.setCell ⟨go, i, none⟩ (.int .u8 (((putL bs).getD i 0 ^^^ (1 + len1 % 255) : Nat) : Int))) w.heap.size (.slice (some ⟨go, 0, none⟩) (bs.length + 2) c4) ((putL bs).set i ((putL bs).getD i 0 ^^^ (1 + len1 % 255))) := by
      unfold Own
      rw [List.length_set, plB]
      exact S.1
    have by6 : Byt ((putL bs).set i ((putL bs).getD i 0 ^^^ (1 + len1 % 255))) := by
      intro z hz
      rcases List.mem_or_eq_of_mem_set hz with hz | rfl
      · exact pB z hz
      · exact hxl
    have ln6 : ((putL bs).set i ((putL bs).getD i 0 ^^^ (1 + len1 % 255))).length ≤ 22 := by rw [List.length_set]; omega
    have bl6 : Below w.heap.size w (wz.setCell ⟨go, i, none⟩ (.int .u8 (((putL bs).getD i 0 ^^^ (1 + len1 % 255) : Nat) : Int))) := bl.setCell hgo _
    clear S e6 oz oz' oz2 gz o0 rdP
    generalize (putL bs).set i ((putL bs).getD i 0 ^^^ (1 + len1 % 255)) = zb at *
    generalize (putL bs).getD i 0 ^^^ (1 + len1 % 255) = nx at *
    generalize (putL bs).getD i 0 = ox at *
    go_wp2_with fail
    refine (impl_cut _ zb _ (o6.rd by6 (by omega))).mono ?_
    rintro e wl ⟨vl, rfl, ol, bll⟩
    have blf := bl6.trans (bll.mono bl6.size)
    go_wp2
    go_ret
    exact ⟨rfl, blf⟩

theorem walk (a0 : Option Addr) (len0 cap0 : Nat) (z0 : List Int) (a1 : Option Addr) (len1 cap1 : Nat) (z1 : List Int) (w : World) (w0 : IsRow .u8 w a0 len0 cap0 z0) (w1 : IsRow .u8 w a1 len1 cap1 z1) :
    Calls Try.prog 3 #[.slice a0 len0 cap0, .slice a1 len1 cap1] w fun e w' => e = .returned (.bool true) ∧ Below w.heap.size w w' := by
  by_cases hs0 : (1048576 : Int) < (len0 : Int)
  · go_enter Try.func3, Try.ntmps3
    go_wp2
    go_ret
    exact ⟨rfl, Below.refl _ _⟩
  · by_cases hs1 : (1048576 : Int) < (len1 : Int)
    · go_enter Try.func3, Try.ntmps3
      go_wp2
      go_ret
      exact ⟨rfl, Below.refl _ _⟩
    · obtain ⟨cz, hR0, _⟩ := w0.rd (by omega)
      obtain ⟨mz, hR1, _⟩ := w1.rd (by omega)
      exact small a0 a1 len0 cap0 len1 cap1 cz mz w hs0 hs1 hR0 hR1
end Go.Proofs.Ythbmafoikloocaa.fnCrcCut
