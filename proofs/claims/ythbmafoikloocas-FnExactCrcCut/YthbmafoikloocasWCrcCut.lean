/- The law of CrcCut returns true at every list of bytes. -/
import Derived.Test.YthbmafoikloocasCrcCut
namespace Go.Proofs.Ythbmafoikloocas.fnExactCrcCut
open Go.RowKit
set_option maxHeartbeats 2000000 in
theorem small (v : Value) (a : Option Addr) (len cap : Nat) (bs : List Nat) (w : World) (he : v = .slice a len cap) (hs : ¬ (1048576 : Int) < (len : Int)) (hl : bs.length ≤ 1048576) (hR : Rd w v bs) :
    Calls Try.prog 3 #[v] w fun e w' => e = .returned (.bool true) ∧ Below w.heap.size w w' := by
  subst he
  have hby := hR.1
  have pl := cutL_length bs
  go_enter Try.func3, Try.ntmps3
  -- the specification
  go_wp2_with fail
  refine (toBytes_any _ bs _ hR).mono ?_
  rintro e w1 ⟨v1, rfl, o1, b1⟩
  have bl := b1
  have z1 := bl.size
  go_wp2_with fail
  refine (spec_cut v1 bs _ (o1.rd hby (by omega))).mono ?_
  rintro e w2 ⟨vW, rfl, oW, b2⟩
  replace bl := bchain bl b2
  have z2 := bl.size
  -- the program
  go_wp2_with fail
  refine (toBytes_any _ bs _ (hR.kept bl)).mono ?_
  rintro e w3 ⟨vX, rfl, oX, b3⟩
  have aoWoX := hide (own_apart oW (Nat.le_refl _) oX)
  replace oW := oW.kept b3
  replace bl := bchain bl b3
  have z3 := bl.size
  go_wp2_with fail
  refine (impl_cut vX bs _ (oX.rd hby (by omega))).mono ?_
  rintro e w4 ⟨vG, rfl, oG, b4⟩
  have aoWoG := hide (own_apart oW (Nat.le_refl _) oG)
  have aoXoG := hide (own_apart oX (Nat.le_refl _) oG)
  replace oW := oW.kept b4
  replace oX := oX.kept b4
  replace bl := bchain bl b4
  have z4 := bl.size
  -- both alike
  go_wp2_with fail
  refine (eqBytes_b vG vW (cutL bs) _ (oG.rd (cutL_byt hby) (by omega)) (oW.rd (cutL_byt hby) (by omega))).mono ?_
  rintro e w5 ⟨rfl, b5⟩
  replace oW := oW.kept b5
  replace oX := oX.kept b5
  replace oG := oG.kept b5
  replace bl := bchain bl b5
  have z5 := bl.size
  -- the argument as it was
  go_wp2_with fail
  refine (toBytes_any _ bs _ (hR.kept bl)).mono ?_
  rintro e w6 ⟨vY, rfl, oY, b6⟩
  have aoWoY := hide (own_apart oW (Nat.le_refl _) oY)
  have aoXoY := hide (own_apart oX (Nat.le_refl _) oY)
  have aoGoY := hide (own_apart oG (Nat.le_refl _) oY)
  replace oW := oW.kept b6
  replace oX := oX.kept b6
  replace oG := oG.kept b6
  replace bl := bchain bl b6
  have z6 := bl.size
  go_wp2_with fail
  refine (eqBytes_b vX vY bs _ (oX.rd hby (by omega)) (oY.rd hby (by omega))).mono ?_
  rintro e w7 ⟨rfl, b7⟩
  replace oW := oW.kept b7
  replace oX := oX.kept b7
  replace oG := oG.kept b7
  replace oY := oY.kept b7
  replace bl := bchain bl b7
  have z7 := bl.size
  -- the argument is marked, the answer stays
  go_wp2_with fail
  refine (mark1 w _ vX bs _ oX (by omega) bl (by omega)).mono ?_
  rintro e w8 ⟨rfl, moX, g8, bl8⟩
  replace oW := oW.other g8 (unhide aoWoX)
  replace oG := oG.other g8 (apart_symm (unhide aoXoG))
  replace oY := oY.other g8 (apart_symm (unhide aoXoY))
  replace oX := moX
  replace bl := bl8
  clear moX bl8 g8
  go_wp2_with fail
  refine (eqBytes_b vG vW (cutL bs) _ (oG.rd (cutL_byt hby) (by omega)) (oW.rd (cutL_byt hby) (by omega))).mono ?_
  rintro e w9 ⟨rfl, b9⟩
  replace oW := oW.kept b9
  replace oX := oX.kept b9
  replace oG := oG.kept b9
  replace oY := oY.kept b9
  replace bl := bchain bl b9
  have z9 := bl.size
  -- the answer is marked
  go_wp2_with fail
  refine (mark1 w _ vG (cutL bs) _ oG (by omega) bl (by omega)).mono ?_
  rintro e w10 ⟨rfl, moG, g10, bl10⟩
  replace oW := oW.other g10 (unhide aoWoG)
  replace oX := oX.other g10 (unhide aoXoG)
  replace oY := oY.other g10 (apart_symm (unhide aoGoY))
  replace oG := moG
  replace bl := bl10
  clear moG bl10 g10
  go_wp2_with fail
  refine (held1 vG _ _ _ oG (by omega)).mono ?_
  rintro e w11 ⟨rfl, b11⟩
  replace oW := oW.kept b11
  replace oX := oX.kept b11
  replace oG := oG.kept b11
  replace oY := oY.kept b11
  replace bl := bchain bl b11
  have z11 := bl.size
  -- once more
  go_wp2_with fail
  refine (toBytes_any _ bs _ (hR.kept bl)).mono ?_
  rintro e w12 ⟨vZ, rfl, oZ, b12⟩
  have aoWoZ := hide (own_apart oW (Nat.le_refl _) oZ)
  have aoXoZ := hide (own_apart oX (Nat.le_refl _) oZ)
  have aoGoZ := hide (own_apart oG (Nat.le_refl _) oZ)
  have aoYoZ := hide (own_apart oY (Nat.le_refl _) oZ)
  replace oW := oW.kept b12
  replace oX := oX.kept b12
  replace oG := oG.kept b12
  replace oY := oY.kept b12
  replace bl := bchain bl b12
  have z12 := bl.size
  go_wp2_with fail
  refine (impl_cut vZ bs _ (oZ.rd hby (by omega))).mono ?_
  rintro e w13 ⟨vH, rfl, oH, b13⟩
  have aoWoH := hide (own_apart oW (Nat.le_refl _) oH)
  have aoXoH := hide (own_apart oX (Nat.le_refl _) oH)
  have aoGoH := hide (own_apart oG (Nat.le_refl _) oH)
  have aoYoH := hide (own_apart oY (Nat.le_refl _) oH)
  have aoZoH := hide (own_apart oZ (Nat.le_refl _) oH)
  replace oW := oW.kept b13
  replace oX := oX.kept b13
  replace oG := oG.kept b13
  replace oY := oY.kept b13
  replace oZ := oZ.kept b13
  replace bl := bchain bl b13
  have z13 := bl.size
  go_wp2_with fail
  refine (eqBytes_b vH vW (cutL bs) _ (oH.rd (cutL_byt hby) (by omega)) (oW.rd (cutL_byt hby) (by omega))).mono ?_
  rintro e w14 ⟨rfl, b14⟩
  replace oW := oW.kept b14
  replace oX := oX.kept b14
  replace oG := oG.kept b14
  replace oY := oY.kept b14
  replace oZ := oZ.kept b14
  replace oH := oH.kept b14
  replace bl := bchain bl b14
  have z14 := bl.size
  go_wp2_with fail
  refine (held1 vG _ _ _ oG (by omega)).mono ?_
  rintro e w15 ⟨rfl, b15⟩
  replace oW := oW.kept b15
  replace oX := oX.kept b15
  replace oG := oG.kept b15
  replace oY := oY.kept b15
  replace oZ := oZ.kept b15
  replace oH := oH.kept b15
  replace bl := bchain bl b15
  have z15 := bl.size
  go_wp2
  go_ret
  exact ⟨rfl, bl⟩
theorem walk (a0 : Option Addr) (len0 cap0 : Nat) (z0 : List Int) (w : World) (w0 : IsRow .u8 w a0 len0 cap0 z0) :
    Calls Try.prog 3 #[.slice a0 len0 cap0] w fun e w' => e = .returned (.bool true) ∧ Below w.heap.size w w' := by
  by_cases hs : (1048576 : Int) < (len0 : Int)
  · go_enter Try.func3, Try.ntmps3
    go_wp2
    go_ret
    exact ⟨rfl, Below.refl _ _⟩
  · obtain ⟨bs, hR, hlen⟩ := w0.rd (by omega)
    exact small _ a0 len0 cap0 bs w rfl hs (by omega) hR
end Go.Proofs.Ythbmafoikloocas.fnExactCrcCut
