/- The law of FrmRead returns true at every list of bytes, where the package's errors are something. -/
import Derived.Test.YtfeaagjnfncdnaaDoorSpecRead
import Derived.Test.YtfeaagjnfncdnaaDoorImplFrmRead
import Derived.Test.YtfeaagjnfncdnaaDoorXFrmEq
import Derived.Test.YtfeaagjnfncdnaaDoorXFrmMark
import Derived.Test.YtfeaagjnfncdnaaDoorXFrmHeld
namespace Go.Proofs.YtfeaagjnfncdnaaDoor.fnExactFrmRead
open Go.RowKit
set_option maxHeartbeats 4000000 in
theorem small (v : Value) (a : Option Addr) (len cap : Nat) (bs : List Nat) (w : World) (he : v = .slice a len cap) (hs : ¬ (1048576 : Int) < (len : Int)) (hl : bs.length ≤ 1048576) (hR : Rd w v bs) (hE : Errs w) :
    Calls Tryd.prog 3 #[v] w fun e w' => e = .returned (.bool true) ∧ Below w.heap.size w w' := by
  subst he
  have hby := hR.1
  have dl := rdData_length bs
  have dby : Byt (rdData bs) := rdData_byt hby
  go_enter Tryd.func3, Tryd.ntmps3
  have bl : Below w.heap.size w w := Below.refl _ _
  -- the specification
  go_wp2_with fail
  refine (toBytes_any _ bs _ hR).mono ?_
  rintro e w1 ⟨v1, rfl, o1, b1⟩
  replace bl := bchain bl b1
  have z1 := bl.size
  go_wp2_with fail
  refine (spec_read v1 bs _ (o1.rd hby (by omega))).mono ?_
  rintro e w2 ⟨vW, rfl, oW, b2⟩
  have ao1oW := hide (own_apart o1 (Nat.le_refl _) oW)
  replace o1 := o1.kept b2
  replace bl := bchain bl b2
  have z2 := bl.size
  obtain ⟨aW, kW, rfl⟩ := (oW.rd dby (by omega)).form
  have cW := cel_box w2 #[.int .i64 (rdKind bs), .int .i64 (rdSeq bs), .int .i64 (rdAck bs), .bool (rdPoll bs), .bool (rdFinal bs), .int .i64 (rdSay bs), .int .i64 (rdSeg bs), .int .i64 (rdLen bs), .slice aW (rdData bs).length kW] 24
  have bx2 : Below w2.heap.size w2 (w2.alloc (.cells #[.int .i64 (rdKind bs), .int .i64 (rdSeq bs), .int .i64 (rdAck bs), .bool (rdPoll bs), .bool (rdFinal bs), .int .i64 (rdSay bs), .int .i64 (rdSeg bs), .int .i64 (rdLen bs), .slice aW (rdData bs).length kW] 24)) := (Below.refl _ _).alloc (Nat.le_refl _) _
  have po1 := o1
  replace o1 := o1.kept bx2
  have poW := oW
  replace oW := oW.kept bx2
  replace bl := bchain bl bx2
  have zz2 : w2.heap.size < (w2.alloc (.cells #[.int .i64 (rdKind bs), .int .i64 (rdSeq bs), .int .i64 (rdAck bs), .bool (rdPoll bs), .bool (rdFinal bs), .int .i64 (rdSay bs), .int .i64 (rdSeg bs), .int .i64 (rdLen bs), .slice aW (rdData bs).length kW] 24)).heap.size := by simp
  have kcW := cW.2
  clear po1 poW
  -- the program
  go_wp2_with fail
  refine (toBytes_any _ bs _ (hR.kept bl)).mono ?_
  rintro e w3 ⟨vX, rfl, oX, b3⟩
  clear kcW
  have ao1oX := hide (own_apart o1 (Nat.le_refl _) oX)
  have aoWoX := hide (own_apart oW (Nat.le_refl _) oX)
  replace o1 := o1.kept b3
  replace oW := oW.kept b3
  replace cW := cW.kept b3
  replace bl := bchain bl b3
  have z3 := bl.size
  have kcW := cW.2
  have nWX := hide (own_box_apart oX (b := w2.heap.size) (.inl zz2))
  go_wp2_with fail
  refine (impl_read vX bs _ (oX.rd hby (by omega)) (hE.kept bl)).mono ?_
  rintro e w4 ⟨vG, rfl, oG, b4⟩
  clear kcW
  have ao1oG := hide (own_apart o1 (Nat.le_refl _) oG)
  have aoWoG := hide (own_apart oW (Nat.le_refl _) oG)
  have aoXoG := hide (own_apart oX (Nat.le_refl _) oG)
  replace o1 := o1.kept b4
  replace oW := oW.kept b4
  replace oX := oX.kept b4
  replace cW := cW.kept b4
  replace bl := bchain bl b4
  have z4 := bl.size
  have kcW := cW.2
  have nWG := hide (own_box_apart oG (b := w2.heap.size) (.inl (Nat.lt_of_lt_of_le zz2 b3.size)))
  obtain ⟨aG, kG, rfl⟩ := (oG.rd dby (by omega)).form
  have cG := cel_box w4 #[.int .i64 (rdKind bs), .int .i64 (rdSeq bs), .int .i64 (rdAck bs), .bool (rdPoll bs), .bool (rdFinal bs), .int .i64 (rdSay bs), .int .i64 (rdSeg bs), .int .i64 (rdLen bs), .slice aG (rdData bs).length kG] 24
  have bx4 : Below w4.heap.size w4 (w4.alloc (.cells #[.int .i64 (rdKind bs), .int .i64 (rdSeq bs), .int .i64 (rdAck bs), .bool (rdPoll bs), .bool (rdFinal bs), .int .i64 (rdSay bs), .int .i64 (rdSeg bs), .int .i64 (rdLen bs), .slice aG (rdData bs).length kG] 24)) := (Below.refl _ _).alloc (Nat.le_refl _) _
  clear kcW
  have po1 := o1
  replace o1 := o1.kept bx4
  have poW := oW
  replace oW := oW.kept bx4
  have poX := oX
  replace oX := oX.kept bx4
  have poG := oG
  replace oG := oG.kept bx4
  replace cW := cW.kept bx4
  replace bl := bchain bl bx4
  have zz4 : w4.heap.size < (w4.alloc (.cells #[.int .i64 (rdKind bs), .int .i64 (rdSeq bs), .int .i64 (rdAck bs), .bool (rdPoll bs), .bool (rdFinal bs), .int .i64 (rdSay bs), .int .i64 (rdSeg bs), .int .i64 (rdLen bs), .slice aG (rdData bs).length kG] 24)).heap.size := by simp
  have kcW := cW.2
  have kcG := cG.2
  have nGX := hide (own_box_apart poX (b := w4.heap.size) (.inr (Nat.le_refl _)))
  have nGG := hide (own_box_apart poG (b := w4.heap.size) (.inr (Nat.le_refl _)))
  clear po1 poW poX poG
  -- both alike
  go_wp2_with fail
  refine (eqFrame_same _ _ _ _ _ _ _ _ _ _ (rdData bs) _ (oG.rd dby (by omega)) (oW.rd dby (by omega))).mono ?_
  rintro e w5 ⟨rfl, b5⟩
  clear kcW kcG
  replace o1 := o1.kept b5
  replace oW := oW.kept b5
  replace oX := oX.kept b5
  replace oG := oG.kept b5
  replace cW := cW.kept b5
  replace cG := cG.kept b5
  replace bl := bchain bl b5
  have z5 := bl.size
  have kcW := cW.2
  have kcG := cG.2
  -- the argument as it was
  go_wp2_with fail
  refine (toBytes_any _ bs _ (hR.kept bl)).mono ?_
  rintro e w6 ⟨vY, rfl, oY, b6⟩
  clear kcW kcG
  have ao1oY := hide (own_apart o1 (Nat.le_refl _) oY)
  have aoWoY := hide (own_apart oW (Nat.le_refl _) oY)
  have aoXoY := hide (own_apart oX (Nat.le_refl _) oY)
  have aoGoY := hide (own_apart oG (Nat.le_refl _) oY)
  replace o1 := o1.kept b6
  replace oW := oW.kept b6
  replace oX := oX.kept b6
  replace oG := oG.kept b6
  replace cW := cW.kept b6
  replace cG := cG.kept b6
  replace bl := bchain bl b6
  have z6 := bl.size
  have kcW := cW.2
  have kcG := cG.2
  go_wp2_with fail
  refine (eqBytes_b vX vY bs _ (oX.rd hby (by omega)) (oY.rd hby (by omega))).mono ?_
  rintro e w7 ⟨rfl, b7⟩
  clear kcW kcG
  replace o1 := o1.kept b7
  replace oW := oW.kept b7
  replace oX := oX.kept b7
  replace oG := oG.kept b7
  replace oY := oY.kept b7
  replace cW := cW.kept b7
  replace cG := cG.kept b7
  replace bl := bchain bl b7
  have z7 := bl.size
  have kcW := cW.2
  have kcG := cG.2
  -- the argument is marked, the answer stays
  go_wp2_with fail
  refine (mark1 w _ vX bs _ oX (by omega) bl (by simp; omega)).mono ?_
  rintro e w8 ⟨rfl, moX, g8, bl8⟩
  clear kcW kcG
  replace o1 := o1.other g8 (unhide ao1oX)
  replace oW := oW.other g8 (unhide aoWoX)
  replace oG := oG.other g8 (apart_symm (unhide aoXoG))
  replace oY := oY.other g8 (apart_symm (unhide aoXoY))
  replace cW := cW.other g8 (unhide nWX)
  replace cG := cG.other g8 (unhide nGX)
  replace oX := moX
  replace bl := bl8
  clear moX bl8 g8
  have kcW := cW.2
  have kcG := cG.2
  go_wp2_with fail
  refine (eqFrame_same _ _ _ _ _ _ _ _ _ _ (rdData bs) _ (oG.rd dby (by omega)) (oW.rd dby (by omega))).mono ?_
  rintro e w9 ⟨rfl, b9⟩
  clear kcW kcG
  replace o1 := o1.kept b9
  replace oW := oW.kept b9
  replace oX := oX.kept b9
  replace oG := oG.kept b9
  replace oY := oY.kept b9
  replace cW := cW.kept b9
  replace cG := cG.kept b9
  replace bl := bchain bl b9
  have z9 := bl.size
  have kcW := cW.2
  have kcG := cG.2
  -- the answer is marked
  go_wp2_with fail
  refine (markFrame1 w _ _ _ _ _ _ _ _ _ _ (rdData bs) _ oG (by omega) bl (by omega)).mono ?_
  rintro e w10 ⟨rfl, moG, g10, bl10⟩
  clear kcW kcG
  replace o1 := o1.other g10 (unhide ao1oG)
  replace oW := oW.other g10 (unhide aoWoG)
  replace oX := oX.other g10 (unhide aoXoG)
  replace oY := oY.other g10 (apart_symm (unhide aoGoY))
  replace cW := cW.other g10 (unhide nWG)
  replace cG := cG.other g10 (unhide nGG)
  replace oG := moG
  replace bl := bl10
  clear moG bl10 g10
  have kcW := cW.2
  have kcG := cG.2
  go_wp2_with fail
  refine (heldFrame1 _ _ _ _ _ _ _ _ _ _ _ _ oG (by omega)).mono ?_
  rintro e w11 ⟨rfl, b11⟩
  clear kcW kcG
  replace o1 := o1.kept b11
  replace oW := oW.kept b11
  replace oX := oX.kept b11
  replace oG := oG.kept b11
  replace oY := oY.kept b11
  replace cW := cW.kept b11
  replace cG := cG.kept b11
  replace bl := bchain bl b11
  have z11 := bl.size
  have kcW := cW.2
  have kcG := cG.2
  -- once more
  go_wp2_with fail
  refine (toBytes_any _ bs _ (hR.kept bl)).mono ?_
  rintro e w12 ⟨vZ, rfl, oZ, b12⟩
  clear kcW kcG
  have ao1oZ := hide (own_apart o1 (Nat.le_refl _) oZ)
  have aoWoZ := hide (own_apart oW (Nat.le_refl _) oZ)
  have aoXoZ := hide (own_apart oX (Nat.le_refl _) oZ)
  have aoGoZ := hide (own_apart oG (Nat.le_refl _) oZ)
  have aoYoZ := hide (own_apart oY (Nat.le_refl _) oZ)
  replace o1 := o1.kept b12
  replace oW := oW.kept b12
  replace oX := oX.kept b12
  replace oG := oG.kept b12
  replace oY := oY.kept b12
  replace cW := cW.kept b12
  replace cG := cG.kept b12
  replace bl := bchain bl b12
  have z12 := bl.size
  have kcW := cW.2
  have kcG := cG.2
  go_wp2_with fail
  refine (impl_read vZ bs _ (oZ.rd hby (by omega)) (hE.kept bl)).mono ?_
  rintro e w13 ⟨vH, rfl, oH, b13⟩
  clear kcW kcG
  have ao1oH := hide (own_apart o1 (Nat.le_refl _) oH)
  have aoWoH := hide (own_apart oW (Nat.le_refl _) oH)
  have aoXoH := hide (own_apart oX (Nat.le_refl _) oH)
  have aoGoH := hide (own_apart oG (Nat.le_refl _) oH)
  have aoYoH := hide (own_apart oY (Nat.le_refl _) oH)
  have aoZoH := hide (own_apart oZ (Nat.le_refl _) oH)
  replace o1 := o1.kept b13
  replace oW := oW.kept b13
  replace oX := oX.kept b13
  replace oG := oG.kept b13
  replace oY := oY.kept b13
  replace oZ := oZ.kept b13
  replace cW := cW.kept b13
  replace cG := cG.kept b13
  replace bl := bchain bl b13
  have z13 := bl.size
  have kcW := cW.2
  have kcG := cG.2
  obtain ⟨aH, kH, rfl⟩ := (oH.rd dby (by omega)).form
  have cH := cel_box w13 #[.int .i64 (rdKind bs), .int .i64 (rdSeq bs), .int .i64 (rdAck bs), .bool (rdPoll bs), .bool (rdFinal bs), .int .i64 (rdSay bs), .int .i64 (rdSeg bs), .int .i64 (rdLen bs), .slice aH (rdData bs).length kH] 24
  have bx13 : Below w13.heap.size w13 (w13.alloc (.cells #[.int .i64 (rdKind bs), .int .i64 (rdSeq bs), .int .i64 (rdAck bs), .bool (rdPoll bs), .bool (rdFinal bs), .int .i64 (rdSay bs), .int .i64 (rdSeg bs), .int .i64 (rdLen bs), .slice aH (rdData bs).length kH] 24)) := (Below.refl _ _).alloc (Nat.le_refl _) _
  clear kcW kcG
  have po1 := o1
  replace o1 := o1.kept bx13
  have poW := oW
  replace oW := oW.kept bx13
  have poX := oX
  replace oX := oX.kept bx13
  have poG := oG
  replace oG := oG.kept bx13
  have poY := oY
  replace oY := oY.kept bx13
  have poZ := oZ
  replace oZ := oZ.kept bx13
  have poH := oH
  replace oH := oH.kept bx13
  replace cW := cW.kept bx13
  replace cG := cG.kept bx13
  replace bl := bchain bl bx13
  have zz13 : w13.heap.size < (w13.alloc (.cells #[.int .i64 (rdKind bs), .int .i64 (rdSeq bs), .int .i64 (rdAck bs), .bool (rdPoll bs), .bool (rdFinal bs), .int .i64 (rdSay bs), .int .i64 (rdSeg bs), .int .i64 (rdLen bs), .slice aH (rdData bs).length kH] 24)).heap.size := by simp
  have kcW := cW.2
  have kcG := cG.2
  have kcH := cH.2
  go_wp2_with fail
  refine (eqFrame_same _ _ _ _ _ _ _ _ _ _ (rdData bs) _ (oH.rd dby (by omega)) (oW.rd dby (by omega))).mono ?_
  rintro e w14 ⟨rfl, b14⟩
  clear kcW kcG kcH
  replace o1 := o1.kept b14
  replace oW := oW.kept b14
  replace oX := oX.kept b14
  replace oG := oG.kept b14
  replace oY := oY.kept b14
  replace oZ := oZ.kept b14
  replace oH := oH.kept b14
  replace cW := cW.kept b14
  replace cG := cG.kept b14
  replace cH := cH.kept b14
  replace bl := bchain bl b14
  have z14 := bl.size
  have kcW := cW.2
  have kcG := cG.2
  have kcH := cH.2
  go_wp2_with fail
  refine (heldFrame1 _ _ _ _ _ _ _ _ _ _ _ _ oG (by omega)).mono ?_
  rintro e w15 ⟨rfl, b15⟩
  clear kcW kcG kcH
  replace o1 := o1.kept b15
  replace oW := oW.kept b15
  replace oX := oX.kept b15
  replace oG := oG.kept b15
  replace oY := oY.kept b15
  replace oZ := oZ.kept b15
  replace oH := oH.kept b15
  replace cW := cW.kept b15
  replace cG := cG.kept b15
  replace cH := cH.kept b15
  replace bl := bchain bl b15
  have z15 := bl.size
  have kcW := cW.2
  have kcG := cG.2
  have kcH := cH.2
  go_wp2
  go_ret
  exact ⟨rfl, bl⟩
theorem walk (a0 : Option Addr) (len0 cap0 : Nat) (z0 : List Int) (w : World) (w0 : IsRow .u8 w a0 len0 cap0 z0) (hE : Errs w) :
    Calls Tryd.prog 3 #[.slice a0 len0 cap0] w fun e w' => e = .returned (.bool true) ∧ Below w.heap.size w w' := by
  by_cases hs : (1048576 : Int) < (len0 : Int)
  · go_enter Tryd.func3, Tryd.ntmps3
    go_wp2
    go_ret
    exact ⟨rfl, Below.refl _ _⟩
  · obtain ⟨bs, hR, hlen⟩ := w0.rd (by omega)
    exact small _ a0 len0 cap0 bs w rfl hs (by omega) hR hE
end Go.Proofs.YtfeaagjnfncdnaaDoor.fnExactFrmRead
