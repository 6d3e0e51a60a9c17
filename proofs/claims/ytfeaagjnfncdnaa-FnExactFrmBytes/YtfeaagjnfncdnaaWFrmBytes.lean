/- The law of FrmBytes returns true at every frame. -/
import Derived.Test.YtfeaagjnfncdnaaSpecFrmBytes
import Derived.Test.YtfeaagjnfncdnaaXFrm2
namespace Go.Proofs.Ytfeaagjnfncdnaa.fnExactFrmBytes
open Go.RowKit
set_option maxHeartbeats 4000000 in
theorem small (kind seq ack : Int) (poll final : Bool) (say seg len : Int) (a : Option Addr) (bs : List Nat) (cap : Nat) (w : World) (hl : bs.length ≤ 1048576) (hR : Rd w (.slice a bs.length cap) bs) :
    Calls Try.prog 4 #[.agg #[.int .i64 kind, .int .i64 seq, .int .i64 ack, .bool poll, .bool final, .int .i64 say, .int .i64 seg, .int .i64 len, .slice a bs.length cap]] w fun e w' => e = .returned (.bool true) ∧ Below w.heap.size w w' := by
  have hby := hR.1
  have hneg : ¬ (1048576 : Int) - (bs.length : Int) < 0 := by omega
  have pl : (frmL kind seq ack poll final say seg len bs).length ≤ 15 := frmL_length
  have pby : Byt (frmL kind seq ack poll final say seg len bs) := frmL_byt hby
  go_enter Try.func4, Try.ntmps4
  have bl : Below w.heap.size w (w.alloc (.cells #[.int .i64 kind, .int .i64 seq, .int .i64 ack, .bool poll, .bool final, .int .i64 say, .int .i64 seg, .int .i64 len, .slice a bs.length cap] 24)) := (Below.refl _ _).alloc (Nat.le_refl _) _
  have cA := cel_box w #[.int .i64 kind, .int .i64 seq, .int .i64 ack, .bool poll, .bool final, .int .i64 say, .int .i64 seg, .int .i64 len, .slice a bs.length cap] 24
  have kcA := cA.2
  go_wp2_with fail
  refine (szFrame_small _ _ _ _ _ _ _ _ _ _ _ _ hl).mono ?_
  rintro e w1 ⟨rfl, b1⟩
  clear kcA
  replace cA := cA.kept b1
  replace bl := bchain bl b1
  have z1 := bl.size
  have kcA := cA.2
  -- the specification
  go_wp2_with fail
  refine (toFrame_any _ _ _ _ _ _ _ _ _ bs _ (hR.kept bl)).mono ?_
  rintro e w2 ⟨v1, rfl, o1, b2⟩
  clear kcA
  replace cA := cA.kept b2
  replace bl := bchain bl b2
  have z2 := bl.size
  have kcA := cA.2
  go_wp2_with fail
  refine (spec_bytes _ _ _ _ _ _ _ _ _ bs _ (o1.rd hby (by omega))).mono ?_
  rintro e w3 ⟨vW, rfl, oW, b3⟩
  clear kcA
  have ao1oW := hide (own_apart o1 (Nat.le_refl _) oW)
  replace o1 := o1.kept b3
  replace cA := cA.kept b3
  replace bl := bchain bl b3
  have z3 := bl.size
  have kcA := cA.2
  -- the program
  go_wp2_with fail
  refine (toFrame_any _ _ _ _ _ _ _ _ _ bs _ (hR.kept bl)).mono ?_
  rintro e w4 ⟨vX, rfl, oX, b4⟩
  clear kcA
  have ao1oX := hide (own_apart o1 (Nat.le_refl _) oX)
  have aoWoX := hide (own_apart oW (Nat.le_refl _) oX)
  replace o1 := o1.kept b4
  replace oW := oW.kept b4
  replace cA := cA.kept b4
  replace bl := bchain bl b4
  have z4 := bl.size
  have kcA := cA.2
  obtain ⟨aX, cX, rfl⟩ := (oX.rd hby (by omega)).form
  have cX1 := cel_box w4 #[.int .i64 kind, .int .i64 seq, .int .i64 ack, .bool poll, .bool final, .int .i64 say, .int .i64 seg, .int .i64 len, .slice aX bs.length cX] 27
  have nX := hide (own_box_apart oX (b := w4.heap.size) (.inr (Nat.le_refl _)))
  have nA := hide (own_box_apart oX (b := w.heap.size) (.inl (Nat.lt_of_lt_of_le (show w.heap.size < w1.heap.size from by have := b1.size; simp at this; omega) (by have := bchain b2 b3; exact this.size))))
  have bx : Below w4.heap.size w4 (w4.alloc (.cells #[.int .i64 kind, .int .i64 seq, .int .i64 ack, .bool poll, .bool final, .int .i64 say, .int .i64 seg, .int .i64 len, .slice aX bs.length cX] 27)) := (Below.refl _ _).alloc (Nat.le_refl _) _
  clear kcA
  replace o1 := o1.kept bx
  replace oW := oW.kept bx
  replace oX := oX.kept bx
  replace cA := cA.kept bx
  replace bl := bchain bl bx
  have kcA := cA.2
  have kcX1 := cX1.2
  go_wp2_with fail
  refine (impl_bytes _ _ _ _ _ _ _ _ _ bs _ (oX.rd hby (by omega))).mono ?_
  rintro e w5 ⟨vG, rfl, oG, b5⟩
  clear kcA kcX1
  have ao1oG := hide (own_apart o1 (Nat.le_refl _) oG)
  have aoWoG := hide (own_apart oW (Nat.le_refl _) oG)
  have aoXoG := hide (own_apart oX (Nat.le_refl _) oG)
  replace o1 := o1.kept b5
  replace oW := oW.kept b5
  replace oX := oX.kept b5
  replace cA := cA.kept b5
  replace cX1 := cX1.kept b5
  replace bl := bchain bl b5
  have z5 := bl.size
  have kcA := cA.2
  have kcX1 := cX1.2
  have nXG := hide (own_box_apart oG (b := w4.heap.size) (.inl (by simp)))
  have nAG := hide (own_box_apart oG (b := w.heap.size) (.inl (by simp; omega)))
  -- both alike
  go_wp2_with fail
  refine (eqBytes_b vG vW (frmL kind seq ack poll final say seg len bs) _ (oG.rd pby (by omega)) (oW.rd pby (by omega))).mono ?_
  rintro e w6 ⟨rfl, b6⟩
  clear kcA kcX1
  replace o1 := o1.kept b6
  replace oW := oW.kept b6
  replace oX := oX.kept b6
  replace oG := oG.kept b6
  replace cA := cA.kept b6
  replace cX1 := cX1.kept b6
  replace bl := bchain bl b6
  have z6 := bl.size
  have kcA := cA.2
  have kcX1 := cX1.2
  -- the argument as it was
  go_wp2
  obtain ⟨ι, W, inW, ofW⟩ := cls (fun w' => Below w6.heap.size w6.drew w')
  have ne : Nonempty ι := ⟨(inW _ (Below.refl _ _)).choose⟩
  have qcA : ∀ x k, (W x).cell? ⟨w.heap.size, k, none⟩ = (#[.int .i64 kind, .int .i64 seq, .int .i64 ack, .bool poll, .bool final, .int .i64 say, .int .i64 seg, .int .i64 len, .slice a bs.length cap])[k]? := fun x k => ((ofW x).cell (p := ⟨w.heap.size, k, none⟩) cA.1).trans (cA.2 k)
  have qcX1 : ∀ x k, (W x).cell? ⟨w4.heap.size, k, none⟩ = (#[.int .i64 kind, .int .i64 seq, .int .i64 ack, .bool poll, .bool final, .int .i64 say, .int .i64 seg, .int .i64 len, .slice aX bs.length cX])[k]? := fun x k => ((ofW x).cell (p := ⟨w4.heap.size, k, none⟩) cX1.1).trans (cX1.2 k)
  refine region_by (fun w' => ∃ x, w' = W x) 5 [(0, true), (1, true), (2, false), (3, false), (4, true)] ⟨none, .assign (.tmp 0), 0, "", #[], none⟩ (by kernel_rfl) (by kernel_rfl) (inW _ (Below.refl _ _)) (fun x _ _ _ _ h => by cases x <;> exact h) ?_
  simp only [arrange, List.map_cons, List.map_nil, List.getD_cons_zero, List.getD_cons_succ]
  refine by_read rfl (fun K hK => ?_)
  go_simp
  refine hK _ ?_
  clear hK K
  refine by_read rfl (fun K hK => ?_)
  go_simp
  refine hK _ ?_
  clear hK K
  refine by_move rfl (fun K hK => ?_)
  go_simp
  go_at_call 7
  refine (toFrame_any _ _ _ _ _ _ _ _ _ bs _ (hR.kept bl.drew)).mono ?_
  rintro e w7 ⟨vY, rfl, oY, b7⟩
  have B7 : Below w6.heap.size w6 w7 := bchain (Below.refl _ _).drew b7
  refine hK _ _ (fun _ => inW _ b7) ?_
  clear hK K
  have ao1oY := hide (own_apart o1 (Nat.le_refl _) oY)
  have aoWoY := hide (own_apart oW (Nat.le_refl _) oY)
  have aoXoY := hide (own_apart oX (Nat.le_refl _) oY)
  have aoGoY := hide (own_apart oG (Nat.le_refl _) oY)
  replace o1 := o1.kept B7
  replace oW := oW.kept B7
  replace oX := oX.kept B7
  replace oG := oG.kept B7
  replace cA := cA.kept B7
  replace cX1 := cX1.kept B7
  replace bl := bchain bl B7
  have z7 := bl.size
  refine by_move rfl (fun K hK => ?_)
  go_simp
  go_at_call 9
  refine (eqFrame_same _ _ _ _ _ _ _ _ _ _ bs _ (oX.rd hby (by omega)) (oY.rd hby (by omega))).mono ?_
  rintro e w8 ⟨rfl, b8⟩
  have B8 := b8
  have C8 := bchain B7 b8
  refine hK _ _ (fun _ => inW _ (bchain b7 b8)) ?_
  clear hK K
  replace o1 := o1.kept B8
  replace oW := oW.kept B8
  replace oX := oX.kept B8
  replace oG := oG.kept B8
  replace oY := oY.kept B8
  replace cA := cA.kept B8
  replace cX1 := cX1.kept B8
  replace bl := bchain bl B8
  have z8 := bl.size
  refine by_read rfl (fun K hK => ?_)
  go_simp
  refine hK _ ?_
  clear hK K
  refine by_nil ?_
  clear qcA qcX1 ofW inW ne W ι
  clear kcA kcX1
  have kcA := cA.2
  have kcX1 := cX1.2
  -- the argument is marked, the answer stays
  go_wp2_with fail
  refine (markFrame1 w _ _ _ _ _ _ _ _ _ _ bs _ oX (by omega) bl (by omega)).mono ?_
  rintro e w9 ⟨rfl, moX, g9, bl9⟩
  clear kcA kcX1
  replace o1 := o1.other g9 (unhide ao1oX)
  replace oW := oW.other g9 (unhide aoWoX)
  replace oG := oG.other g9 (apart_symm (unhide aoXoG))
  replace oY := oY.other g9 (apart_symm (unhide aoXoY))
  replace cA := cA.other g9 (unhide nA)
  replace cX1 := cX1.other g9 (unhide nX)
  replace oX := moX
  replace bl := bl9
  clear moX bl9 g9
  have kcA := cA.2
  have kcX1 := cX1.2
  go_wp2_with fail
  refine (eqBytes_b vG vW (frmL kind seq ack poll final say seg len bs) _ (oG.rd pby (by omega)) (oW.rd pby (by omega))).mono ?_
  rintro e w10 ⟨rfl, b10⟩
  clear kcA kcX1
  replace o1 := o1.kept b10
  replace oW := oW.kept b10
  replace oX := oX.kept b10
  replace oG := oG.kept b10
  replace oY := oY.kept b10
  replace cA := cA.kept b10
  replace cX1 := cX1.kept b10
  replace bl := bchain bl b10
  have z10 := bl.size
  have kcA := cA.2
  have kcX1 := cX1.2
  -- the answer is marked
  go_wp2_with fail
  refine (mark1 w _ vG (frmL kind seq ack poll final say seg len bs) _ oG (by omega) bl (by simp; omega)).mono ?_
  rintro e w11 ⟨rfl, moG, g11, bl11⟩
  clear kcA kcX1
  replace o1 := o1.other g11 (unhide ao1oG)
  replace oW := oW.other g11 (unhide aoWoG)
  replace oX := oX.other g11 (unhide aoXoG)
  replace oY := oY.other g11 (apart_symm (unhide aoGoY))
  replace cA := cA.other g11 (unhide nAG)
  replace cX1 := cX1.other g11 (unhide nXG)
  replace oG := moG
  replace bl := bl11
  clear moG bl11 g11
  have kcA := cA.2
  have kcX1 := cX1.2
  go_wp2_with fail
  refine (held1 vG _ _ _ oG (by omega)).mono ?_
  rintro e w12 ⟨rfl, b12⟩
  clear kcA kcX1
  replace o1 := o1.kept b12
  replace oW := oW.kept b12
  replace oX := oX.kept b12
  replace oG := oG.kept b12
  replace oY := oY.kept b12
  replace cA := cA.kept b12
  replace cX1 := cX1.kept b12
  replace bl := bchain bl b12
  have z12 := bl.size
  have kcA := cA.2
  have kcX1 := cX1.2
  -- once more
  go_wp2_with fail
  refine (toFrame_any _ _ _ _ _ _ _ _ _ bs _ (hR.kept bl)).mono ?_
  rintro e w13 ⟨vZ, rfl, oZ, b13⟩
  clear kcA kcX1
  have ao1oZ := hide (own_apart o1 (Nat.le_refl _) oZ)
  have aoWoZ := hide (own_apart oW (Nat.le_refl _) oZ)
  have aoXoZ := hide (own_apart oX (Nat.le_refl _) oZ)
  have aoGoZ := hide (own_apart oG (Nat.le_refl _) oZ)
  have aoYoZ := hide (own_apart oY (Nat.le_refl _) oZ)
  replace o1 := o1.kept b13
  replace oW := oW.kept b13
  replace oX := oX.kept b13
  replace oG := oG.kept b13
  replace oY := oY.kept b13
  replace cA := cA.kept b13
  replace cX1 := cX1.kept b13
  replace bl := bchain bl b13
  have z13 := bl.size
  have kcA := cA.2
  have kcX1 := cX1.2
  go_wp2_with fail
  refine (impl_bytes _ _ _ _ _ _ _ _ _ bs _ (oZ.rd hby (by omega))).mono ?_
  rintro e w14 ⟨vH, rfl, oH, b14⟩
  clear kcA kcX1
  have ao1oH := hide (own_apart o1 (Nat.le_refl _) oH)
  have aoWoH := hide (own_apart oW (Nat.le_refl _) oH)
  have aoXoH := hide (own_apart oX (Nat.le_refl _) oH)
  have aoGoH := hide (own_apart oG (Nat.le_refl _) oH)
  have aoYoH := hide (own_apart oY (Nat.le_refl _) oH)
  have aoZoH := hide (own_apart oZ (Nat.le_refl _) oH)
  replace o1 := o1.kept b14
  replace oW := oW.kept b14
  replace oX := oX.kept b14
  replace oG := oG.kept b14
  replace oY := oY.kept b14
  replace oZ := oZ.kept b14
  replace cA := cA.kept b14
  replace cX1 := cX1.kept b14
  replace bl := bchain bl b14
  have z14 := bl.size
  have kcA := cA.2
  have kcX1 := cX1.2
  go_wp2_with fail
  refine (eqBytes_b vH vW (frmL kind seq ack poll final say seg len bs) _ (oH.rd pby (by omega)) (oW.rd pby (by omega))).mono ?_
  rintro e w15 ⟨rfl, b15⟩
  clear kcA kcX1
  replace o1 := o1.kept b15
  replace oW := oW.kept b15
  replace oX := oX.kept b15
  replace oG := oG.kept b15
  replace oY := oY.kept b15
  replace oZ := oZ.kept b15
  replace oH := oH.kept b15
  replace cA := cA.kept b15
  replace cX1 := cX1.kept b15
  replace bl := bchain bl b15
  have z15 := bl.size
  have kcA := cA.2
  have kcX1 := cX1.2
  go_wp2_with fail
  refine (held1 vG _ _ _ oG (by omega)).mono ?_
  rintro e w16 ⟨rfl, b16⟩
  clear kcA kcX1
  replace o1 := o1.kept b16
  replace oW := oW.kept b16
  replace oX := oX.kept b16
  replace oG := oG.kept b16
  replace oY := oY.kept b16
  replace oZ := oZ.kept b16
  replace oH := oH.kept b16
  replace cA := cA.kept b16
  replace cX1 := cX1.kept b16
  replace bl := bchain bl b16
  have z16 := bl.size
  have kcA := cA.2
  have kcX1 := cX1.2
  go_wp2
  go_ret
  exact ⟨rfl, bl⟩
set_option maxHeartbeats 2000000 in
theorem great (kind seq ack : Int) (poll final : Bool) (say seg len : Int) (a : Option Addr) (n cap : Nat) (w : World) (h : ¬ n ≤ 1048576) (hm : n ≤ maxLen) :
    Calls Try.prog 4 #[.agg #[.int .i64 kind, .int .i64 seq, .int .i64 ack, .bool poll, .bool final, .int .i64 say, .int .i64 seg, .int .i64 len, .slice a n cap]] w fun e w' => e = .returned (.bool true) ∧ Below w.heap.size w w' := by
  go_enter Try.func4, Try.ntmps4
  go_wp2_with fail
  refine (szFrame_great _ _ _ _ _ _ _ _ _ _ _ _ h hm).mono ?_
  rintro e w1 ⟨rfl, b1⟩
  go_wp2
  go_ret
  exact ⟨rfl, box_below b1⟩
theorem walk (kind seq ack : Int) (poll final : Bool) (say seg len : Int) (a0 : Option Addr) (len0 cap0 : Nat) (z0 : List Int) (w : World) (w0 : IsRow .u8 w a0 len0 cap0 z0) :
    Calls Try.prog 4 #[.agg #[.int .i64 kind, .int .i64 seq, .int .i64 ack, .bool poll, .bool final, .int .i64 say, .int .i64 seg, .int .i64 len, .slice a0 len0 cap0]] w fun e w' => e = .returned (.bool true) ∧ Below w.heap.size w w' := by
  by_cases hs : len0 ≤ 1048576
  · obtain ⟨bs, hR, hlen⟩ := w0.rd (by omega)
    subst hlen
    exact small _ _ _ _ _ _ _ _ a0 bs cap0 w hs hR
  · refine great _ _ _ _ _ _ _ _ a0 len0 cap0 w hs ?_
    rcases w0 with ⟨_, rfl, _⟩ | ⟨x, _, h1, h2, _⟩
    · simp [maxLen]
    · omega
end Go.Proofs.Ytfeaagjnfncdnaa.fnExactFrmBytes
