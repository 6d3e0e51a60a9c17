/- The law of RxAck returns true at every argument. -/
import Derived.Test.YtenpapohimhdbaaMa
import Derived.Test.YtenpapohimhdbaaMb
import Derived.Test.YtenpapohimhdbaaMc
import Derived.Test.YtenpapohimhdbaaMd
import Derived.Deep.Cut
namespace Go.Proofs.Ytenpapohimhdbaa
open Go.RowKit
theorem Rd.is {w : World} {v : Value} {zs ys : List Nat} (h : Rd w v zs) (e : ys = zs) : Rd w v ys := e ▸ h
namespace fnExactRxAck
set_option maxRecDepth 100000 in
set_option maxHeartbeats 8000000 in
theorem same (ex ct len : Int) (ag bu de : Bool) (a : Option Addr) (zs : List Nat) (bs : List (Fin 256)) (cap : Nat) (w : World) (hz : zs.length ≤ 1048576) (hzs : bs.map (·.val) = zs) (hR : Rd w (.slice a zs.length cap) zs) (k s c : Int) (p f : Bool) (y g l : Int)
    (hi : DataOk Try.prog 16 [rxA ex ct len bs ag bu de] (frm0 k s c p f y g l)) (hs : DataOk Try.prog 15 [rxA ex ct len bs ag bu de] (frm0 k s c p f y g l)) :
    Calls Try.prog 4 #[.agg #[.int .i64 ex, .int .i64 ct, .int .i64 len, .slice a zs.length cap, .bool ag, .bool bu, .bool de]] w fun e w' => e = .returned (.bool true) ∧ Below w.heap.size w w' := by
  have hbz := hR.1
  have hneg1 : ¬ (1048576 : Int) - (zs.length : Int) < 0 := by omega
  have hp1 : ¬ ((1 + zs.length : Nat) : Int) < 0 := by omega
  go_enter Try.func4, Try.ntmps4
  go_wp2_with fail
  obtain ⟨w0, ew, cR, bl, z0⟩ := one_box w #[.int .i64 ex, .int .i64 ct, .int .i64 len, .slice a zs.length cap, .bool ag, .bool bu, .bool de] 26
  rw [ew]
  clear ew
  have kcR := cR.k
  refine (szRxState_small _ _ _ _ _ _ _ _ _ 1048576 _ hz (by omega)).mono ?_
  rintro e w1 ⟨rfl, b1⟩
  clear kcR
  replace cR := cR.kept b1
  replace bl := bchain bl b1
  have z1 := bl.size
  have kcR := cR.k
  -- the specification
  go_wp2_with fail
  refine (toRxState_any _ _ _ _ _ _ _ zs _ (hR.kept bl)).mono ?_
  rintro e w2 ⟨vW, rfl, oW, b2⟩
  clear kcR
  replace cR := cR.kept b2
  replace bl := bchain bl b2
  have z2 := bl.size
  have kcR := cR.k
  go_wp2_with fail
  refine (ack_mem hs ((oW.rd hbz (by omega)).is hzs)).mono ?_
  rintro e w3 ⟨rfl, b3⟩
  clear kcR
  replace oW := oW.kept b3
  replace cR := cR.kept b3
  replace bl := bchain bl b3
  have z3 := bl.size
  have kcR := cR.k
  clear oW
  have cW := bx_new w3 #[.int .i64 k, .int .i64 s, .int .i64 c, .bool p, .bool f, .int .i64 y, .int .i64 g, .int .i64 l, .slice none 0 0] 41
  have e4 := below_alloc w3 (.cells #[.int .i64 k, .int .i64 s, .int .i64 c, .bool p, .bool f, .int .i64 y, .int .i64 g, .int .i64 l, .slice none 0 0] 41)
  clear kcR
  replace cR := cR.kept e4
  replace bl := bchain bl e4
  have z4 := bl.size
  have kcR := cR.k
  have kcW := cW.k
  -- the program
  go_wp2_with fail
  refine (toRxState_any _ _ _ _ _ _ _ zs _ (hR.kept bl)).mono ?_
  rintro e w5 ⟨vX, rfl, oX, b5⟩
  clear kcR kcW
  replace cR := cR.kept b5
  replace cW := cW.kept b5
  replace bl := bchain bl b5
  have z5 := bl.size
  have kcR := cR.k
  have kcW := cW.k
  obtain ⟨aX, kX, rfl⟩ := oX.form
  have cX := bx_new w5 #[.int .i64 ex, .int .i64 ct, .int .i64 len, .slice aX zs.length kX, .bool ag, .bool bu, .bool de] 30
  have e6 := below_alloc w5 (.cells #[.int .i64 ex, .int .i64 ct, .int .i64 len, .slice aX zs.length kX, .bool ag, .bool bu, .bool de] 30)
  clear kcR kcW
  replace oX := oX.kept e6
  replace cR := cR.kept e6
  replace cW := cW.kept e6
  replace bl := bchain bl e6
  have z6 := bl.size
  have kcR := cR.k
  have kcW := cW.k
  have kcX := cX.k
  go_wp2_with fail
  refine (ack_mem hi ((oX.rd hbz (by omega)).is hzs)).mono ?_
  rintro e w7 ⟨rfl, b7⟩
  clear kcR kcW kcX
  replace oX := oX.kept b7
  replace cR := cR.kept b7
  replace cW := cW.kept b7
  replace cX := cX.kept b7
  replace bl := bchain bl b7
  have z7 := bl.size
  have kcR := cR.k
  have kcW := cW.k
  have kcX := cX.k
  have cG := bx_new w7 #[.int .i64 k, .int .i64 s, .int .i64 c, .bool p, .bool f, .int .i64 y, .int .i64 g, .int .i64 l, .slice none 0 0] 41
  have e8 := below_alloc w7 (.cells #[.int .i64 k, .int .i64 s, .int .i64 c, .bool p, .bool f, .int .i64 y, .int .i64 g, .int .i64 l, .slice none 0 0] 41)
  clear kcR kcW kcX
  replace oX := oX.kept e8
  replace cR := cR.kept e8
  replace cW := cW.kept e8
  replace cX := cX.kept e8
  replace bl := bchain bl e8
  have z8 := bl.size
  have kcR := cR.k
  have kcW := cW.k
  have kcX := cX.k
  have kcG := cG.k
  -- both alike
  go_wp2_with fail
  refine (eqFrame_same _ _ _ _ _ _ _ _ _ _ [] _ (nilRd _) (nilRd _)).mono ?_
  rintro e w9 ⟨rfl, b9⟩
  clear kcR kcW kcX kcG
  replace oX := oX.kept b9
  replace cR := cR.kept b9
  replace cW := cW.kept b9
  replace cX := cX.kept b9
  replace cG := cG.kept b9
  replace bl := bchain bl b9
  have z9 := bl.size
  have kcR := cR.k
  have kcW := cW.k
  have kcX := cX.k
  have kcG := cG.k
  -- the argument as it was
  go_wp2_with fail
  obtain ⟨ι, W, inW, ofW⟩ := cls (fun w' => Below w9.heap.size w9.drew w')
  have ne : Nonempty ι := ⟨(inW _ (Below.refl _ _)).choose⟩
  have qcR : ∀ x k, (W x).cell? ⟨w.heap.size, k, none⟩ = (#[.int .i64 ex, .int .i64 ct, .int .i64 len, .slice a zs.length cap, .bool ag, .bool bu, .bool de] : Array Value)[k]? := fun x k => ((ofW x).cell (p := ⟨w.heap.size, k, none⟩) cR.lt).trans (cR.k k)
  have qcX : ∀ x k, (W x).cell? ⟨w5.heap.size, k, none⟩ = (#[.int .i64 ex, .int .i64 ct, .int .i64 len, .slice aX zs.length kX, .bool ag, .bool bu, .bool de] : Array Value)[k]? := fun x k => ((ofW x).cell (p := ⟨w5.heap.size, k, none⟩) cX.lt).trans (cX.k k)
  refine region_by (fun w' => ∃ x, w' = W x) 5 [(0, true), (1, true), (2, false), (3, false), (4, true)] ⟨none, .assign (.tmp 0), 0, "", #[], none⟩ (by kernel_rfl) (by kernel_rfl) (inW _ (Below.refl _ _)) (fun x _ _ _ _ h => by cases x <;> exact h) ?_
  simp only [arrange, List.map_cons, List.map_nil, List.getD_cons_zero, List.getD_cons_succ]
  iterate 2 (refine by_read rfl (fun K hK => ?_); go_simp; refine hK _ ?_; clear hK K)
  clear kcR kcW kcX kcG
  refine by_move rfl (fun K hK => ?_)
  go_simp
  go_at_call 7
  refine (toRxState_any _ _ _ _ _ _ _ zs _ (hR.kept bl.drew)).mono ?_
  rintro e w10 ⟨vU, rfl, oU, b10⟩
  have B10 : Below w9.heap.size w9 w10 := bchain (Below.refl _ _).drew b10
  refine hK _ _ (fun _ => inW _ b10) ?_
  clear hK K
  have aoXoU := hide (own_apart oX (Nat.le_refl _) oU)
  replace oX := oX.kept B10
  replace cR := cR.kept B10
  replace cW := cW.kept B10
  replace cX := cX.kept B10
  replace cG := cG.kept B10
  replace bl := bchain bl B10
  have z10 := bl.size
  refine by_move rfl (fun K hK => ?_)
  go_simp
  go_at_call 9
  refine (eqRxState_same _ _ _ _ _ _ _ _ zs _ (oX.rd hbz (by omega)) (oU.rd hbz (by omega))).mono ?_
  rintro e w11 ⟨rfl, b11⟩
  have B11 := b11
  refine hK _ _ (fun _ => inW _ (bchain b10 b11)) ?_
  clear hK K
  replace oX := oX.kept B11
  replace oU := oU.kept B11
  replace cR := cR.kept B11
  replace cW := cW.kept B11
  replace cX := cX.kept B11
  replace cG := cG.kept B11
  replace bl := bchain bl B11
  have z11 := bl.size
  refine by_read rfl (fun K hK => ?_)
  go_simp
  refine hK _ ?_
  clear hK K
  refine by_nil ?_
  clear qcR qcX ofW inW ne W ι
  have kcR := cR.k
  have kcW := cW.k
  have kcX := cX.k
  have kcG := cG.k
  clear oU
  clear aoXoU
  -- the argument is marked, the answer stays
  go_wp2_with fail
  refine (markRx_any _ _ _ _ _ _ _ _ zs 1 _ oX (by omega) (by omega)).mono ?_
  rintro e w12 ⟨rfl, moX, g12⟩
  clear kcR kcW kcX kcG
  replace cR := cR.mark oX g12 (by decide)
  replace cW := cW.mark oX g12 (by decide)
  replace cX := cX.mark oX g12 (by decide)
  replace cG := cG.mark oX g12 (by decide)
  replace bl := bl.grown g12 bl.size (fun k e => Nat.le_trans (by first | exact Nat.le_refl _ | omega | (simp; omega)) (World.ownsRow.lt oX k e).1)
  replace oX := moX
  have z12 := bl.size
  clear moX g12
  have kcR := cR.k
  have kcW := cW.k
  have kcX := cX.k
  have kcG := cG.k
  clear oX
  go_wp2_with fail
  refine (eqFrame_same _ _ _ _ _ _ _ _ _ _ [] _ (nilRd _) (nilRd _)).mono ?_
  rintro e w13 ⟨rfl, b13⟩
  clear kcR kcW kcX kcG
  replace cR := cR.kept b13
  replace cW := cW.kept b13
  replace cX := cX.kept b13
  replace cG := cG.kept b13
  replace bl := bchain bl b13
  have z13 := bl.size
  have kcR := cR.k
  have kcW := cW.k
  have kcX := cX.k
  have kcG := cG.k
  -- the answer is marked, and looked at
  go_wp2_with fail
  refine (markNil _ _ _ _ _ _ _ _ _).mono ?_
  rintro e w14 ⟨rfl, b14⟩
  clear kcR kcW kcX kcG
  replace cR := cR.kept b14
  replace cW := cW.kept b14
  replace cX := cX.kept b14
  replace cG := cG.kept b14
  replace bl := bchain bl b14
  have z14 := bl.size
  have kcR := cR.k
  have kcW := cW.k
  have kcX := cX.k
  have kcG := cG.k
  go_wp2_with fail
  refine (heldNil _ _ _ _ _ _ _ _ _).mono ?_
  rintro e w15 ⟨rfl, b15⟩
  clear kcR kcW kcX kcG
  replace cR := cR.kept b15
  replace cW := cW.kept b15
  replace cX := cX.kept b15
  replace cG := cG.kept b15
  replace bl := bchain bl b15
  have z15 := bl.size
  have kcR := cR.k
  have kcW := cW.k
  have kcX := cX.k
  have kcG := cG.k
  -- once more
  go_wp2_with fail
  refine (toRxState_any _ _ _ _ _ _ _ zs _ (hR.kept bl)).mono ?_
  rintro e w16 ⟨vH, rfl, oH, b16⟩
  clear kcR kcW kcX kcG
  replace cR := cR.kept b16
  replace cW := cW.kept b16
  replace cX := cX.kept b16
  replace cG := cG.kept b16
  replace bl := bchain bl b16
  have z16 := bl.size
  have kcR := cR.k
  have kcW := cW.k
  have kcX := cX.k
  have kcG := cG.k
  go_wp2_with fail
  refine (ack_mem hi ((oH.rd hbz (by omega)).is hzs)).mono ?_
  rintro e w17 ⟨rfl, b17⟩
  clear kcR kcW kcX kcG
  replace oH := oH.kept b17
  replace cR := cR.kept b17
  replace cW := cW.kept b17
  replace cX := cX.kept b17
  replace cG := cG.kept b17
  replace bl := bchain bl b17
  have z17 := bl.size
  have kcR := cR.k
  have kcW := cW.k
  have kcX := cX.k
  have kcG := cG.k
  clear oH
  have cH := bx_new w17 #[.int .i64 k, .int .i64 s, .int .i64 c, .bool p, .bool f, .int .i64 y, .int .i64 g, .int .i64 l, .slice none 0 0] 41
  have e18 := below_alloc w17 (.cells #[.int .i64 k, .int .i64 s, .int .i64 c, .bool p, .bool f, .int .i64 y, .int .i64 g, .int .i64 l, .slice none 0 0] 41)
  clear kcR kcW kcX kcG
  replace cR := cR.kept e18
  replace cW := cW.kept e18
  replace cX := cX.kept e18
  replace cG := cG.kept e18
  replace bl := bchain bl e18
  have z18 := bl.size
  have kcR := cR.k
  have kcW := cW.k
  have kcX := cX.k
  have kcG := cG.k
  have kcH := cH.k
  go_wp2_with fail
  refine (eqFrame_same _ _ _ _ _ _ _ _ _ _ [] _ (nilRd _) (nilRd _)).mono ?_
  rintro e w19 ⟨rfl, b19⟩
  clear kcR kcW kcX kcG kcH
  replace cR := cR.kept b19
  replace cW := cW.kept b19
  replace cX := cX.kept b19
  replace cG := cG.kept b19
  replace cH := cH.kept b19
  replace bl := bchain bl b19
  have z19 := bl.size
  have kcR := cR.k
  have kcW := cW.k
  have kcX := cX.k
  have kcG := cG.k
  have kcH := cH.k
  go_wp2_with fail
  refine (heldNil _ _ _ _ _ _ _ _ _).mono ?_
  rintro e w20 ⟨rfl, b20⟩
  clear kcR kcW kcX kcG kcH
  replace cR := cR.kept b20
  replace cW := cW.kept b20
  replace cX := cX.kept b20
  replace cG := cG.kept b20
  replace cH := cH.kept b20
  replace bl := bchain bl b20
  have z20 := bl.size
  have kcR := cR.k
  have kcW := cW.k
  have kcX := cX.k
  have kcG := cG.k
  have kcH := cH.k
  go_wp2
  go_ret
  exact ⟨rfl, bl⟩
theorem small (ex ct len : Int) (ag bu de : Bool) (a : Option Addr) (zs : List Nat) (cap : Nat) (w : World) (hz : zs.length ≤ 1048576) (hR : Rd w (.slice a zs.length cap) zs) :
    Calls Try.prog 4 #[.agg #[.int .i64 ex, .int .i64 ct, .int .i64 len, .slice a zs.length cap, .bool ag, .bool bu, .bool de]] w fun e w' => e = .returned (.bool true) ∧ Below w.heap.size w w' := by
  obtain ⟨bs, hbs⟩ := byt_fin hR.1
  have hi := iack_ok ex ct len bs ag bu de
  have hs := sack_ok ex ct len bs ag bu de
  cases hb : rxB ex ct len bs.length
  · rw [hb] at hi hs
    exact same ex ct len ag bu de a zs bs cap w hz hbs hR _ _ _ _ _ _ _ _ hi hs
  · rw [hb] at hi hs
    exact same ex ct len ag bu de a zs bs cap w hz hbs hR _ _ _ _ _ _ _ _ hi hs
set_option maxHeartbeats 2000000 in
theorem great (ex ct len : Int) (ag bu de : Bool) (a : Option Addr) (n cap : Nat) (w : World) (h : ¬ n ≤ 1048576) (hm : n ≤ maxLen) :
    Calls Try.prog 4 #[.agg #[.int .i64 ex, .int .i64 ct, .int .i64 len, .slice a n cap, .bool ag, .bool bu, .bool de]] w fun e w' => e = .returned (.bool true) ∧ Below w.heap.size w w' := by
  go_enter Try.func4, Try.ntmps4
  go_wp2_with fail
  refine (szRxState_great _ _ _ _ _ _ _ _ _ 1048576 _ h (by omega) hm).mono ?_
  rintro e w1 ⟨rfl, b1⟩
  go_wp2
  go_ret
  exact ⟨rfl, bchain (below_alloc _ _) b1⟩
theorem walk (ex : Int) (ct : Int) (len : Int) (a : Option Addr) (n cap : Nat) (z : List Int) (ag : Bool) (bu : Bool) (de : Bool) (w : World) (w0 : IsRow .u8 w a n cap z) :
    Calls Try.prog 4 #[.agg #[.int .i64 ex, .int .i64 ct, .int .i64 len, .slice a n cap, .bool ag, .bool bu, .bool de]] w fun e w' => e = .returned (.bool true) ∧ Below w.heap.size w w' := by
  by_cases h : n ≤ 1048576
  · obtain ⟨bs, hR, hn⟩ := w0.rd (by omega)
    subst hn
    exact small ex ct len ag bu de a bs cap w h hR
  · exact great ex ct len ag bu de a n cap w h (by
      rcases w0 with ⟨_, rfl, _⟩ | ⟨x, _, h1, h2, _⟩
      · simp [maxLen]
      · omega)
end fnExactRxAck
end Go.Proofs.Ytenpapohimhdbaa
