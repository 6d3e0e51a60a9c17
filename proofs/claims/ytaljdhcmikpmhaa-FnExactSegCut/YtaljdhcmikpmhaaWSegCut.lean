/- The law of SegCut returns true at every argument. -/
import Derived.Test.YtaljdhcmikpmhaaSpecSegCut
import Derived.Test.YtaljdhcmikpmhaaXPieces
namespace Go.Proofs.Ytaljdhcmikpmhaa
open Go.RowKit
theorem tot_le (qs : List Pc) (n : Nat) (h : ∀ p ∈ qs, p.bs.length ≤ n) : tot qs ≤ qs.length * (n + 2) := by
  induction qs with
  | nil => simp [tot]
  | cons q r ih =>
    have h1 := h q (by simp)
    have h2 := ih (fun p hp => h p (by simp [hp]))
    simp only [tot, List.length_cons, Nat.add_mul]
    omega
namespace fnExactSegCut
set_option maxRecDepth 100000 in
set_option maxHeartbeats 4000000 in
theorem small (a : Option Addr) (cap : Nat) (bs : List Nat) (m : Int) (w : World) (hs : ¬ (1048576 : Int) < (bs.length : Int)) (hl : bs.length ≤ 1048576) (hR : Rd w (.slice a bs.length cap) bs) :
    Calls Try.prog 3 #[.slice a bs.length cap, .int .i64 m] w fun e w' => e = .returned (.bool true) ∧ Below w.heap.size w w' := by
  have hby := hR.1
  have bl : Below w.heap.size w w := Below.refl _ _
  go_enter Try.func3, Try.ntmps3
  -- the specification
  go_wp2_with fail
  refine (toBytes_any _ bs _ hR).mono ?_
  rintro e w1 ⟨v1, rfl, o1, b1⟩
  replace bl := bchain bl b1
  have z1 := bl.size
  go_wp2_with fail
  refine (spec_cut v1 bs m _ (o1.rd hby (by omega))).mono ?_
  rintro e w2 ⟨⟨vW, ps, rfl, oW, hp⟩, b2⟩
  replace bl := bchain bl b2
  have z2 := bl.size
  have bW : Below w2.heap.size w2 w2 := Below.refl _ _
  have lp : ps.length ≤ 30 := by have := cutD_length bs m; rw [← hp] at this; simpa using this
  have sp : ∀ p ∈ ps, Byt p.bs ∧ p.bs.length ≤ 24 := fun p h => cutD_small bs m hby p.dat (by rw [← hp]; exact List.mem_map_of_mem h)
  -- the program
  go_wp2_with fail
  refine (toBytes_any _ bs _ (hR.kept bl)).mono ?_
  rintro e w3 ⟨vX, rfl, oX, b3⟩
  replace bl := bchain bl b3
  have z3 := bl.size
  replace bW := bchain bW b3
  have lX : ∀ k, vX.ownBlock = some k → w2.heap.size ≤ k ∧ k < w3.heap.size := fun k e => World.ownsRow.lt oX k e
  have apX := oW.apart (Nat.le_refl _) oX
  go_wp2_with fail
  refine (impl_cut vX bs m _ (oX.rd hby (by omega))).mono ?_
  rintro e w4 ⟨⟨vG, qs, rfl, oG, hq⟩, b4⟩
  replace oX := oX.kept b4
  replace bl := bchain bl b4
  have z4 := bl.size
  replace bW := bchain bW b4
  have y3 : w2.heap.size ≤ w3.heap.size := b3.size
  have y4 : w3.heap.size ≤ w4.heap.size := b4.size
  have lq : qs.length ≤ 30 := by have := cutD_length bs m; rw [← hq] at this; simpa using this
  have sq : ∀ p ∈ qs, Byt p.bs ∧ p.bs.length ≤ 24 := fun p h => cutD_small bs m hby p.dat (by rw [← hq]; exact List.mem_map_of_mem h)
  have tq : tot qs ≤ 1000000 := by have := tot_le qs 24 (fun p h => (sq p h).2); omega
  have hpq : qs.map Pc.dat = ps.map Pc.dat := by rw [hp, hq]
  -- both alike
  go_wp2_with fail
  refine (eqPieces_same _ _ qs ps _ _ _ oG (oW.kept bW) hpq (fun p h => ⟨(sq p h).1, Nat.le_trans (sq p h).2 (by omega)⟩) (by omega)).mono ?_
  rintro e w5 ⟨rfl, b5⟩
  replace oX := oX.kept b5
  replace oG := oG.kept b5
  replace bl := bchain bl b5
  have z5 := bl.size
  replace bW := bchain bW b5
  -- the argument as it was
  go_wp2_with fail
  refine (toBytes_any _ bs _ (hR.kept bl)).mono ?_
  rintro e w6 ⟨vY, rfl, oY, b6⟩
  replace oX := oX.kept b6
  replace oG := oG.kept b6
  replace bl := bchain bl b6
  have z6 := bl.size
  replace bW := bchain bW b6
  have oX6 := oX
  go_wp2_with fail
  refine (eqBytes_b vX vY bs _ (oX.rd hby (by omega)) (oY.rd hby (by omega))).mono ?_
  rintro e w7 ⟨rfl, b7⟩
  replace oX := oX.kept b7
  replace oG := oG.kept b7
  replace bl := bchain bl b7
  have z7 := bl.size
  replace bW := bchain bW b7
  -- the argument is marked, the answer stays
  go_wp2_with fail
  refine (mark_any _ vX bs 1 _ oX (by omega) (by omega)).mono ?_
  rintro e w8 ⟨rfl, mX, g8⟩
  replace oG := oG.lower g8 (fun k e => (lX k e).2)
  replace bW := bW.grown g8 bW.size (fun k e => (lX k e).1)
  replace bl := bl.grown g8 bl.size (fun k e => Nat.le_trans z2 (lX k e).1)
  have z8 := bl.size
  clear mX oX oX6 oY
  have hk1 : ¬ ((1 + bs.length : Nat) : Int) < 0 := by omega
  go_wp2_with fail
  refine (eqPieces_same _ _ qs ps _ _ _ oG (oW.kept bW) hpq (fun p h => ⟨(sq p h).1, Nat.le_trans (sq p h).2 (by omega)⟩) (by omega)).mono ?_
  rintro e w9 ⟨rfl, b9⟩
  replace oG := oG.kept b9
  replace bl := bchain bl b9
  have z9 := bl.size
  replace bW := bchain bW b9
  have y9 : w3.heap.size ≤ w9.heap.size := Nat.le_trans y4 (Nat.le_trans b5.size (Nat.le_trans b6.size (Nat.le_trans b7.size (Nat.le_trans g8.size b9.size))))
  -- the answer is marked
  go_wp2_with fail
  refine (markPieces_any vG qs 1 w3.heap.size _ oG tq (by omega) y9).mono ?_
  rintro e w10 ⟨rfl, mG, b10⟩
  replace bW := bW.trans (b10.mono y3)
  replace bl := bl.trans (b10.mono (Nat.le_trans z2 y3))
  have z10 := bl.size
  replace oG := mG
  clear mG
  have hk2 : ¬ ((1 + tot qs : Nat) : Int) < 0 := by omega
  go_wp2_with fail
  refine (heldPieces_any vG qs 1 w3.heap.size _ oG tq (by omega)).mono ?_
  rintro e w11 ⟨rfl, b11⟩
  replace oG := oG.kept b11
  replace bl := bchain bl b11
  have z11 := bl.size
  replace bW := bchain bW b11
  -- once more
  go_wp2_with fail
  refine (toBytes_any _ bs _ (hR.kept bl)).mono ?_
  rintro e w12 ⟨vZ, rfl, oZ, b12⟩
  replace oG := oG.kept b12
  replace bl := bchain bl b12
  have z12 := bl.size
  replace bW := bchain bW b12
  go_wp2_with fail
  refine (impl_cut vZ bs m _ (oZ.rd hby (by omega))).mono ?_
  rintro e w13 ⟨⟨vH, rs, rfl, oH, hr⟩, b13⟩
  replace oG := oG.kept b13
  replace bl := bchain bl b13
  have z13 := bl.size
  replace bW := bchain bW b13
  have lr : rs.length ≤ 30 := by have := cutD_length bs m; rw [← hr] at this; simpa using this
  have sr : ∀ p ∈ rs, Byt p.bs ∧ p.bs.length ≤ 24 := fun p h => cutD_small bs m hby p.dat (by rw [← hr]; exact List.mem_map_of_mem h)
  have hpr : rs.map Pc.dat = ps.map Pc.dat := by rw [hp, hr]
  go_wp2_with fail
  refine (eqPieces_same _ _ rs ps _ _ _ oH (oW.kept bW) hpr (fun p h => ⟨(sr p h).1, Nat.le_trans (sr p h).2 (by omega)⟩) (by omega)).mono ?_
  rintro e w14 ⟨rfl, b14⟩
  replace oG := oG.kept b14
  replace bl := bchain bl b14
  have z14 := bl.size
  replace bW := bchain bW b14
  go_wp2_with fail
  refine (heldPieces_any vG qs 1 w3.heap.size _ oG tq (by omega)).mono ?_
  rintro e w15 ⟨rfl, b15⟩
  replace oG := oG.kept b15
  replace bl := bchain bl b15
  have z15 := bl.size
  replace bW := bchain bW b15
  go_wp2
  go_ret
  exact ⟨rfl, bl⟩
theorem walk (a0 : Option Addr) (len0 cap0 : Nat) (z0 : List Int) (m : Int) (w : World) (w0 : IsRow .u8 w a0 len0 cap0 z0) :
    Calls Try.prog 3 #[.slice a0 len0 cap0, .int .i64 m] w fun e w' => e = .returned (.bool true) ∧ Below w.heap.size w w' := by
  by_cases hs : (1048576 : Int) < (len0 : Int)
  · go_enter Try.func3, Try.ntmps3
    go_wp2
    go_ret
    exact ⟨rfl, Below.refl _ _⟩
  · obtain ⟨bs, hR, hlen⟩ := w0.rd (by omega)
    subst hlen
    exact small a0 cap0 bs m w hs (by omega) hR
end fnExactSegCut
end Go.Proofs.Ytaljdhcmikpmhaa
