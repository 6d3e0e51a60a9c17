/- Laws and contracts that the proof stands on: AbsHearJ, AbsFrame, LiParts, AbsLiTx, AbsDrawTxH. -/
import Derived.Test.YtdojkmjamilllaaMa
import Derived.Test.YtdojkmjamilllaaMb
import Derived.Test.YtdojkmjamilllaaMc
import Derived.Test.YtdojkmjamilllaaMd
import Derived.Test.YtdojkmjamilllaaMe
import Derived.Test.YtdojkmjamilllaaMf
import Derived.Test.YtdojkmjamilllaaMg
/- TxHear of the program, as a whole. Written by tools/mk_AbsHearJ.py. -/
namespace Go.Proofs.Ytdojkmjamilllaa
open Go Go.RowKit
theorem isByZ (k s k2 : Int) (p f : Bool) (y g l : Int) (fs : List (Fin 256)) (hl : fs.length ≤ 2000000) : DataOk Try.prog 73 [frmZ k s k2 p f y g l (fbytes fs)] (.d (.v (.bool ((k == 1 || k == 2) && frmB k s k2 p f y g l fs.length)))) := by
  have hi : ∀ k, DataOk Try.prog 27 [frmZ k s k2 p f y g l (fbytes fs)] (.d (.v (.bool (frmB k s k2 p f y g l fs.length)))) := fun k => ifrm_ok k s k2 p f y g l fs hl
  simp only [frmZ, frmZC] at hi ⊢
  refine Spec.intro (n := 15) (rv := [.tmp 2]) Try.func73 rfl rfl rfl (by simp) fun C hN hX => ?_
  refine AW.seq ?_
  apply AW.list
  apply Wk.bx 1 rfl rfl (lt_of_ble rfl)
  apply Wk.asg (by conv => lhs; whnf) (lt_of_ble rfl)
  refine Wk.nil ?_
  refine AW.seq ?_
  by_cases h1 : k = 1
  · subst h1
    apply AW.list
    apply Wk.fad 0 0 false fd42_0 rfl (lt_of_ble rfl)
    apply Wk.ld (i := 1) 1 false ty3 rfl rfl (by conv => lhs; whnf) (lt_of_ble rfl)
    apply Wk.bin rfl rfl (fun w => by simp [go_sem] <;> rfl) (lt_of_ble rfl)
    apply Wk.mv (by conv => lhs; whnf) (lt_of_ble rfl)
    apply Wk.goff 6 (ok_faddr fd42_0) rfl rfl (by decide)
    apply Wk.goff 6 (ok_load 1 ty3) rfl rfl (by decide)
    apply Wk.goff 6 (ok_bin _ _ _ _ _) rfl rfl (by decide)
    apply Wk.pckT rfl (by conv => lhs; whnf) (lt_of_ble rfl)
    apply Wk.mv (by conv => lhs; whnf) (lt_of_ble rfl)
    apply Wk.gon 11 rfl rfl
    apply Wk.ld (i := 1) 9 true ty42 rfl rfl (by conv => lhs; whnf) (lt_of_ble rfl)
    apply Wk.gon 11 rfl rfl
    apply Wk.dat (hi 1) Try.func27 rfl rfl rfl rfl rfl (lt_of_ble rfl)
    apply Wk.pckT rfl (by conv => lhs; whnf) (lt_of_ble rfl)
    apply Wk.asg (by conv => lhs; whnf) (lt_of_ble rfl)
    refine Wk.nil (AW.ret ?_)
    exact RetQ.ret [] (.cons rfl .nil) ⟨rfl, rfl⟩ none_kept
  by_cases h2 : k = 2
  · subst h2
    apply AW.list
    apply Wk.fad 0 0 false fd42_0 rfl (lt_of_ble rfl)
    apply Wk.ld (i := 1) 1 false ty3 rfl rfl (by conv => lhs; whnf) (lt_of_ble rfl)
    apply Wk.bin rfl rfl (fun w => by simp [go_sem] <;> rfl) (lt_of_ble rfl)
    apply Wk.mv (by conv => lhs; whnf) (lt_of_ble rfl)
    apply Wk.gon 6 rfl rfl
    apply Wk.fad 0 0 false fd42_0 rfl (lt_of_ble rfl)
    apply Wk.gon 6 rfl rfl
    apply Wk.ld (i := 1) 1 false ty3 rfl rfl (by conv => lhs; whnf) (lt_of_ble rfl)
    apply Wk.gon 6 rfl rfl
    apply Wk.bin rfl rfl (fun w => by simp [go_sem] <;> rfl) (lt_of_ble rfl)
    apply Wk.pckF rfl (by conv => lhs; whnf) (lt_of_ble rfl)
    apply Wk.mv (by conv => lhs; whnf) (lt_of_ble rfl)
    apply Wk.gon 11 rfl rfl
    apply Wk.ld (i := 1) 9 true ty42 rfl rfl (by conv => lhs; whnf) (lt_of_ble rfl)
    apply Wk.gon 11 rfl rfl
    apply Wk.dat (hi 2) Try.func27 rfl rfl rfl rfl rfl (lt_of_ble rfl)
    apply Wk.pckT rfl (by conv => lhs; whnf) (lt_of_ble rfl)
    apply Wk.asg (by conv => lhs; whnf) (lt_of_ble rfl)
    refine Wk.nil (AW.ret ?_)
    exact RetQ.ret [] (.cons rfl .nil) ⟨rfl, rfl⟩ none_kept
  · have hb : ((k == 1 || k == 2) && frmB k s k2 p f y g l fs.length) = false := by simp [h1, h2]
    rw [hb]
    apply AW.list
    apply Wk.fad 0 0 false fd42_0 rfl (lt_of_ble rfl)
    apply Wk.ld (i := 1) 1 false ty3 rfl rfl (by conv => lhs; whnf) (lt_of_ble rfl)
    apply Wk.bin rfl rfl (r := .bool false) (fun w => by simp [go_sem, h1]) (lt_of_ble rfl)
    apply Wk.mv (by conv => lhs; whnf) (lt_of_ble rfl)
    apply Wk.gon 6 rfl rfl
    apply Wk.fad 0 0 false fd42_0 rfl (lt_of_ble rfl)
    apply Wk.gon 6 rfl rfl
    apply Wk.ld (i := 1) 1 false ty3 rfl rfl (by conv => lhs; whnf) (lt_of_ble rfl)
    apply Wk.gon 6 rfl rfl
    apply Wk.bin rfl rfl (r := .bool false) (fun w => by simp [go_sem, h2]) (lt_of_ble rfl)
    apply Wk.pckF rfl (by conv => lhs; whnf) (lt_of_ble rfl)
    apply Wk.mv (by conv => lhs; whnf) (lt_of_ble rfl)
    apply Wk.goff 11 (ok_load 1 ty42) rfl rfl (by decide)
    apply Wk.goff 11 (ok_datw ((hi k).w rfl) Try.func27 rfl rfl) rfl rfl (by decide)
    apply Wk.pckF rfl (by conv => lhs; whnf) (lt_of_ble rfl)
    apply Wk.asg (by conv => lhs; whnf) (lt_of_ble rfl)
    refine Wk.nil (AW.ret ?_)
    exact RetQ.ret [] (.cons rfl .nil) ⟨rfl, rfl⟩ none_kept
theorem isByY {k s k2 : Int} {p f : Bool} {y g l : Int} {fs : List (Fin 256)} (hl : fs.length ≤ 2000000) {b : Bool} (h : ((k == 1 || k == 2) && frmB k s k2 p f y g l fs.length) = b) : DataOk Try.prog 73 [frmZ k s k2 p f y g l (fbytes fs)] (.d (.v (.bool b))) := h ▸ isByZ k s k2 p f y g l fs hl
set_option maxHeartbeats 4000000 in
set_option maxRecDepth 100000 in
theorem itxhearNo (m0 w0 p0 u0 y0 : Int) (x : TX) (k sq ack : Int) (pl fi : Bool) (sy g ln : Int) (fs : List (Fin 256)) (hfl : fs.length ≤ 2000000) (hno : txOkB ⟨m0, w0, p0, u0, y0⟩ x = false ∨ ((k == 1 || k == 2) && frmB k sq ack pl fi sy g ln fs.length) = false) :
    DataOk Try.prog 31 [cfgA m0 w0 p0 u0 y0, txA x, frmZ k sq ack pl fi sy g ln (fbytes fs)] txNil := by
  cases hok : txOkB ⟨m0, w0, p0, u0, y0⟩ x
  · have hb := isByZ k sq ack pl fi sy g ln fs hfl
    simp only [frmZ, frmZC] at hb ⊢
    refine Spec.intro (n := 26) (rv := [.cell 6 27]) Try.func31 rfl rfl rfl (by simp) fun C hN hX => ?_
    refine AW.seq ?_
    apply AW.list
    apply Wk.bx 3 rfl rfl (lt_of_ble rfl)
    apply Wk.bx 4 rfl rfl (lt_of_ble rfl)
    apply Wk.bx 50 rfl rfl (lt_of_ble rfl)
    apply Wk.alc 6 [.int .i64 0, .int .i64 0, .slice none 0 0, .int .i64 0, .slice none 0 0, .bool false, .int .i64 0, .bool false, .int .i64 0, .bool false] ze27 rfl rfl (lt_of_ble rfl)
    refine Wk.nil ?_
    refine AW.seq (AW.seq ?_)
    apply AW.list
    apply Wk.ld (i := 3) 5 true ty24 rfl rfl (by conv => lhs; whnf) (lt_of_ble rfl)
    apply Wk.ld (i := 4) 10 true ty27 rfl rfl (by conv => lhs; whnf) (lt_of_ble rfl)
    apply Wk.dat (itxb hok) Try.func17 rfl rfl rfl rfl rfl (lt_of_ble rfl)
    apply Wk.un rfl (fun w => by simp [go_sem] <;> rfl) (lt_of_ble rfl)
    apply Wk.mv (by conv => lhs; whnf) (lt_of_ble rfl)
    apply Wk.goff 12 (ok_load 50 ty42) rfl rfl (by simp)
    apply Wk.goff 12 (ok_datw (hb.w rfl) Try.func73 rfl rfl) rfl rfl (by simp)
    apply Wk.goff 12 (ok_un _ _ _) rfl rfl (by simp)
    apply Wk.pckT rfl (by conv => lhs; whnf) (lt_of_ble rfl)
    refine Wk.nil ?_
    refine AW.cond rfl (fun _ => ?_) (fun hc => by cases hc)
    refine AW.seq ?_
    apply AW.list
    apply Wk.bld [.int .i64 0, .int .i64 0, .slice none 0 0, .int .i64 0, .slice none 0 0, .bool false, .int .i64 0, .bool false, .int .i64 0, .bool false] [(0, 1), (1, 1), (2, 1), (3, 1), (4, 1), (5, 1), (6, 1), (7, 1), (8, 1), (9, 1)] bl27 rfl (by conv => lhs; whnf) (lt_of_ble rfl)
    apply Wk.sto (i := 6) 10 true ty27 rfl rfl rfl rfl (Nat.le_of_ble_eq_true rfl) (lt_of_ble rfl)
    refine Wk.nil (AW.ret ?_)
    repeat (first | refine thenA_ret ?_ | refine inBlockA_ret ?_)
    exact RetQ.ret [] (.cons ⟨6, 0, _, _, _, rfl, rfl, ty27, rfl⟩ .nil) ⟨rfl, rfl⟩ none_kept
  · have hb := isByY hfl (hno.resolve_left (by rw [hok]; simp))
    simp only [frmZ, frmZC] at hb ⊢
    refine Spec.intro (n := 26) (rv := [.cell 6 27]) Try.func31 rfl rfl rfl (by simp) fun C hN hX => ?_
    refine AW.seq ?_
    apply AW.list
    apply Wk.bx 3 rfl rfl (lt_of_ble rfl)
    apply Wk.bx 4 rfl rfl (lt_of_ble rfl)
    apply Wk.bx 50 rfl rfl (lt_of_ble rfl)
    apply Wk.alc 6 [.int .i64 0, .int .i64 0, .slice none 0 0, .int .i64 0, .slice none 0 0, .bool false, .int .i64 0, .bool false, .int .i64 0, .bool false] ze27 rfl rfl (lt_of_ble rfl)
    refine Wk.nil ?_
    refine AW.seq (AW.seq ?_)
    apply AW.list
    apply Wk.ld (i := 3) 5 true ty24 rfl rfl (by conv => lhs; whnf) (lt_of_ble rfl)
    apply Wk.ld (i := 4) 10 true ty27 rfl rfl (by conv => lhs; whnf) (lt_of_ble rfl)
    apply Wk.dat (itxb hok) Try.func17 rfl rfl rfl rfl rfl (lt_of_ble rfl)
    apply Wk.un rfl (fun w => by simp [go_sem] <;> rfl) (lt_of_ble rfl)
    apply Wk.mv (by conv => lhs; whnf) (lt_of_ble rfl)
    apply Wk.gon 12 rfl rfl
    apply Wk.ld (i := 50) 9 true ty42 rfl rfl (by conv => lhs; whnf) (lt_of_ble rfl)
    apply Wk.gon 12 rfl rfl
    apply Wk.dat hb Try.func73 rfl rfl rfl rfl rfl (lt_of_ble rfl)
    apply Wk.gon 12 rfl rfl
    apply Wk.un rfl (fun w => by simp [go_sem] <;> rfl) (lt_of_ble rfl)
    apply Wk.pckF rfl (by conv => lhs; whnf) (lt_of_ble rfl)
    refine Wk.nil ?_
    refine AW.cond rfl (fun _ => ?_) (fun hc => by cases hc)
    refine AW.seq ?_
    apply AW.list
    apply Wk.bld [.int .i64 0, .int .i64 0, .slice none 0 0, .int .i64 0, .slice none 0 0, .bool false, .int .i64 0, .bool false, .int .i64 0, .bool false] [(0, 1), (1, 1), (2, 1), (3, 1), (4, 1), (5, 1), (6, 1), (7, 1), (8, 1), (9, 1)] bl27 rfl (by conv => lhs; whnf) (lt_of_ble rfl)
    apply Wk.sto (i := 6) 10 true ty27 rfl rfl rfl rfl (Nat.le_of_ble_eq_true rfl) (lt_of_ble rfl)
    refine Wk.nil (AW.ret ?_)
    repeat (first | refine thenA_ret ?_ | refine inBlockA_ret ?_)
    exact RetQ.ret [] (.cons ⟨6, 0, _, _, _, rfl, rfl, ty27, rfl⟩ .nil) ⟨rfl, rfl⟩ none_kept
set_option maxHeartbeats 4000000 in
set_option maxRecDepth 100000 in
theorem itxhearN (m0 w0 p0 u0 y0 n a : Int) (fl : List Dat) (s : Int) (qu : List Dat) (q : Bool) (t : Int) (hh : Bool) (c : Int) (dd : Bool) (a' : Int) (h' : Nat) (s' : Int) (q' : Bool) (t' : Int) (hh' : Bool) (c' : Int) (d' : Bool) (k sq ack : Int) (pl fi : Bool) (sy g ln : Int) (fs : List (Fin 256)) (hfl : fs.length ≤ 2000000) (hok : txOkB ⟨m0, w0, p0, u0, y0⟩ ⟨n, a, fl, s, qu, q, t, hh, c, dd⟩ = true) (hfr : ((k == 1 || k == 2) && frmB k sq ack pl fi sy g ln fs.length) = true) (hh4 : h' ≤ 4) (hn4 : ([] : List Dat).length ≤ 4) (hL : ∀ i d, ([] : List Dat)[i]? = some d → ringF fl ((h' + i) % 4) = sl (some d)) (ha' : 0 ≤ a' ∧ a' < 8) (hnx : (a' + (([] : List Dat).length : Int)) % 8 = n)
    (ht : Spec Try.prog 74 [.ptr 27 0, frmZ k sq ack pl fi sy g ln (fbytes fs)] (sndB (sndC m0 w0 p0 u0 y0 a (ringF fl) 0 (fl.length : Int) s qu.length q t hh c dd) qu.length qu) (fun r bs => r = .tup [] ∧ bs = sndB (sndC m0 w0 p0 u0 y0 a' (ringF fl) (h' : Int) (([] : List Dat).length : Int) s' qu.length q' t' hh' c' d') qu.length qu)) :
    DataOk Try.prog 31 [cfgA m0 w0 p0 u0 y0, txA ⟨n, a, fl, s, qu, q, t, hh, c, dd⟩, frmZ k sq ack pl fi sy g ln (fbytes fs)] (txA ⟨n, a', [], s', qu, q', t', hh', c', d'⟩) := by
  have h4 := txOk_four hok
  have hb := isByY hfl hfr
  simp only at h4
  have cn := inew m0 w0 p0 u0 y0 ⟨n, a, fl, s, qu, q, t, hh, c, dd⟩ h4.1 h4.2
  simp only at cn
  have cs := istateN m0 w0 p0 u0 y0 a' (ringF fl) s' qu.length q' t' hh' c' d' qu h' hh4 hn4 hL ha'
  rw [hnx] at cs
  simp only [frmZ, frmZC] at hb ht ⊢
  refine Spec.intro (n := 26) (rv := [.cell 6 27]) Try.func31 rfl rfl rfl (by simp) fun C hN hX => ?_
  refine AW.seq ?_
  apply AW.list
  apply Wk.bx 3 rfl rfl (lt_of_ble rfl)
  apply Wk.bx 4 rfl rfl (lt_of_ble rfl)
  apply Wk.bx 50 rfl rfl (lt_of_ble rfl)
  apply Wk.alc 6 [.int .i64 0, .int .i64 0, .slice none 0 0, .int .i64 0, .slice none 0 0, .bool false, .int .i64 0, .bool false, .int .i64 0, .bool false] ze27 rfl rfl (lt_of_ble rfl)
  refine Wk.nil ?_
  refine AW.seq (AW.seq ?_)
  apply AW.list
  apply Wk.ld (i := 3) 5 true ty24 rfl rfl (by conv => lhs; whnf) (lt_of_ble rfl)
  apply Wk.ld (i := 4) 10 true ty27 rfl rfl (by conv => lhs; whnf) (lt_of_ble rfl)
  apply Wk.dat (itxb hok) Try.func17 rfl rfl rfl rfl rfl (lt_of_ble rfl)
  apply Wk.un rfl (fun w => by simp [go_sem] <;> rfl) (lt_of_ble rfl)
  apply Wk.mv (by conv => lhs; whnf) (lt_of_ble rfl)
  apply Wk.gon 12 rfl rfl
  apply Wk.ld (i := 50) 9 true ty42 rfl rfl (by conv => lhs; whnf) (lt_of_ble rfl)
  apply Wk.gon 12 rfl rfl
  apply Wk.dat hb Try.func73 rfl rfl rfl rfl rfl (lt_of_ble rfl)
  apply Wk.gon 12 rfl rfl
  apply Wk.un rfl (fun w => by simp [go_sem] <;> rfl) (lt_of_ble rfl)
  apply Wk.pckF rfl (by conv => lhs; whnf) (lt_of_ble rfl)
  refine Wk.nil ?_
  refine AW.cond rfl (fun hc => by cases hc) (fun _ => AW.skip (thenA_normal ?_))
  refine AW.seq ?_
  apply AW.list
  apply Wk.ld (i := 3) 5 true ty24 rfl rfl (by conv => lhs; whnf) (lt_of_ble rfl)
  apply Wk.ld (i := 4) 10 true ty27 rfl rfl (by conv => lhs; whnf) (lt_of_ble rfl)
  apply Wk.cal [] [27, 66] cn (in_snd _ rfl _ _ _ _ _ _ _ _ _ _ _ _ _ _ _ _ _ _) ⟨_, _, rfl, rfl⟩ Try.func51 rfl rfl rfl rfl (by simp; exact ⟨rfl, rfl⟩) rfl (fun i hi => by cases hi) (lt_of_ble rfl)
  rintro r bs' ⟨rfl, rfl⟩
  apply Wk.asg (by conv => lhs; whnf) (lt_of_ble rfl)
  refine Wk.nil ?_
  refine AW.seq ?_
  apply AW.list
  apply Wk.mv (by conv => lhs; whnf) (lt_of_ble rfl)
  apply Wk.ld (i := 50) 9 true ty42 rfl rfl (by conv => lhs; whnf) (lt_of_ble rfl)
  apply Wk.cal [27, 66] [] ht (in_snd _ rfl _ _ _ _ _ _ _ _ _ _ _ _ _ _ _ _ _ _) ⟨_, _, rfl, rfl⟩ Try.func74 rfl rfl rfl rfl (fun i hi => by cases hi) rfl (two_in rfl (by exact within_parts _)) (lt_of_ble rfl)
  rintro r bs' ⟨rfl, rfl⟩
  refine Wk.nil ?_
  refine AW.seq ?_
  apply AW.list
  apply Wk.mv (by conv => lhs; whnf) (lt_of_ble rfl)
  apply Wk.calr [27, 66] [17] cs (in_sndF _ rfl _ _ _ _ _ _ _ _ _ _ _ _ _ _ _ _ _ _ []) (by rintro r bs' ⟨rfl, rfl⟩; exact keep2) ⟨_, _, rfl, rfl⟩ Try.func53 rfl rfl rfl rfl (by simp; rfl) rfl (two_in rfl (by exact within_parts _)) (lt_of_ble rfl)
  rintro r bs' ⟨rfl, rfl⟩
  apply Wk.sto (i := 6) 10 true ty27 rfl rfl rfl rfl (Nat.le_of_ble_eq_true rfl) (lt_of_ble rfl)
  refine Wk.nil ?_
  refine AW.thawc (j := 6) (c := 4) (i := 66) _ rfl rfl rfl (asData_parts qu) hX.none ?_
  refine AW.nrmb (j := 6) rfl ?_
  refine AW.ret ?_
  exact RetQ.ret [] (.cons ⟨6, 0, _, _, _, rfl, rfl, ty27, rfl⟩ .nil) ⟨rfl, rfl⟩ none_kept
set_option maxHeartbeats 4000000 in
set_option maxRecDepth 100000 in
theorem itxhearO (m0 w0 p0 u0 y0 n a : Int) (fl : List Dat) (s : Int) (qu : List Dat) (q : Bool) (t : Int) (hh : Bool) (c : Int) (dd : Bool) (a' : Int) (h' : Nat) (fl' : List Dat) (hne : fl' ≠ []) (s' : Int) (q' : Bool) (t' : Int) (hh' : Bool) (c' : Int) (d' : Bool) (k sq ack : Int) (pl fi : Bool) (sy g ln : Int) (fs : List (Fin 256)) (hfl : fs.length ≤ 2000000) (hok : txOkB ⟨m0, w0, p0, u0, y0⟩ ⟨n, a, fl, s, qu, q, t, hh, c, dd⟩ = true) (hfr : ((k == 1 || k == 2) && frmB k sq ack pl fi sy g ln fs.length) = true) (hh4 : h' ≤ 4) (hn4 : (fl' : List Dat).length ≤ 4) (hL : ∀ i d, (fl' : List Dat)[i]? = some d → ringF fl ((h' + i) % 4) = sl (some d)) (ha' : 0 ≤ a' ∧ a' < 8) (hnx : (a' + ((fl' : List Dat).length : Int)) % 8 = n)
    (ht : Spec Try.prog 74 [.ptr 27 0, frmZ k sq ack pl fi sy g ln (fbytes fs)] (sndB (sndC m0 w0 p0 u0 y0 a (ringF fl) 0 (fl.length : Int) s qu.length q t hh c dd) qu.length qu) (fun r bs => r = .tup [] ∧ bs = sndB (sndC m0 w0 p0 u0 y0 a' (ringF fl) (h' : Int) ((fl' : List Dat).length : Int) s' qu.length q' t' hh' c' d') qu.length qu)) :
    DataOk Try.prog 31 [cfgA m0 w0 p0 u0 y0, txA ⟨n, a, fl, s, qu, q, t, hh, c, dd⟩, frmZ k sq ack pl fi sy g ln (fbytes fs)] (txA ⟨n, a', fl', s', qu, q', t', hh', c', d'⟩) := by
  have h4 := txOk_four hok
  have hb := isByY hfl hfr
  simp only at h4
  have cn := inew m0 w0 p0 u0 y0 ⟨n, a, fl, s, qu, q, t, hh, c, dd⟩ h4.1 h4.2
  simp only at cn
  have cs := istateO m0 w0 p0 u0 y0 a' (ringF fl) s' qu.length q' t' hh' c' d' qu h' fl' hne hh4 hn4 hL ha'
  rw [hnx] at cs
  simp only [frmZ, frmZC] at hb ht ⊢
  have ev : flV fl' = .own 17 (fl'.length - 1) := if_neg hne
  have ex : flX fl' = [(17, .own (fl'.length - 1) 47 3 (piecesA fl'))] := if_neg hne
  have ip : PostIn [27, 66, 17] (fun r bs => r = stA0 n a' (flV fl') s' qu.length q' t' hh' c' d' ∧ bs = sndB (sndC m0 w0 p0 u0 y0 a' (ringF fl) (h' : Int) ((fl' : List Dat).length : Int) s' qu.length q' t' hh' c' d') qu.length qu ++ flX fl') := in_sndF _ (by rw [ev]; rfl) _ _ _ _ _ _ _ _ _ _ _ _ _ _ _ _ _ _ _
  rw [ev, ex] at cs ip
  refine Spec.intro (n := 26) (rv := [.cell 6 27]) Try.func31 rfl rfl rfl (by simp) fun C hN hX => ?_
  refine AW.seq ?_
  apply AW.list
  apply Wk.bx 3 rfl rfl (lt_of_ble rfl)
  apply Wk.bx 4 rfl rfl (lt_of_ble rfl)
  apply Wk.bx 50 rfl rfl (lt_of_ble rfl)
  apply Wk.alc 6 [.int .i64 0, .int .i64 0, .slice none 0 0, .int .i64 0, .slice none 0 0, .bool false, .int .i64 0, .bool false, .int .i64 0, .bool false] ze27 rfl rfl (lt_of_ble rfl)
  refine Wk.nil ?_
  refine AW.seq (AW.seq ?_)
  apply AW.list
  apply Wk.ld (i := 3) 5 true ty24 rfl rfl (by conv => lhs; whnf) (lt_of_ble rfl)
  apply Wk.ld (i := 4) 10 true ty27 rfl rfl (by conv => lhs; whnf) (lt_of_ble rfl)
  apply Wk.dat (itxb hok) Try.func17 rfl rfl rfl rfl rfl (lt_of_ble rfl)
  apply Wk.un rfl (fun w => by simp [go_sem] <;> rfl) (lt_of_ble rfl)
  apply Wk.mv (by conv => lhs; whnf) (lt_of_ble rfl)
  apply Wk.gon 12 rfl rfl
  apply Wk.ld (i := 50) 9 true ty42 rfl rfl (by conv => lhs; whnf) (lt_of_ble rfl)
  apply Wk.gon 12 rfl rfl
  apply Wk.dat hb Try.func73 rfl rfl rfl rfl rfl (lt_of_ble rfl)
  apply Wk.gon 12 rfl rfl
  apply Wk.un rfl (fun w => by simp [go_sem] <;> rfl) (lt_of_ble rfl)
  apply Wk.pckF rfl (by conv => lhs; whnf) (lt_of_ble rfl)
  refine Wk.nil ?_
  refine AW.cond rfl (fun hc => by cases hc) (fun _ => AW.skip (thenA_normal ?_))
  refine AW.seq ?_
  apply AW.list
  apply Wk.ld (i := 3) 5 true ty24 rfl rfl (by conv => lhs; whnf) (lt_of_ble rfl)
  apply Wk.ld (i := 4) 10 true ty27 rfl rfl (by conv => lhs; whnf) (lt_of_ble rfl)
  apply Wk.cal [] [27, 66] cn (in_snd _ rfl _ _ _ _ _ _ _ _ _ _ _ _ _ _ _ _ _ _) ⟨_, _, rfl, rfl⟩ Try.func51 rfl rfl rfl rfl (by simp; exact ⟨rfl, rfl⟩) rfl (fun i hi => by cases hi) (lt_of_ble rfl)
  rintro r bs' ⟨rfl, rfl⟩
  apply Wk.asg (by conv => lhs; whnf) (lt_of_ble rfl)
  refine Wk.nil ?_
  refine AW.seq ?_
  apply AW.list
  apply Wk.mv (by conv => lhs; whnf) (lt_of_ble rfl)
  apply Wk.ld (i := 50) 9 true ty42 rfl rfl (by conv => lhs; whnf) (lt_of_ble rfl)
  apply Wk.cal [27, 66] [] ht (in_snd _ rfl _ _ _ _ _ _ _ _ _ _ _ _ _ _ _ _ _ _) ⟨_, _, rfl, rfl⟩ Try.func74 rfl rfl rfl rfl (fun i hi => by cases hi) rfl (two_in rfl (by exact within_parts _)) (lt_of_ble rfl)
  rintro r bs' ⟨rfl, rfl⟩
  refine Wk.nil ?_
  refine AW.seq ?_
  apply AW.list
  apply Wk.mv (by conv => lhs; whnf) (lt_of_ble rfl)
  apply Wk.calr [27, 66] [17] cs ip (by rintro r bs' ⟨rfl, rfl⟩; exact keep2) ⟨_, _, rfl, rfl⟩ Try.func53 rfl rfl rfl rfl (by simp; rfl) rfl (two_in rfl (by exact within_parts _)) (lt_of_ble rfl)
  rintro r bs' ⟨rfl, rfl⟩
  apply Wk.sto (i := 6) 10 true ty27 rfl rfl rfl rfl (Nat.le_of_ble_eq_true rfl) (lt_of_ble rfl)
  refine Wk.nil ?_
  refine AW.thawc (j := 6) (c := 4) (i := 66) _ rfl rfl rfl (asData_parts qu) hX.none ?_
  refine AW.thawc (j := 6) (c := 2) (i := 17) _ rfl rfl rfl (asData_parts fl') hX.none ?_
  refine AW.ret ?_
  exact RetQ.ret [] (.cons ⟨6, 0, _, _, _, rfl, rfl, ty27, rfl⟩ .nil) ⟨rfl, rfl⟩ none_kept
/-- What the frame leaves, told field by field. -/
theorem hearX_far (n a : Int) (fl : List Dat) (s : Int) (qu : List Dat) (q : Bool) (t : Int) (hh : Bool) (c : Int) (k ack : Int) (fi : Bool) (sy : Int) (j : Nat) (hj : farF a ack = (j : Int)) (ho : (j : Int) ≤ (fl.length : Int)) (hk : k = 1 ∨ k = 2) :
    hearX ⟨n, a, fl, s, qu, q, t, hh, c, false⟩ k ack fi sy = ⟨n, ack, fl.drop j, (rest3 k sy fi (max 0 (s - (j : Int))) q t hh).1, qu, (rest3 k sy fi (max 0 (s - (j : Int))) q t hh).2.1, (rest3 k sy fi (max 0 (s - (j : Int))) q t hh).2.2.1, (rest3 k sy fi (max 0 (s - (j : Int))) q t hh).2.2.2, c + (j : Int), false⟩ := by
  have hno : ¬ (fl.length : Int) < (j : Int) := by omega
  simp only [hearX, ackX, hj, Int.toNat_natCast, if_neg hno]
  generalize max 0 (s - (j : Int)) = s1
  rcases hk with rfl | rfl
  · cases fi <;> cases q <;> simp [said1, said2, said3, rest3]
  · by_cases hy : sy = 1
    · subst hy
      cases fi <;> cases q <;> simp [said1, said2, said3, rest3]
    · cases fi <;> cases q <;> simp [said1, said2, said3, rest3, hy]
theorem frm_ack {k sq ack : Int} {pl fi : Bool} {sy g ln : Int} {z : Nat} (h : frmB k sq ack pl fi sy g ln z = true) : 0 ≤ ack ∧ ack ≤ 7 := by
  simp only [frmB, decide_eq_true_eq] at h
  omega
set_option maxHeartbeats 4000000 in
set_option maxRecDepth 100000 in
theorem itxhear_ok (m0 w0 p0 u0 y0 : Int) (x : TX) (k sq ack : Int) (pl fi : Bool) (sy g ln : Int) (fs : List (Fin 256)) (hfl : fs.length ≤ 2000000) (hok : txOkB ⟨m0, w0, p0, u0, y0⟩ x = true) (hk : k = 1 ∨ k = 2) (hfr : frmB k sq ack pl fi sy g ln fs.length = true) :
    DataOk Try.prog 31 [cfgA m0 w0 p0 u0 y0, txA x, frmZ k sq ack pl fi sy g ln (fbytes fs)] (txA (hearX x k ack fi sy)) := by
  have f := txOk_facts hok
  have h4 := (txOk_four hok).1
  have hn := txOk_next hok
  have hs0 := f.2.2.2.2.2.2.2.2.2.1
  have hc0 := f.2.2.2.2.2.2.2.2.2.2.2.2.1
  have hack := frm_ack hfr
  have hby : ((k == 1 || k == 2) && frmB k sq ack pl fi sy g ln fs.length) = true := by rcases hk with rfl | rfl <;> simp [hfr]
  obtain ⟨n, a, fl, s, qu, q, t, hh, c, dd⟩ := x
  simp only at h4 hn hs0 hc0
  cases dd
  case true =>
    have hx : hearX ⟨n, a, fl, s, qu, q, t, hh, c, true⟩ k ack fi sy = ⟨n, a, fl, s, qu, q, t, hh, c, true⟩ := if_pos rfl
    rw [hx]
    have ht := ihearD m0 w0 p0 u0 y0 a (ringF fl) (fl.length : Int) s qu.length q t hh c qu k sq ack pl fi sy g ln (fbytes fs)
    by_cases h0 : fl = []
    · subst h0
      exact itxhearN m0 w0 p0 u0 y0 n a [] s qu q t hh c true a 0 s q t hh c true k sq ack pl fi sy g ln fs hfl hok hby (by omega) h4 (ring_at h4) ⟨hn.2.1, hn.2.2⟩ hn.1 ht
    · exact itxhearO m0 w0 p0 u0 y0 n a fl s qu q t hh c true a 0 fl h0 s q t hh c true k sq ack pl fi sy g ln fs hfl hok hby (by omega) h4 (ring_at h4) ⟨hn.2.1, hn.2.2⟩ hn.1 ht
  case false =>
    have hfar : farF a ack = (ack - a) % 8 := farF_in (by omega) (by omega)
    obtain ⟨j, hj⟩ : ∃ j : Nat, (ack - a) % 8 = (j : Int) := ⟨((ack - a) % 8).toNat, by omega⟩
    by_cases ho : (j : Int) ≤ (fl.length : Int)
    · have hx := hearX_far n a fl s qu q t hh c k ack fi sy j (hfar.trans hj) ho hk
      rw [hx]
      have ht := ihearG m0 w0 p0 u0 y0 a (ringF fl) (fl.length : Int) s qu.length q t hh c qu k sq ack pl fi sy g ln (fbytes fs) j (by omega) (by omega) ⟨hn.2.1, hn.2.2⟩ (by omega) hj ho (by omega) (by omega) hk
      have ea : (a + (j : Int)) % 8 = ack := by omega
      have el : (fl.length : Int) - (j : Int) = ((fl.drop j).length : Int) := by rw [List.length_drop]; omega
      rw [ea, el] at ht
      have hL : ∀ i d, (fl.drop j)[i]? = some d → ringF fl ((j % 4 + i) % 4) = sl (some d) := by
        intro i d h
        rw [List.getElem?_drop] at h
        have hi := (List.getElem?_eq_some_iff.1 h).1
        rw [show (j % 4 + i) % 4 = j + i by omega, ringF, h]
      have hnx : (ack + ((fl.drop j).length : Int)) % 8 = n := by rw [← el]; omega
      have hd4 : (fl.drop j).length ≤ 4 := by rw [List.length_drop]; omega
      generalize rest3 k sy fi (max 0 (s - (j : Int))) q t hh = R at ht ⊢
      generalize fl.drop j = fl' at ht hL hnx hd4 ⊢
      by_cases h0 : fl' = []
      · subst h0
        exact itxhearN m0 w0 p0 u0 y0 n a fl s qu q t hh c false ack (j % 4) R.1 R.2.1 R.2.2.1 R.2.2.2 (c + (j : Int)) false k sq ack pl fi sy g ln fs hfl hok hby (by omega) hd4 hL (by omega) hnx ht
      · exact itxhearO m0 w0 p0 u0 y0 n a fl s qu q t hh c false ack (j % 4) fl' h0 R.1 R.2.1 R.2.2.1 R.2.2.2 (c + (j : Int)) false k sq ack pl fi sy g ln fs hfl hok hby (by omega) hd4 hL (by omega) hnx ht
    · have hx : hearX ⟨n, a, fl, s, qu, q, t, hh, c, false⟩ k ack fi sy = ⟨n, a, fl, s, qu, q, t, hh, c, true⟩ := by
        have hlt : (fl.length : Int) < (j : Int) := by omega
        have e1 : ackX ⟨n, a, fl, s, qu, q, t, hh, c, false⟩ ack = ⟨n, a, fl, s, qu, q, t, hh, c, true⟩ := by
          unfold ackX
          rw [if_pos (by simp only [hfar, hj]; exact hlt)]
        simp [hearX, e1]
      rw [hx]
      have ht := ihearO m0 w0 p0 u0 y0 a (ringF fl) (fl.length : Int) s qu.length q t hh c qu k sq ack pl fi sy g ln (fbytes fs) ⟨hn.2.1, hn.2.2⟩ (by omega) (by omega)
      by_cases h0 : fl = []
      · subst h0
        exact itxhearN m0 w0 p0 u0 y0 n a [] s qu q t hh c false a 0 s q t hh c true k sq ack pl fi sy g ln fs hfl hok hby (by omega) h4 (ring_at h4) ⟨hn.2.1, hn.2.2⟩ hn.1 ht
      · exact itxhearO m0 w0 p0 u0 y0 n a fl s qu q t hh c false a 0 fl h0 s q t hh c true k sq ack pl fi sy g ln fs hfl hok hby (by omega) h4 (ring_at h4) ⟨hn.2.1, hn.2.2⟩ hn.1 ht
end Go.Proofs.Ytdojkmjamilllaa

/- A frame, drawn; over what values read as. -/
namespace Go.Proofs.Ytdojkmjamilllaa
open Go
/-- A frame, drawn: its bytes a list of the call's own, by the name 7. -/
structure FO where
  zs : List (Fin 256)
  p : Nat
  k : Int
  s : Int
  c : Int
  pl : Bool
  f : Bool
  y : Int
  g : Int
  l : Int
  q : Nat
  bs : List (Fin 256)
def Sm (x : Int) : Prop := -1000 ≤ x ∧ x ≤ 1000
def frmO (k s c : Int) (p f : Bool) (y g l : Int) (a : A) : List A := [.d (.v (.int .i64 k)), .d (.v (.int .i64 s)), .d (.v (.int .i64 c)), .d (.v (.bool p)), .d (.v (.bool f)), .d (.v (.int .i64 y)), .d (.v (.int .i64 g)), .d (.v (.int .i64 l)), a]
def frmZ0 : List A := frmO 0 0 0 false false 0 0 0 (.d (.v (.slice none 0 0)))
def frmA9 (k s c : Int) (p f : Bool) (y g l : Int) (bs : List (Fin 256)) : A := .agg (frmO k s c p f y g l (.d (fbytes bs)))
def frmPost (_ : List A) (r : A) : Prop := ∃ (k s c : Int) (p f : Bool) (y g l : Int) (bs : List (Fin 256)), r = frmA9 k s c p f y g l bs ∧ Sm k ∧ Sm s ∧ Sm c ∧ Sm y ∧ Sm g ∧ Sm l ∧ bs.length ≤ 17
def FO.ok (p m n : Nat) (x : FO) : Prop := x.p ≤ p + m ∧ Sm x.k ∧ Sm x.s ∧ Sm x.c ∧ Sm x.y ∧ Sm x.g ∧ Sm x.l ∧ x.bs.length ≤ n
def FO.inv (n : Int) (x : FO) : St := St.of 136 [(0, .ptr 0 0), (1, .d (.v (.int .i64 n))), (4, .ptr 4 0), (5, .ptr 5 0)] [(0, rdr x.zs x.p), (4, .var frmZ0), (5, .var (frmO x.k x.s x.c x.pl x.f x.y x.g x.l (.own 7 x.q))), (7, ownB x.q x.bs)]
set_option maxHeartbeats 4000000 in
set_option maxRecDepth 100000 in
theorem frame_ok : DrawOk Try.prog 72 (fun rest => ∃ n : Int, rest = [.d (.v (.int .i64 n))] ∧ n ≤ 1000000 ∧ -1000000 ≤ n) frmPost 3020 := by
  refine DrawOk.zero ?_ ?_ ?_ ?_
  · rintro zs p rest ⟨n, rfl, hn, hn'⟩ hp
    refine Spec.intro (n := 136) (rv := [.cell 4 42]) Try.func72 rfl rfl rfl (by simp) fun C hN hX => ?_
    have fin : ∀ (x : FO) (σ : St), σ.n = 136 → σ.t 0 = .ptr 0 0 → σ.t 1 = .d (.v (.int .i64 n)) → σ.t 4 = .ptr 4 0 → σ.t 5 = .ptr 5 0 → σ.b 0 = rdr x.zs x.p → σ.b 4 = .var frmZ0 → σ.b 5 = .var (frmO x.k x.s x.c x.pl x.f x.y x.g x.l (.own 7 x.q)) → σ.b 7 = ownB x.q x.bs →
        ∀ a w, Rel C σ a w → Rel C (x.inv n) a w := fun x σ h0 h1 h2 h3 h4 h5 h6 h7 h8 a w => Rel.keep ⟨h0.symm, .cons h1 rfl (.cons h2 rfl (.cons h3 rfl (.cons h4 rfl .nil))), .cons h5 rfl (.cons h6 rfl (.cons h7 rfl (.cons h8 ownB_in .nil))), hN.mono (by simp [keys])⟩
    refine AW.seq ?_
    apply AW.list
    apply Wk.alc 4 [.int .i64 0, .int .i64 0, .int .i64 0, .bool false, .bool false, .int .i64 0, .int .i64 0, .int .i64 0, .slice none 0 0] ze42 rfl rfl (lt_of_ble rfl)
    refine Wk.nil ?_
    refine AW.seq ?_
    apply AW.list
    apply Wk.mv (by conv => lhs; whnf) (lt_of_ble rfl)
    apply Wk.drw 0 pick_ok Try.func65 rfl rfl rfl rfl ⟨_, rfl, by omega⟩ (by omega) rfl (lt_of_ble rfl)
    rintro r1 zs1 p1 ⟨k1, rfl, hk1⟩ hp1
    replace hk1 := hk1 _ rfl
    apply Wk.addi rfl rfl (by omega) (lt_of_ble rfl)
    apply Wk.bld [.int .i64 0, .int .i64 0, .int .i64 0, .bool false, .bool false, .int .i64 0, .int .i64 0, .int .i64 0, .slice none 0 0] [(0, 1), (1, 1), (2, 1), (3, 1), (4, 1), (5, 1), (6, 1), (7, 1), (8, 1)] bl42 rfl (by conv => lhs; whnf) (lt_of_ble rfl)
    apply Wk.alc 5 [.int .i64 0, .int .i64 0, .int .i64 0, .bool false, .bool false, .int .i64 0, .int .i64 0, .int .i64 0, .slice none 0 0] ze42 rfl rfl (lt_of_ble rfl)
    apply Wk.sto (i := 5) 9 true ty42 rfl rfl rfl rfl (Nat.le_of_ble_eq_true rfl) (lt_of_ble rfl)
    refine Wk.nil ?_
    have hk1' : k1 < 4 := by omega
    refine AW.via (FO.inv n) (FO.ok p 3010 8) ?_ ?_
    · refine AW.seq ?_
      apply AW.list
      apply Wk.fad 0 0 false fd42_0 rfl (lt_of_ble rfl)
      apply Wk.ld (i := 5) 1 false ty3 rfl rfl (by conv => lhs; whnf) (lt_of_ble rfl)
      refine Wk.nil (AW.block ?_)
      refine AW.seq ?_
      apply AW.list
      apply Wk.bin rfl rfl (fun w => by simp [go_sem] <;> rfl) (lt_of_ble rfl)
      apply Wk.asg (by conv => lhs; whnf) (lt_of_ble rfl)
      refine Wk.nil ?_
      refine AW.cond rfl (fun hc => ?_) (fun hc => ?_)
      · refine AW.seq ?_
        apply AW.list
        apply Wk.mv (by conv => lhs; whnf) (lt_of_ble rfl)
        apply Wk.drx [7] partO_ok Try.func87 rfl rfl rfl rfl rfl (by omega) rfl (by simp; rfl) (lt_of_ble rfl)
        rintro r2 zs2 p2 ex ⟨sg, ln, q, bs, rfl, rfl, hs1, hs2, hl1, hl2, hbl⟩ hp2
        apply Wk.alc 6 [.int .i64 0, .int .i64 0, .slice none 0 0] ze47 rfl rfl (lt_of_ble rfl)
        apply Wk.sto (i := 6) 3 true ty47 rfl rfl rfl rfl (Nat.le_of_ble_eq_true rfl) (lt_of_ble rfl)
        refine Wk.nil ?_
        apply AW.draw (hm := hmix) (cs := _)
        · apply Wk.mv (by conv => lhs; whnf) (lt_of_ble rfl)
          apply Wk.drw 0 pick_ok Try.func65 rfl rfl rfl rfl ⟨_, rfl, by omega⟩ (by omega) rfl (lt_of_ble rfl)
          rintro r3 zs3 p3 ⟨k3, rfl, hk3⟩ hp3
          replace hk3 := hk3 _ rfl
          apply Wk.mv (by conv => lhs; whnf) (lt_of_ble rfl)
          apply Wk.drw 0 pick_ok Try.func65 rfl rfl rfl rfl ⟨_, rfl, by omega⟩ (by omega) rfl (lt_of_ble rfl)
          rintro r4 zs4 p4 ⟨k4, rfl, hk4⟩ hp4
          replace hk4 := hk4 _ rfl
          apply Wk.mv (by conv => lhs; whnf) (lt_of_ble rfl)
          apply Wk.drw 0 pick_ok Try.func65 rfl rfl rfl rfl ⟨_, rfl, by omega⟩ (by omega) rfl (lt_of_ble rfl)
          rintro r5 zs5 p5 ⟨k5, rfl, hk5⟩ hp5
          apply Wk.bin rfl rfl (fun w => by simp [go_sem] <;> rfl) (lt_of_ble rfl)
          apply Wk.fad 0 0 false fd47_0 rfl (lt_of_ble rfl)
          apply Wk.ld (i := 6) 1 false ty3 rfl rfl (by conv => lhs; whnf) (lt_of_ble rfl)
          apply Wk.fad 1 0 false fd47_1 rfl (lt_of_ble rfl)
          apply Wk.ld (i := 6) 1 false ty3 rfl rfl (by conv => lhs; whnf) (lt_of_ble rfl)
          apply Wk.fad 2 0 false fd47_2 rfl (lt_of_ble rfl)
          apply Wk.ld (i := 6) 1 false ty22 rfl rfl (by conv => lhs; whnf) (lt_of_ble rfl)
          apply Wk.bld [.int .i64 0, .int .i64 0, .int .i64 0, .bool false, .bool false, .int .i64 0, .int .i64 0, .int .i64 0, .slice none 0 0] [(0, 1), (1, 1), (2, 1), (3, 1), (4, 1), (5, 1), (6, 1), (7, 1), (8, 1)] bl42 rfl (by conv => lhs; whnf) (lt_of_ble rfl)
          apply Wk.sto (i := 5) 9 true ty42 rfl rfl rfl rfl (Nat.le_of_ble_eq_true rfl) (lt_of_ble rfl)
          refine Wk.nil (inBlockA_normal (thenA_normal ?_))
          exact ⟨⟨zs5, p5, 1, (k3 : Int), (k4 : Int), false, ((k5 : Int) == 0), 0, sg, ln, q, bs⟩, ⟨by simp only; omega, ⟨by simp only; omega, by simp only; omega⟩, ⟨by simp only; omega, by simp only; omega⟩, ⟨by simp only; omega, by simp only; omega⟩, ⟨by simp only; omega, by simp only; omega⟩, ⟨by simp only; omega, by simp only; omega⟩, ⟨by simp only; omega, by simp only; omega⟩, by simp only; omega⟩, fin _ _ rfl rfl rfl rfl rfl rfl rfl rfl rfl⟩
        · rfl
        · rfl
      · refine AW.seq ?_
        apply AW.list
        apply Wk.bin rfl rfl (fun w => by simp [go_sem] <;> rfl) (lt_of_ble rfl)
        apply Wk.asg (by conv => lhs; whnf) (lt_of_ble rfl)
        refine Wk.nil ?_
        refine AW.cond rfl (fun hc => ?_) (fun hc => ?_)
        · refine AW.seq ?_
          apply AW.list
          apply Wk.mv (by conv => lhs; whnf) (lt_of_ble rfl)
          apply Wk.drw 0 pick_ok Try.func65 rfl rfl rfl rfl ⟨_, rfl, by omega⟩ (by omega) rfl (lt_of_ble rfl)
          rintro r2 zs2 p2 ⟨k2, rfl, hk2⟩ hp2
          replace hk2 := hk2 _ rfl
          apply Wk.fad 2 0 false fd42_2 rfl (lt_of_ble rfl)
          apply Wk.sto (i := 5) 1 false ty3 rfl rfl rfl rfl (Nat.le_of_ble_eq_true rfl) (lt_of_ble rfl)
          refine Wk.nil ?_
          refine AW.seq ?_
          apply AW.list
          apply Wk.mv (by conv => lhs; whnf) (lt_of_ble rfl)
          apply Wk.drw 0 pick_ok Try.func65 rfl rfl rfl rfl ⟨_, rfl, by omega⟩ (by omega) rfl (lt_of_ble rfl)
          rintro r3 zs3 p3 ⟨k3, rfl, hk3⟩ hp3
          apply Wk.bin rfl rfl (fun w => by simp [go_sem] <;> rfl) (lt_of_ble rfl)
          apply Wk.fad 3 0 false fd42_3 rfl (lt_of_ble rfl)
          apply Wk.sto (i := 5) 1 false ty4 rfl rfl rfl rfl (Nat.le_of_ble_eq_true rfl) (lt_of_ble rfl)
          refine Wk.nil ?_
          refine AW.seq ?_
          cases hpl : ((k3 : Int) == 0)
          · apply AW.list
            apply Wk.fad 3 0 false fd42_3 rfl (lt_of_ble rfl)
            apply Wk.ld (i := 5) 1 false ty4 rfl rfl (by conv => lhs; whnf) (lt_of_ble rfl)
            apply Wk.un rfl (r := .bool true) (fun w => by simp [go_sem]) (lt_of_ble rfl)
            apply Wk.mv (by conv => lhs; whnf) (lt_of_ble rfl)
            apply Wk.gon 53 rfl rfl
            apply Wk.mv (by conv => lhs; whnf) (lt_of_ble rfl)
            apply Wk.gon 53 rfl rfl
            apply Wk.drw 0 pick_ok Try.func65 rfl rfl rfl rfl ⟨_, rfl, by omega⟩ (by omega) rfl (lt_of_ble rfl)
            rintro r4 zs4 p4 ⟨k4, rfl, hk4⟩ hp4
            apply Wk.gon 53 rfl rfl
            apply Wk.bin rfl rfl (fun w => by simp [go_sem] <;> rfl) (lt_of_ble rfl)
            apply Wk.pckT rfl (by conv => lhs; whnf) (lt_of_ble rfl)
            apply Wk.fad 4 0 false fd42_4 rfl (lt_of_ble rfl)
            apply Wk.sto (i := 5) 1 false ty4 rfl rfl rfl rfl (Nat.le_of_ble_eq_true rfl) (lt_of_ble rfl)
            refine Wk.nil ?_
            apply AW.list
            apply Wk.mv (by conv => lhs; whnf) (lt_of_ble rfl)
            apply Wk.drw 0 pick_ok Try.func65 rfl rfl rfl rfl ⟨_, rfl, by omega⟩ (by omega) rfl (lt_of_ble rfl)
            rintro r5 zs5 p5 ⟨k5, rfl, hk5⟩ hp5
            replace hk5 := hk5 _ rfl
            apply Wk.fad 5 0 false fd42_5 rfl (lt_of_ble rfl)
            apply Wk.sto (i := 5) 1 false ty3 rfl rfl rfl rfl (Nat.le_of_ble_eq_true rfl) (lt_of_ble rfl)
            refine Wk.nil (inBlockA_normal (thenA_normal ?_))
            exact ⟨⟨zs5, p5, 1 + (k1 : Int), 0, (k2 : Int), false, ((k4 : Int) == 0), (k5 : Int), 0, 0, 0, []⟩, ⟨by simp only; omega, ⟨by simp only; omega, by simp only; omega⟩, ⟨by simp only; omega, by simp only; omega⟩, ⟨by simp only; omega, by simp only; omega⟩, ⟨by simp only; omega, by simp only; omega⟩, ⟨by simp only; omega, by simp only; omega⟩, ⟨by simp only; omega, by simp only; omega⟩, by simp⟩, (fun a w hR => fin _ _ rfl rfl rfl rfl rfl rfl rfl rfl rfl a w (Rel.nilc (j := 5) (c := 8) (i' := 7) 5 1 rfl rfl rfl hR))⟩
          · apply AW.list
            apply Wk.fad 3 0 false fd42_3 rfl (lt_of_ble rfl)
            apply Wk.ld (i := 5) 1 false ty4 rfl rfl (by conv => lhs; whnf) (lt_of_ble rfl)
            apply Wk.un rfl (r := .bool false) (fun w => by simp [go_sem]) (lt_of_ble rfl)
            apply Wk.mv (by conv => lhs; whnf) (lt_of_ble rfl)
            apply Wk.goff 53 (ok_move _) rfl rfl (by decide)
            apply Wk.goff 53 (ok_drw 0 pick_ok Try.func65 rfl rfl) rfl rfl (by decide)
            apply Wk.goff 53 (ok_bin _ _ _ _ _) rfl rfl (by decide)
            apply Wk.pckF rfl (by conv => lhs; whnf) (lt_of_ble rfl)
            apply Wk.fad 4 0 false fd42_4 rfl (lt_of_ble rfl)
            apply Wk.sto (i := 5) 1 false ty4 rfl rfl rfl rfl (Nat.le_of_ble_eq_true rfl) (lt_of_ble rfl)
            refine Wk.nil ?_
            apply AW.list
            apply Wk.mv (by conv => lhs; whnf) (lt_of_ble rfl)
            apply Wk.drw 0 pick_ok Try.func65 rfl rfl rfl rfl ⟨_, rfl, by omega⟩ (by omega) rfl (lt_of_ble rfl)
            rintro r5 zs5 p5 ⟨k5, rfl, hk5⟩ hp5
            replace hk5 := hk5 _ rfl
            apply Wk.fad 5 0 false fd42_5 rfl (lt_of_ble rfl)
            apply Wk.sto (i := 5) 1 false ty3 rfl rfl rfl rfl (Nat.le_of_ble_eq_true rfl) (lt_of_ble rfl)
            refine Wk.nil (inBlockA_normal (thenA_normal ?_))
            exact ⟨⟨zs5, p5, 1 + (k1 : Int), 0, (k2 : Int), true, false, (k5 : Int), 0, 0, 0, []⟩, ⟨by simp only; omega, ⟨by simp only; omega, by simp only; omega⟩, ⟨by simp only; omega, by simp only; omega⟩, ⟨by simp only; omega, by simp only; omega⟩, ⟨by simp only; omega, by simp only; omega⟩, ⟨by simp only; omega, by simp only; omega⟩, ⟨by simp only; omega, by simp only; omega⟩, by simp⟩, (fun a w hR => fin _ _ rfl rfl rfl rfl rfl rfl rfl rfl rfl a w (Rel.nilc (j := 5) (c := 8) (i' := 7) 5 1 rfl rfl rfl hR))⟩
        · refine AW.seq ?_
          apply AW.list
          apply Wk.bin rfl rfl (fun w => by simp [go_sem] <;> rfl) (lt_of_ble rfl)
          apply Wk.asg (by conv => lhs; whnf) (lt_of_ble rfl)
          refine Wk.nil ?_
          refine AW.cond rfl (fun hc => ?_) (fun hc => ?_)
          · refine AW.seq ?_
            apply AW.list
            apply Wk.mv (by conv => lhs; whnf) (lt_of_ble rfl)
            apply Wk.drx [7] partO_ok Try.func87 rfl rfl rfl rfl rfl (by omega) rfl (by simp; rfl) (lt_of_ble rfl)
            rintro r2 zs2 p2 ex ⟨sg, ln, q, bs, rfl, rfl, hs1, hs2, hl1, hl2, hbl⟩ hp2
            apply Wk.alc 70 [.int .i64 0, .int .i64 0, .slice none 0 0] ze47 rfl rfl (lt_of_ble rfl)
            apply Wk.sto (i := 70) 3 true ty47 rfl rfl rfl rfl (Nat.le_of_ble_eq_true rfl) (lt_of_ble rfl)
            refine Wk.nil ?_
            apply AW.list
            apply Wk.fad 0 0 false fd47_0 rfl (lt_of_ble rfl)
            apply Wk.ld (i := 70) 1 false ty3 rfl rfl (by conv => lhs; whnf) (lt_of_ble rfl)
            apply Wk.fad 1 0 false fd47_1 rfl (lt_of_ble rfl)
            apply Wk.ld (i := 70) 1 false ty3 rfl rfl (by conv => lhs; whnf) (lt_of_ble rfl)
            apply Wk.fad 2 0 false fd47_2 rfl (lt_of_ble rfl)
            apply Wk.ld (i := 70) 1 false ty22 rfl rfl (by conv => lhs; whnf) (lt_of_ble rfl)
            apply Wk.bld [.int .i64 0, .int .i64 0, .int .i64 0, .bool false, .bool false, .int .i64 0, .int .i64 0, .int .i64 0, .slice none 0 0] [(0, 1), (1, 1), (2, 1), (3, 1), (4, 1), (5, 1), (6, 1), (7, 1), (8, 1)] bl42 rfl (by conv => lhs; whnf) (lt_of_ble rfl)
            apply Wk.sto (i := 5) 9 true ty42 rfl rfl rfl rfl (Nat.le_of_ble_eq_true rfl) (lt_of_ble rfl)
            refine Wk.nil (inBlockA_normal (thenA_normal ?_))
            exact ⟨⟨zs2, p2, 3, 0, 0, false, false, 0, sg, ln, q, bs⟩, ⟨by simp only; omega, ⟨by simp only; omega, by simp only; omega⟩, ⟨by simp only; omega, by simp only; omega⟩, ⟨by simp only; omega, by simp only; omega⟩, ⟨by simp only; omega, by simp only; omega⟩, ⟨by simp only; omega, by simp only; omega⟩, ⟨by simp only; omega, by simp only; omega⟩, by simp only; omega⟩, fin _ _ rfl rfl rfl rfl rfl rfl rfl rfl rfl⟩
          · apply AW.list
            apply Wk.mv (by conv => lhs; whnf) (lt_of_ble rfl)
            apply Wk.drw 0 pick_ok Try.func65 rfl rfl rfl rfl ⟨_, rfl, by omega⟩ (by omega) rfl (lt_of_ble rfl)
            rintro r2 zs2 p2 ⟨k2, rfl, hk2⟩ hp2
            replace hk2 := hk2 _ rfl
            apply Wk.addi rfl rfl (by omega) (lt_of_ble rfl)
            apply Wk.lst 17 1 false [.int .i64 0] un83 ty3 ze3 rfl rfl (by rfl) (by rfl) (by decide) (by decide) rfl rfl (all_len rfl) (lt_of_ble rfl)
            apply Wk.mv (by conv => lhs; whnf) (lt_of_ble rfl)
            apply Wk.drw 0 pick_ok Try.func65 rfl rfl rfl rfl ⟨_, rfl, by omega⟩ (by omega) rfl (lt_of_ble rfl)
            rintro r3 zs3 p3 ⟨k3, rfl, hk3⟩ hp3
            have hk3' : k3 < 2 := by have := hk3 2 rfl; omega
            obtain ⟨v, hv, hv1, hv2⟩ : ∃ v : Int, partA (List.flatten [[A.d (.v (.int .i64 (1 + (k2 : Int))))], [.d (.v (.int .i64 255))]]) (k3 * 1) 1 false = some (.d (.v (.int .i64 v))) ∧ -1000 ≤ v ∧ v ≤ 1000 := by
              rcases (show k3 = 0 ∨ k3 = 1 by omega) with rfl | rfl
              · exact ⟨_, rfl, by omega, by omega⟩
              · exact ⟨_, rfl, by omega, by omega⟩
            apply Wk.iado 17 1 false un83 ty3 rfl rfl rfl hk3' (lt_of_ble rfl)
            apply Wk.ldo (i := 17) 1 false ty3 rfl rfl hv (lt_of_ble rfl)
            apply Wk.fad 7 0 false fd42_7 rfl (lt_of_ble rfl)
            apply Wk.sto (i := 5) 1 false ty3 rfl rfl rfl rfl (Nat.le_of_ble_eq_true rfl) (lt_of_ble rfl)
            refine Wk.nil (inBlockA_normal (thenA_normal ?_))
            exact ⟨⟨zs3, p3, 1 + (k1 : Int), 0, 0, false, false, 0, 0, v, 0, []⟩, ⟨by simp only; omega, ⟨by simp only; omega, by simp only; omega⟩, ⟨by simp only; omega, by simp only; omega⟩, ⟨by simp only; omega, by simp only; omega⟩, ⟨by simp only; omega, by simp only; omega⟩, ⟨by simp only; omega, by simp only; omega⟩, ⟨by simp only; omega, by simp only; omega⟩, by simp⟩, (fun a w hR => fin _ _ rfl rfl rfl rfl rfl rfl rfl rfl rfl a w (Rel.nilc (j := 5) (c := 8) (i' := 7) 5 1 rfl rfl rfl hR))⟩
    · rintro ⟨zs6, p6, k, s, c, pl, f, y, g, l, q, bs⟩ ⟨hp6, ⟨a1, a2⟩, ⟨a3, a4⟩, ⟨a5, a6⟩, ⟨a7, a8⟩, ⟨a9, a10⟩, ⟨a11, a12⟩, hb6⟩
      simp only at hp6 a1 a2 a3 a4 a5 a6 a7 a8 a9 a10 a11 a12 hb6
      show AW Try.prog C _ _ (St.of 136 [(0, .ptr 0 0), (1, .d (.v (.int .i64 n))), (4, .ptr 4 0), (5, .ptr 5 0)] [(0, rdr zs6 p6), (4, .var frmZ0), (5, .var (frmO k s c pl f y g l (.own 7 q))), (7, ownB q bs)])
      refine AW.via (FO.inv n) (FO.ok p 3020 17) ?_ ?_
      · refine AW.seq ?_
        apply AW.list
        apply Wk.mv (by conv => lhs; whnf) (lt_of_ble rfl)
        apply Wk.mv (by conv => lhs; whnf) (lt_of_ble rfl)
        apply Wk.drw 0 odd_ok Try.func84 rfl rfl rfl rfl ⟨_, rfl, by omega⟩ (by omega) rfl (lt_of_ble rfl)
        rintro r7 zs7 p7 ⟨b7, rfl, _⟩ hp7
        refine Wk.nil ?_
        refine AW.cond rfl (fun hc => ?_) (fun hc => AW.skip (thenA_normal ?_))
        · refine AW.seq ?_
          apply AW.list
          apply Wk.mv (by conv => lhs; whnf) (lt_of_ble rfl)
          apply Wk.drw 0 pick_ok Try.func65 rfl rfl rfl rfl ⟨_, rfl, by omega⟩ (by omega) rfl (lt_of_ble rfl)
          rintro r8 zs8 p8 ⟨k8, rfl, hk8⟩ hp8
          refine Wk.nil (AW.block ?_)
          refine AW.seq ?_
          apply AW.list
          apply Wk.bin rfl rfl (fun w => by simp [go_sem] <;> rfl) (lt_of_ble rfl)
          apply Wk.asg (by conv => lhs; whnf) (lt_of_ble rfl)
          refine Wk.nil ?_
          refine AW.cond rfl (fun hc => ?_) (fun hc => ?_)
          · apply AW.list
            apply Wk.lst 86 1 false [.int .i64 0] un83 ty3 ze3 rfl rfl (by rfl) (by rfl) (by decide) (by decide) rfl rfl (all_len rfl) (lt_of_ble rfl)
            apply Wk.mv (by conv => lhs; whnf) (lt_of_ble rfl)
            apply Wk.drw 0 pick_ok Try.func65 rfl rfl rfl rfl ⟨_, rfl, by omega⟩ (by omega) rfl (lt_of_ble rfl)
            rintro r9 zs9 p9 ⟨k9, rfl, hk9⟩ hp9
            have hk9' : k9 < 2 := by have := hk9 2 rfl; omega
            obtain ⟨v, hv, hv1, hv2⟩ : ∃ v : Int, partA (List.flatten [[A.d (.v (.int .i64 0))], [.d (.v (.int .i64 5))]]) (k9 * 1) 1 false = some (.d (.v (.int .i64 v))) ∧ -1000 ≤ v ∧ v ≤ 1000 := by
              rcases (show k9 = 0 ∨ k9 = 1 by omega) with rfl | rfl
              · exact ⟨_, rfl, by omega, by omega⟩
              · exact ⟨_, rfl, by omega, by omega⟩
            apply Wk.iado 86 1 false un83 ty3 rfl rfl rfl hk9' (lt_of_ble rfl)
            apply Wk.ldo (i := 86) 1 false ty3 rfl rfl hv (lt_of_ble rfl)
            apply Wk.fad 0 0 false fd42_0 rfl (lt_of_ble rfl)
            apply Wk.sto (i := 5) 1 false ty3 rfl rfl rfl rfl (Nat.le_of_ble_eq_true rfl) (lt_of_ble rfl)
            refine Wk.nil (inBlockA_normal (thenA_normal ?_))
            exact ⟨⟨zs9, p9, v, s, c, pl, f, y, g, l, q, bs⟩, ⟨by simp only; omega, ⟨by simp only; omega, by simp only; omega⟩, ⟨by simp only; omega, by simp only; omega⟩, ⟨by simp only; omega, by simp only; omega⟩, ⟨by simp only; omega, by simp only; omega⟩, ⟨by simp only; omega, by simp only; omega⟩, ⟨by simp only; omega, by simp only; omega⟩, by simp only; omega⟩, fin _ _ rfl rfl rfl rfl rfl rfl rfl rfl rfl⟩
          · refine AW.seq ?_
            apply AW.list
            apply Wk.bin rfl rfl (fun w => by simp [go_sem] <;> rfl) (lt_of_ble rfl)
            apply Wk.asg (by conv => lhs; whnf) (lt_of_ble rfl)
            refine Wk.nil ?_
            refine AW.cond rfl (fun hc => ?_) (fun hc => ?_)
            · apply AW.list
              apply Wk.lst 94 1 false [.int .i64 0] un83 ty3 ze3 rfl rfl (by rfl) (by rfl) (by decide) (by decide) rfl rfl (all_len rfl) (lt_of_ble rfl)
              apply Wk.mv (by conv => lhs; whnf) (lt_of_ble rfl)
              apply Wk.drw 0 pick_ok Try.func65 rfl rfl rfl rfl ⟨_, rfl, by omega⟩ (by omega) rfl (lt_of_ble rfl)
              rintro r9 zs9 p9 ⟨k9, rfl, hk9⟩ hp9
              have hk9' : k9 < 3 := by have := hk9 3 rfl; omega
              obtain ⟨v, hv, hv1, hv2⟩ : ∃ v : Int, partA (List.flatten [[A.d (.v (.int .i64 (-1)))], [.d (.v (.int .i64 8))], [.d (.v (.int .i64 1))]]) (k9 * 1) 1 false = some (.d (.v (.int .i64 v))) ∧ -1000 ≤ v ∧ v ≤ 1000 := by
                rcases (show k9 = 0 ∨ k9 = 1 ∨ k9 = 2 by omega) with rfl | rfl | rfl
                · exact ⟨_, rfl, by omega, by omega⟩
                · exact ⟨_, rfl, by omega, by omega⟩
                · exact ⟨_, rfl, by omega, by omega⟩
              apply Wk.iado 94 1 false un83 ty3 rfl rfl rfl hk9' (lt_of_ble rfl)
              apply Wk.ldo (i := 94) 1 false ty3 rfl rfl hv (lt_of_ble rfl)
              apply Wk.fad 1 0 false fd42_1 rfl (lt_of_ble rfl)
              apply Wk.sto (i := 5) 1 false ty3 rfl rfl rfl rfl (Nat.le_of_ble_eq_true rfl) (lt_of_ble rfl)
              refine Wk.nil (inBlockA_normal (thenA_normal ?_))
              exact ⟨⟨zs9, p9, k, v, c, pl, f, y, g, l, q, bs⟩, ⟨by simp only; omega, ⟨by simp only; omega, by simp only; omega⟩, ⟨by simp only; omega, by simp only; omega⟩, ⟨by simp only; omega, by simp only; omega⟩, ⟨by simp only; omega, by simp only; omega⟩, ⟨by simp only; omega, by simp only; omega⟩, ⟨by simp only; omega, by simp only; omega⟩, by simp only; omega⟩, fin _ _ rfl rfl rfl rfl rfl rfl rfl rfl rfl⟩
            · refine AW.seq ?_
              apply AW.list
              apply Wk.bin rfl rfl (fun w => by simp [go_sem] <;> rfl) (lt_of_ble rfl)
              apply Wk.asg (by conv => lhs; whnf) (lt_of_ble rfl)
              refine Wk.nil ?_
              refine AW.cond rfl (fun hc => ?_) (fun hc => ?_)
              · apply AW.list
                apply Wk.lst 102 1 false [.int .i64 0] un83 ty3 ze3 rfl rfl (by rfl) (by rfl) (by decide) (by decide) rfl rfl (all_len rfl) (lt_of_ble rfl)
                apply Wk.mv (by conv => lhs; whnf) (lt_of_ble rfl)
                apply Wk.drw 0 pick_ok Try.func65 rfl rfl rfl rfl ⟨_, rfl, by omega⟩ (by omega) rfl (lt_of_ble rfl)
                rintro r9 zs9 p9 ⟨k9, rfl, hk9⟩ hp9
                have hk9' : k9 < 3 := by have := hk9 3 rfl; omega
                obtain ⟨v, hv, hv1, hv2⟩ : ∃ v : Int, partA (List.flatten [[A.d (.v (.int .i64 (-1)))], [.d (.v (.int .i64 8))], [.d (.v (.int .i64 1))]]) (k9 * 1) 1 false = some (.d (.v (.int .i64 v))) ∧ -1000 ≤ v ∧ v ≤ 1000 := by
                  rcases (show k9 = 0 ∨ k9 = 1 ∨ k9 = 2 by omega) with rfl | rfl | rfl
                  · exact ⟨_, rfl, by omega, by omega⟩
                  · exact ⟨_, rfl, by omega, by omega⟩
                  · exact ⟨_, rfl, by omega, by omega⟩
                apply Wk.iado 102 1 false un83 ty3 rfl rfl rfl hk9' (lt_of_ble rfl)
                apply Wk.ldo (i := 102) 1 false ty3 rfl rfl hv (lt_of_ble rfl)
                apply Wk.fad 2 0 false fd42_2 rfl (lt_of_ble rfl)
                apply Wk.sto (i := 5) 1 false ty3 rfl rfl rfl rfl (Nat.le_of_ble_eq_true rfl) (lt_of_ble rfl)
                refine Wk.nil (inBlockA_normal (thenA_normal ?_))
                exact ⟨⟨zs9, p9, k, s, v, pl, f, y, g, l, q, bs⟩, ⟨by simp only; omega, ⟨by simp only; omega, by simp only; omega⟩, ⟨by simp only; omega, by simp only; omega⟩, ⟨by simp only; omega, by simp only; omega⟩, ⟨by simp only; omega, by simp only; omega⟩, ⟨by simp only; omega, by simp only; omega⟩, ⟨by simp only; omega, by simp only; omega⟩, by simp only; omega⟩, fin _ _ rfl rfl rfl rfl rfl rfl rfl rfl rfl⟩
              · refine AW.seq ?_
                apply AW.list
                apply Wk.bin rfl rfl (fun w => by simp [go_sem] <;> rfl) (lt_of_ble rfl)
                apply Wk.asg (by conv => lhs; whnf) (lt_of_ble rfl)
                refine Wk.nil ?_
                refine AW.cond rfl (fun hc => ?_) (fun hc => ?_)
                · refine AW.seq ?_
                  apply AW.list
                  apply Wk.fad 3 0 false fd42_3 rfl (lt_of_ble rfl)
                  apply Wk.sto (i := 5) 1 false ty4 rfl rfl rfl rfl (Nat.le_of_ble_eq_true rfl) (lt_of_ble rfl)
                  refine Wk.nil ?_
                  apply AW.list
                  apply Wk.fad 4 0 false fd42_4 rfl (lt_of_ble rfl)
                  apply Wk.sto (i := 5) 1 false ty4 rfl rfl rfl rfl (Nat.le_of_ble_eq_true rfl) (lt_of_ble rfl)
                  refine Wk.nil (inBlockA_normal (thenA_normal ?_))
                  exact ⟨⟨zs8, p8, k, s, c, true, true, y, g, l, q, bs⟩, ⟨by simp only; omega, ⟨by simp only; omega, by simp only; omega⟩, ⟨by simp only; omega, by simp only; omega⟩, ⟨by simp only; omega, by simp only; omega⟩, ⟨by simp only; omega, by simp only; omega⟩, ⟨by simp only; omega, by simp only; omega⟩, ⟨by simp only; omega, by simp only; omega⟩, by simp only; omega⟩, fin _ _ rfl rfl rfl rfl rfl rfl rfl rfl rfl⟩
                · refine AW.seq ?_
                  apply AW.list
                  apply Wk.bin rfl rfl (fun w => by simp [go_sem] <;> rfl) (lt_of_ble rfl)
                  apply Wk.asg (by conv => lhs; whnf) (lt_of_ble rfl)
                  refine Wk.nil ?_
                  refine AW.cond rfl (fun hc => ?_) (fun hc => ?_)
                  · apply AW.list
                    apply Wk.lst 114 1 false [.int .i64 0] un83 ty3 ze3 rfl rfl (by rfl) (by rfl) (by decide) (by decide) rfl rfl (all_len rfl) (lt_of_ble rfl)
                    apply Wk.mv (by conv => lhs; whnf) (lt_of_ble rfl)
                    apply Wk.drw 0 pick_ok Try.func65 rfl rfl rfl rfl ⟨_, rfl, by omega⟩ (by omega) rfl (lt_of_ble rfl)
                    rintro r9 zs9 p9 ⟨k9, rfl, hk9⟩ hp9
                    have hk9' : k9 < 3 := by have := hk9 3 rfl; omega
                    obtain ⟨v, hv, hv1, hv2⟩ : ∃ v : Int, partA (List.flatten [[A.d (.v (.int .i64 (-1)))], [.d (.v (.int .i64 3))], [.d (.v (.int .i64 1))]]) (k9 * 1) 1 false = some (.d (.v (.int .i64 v))) ∧ -1000 ≤ v ∧ v ≤ 1000 := by
                      rcases (show k9 = 0 ∨ k9 = 1 ∨ k9 = 2 by omega) with rfl | rfl | rfl
                      · exact ⟨_, rfl, by omega, by omega⟩
                      · exact ⟨_, rfl, by omega, by omega⟩
                      · exact ⟨_, rfl, by omega, by omega⟩
                    apply Wk.iado 114 1 false un83 ty3 rfl rfl rfl hk9' (lt_of_ble rfl)
                    apply Wk.ldo (i := 114) 1 false ty3 rfl rfl hv (lt_of_ble rfl)
                    apply Wk.fad 5 0 false fd42_5 rfl (lt_of_ble rfl)
                    apply Wk.sto (i := 5) 1 false ty3 rfl rfl rfl rfl (Nat.le_of_ble_eq_true rfl) (lt_of_ble rfl)
                    refine Wk.nil (inBlockA_normal (thenA_normal ?_))
                    exact ⟨⟨zs9, p9, k, s, c, pl, f, v, g, l, q, bs⟩, ⟨by simp only; omega, ⟨by simp only; omega, by simp only; omega⟩, ⟨by simp only; omega, by simp only; omega⟩, ⟨by simp only; omega, by simp only; omega⟩, ⟨by simp only; omega, by simp only; omega⟩, ⟨by simp only; omega, by simp only; omega⟩, ⟨by simp only; omega, by simp only; omega⟩, by simp only; omega⟩, fin _ _ rfl rfl rfl rfl rfl rfl rfl rfl rfl⟩
                  · refine AW.seq ?_
                    apply AW.list
                    apply Wk.bin rfl rfl (fun w => by simp [go_sem] <;> rfl) (lt_of_ble rfl)
                    apply Wk.asg (by conv => lhs; whnf) (lt_of_ble rfl)
                    refine Wk.nil ?_
                    refine AW.cond rfl (fun hc => ?_) (fun hc => ?_)
                    · apply AW.list
                      apply Wk.lst 122 1 false [.int .i64 0] un83 ty3 ze3 rfl rfl (by rfl) (by rfl) (by decide) (by decide) rfl rfl (all_len rfl) (lt_of_ble rfl)
                      apply Wk.mv (by conv => lhs; whnf) (lt_of_ble rfl)
                      apply Wk.drw 0 pick_ok Try.func65 rfl rfl rfl rfl ⟨_, rfl, by omega⟩ (by omega) rfl (lt_of_ble rfl)
                      rintro r9 zs9 p9 ⟨k9, rfl, hk9⟩ hp9
                      have hk9' : k9 < 4 := by have := hk9 4 rfl; omega
                      obtain ⟨v, hv, hv1, hv2⟩ : ∃ v : Int, partA (List.flatten [[A.d (.v (.int .i64 (-1)))], [.d (.v (.int .i64 0))], [.d (.v (.int .i64 256))], [.d (.v (.int .i64 30))]]) (k9 * 1) 1 false = some (.d (.v (.int .i64 v))) ∧ -1000 ≤ v ∧ v ≤ 1000 := by
                        rcases (show k9 = 0 ∨ k9 = 1 ∨ k9 = 2 ∨ k9 = 3 by omega) with rfl | rfl | rfl | rfl
                        · exact ⟨_, rfl, by omega, by omega⟩
                        · exact ⟨_, rfl, by omega, by omega⟩
                        · exact ⟨_, rfl, by omega, by omega⟩
                        · exact ⟨_, rfl, by omega, by omega⟩
                      apply Wk.iado 122 1 false un83 ty3 rfl rfl rfl hk9' (lt_of_ble rfl)
                      apply Wk.ldo (i := 122) 1 false ty3 rfl rfl hv (lt_of_ble rfl)
                      apply Wk.fad 7 0 false fd42_7 rfl (lt_of_ble rfl)
                      apply Wk.sto (i := 5) 1 false ty3 rfl rfl rfl rfl (Nat.le_of_ble_eq_true rfl) (lt_of_ble rfl)
                      refine Wk.nil (inBlockA_normal (thenA_normal ?_))
                      exact ⟨⟨zs9, p9, k, s, c, pl, f, y, g, v, q, bs⟩, ⟨by simp only; omega, ⟨by simp only; omega, by simp only; omega⟩, ⟨by simp only; omega, by simp only; omega⟩, ⟨by simp only; omega, by simp only; omega⟩, ⟨by simp only; omega, by simp only; omega⟩, ⟨by simp only; omega, by simp only; omega⟩, ⟨by simp only; omega, by simp only; omega⟩, by simp only; omega⟩, fin _ _ rfl rfl rfl rfl rfl rfl rfl rfl rfl⟩
                    · refine AW.seq ?_
                      apply AW.list
                      apply Wk.bin rfl rfl (fun w => by simp [go_sem] <;> rfl) (lt_of_ble rfl)
                      apply Wk.asg (by conv => lhs; whnf) (lt_of_ble rfl)
                      refine Wk.nil ?_
                      refine AW.cond rfl (fun hc => ?_) (fun hc => ?_)
                      · apply AW.list
                        apply Wk.fad 8 0 false fd42_8 rfl (lt_of_ble rfl)
                        apply Wk.ld (i := 5) 1 false ty22 rfl rfl (by conv => lhs; whnf) (lt_of_ble rfl)
                        apply Wk.lst 132 1 false [.int .u8 0] un22 ty5 ze5 rfl rfl (by rfl) (by rfl) (by decide) (by decide) rfl rfl (all_len rfl) (lt_of_ble rfl)
                        apply Wk.appOO 7 132 1 un22 ap5 rfl rfl rfl rfl (by decide) (all_len rfl) (one_cellsB bs) (by simp [cellsB]; omega) (lt_of_ble rfl)
                        apply Wk.fad 8 0 false fd42_8 rfl (lt_of_ble rfl)
                        apply Wk.sto (i := 5) 1 false ty22 rfl rfl rfl rfl (Nat.le_of_ble_eq_true rfl) (lt_of_ble rfl)
                        refine Wk.nil (inBlockA_normal (thenA_normal ?_))
                        have e9 : cellsB (bs ++ [1, 2, 3, 4, 5, 6, 7, 8, 9]) = cellsB bs ++ cellsB [1, 2, 3, 4, 5, 6, 7, 8, 9] := by simp [cellsB]
                        exact ⟨⟨zs8, p8, k, s, c, pl, f, y, g, l, (q + 1), (bs ++ [1, 2, 3, 4, 5, 6, 7, 8, 9])⟩, ⟨by simp only; omega, ⟨by simp only; omega, by simp only; omega⟩, ⟨by simp only; omega, by simp only; omega⟩, ⟨by simp only; omega, by simp only; omega⟩, ⟨by simp only; omega, by simp only; omega⟩, ⟨by simp only; omega, by simp only; omega⟩, ⟨by simp only; omega, by simp only; omega⟩, by simp; omega⟩, fin _ _ rfl rfl rfl rfl rfl rfl rfl rfl (by unfold ownB; rw [e9]; rfl)⟩
                      · apply AW.list
                        apply Wk.lst 78 1 false [.int .i64 0] un83 ty3 ze3 rfl rfl (by rfl) (by rfl) (by decide) (by decide) rfl rfl (all_len rfl) (lt_of_ble rfl)
                        apply Wk.mv (by conv => lhs; whnf) (lt_of_ble rfl)
                        apply Wk.drw 0 pick_ok Try.func65 rfl rfl rfl rfl ⟨_, rfl, by omega⟩ (by omega) rfl (lt_of_ble rfl)
                        rintro r9 zs9 p9 ⟨k9, rfl, hk9⟩ hp9
                        have hk9' : k9 < 3 := by have := hk9 3 rfl; omega
                        obtain ⟨v, hv, hv1, hv2⟩ : ∃ v : Int, partA (List.flatten [[A.d (.v (.int .i64 (-1)))], [.d (.v (.int .i64 4))], [.d (.v (.int .i64 2))]]) (k9 * 1) 1 false = some (.d (.v (.int .i64 v))) ∧ -1000 ≤ v ∧ v ≤ 1000 := by
                          rcases (show k9 = 0 ∨ k9 = 1 ∨ k9 = 2 by omega) with rfl | rfl | rfl
                          · exact ⟨_, rfl, by omega, by omega⟩
                          · exact ⟨_, rfl, by omega, by omega⟩
                          · exact ⟨_, rfl, by omega, by omega⟩
                        apply Wk.iado 78 1 false un83 ty3 rfl rfl rfl hk9' (lt_of_ble rfl)
                        apply Wk.ldo (i := 78) 1 false ty3 rfl rfl hv (lt_of_ble rfl)
                        apply Wk.fad 6 0 false fd42_6 rfl (lt_of_ble rfl)
                        apply Wk.sto (i := 5) 1 false ty3 rfl rfl rfl rfl (Nat.le_of_ble_eq_true rfl) (lt_of_ble rfl)
                        refine Wk.nil (inBlockA_normal (thenA_normal ?_))
                        exact ⟨⟨zs9, p9, k, s, c, pl, f, y, v, l, q, bs⟩, ⟨by simp only; omega, ⟨by simp only; omega, by simp only; omega⟩, ⟨by simp only; omega, by simp only; omega⟩, ⟨by simp only; omega, by simp only; omega⟩, ⟨by simp only; omega, by simp only; omega⟩, ⟨by simp only; omega, by simp only; omega⟩, ⟨by simp only; omega, by simp only; omega⟩, by simp only; omega⟩, fin _ _ rfl rfl rfl rfl rfl rfl rfl rfl rfl⟩
        · exact ⟨⟨zs7, p7, k, s, c, pl, f, y, g, l, q, bs⟩, ⟨by simp only; omega, ⟨by simp only; omega, by simp only; omega⟩, ⟨by simp only; omega, by simp only; omega⟩, ⟨by simp only; omega, by simp only; omega⟩, ⟨by simp only; omega, by simp only; omega⟩, ⟨by simp only; omega, by simp only; omega⟩, ⟨by simp only; omega, by simp only; omega⟩, by simp only; omega⟩, fin _ _ rfl rfl rfl rfl rfl rfl rfl rfl rfl⟩
      · rintro ⟨zs6, p6, k, s, c, pl, f, y, g, l, q, bs⟩ ⟨hp6, hk, hs, hcc, hy, hg, hl, hb6⟩
        show AW Try.prog C _ _ (St.of 136 [(0, .ptr 0 0), (1, .d (.v (.int .i64 n))), (4, .ptr 4 0), (5, .ptr 5 0)] [(0, rdr zs6 p6), (4, .var frmZ0), (5, .var (frmO k s c pl f y g l (.own 7 q))), (7, ownB q bs)])
        refine AW.thawc (j := 5) (c := 8) (i := 7) (cellsD bs) rfl rfl (by rfl) (asData_cells bs) (hX.one (by decide) rfl) ?_
        refine AW.seq ?_
        apply AW.list
        apply Wk.ld (i := 5) 9 true ty42 rfl rfl (by conv => lhs; whnf) (lt_of_ble rfl)
        apply Wk.sto (i := 4) 9 true ty42 rfl rfl rfl rfl (Nat.le_of_ble_eq_true rfl) (lt_of_ble rfl)
        refine Wk.nil (AW.ret ?_)
        exact RetQ.ret [(0, rdr zs6 p6)] (.cons ⟨4, 0, _, _, _, rfl, rfl, ty42, rfl⟩ .nil) ⟨⟨k, s, c, pl, f, y, g, l, bs, rfl, hk, hs, hcc, hy, hg, hl, hb6⟩, _, _, rfl, hp6⟩ (kept1 rfl)
  · rintro rest ⟨n, rfl, _⟩; rfl
  · rintro rest _; exact ⟨_, 0, 0, 0, false, false, 0, 0, 0, [], rfl, by simp [Sm]⟩
  · rintro rest r ⟨k, s, c, pl, f, y, g, l, bs, rfl, _⟩; rfl
end Go.Proofs.Ytdojkmjamilllaa

/- Pieces that are the same, by the laws' own words. -/
namespace Go.Proofs.Ytdojkmjamilllaa
open Go Go.RowKit
theorem liBytesE (zs : List Nat) : DataOk Try.prog 39 [.d (bytesD zs), .d (bytesD zs)] (.d (.v (.bool true))) := by
  have h := liBytes_ok zs zs
  simpa using h
theorem liPartE (d : Dat) : DataOk Try.prog 29 [partN d, partN d] (.d (.v (.bool true))) := by
  obtain ⟨g, l, ys⟩ := d
  refine Spec.intro (n := 24) (rv := [.tmp 4]) Try.func29 rfl rfl rfl (by simp) fun C hN hX => ?_
  refine AW.seq ?_
  apply AW.list
  apply Wk.bx 2 rfl rfl (lt_of_ble rfl)
  apply Wk.bx 3 rfl rfl (lt_of_ble rfl)
  apply Wk.asg (by conv => lhs; whnf) (lt_of_ble rfl)
  refine Wk.nil ?_
  refine AW.seq ?_
  apply AW.list
  apply Wk.fad 0 0 false fd47_0 rfl (lt_of_ble rfl)
  apply Wk.ld (i := 2) 1 false ty3 rfl rfl (by conv => lhs; whnf) (lt_of_ble rfl)
  apply Wk.fad 0 0 false fd47_0 rfl (lt_of_ble rfl)
  apply Wk.ld (i := 3) 1 false ty3 rfl rfl (by conv => lhs; whnf) (lt_of_ble rfl)
  apply Wk.bin rfl rfl (r := .bool true) (fun w => by simp [go_sem]) (lt_of_ble rfl)
  apply Wk.mv (by conv => lhs; whnf) (lt_of_ble rfl)
  apply Wk.gon 10 rfl rfl
  apply Wk.fad 1 0 false fd47_1 rfl (lt_of_ble rfl)
  apply Wk.gon 10 rfl rfl
  apply Wk.ld (i := 2) 1 false ty3 rfl rfl (by conv => lhs; whnf) (lt_of_ble rfl)
  apply Wk.gon 10 rfl rfl
  apply Wk.fad 1 0 false fd47_1 rfl (lt_of_ble rfl)
  apply Wk.gon 10 rfl rfl
  apply Wk.ld (i := 3) 1 false ty3 rfl rfl (by conv => lhs; whnf) (lt_of_ble rfl)
  apply Wk.gon 10 rfl rfl
  apply Wk.bin rfl rfl (r := .bool true) (fun w => by simp [go_sem]) (lt_of_ble rfl)
  apply Wk.pckT rfl (by conv => lhs; whnf) (lt_of_ble rfl)
  apply Wk.mv (by conv => lhs; whnf) (lt_of_ble rfl)
  apply Wk.gon 17 rfl rfl
  apply Wk.fad 2 0 false fd47_2 rfl (lt_of_ble rfl)
  apply Wk.gon 17 rfl rfl
  apply Wk.ld (i := 2) 1 false ty22 rfl rfl (by conv => lhs; whnf) (lt_of_ble rfl)
  apply Wk.gon 17 rfl rfl
  apply Wk.fad 2 0 false fd47_2 rfl (lt_of_ble rfl)
  apply Wk.gon 17 rfl rfl
  apply Wk.ld (i := 3) 1 false ty22 rfl rfl (by conv => lhs; whnf) (lt_of_ble rfl)
  apply Wk.gon 17 rfl rfl
  apply Wk.dat (liBytesE ys) Try.func39 rfl rfl rfl rfl rfl (lt_of_ble rfl)
  apply Wk.pckT rfl (by conv => lhs; whnf) (lt_of_ble rfl)
  apply Wk.asg (by conv => lhs; whnf) (lt_of_ble rfl)
  refine Wk.nil (AW.ret ?_)
  exact RetQ.ret [] (.cons rfl .nil) ⟨rfl, rfl⟩ none_kept
theorem liPartsE (ds : List Dat) : DataOk Try.prog 21 [.d (partsD ds), .d (partsD ds)] (.d (.v (.bool true))) := by
  refine Spec.intro (n := 27) (rv := [.tmp 4]) Try.func21 rfl rfl rfl (by simp) fun C hN hX => ?_
  refine AW.bound (x := .tmp 0) rfl fun hb => ?_
  simp only [List.length_map] at hb
  refine AW.seq ?_
  apply AW.list
  apply Wk.asg (by conv => lhs; whnf) (lt_of_ble rfl)
  refine Wk.nil ?_
  refine AW.seq (AW.seq ?_)
  apply AW.list
  apply Wk.mv (by conv => lhs; whnf) (lt_of_ble rfl)
  apply Wk.len un25 rfl (lt_of_ble rfl)
  apply Wk.mv (by conv => lhs; whnf) (lt_of_ble rfl)
  apply Wk.len un25 rfl (lt_of_ble rfl)
  apply Wk.bin rfl rfl (fun w => by simp [go_sem] <;> rfl) (lt_of_ble rfl)
  refine Wk.nil ?_
  refine AW.cond rfl (fun hc => by simp at hc) (fun _ => AW.skip (thenA_normal ?_))
  refine AW.seq (AW.seq ?_)
  apply AW.list
  apply Wk.asg (by conv => lhs; whnf) (lt_of_ble rfl)
  refine Wk.nil (AW.block ?_)
  refine AW.loop (fun q : Nat => St.of 27 [(0, .d (partsD ds)), (1, .d (partsD ds)), (5, .d (.v (.int .i64 (q : Int))))] []) (fun q => q ≤ ds.length) (fun q => ds.length - q) 0 (Nat.zero_le _) ?_ (fun q hq => ?_)
  · exact fun a w => Rel.keep ⟨rfl, .cons rfl rfl (.cons rfl rfl (.cons rfl rfl .nil)), .nil, hN⟩
  refine AW.seq (AW.seq ?_)
  apply AW.list
  apply Wk.mv (by conv => lhs; whnf) (lt_of_ble rfl)
  apply Wk.mv (by conv => lhs; whnf) (lt_of_ble rfl)
  apply Wk.len un25 rfl (lt_of_ble rfl)
  apply Wk.bin rfl rfl (fun w => by simp [go_sem] <;> rfl) (lt_of_ble rfl)
  refine Wk.nil ?_
  refine AW.cond rfl (fun hc => ?_) (fun hc => ?_)
  · have hlt : q < ds.length := by simpa using hc
    obtain ⟨d, hd⟩ : ∃ d, ds[q]? = some d := ⟨_, List.getElem?_eq_getElem hlt⟩
    have hget : (ds.map datD)[q]? = some (datD d) := by simp [hd]
    refine AW.skip ?_
    repeat (first | refine thenA_normal ?_ | refine inBlockA_normal ?_)
    refine AW.seq (AW.block (AW.seq ?_))
    apply AW.draw (hm := hmix) (cs := _)
    · apply Wk.mv (by conv => lhs; whnf) (lt_of_ble rfl)
      apply Wk.mv (by conv => lhs; whnf) (lt_of_ble rfl)
      apply Wk.iad 3 true un25 ty47 rfl rfl (by simpa using hlt) (datD_len ds) (lt_of_ble rfl)
      apply Wk.ldr 3 true ty47 rfl hget (by conv => lhs; whnf) (lt_of_ble rfl)
      apply Wk.mv (by conv => lhs; whnf) (lt_of_ble rfl)
      apply Wk.mv (by conv => lhs; whnf) (lt_of_ble rfl)
      apply Wk.iad 3 true un25 ty47 rfl rfl (by simpa using hlt) (datD_len ds) (lt_of_ble rfl)
      apply Wk.ldr 3 true ty47 rfl hget (by conv => lhs; whnf) (lt_of_ble rfl)
      apply Wk.dat (liPartE d) Try.func29 rfl rfl rfl rfl rfl (lt_of_ble rfl)
      apply Wk.un rfl (fun w => by simp [go_sem] <;> rfl) (lt_of_ble rfl)
      refine Wk.nil ?_
      refine AW.cond rfl (fun hn => by cases hn) (fun hn => ?_)
      refine AW.skip ?_
      repeat (first | refine thenA_normal ?_ | refine inBlockA_normal ?_)
      apply AW.list
      apply Wk.mv (by conv => lhs; whnf) (lt_of_ble rfl)
      apply Wk.addi rfl rfl (by omega) (lt_of_ble rfl)
      apply Wk.asg (by conv => lhs; whnf) (lt_of_ble rfl)
      refine Wk.nil ?_
      exact ⟨q + 1, by omega, by omega, fun a w => Rel.keep ⟨rfl, .cons rfl rfl (.cons rfl rfl (.cons rfl rfl .nil)), .nil, hN⟩⟩
    · rfl
    · rfl
  · refine AW.exit ?_
    repeat (first | refine inBlockA_same ?_ | refine thenA_exit ?_)
    repeat (first | refine thenA_normal ?_ | refine inBlockA_normal ?_)
    refine AW.seq ?_
    apply AW.list
    apply Wk.asg (by conv => lhs; whnf) (lt_of_ble rfl)
    refine Wk.nil (AW.ret ?_)
    repeat (first | refine thenA_ret ?_ | refine inBlockA_ret ?_)
    exact RetQ.ret [] (.cons rfl .nil) ⟨rfl, rfl⟩ none_kept
end Go.Proofs.Ytdojkmjamilllaa

/- Two of who sends that are the same, by the laws' own words. Written by tools/mk_AbsTickI.py. -/
namespace Go.Proofs.Ytdojkmjamilllaa
open Go Go.RowKit
set_option maxHeartbeats 2000000 in
set_option maxRecDepth 100000 in
theorem liTxE (x : TX) : DataOk Try.prog 16 [txA x, txA x] (.d (.v (.bool true))) := by
  obtain ⟨n, a, fl, s, qu, q, t, h, c, d⟩ := x
  refine Spec.intro (n := 73) (rv := [.tmp 4]) Try.func16 rfl rfl rfl (by simp) fun C hN hX => ?_
  refine AW.seq ?_
  apply AW.list
  apply Wk.bx 2 rfl rfl (lt_of_ble rfl)
  apply Wk.bx 3 rfl rfl (lt_of_ble rfl)
  apply Wk.asg (by conv => lhs; whnf) (lt_of_ble rfl)
  refine Wk.nil ?_
  refine AW.seq ?_
  apply AW.list
  apply Wk.fad 0 0 false fd27_0 rfl (lt_of_ble rfl)
  apply Wk.ld (i := 2) 1 false ty3 rfl rfl (by conv => lhs; whnf) (lt_of_ble rfl)
  apply Wk.fad 0 0 false fd27_0 rfl (lt_of_ble rfl)
  apply Wk.ld (i := 3) 1 false ty3 rfl rfl (by conv => lhs; whnf) (lt_of_ble rfl)
  apply Wk.bin rfl rfl (r := .bool true) (fun w => by simp [go_sem]) (lt_of_ble rfl)
  apply Wk.mv (by conv => lhs; whnf) (lt_of_ble rfl)
  apply Wk.gon 10 rfl rfl
  apply Wk.fad 1 0 false fd27_1 rfl (lt_of_ble rfl)
  apply Wk.gon 10 rfl rfl
  apply Wk.ld (i := 2) 1 false ty3 rfl rfl (by conv => lhs; whnf) (lt_of_ble rfl)
  apply Wk.gon 10 rfl rfl
  apply Wk.fad 1 0 false fd27_1 rfl (lt_of_ble rfl)
  apply Wk.gon 10 rfl rfl
  apply Wk.ld (i := 3) 1 false ty3 rfl rfl (by conv => lhs; whnf) (lt_of_ble rfl)
  apply Wk.gon 10 rfl rfl
  apply Wk.bin rfl rfl (r := .bool true) (fun w => by simp [go_sem]) (lt_of_ble rfl)
  apply Wk.pckT rfl (by conv => lhs; whnf) (lt_of_ble rfl)
  apply Wk.mv (by conv => lhs; whnf) (lt_of_ble rfl)
  apply Wk.gon 17 rfl rfl
  apply Wk.fad 2 0 false fd27_2 rfl (lt_of_ble rfl)
  apply Wk.gon 17 rfl rfl
  apply Wk.ld (i := 2) 1 false ty25 rfl rfl (by conv => lhs; whnf) (lt_of_ble rfl)
  apply Wk.gon 17 rfl rfl
  apply Wk.fad 2 0 false fd27_2 rfl (lt_of_ble rfl)
  apply Wk.gon 17 rfl rfl
  apply Wk.ld (i := 3) 1 false ty25 rfl rfl (by conv => lhs; whnf) (lt_of_ble rfl)
  apply Wk.gon 17 rfl rfl
  apply Wk.dat (liPartsE fl) Try.func21 rfl rfl rfl rfl rfl (lt_of_ble rfl)
  apply Wk.pckT rfl (by conv => lhs; whnf) (lt_of_ble rfl)
  apply Wk.mv (by conv => lhs; whnf) (lt_of_ble rfl)
  apply Wk.gon 24 rfl rfl
  apply Wk.fad 3 0 false fd27_3 rfl (lt_of_ble rfl)
  apply Wk.gon 24 rfl rfl
  apply Wk.ld (i := 2) 1 false ty3 rfl rfl (by conv => lhs; whnf) (lt_of_ble rfl)
  apply Wk.gon 24 rfl rfl
  apply Wk.fad 3 0 false fd27_3 rfl (lt_of_ble rfl)
  apply Wk.gon 24 rfl rfl
  apply Wk.ld (i := 3) 1 false ty3 rfl rfl (by conv => lhs; whnf) (lt_of_ble rfl)
  apply Wk.gon 24 rfl rfl
  apply Wk.bin rfl rfl (r := .bool true) (fun w => by simp [go_sem]) (lt_of_ble rfl)
  apply Wk.pckT rfl (by conv => lhs; whnf) (lt_of_ble rfl)
  apply Wk.mv (by conv => lhs; whnf) (lt_of_ble rfl)
  apply Wk.gon 31 rfl rfl
  apply Wk.fad 4 0 false fd27_4 rfl (lt_of_ble rfl)
  apply Wk.gon 31 rfl rfl
  apply Wk.ld (i := 2) 1 false ty25 rfl rfl (by conv => lhs; whnf) (lt_of_ble rfl)
  apply Wk.gon 31 rfl rfl
  apply Wk.fad 4 0 false fd27_4 rfl (lt_of_ble rfl)
  apply Wk.gon 31 rfl rfl
  apply Wk.ld (i := 3) 1 false ty25 rfl rfl (by conv => lhs; whnf) (lt_of_ble rfl)
  apply Wk.gon 31 rfl rfl
  apply Wk.dat (liPartsE qu) Try.func21 rfl rfl rfl rfl rfl (lt_of_ble rfl)
  apply Wk.pckT rfl (by conv => lhs; whnf) (lt_of_ble rfl)
  apply Wk.mv (by conv => lhs; whnf) (lt_of_ble rfl)
  apply Wk.gon 38 rfl rfl
  apply Wk.fad 5 0 false fd27_5 rfl (lt_of_ble rfl)
  apply Wk.gon 38 rfl rfl
  apply Wk.ld (i := 2) 1 false ty4 rfl rfl (by conv => lhs; whnf) (lt_of_ble rfl)
  apply Wk.gon 38 rfl rfl
  apply Wk.fad 5 0 false fd27_5 rfl (lt_of_ble rfl)
  apply Wk.gon 38 rfl rfl
  apply Wk.ld (i := 3) 1 false ty4 rfl rfl (by conv => lhs; whnf) (lt_of_ble rfl)
  apply Wk.gon 38 rfl rfl
  apply Wk.bin rfl rfl (r := .bool true) (fun w => by simp [go_sem]) (lt_of_ble rfl)
  apply Wk.pckT rfl (by conv => lhs; whnf) (lt_of_ble rfl)
  apply Wk.mv (by conv => lhs; whnf) (lt_of_ble rfl)
  apply Wk.gon 45 rfl rfl
  apply Wk.fad 6 0 false fd27_6 rfl (lt_of_ble rfl)
  apply Wk.gon 45 rfl rfl
  apply Wk.ld (i := 2) 1 false ty3 rfl rfl (by conv => lhs; whnf) (lt_of_ble rfl)
  apply Wk.gon 45 rfl rfl
  apply Wk.fad 6 0 false fd27_6 rfl (lt_of_ble rfl)
  apply Wk.gon 45 rfl rfl
  apply Wk.ld (i := 3) 1 false ty3 rfl rfl (by conv => lhs; whnf) (lt_of_ble rfl)
  apply Wk.gon 45 rfl rfl
  apply Wk.bin rfl rfl (r := .bool true) (fun w => by simp [go_sem]) (lt_of_ble rfl)
  apply Wk.pckT rfl (by conv => lhs; whnf) (lt_of_ble rfl)
  apply Wk.mv (by conv => lhs; whnf) (lt_of_ble rfl)
  apply Wk.gon 52 rfl rfl
  apply Wk.fad 7 0 false fd27_7 rfl (lt_of_ble rfl)
  apply Wk.gon 52 rfl rfl
  apply Wk.ld (i := 2) 1 false ty4 rfl rfl (by conv => lhs; whnf) (lt_of_ble rfl)
  apply Wk.gon 52 rfl rfl
  apply Wk.fad 7 0 false fd27_7 rfl (lt_of_ble rfl)
  apply Wk.gon 52 rfl rfl
  apply Wk.ld (i := 3) 1 false ty4 rfl rfl (by conv => lhs; whnf) (lt_of_ble rfl)
  apply Wk.gon 52 rfl rfl
  apply Wk.bin rfl rfl (r := .bool true) (fun w => by simp [go_sem]) (lt_of_ble rfl)
  apply Wk.pckT rfl (by conv => lhs; whnf) (lt_of_ble rfl)
  apply Wk.mv (by conv => lhs; whnf) (lt_of_ble rfl)
  apply Wk.gon 59 rfl rfl
  apply Wk.fad 8 0 false fd27_8 rfl (lt_of_ble rfl)
  apply Wk.gon 59 rfl rfl
  apply Wk.ld (i := 2) 1 false ty3 rfl rfl (by conv => lhs; whnf) (lt_of_ble rfl)
  apply Wk.gon 59 rfl rfl
  apply Wk.fad 8 0 false fd27_8 rfl (lt_of_ble rfl)
  apply Wk.gon 59 rfl rfl
  apply Wk.ld (i := 3) 1 false ty3 rfl rfl (by conv => lhs; whnf) (lt_of_ble rfl)
  apply Wk.gon 59 rfl rfl
  apply Wk.bin rfl rfl (r := .bool true) (fun w => by simp [go_sem]) (lt_of_ble rfl)
  apply Wk.pckT rfl (by conv => lhs; whnf) (lt_of_ble rfl)
  apply Wk.mv (by conv => lhs; whnf) (lt_of_ble rfl)
  apply Wk.gon 66 rfl rfl
  apply Wk.fad 9 0 false fd27_9 rfl (lt_of_ble rfl)
  apply Wk.gon 66 rfl rfl
  apply Wk.ld (i := 2) 1 false ty4 rfl rfl (by conv => lhs; whnf) (lt_of_ble rfl)
  apply Wk.gon 66 rfl rfl
  apply Wk.fad 9 0 false fd27_9 rfl (lt_of_ble rfl)
  apply Wk.gon 66 rfl rfl
  apply Wk.ld (i := 3) 1 false ty4 rfl rfl (by conv => lhs; whnf) (lt_of_ble rfl)
  apply Wk.gon 66 rfl rfl
  apply Wk.bin rfl rfl (r := .bool true) (fun w => by simp [go_sem]) (lt_of_ble rfl)
  apply Wk.pckT rfl (by conv => lhs; whnf) (lt_of_ble rfl)
  apply Wk.asg (by conv => lhs; whnf) (lt_of_ble rfl)
  refine Wk.nil (AW.ret ?_)
  exact RetQ.ret [] (.cons rfl .nil) ⟨rfl, rfl⟩ none_kept
end Go.Proofs.Ytdojkmjamilllaa

/- Who sends, and a frame, drawn; TxHear of both sides. Written by tools/mk_WFnTxHear.py. -/
namespace Go.Proofs.Ytdojkmjamilllaa
open Go Go.RowKit
theorem lin_ok (n a b : Int) : DataOk Try.prog 60 [.d (.v (.int .i64 n)), .d (.v (.int .i64 a)), .d (.v (.int .i64 b))] (.d (.v (.bool (inB n a b)))) := by
  cases h : inB n a b
  · exact sinb h
  · exact sinb h
def txhPost (r : A) : Prop := ∃ (m w p u y : Int) (x : TX) (k s c : Int) (pl fi : Bool) (sy g ln : Int) (fs : List (Fin 256)), r = .tup [cfgA m w p u y, txA x, frmZ k s c pl fi sy g ln (fbytes fs)] ∧ x.wide ∧ fs.length ≤ 17
set_option maxHeartbeats 4000000 in
set_option maxRecDepth 100000 in
theorem drawTxHear_ok (zs : List (Fin 256)) : DataW Try.prog 30 [.d (bytesD (zs.map (·.val)))] txhPost := by
  refine ⟨?_, ⟨_, 0, 0, 0, 0, 0, tx0, 0, 0, 0, false, false, 0, 0, 0, [], rfl, tx0_good.wide, by simp⟩, ?_⟩
  · refine id ?_
    refine Spec.intro (n := 48) (rv := [.cell 2 24, .cell 3 27, .cell 4 42]) Try.func30 rfl rfl rfl (by simp) fun C hN hX => ?_
    refine AW.seq ?_
    apply AW.list
    apply Wk.alc 2 [.int .i64 0, .int .i64 0, .int .i64 0, .int .i64 0, .int .i64 0] ze24 rfl rfl (lt_of_ble rfl)
    apply Wk.alc 3 [.int .i64 0, .int .i64 0, .slice none 0 0, .int .i64 0, .slice none 0 0, .bool false, .int .i64 0, .bool false, .int .i64 0, .bool false] ze27 rfl rfl (lt_of_ble rfl)
    apply Wk.alc 4 [.int .i64 0, .int .i64 0, .int .i64 0, .bool false, .bool false, .int .i64 0, .int .i64 0, .int .i64 0, .slice none 0 0] ze42 rfl rfl (lt_of_ble rfl)
    refine Wk.nil ?_
    refine AW.seq ?_
    apply AW.list
    apply Wk.mv (by conv => lhs; whnf) (lt_of_ble rfl)
    apply Wk.opn open_ok Try.func47 rfl rfl rfl rfl (lt_of_ble rfl)
    rintro zs1
    apply Wk.asg (by conv => lhs; whnf) (lt_of_ble rfl)
    refine Wk.nil ?_
    refine AW.seq ?_
    apply AW.list
    apply Wk.mv (by conv => lhs; whnf) (lt_of_ble rfl)
    apply Wk.drw 0 cfg_ok Try.func48 rfl rfl rfl rfl ⟨20, rfl, by omega, by omega⟩ (by omega) rfl (lt_of_ble rfl)
    rintro r2 zs2 p2 ⟨m, w, s0, t, y, rfl, hb, _⟩ hp2
    apply Wk.alc 60 [.int .i64 0, .int .i64 0, .int .i64 0, .int .i64 0, .int .i64 0] ze24 rfl rfl (lt_of_ble rfl)
    apply Wk.sto (i := 60) 5 true ty24 rfl rfl rfl rfl (Nat.le_of_ble_eq_true rfl) (lt_of_ble rfl)
    refine Wk.nil ?_
    refine AW.seq ?_
    apply AW.list
    apply Wk.mv (by conv => lhs; whnf) (lt_of_ble rfl)
    apply Wk.ld (i := 60) 5 true ty24 rfl rfl (by conv => lhs; whnf) (lt_of_ble rfl)
    apply Wk.drw 0 l20Tx_ok Try.func49 rfl rfl rfl rfl ⟨m, w, s0, t, y, 9, rfl, hb, by omega, by omega⟩ (by omega) rfl (lt_of_ble rfl)
    rintro r3 zs3 p3 ⟨x, rfl, hx⟩ hp3
    apply Wk.alc 70 [.int .i64 0, .int .i64 0, .slice none 0 0, .int .i64 0, .slice none 0 0, .bool false, .int .i64 0, .bool false, .int .i64 0, .bool false] ze27 rfl rfl (lt_of_ble rfl)
    apply Wk.sto (i := 70) 10 true ty27 rfl rfl rfl rfl (Nat.le_of_ble_eq_true rfl) (lt_of_ble rfl)
    refine Wk.nil ?_
    refine AW.seq ?_
    apply AW.list
    apply Wk.mv (by conv => lhs; whnf) (lt_of_ble rfl)
    apply Wk.drw 0 frame_ok Try.func72 rfl rfl rfl rfl ⟨_, rfl, by omega⟩ (by omega) rfl (lt_of_ble rfl)
    rintro r4 zs4 p4 ⟨k, s, k2, p, f, y1, g, l, fs, rfl, h1, h2, h3, h4, h5, h6, hfl⟩ hp4
    apply Wk.alc 80 [.int .i64 0, .int .i64 0, .int .i64 0, .bool false, .bool false, .int .i64 0, .int .i64 0, .int .i64 0, .slice none 0 0] ze42 rfl rfl (lt_of_ble rfl)
    apply Wk.sto (i := 80) 9 true ty42 rfl rfl rfl rfl (Nat.le_of_ble_eq_true rfl) (lt_of_ble rfl)
    refine Wk.nil ?_
    have e2 : (((x.fl.map datD).length : Nat) : Int) = (x.fl.length : Int) := by rw [List.length_map]
    have hfe := hx.2.2.1.1
    let inv : Int → St := fun c' => St.of 48 [(2, .ptr 2 0), (3, .ptr 3 0), (4, .ptr 4 0), (6, .ptr 60 0), (7, .ptr 70 0), (8, .ptr 80 0)] [(2, .var (cfgC 0 0 0 0 0)), (3, .var txN), (4, .var frmZ0), (60, .var (cfgC m w s0 t y)), (70, .var (txC x)), (80, .var (frmO k s c' p f y1 g l (.d (fbytes fs))))]
    have fin : ∀ (c' : Int) (σ : St), σ.n = 48 → σ.t 2 = .ptr 2 0 → σ.t 3 = .ptr 3 0 → σ.t 4 = .ptr 4 0 → σ.t 6 = .ptr 60 0 → σ.t 7 = .ptr 70 0 → σ.t 8 = .ptr 80 0 → σ.b 2 = .var (cfgC 0 0 0 0 0) → σ.b 3 = .var txN → σ.b 4 = .var frmZ0 → σ.b 60 = .var (cfgC m w s0 t y) → σ.b 70 = .var (txC x) → σ.b 80 = .var (frmO k s c' p f y1 g l (.d (fbytes fs))) →
        ∀ a w, Rel C σ a w → Rel C (inv c') a w := fun c' σ h0 h1 h2 h3 h4 h5 h6 h7 h8 h9 h10 h11 h12 a w => Rel.keep ⟨h0.symm, .cons h1 rfl (.cons h2 rfl (.cons h3 rfl (.cons h4 rfl (.cons h5 rfl (.cons h6 rfl .nil))))), .cons h7 rfl (.cons h8 rfl (.cons h9 rfl (.cons h10 rfl (.cons h11 rfl (.cons h12 rfl .nil))))), hN.mono (by simp [keys])⟩
    refine AW.via inv (fun _ => True) ?_ ?_
    · refine AW.seq ?_
      by_cases hk1 : k = 1
      · subst hk1
        apply AW.list
        apply Wk.fad 0 0 false fd42_0 rfl (lt_of_ble rfl)
        apply Wk.ld (i := 80) 1 false ty3 rfl rfl (by conv => lhs; whnf) (lt_of_ble rfl)
        apply Wk.bin rfl rfl (r := .bool true) (fun w => by simp [go_sem]) (lt_of_ble rfl)
        apply Wk.mv (by conv => lhs; whnf) (lt_of_ble rfl)
        apply Wk.goff 21 (ok_faddr fd42_0) rfl rfl (by decide)
        apply Wk.goff 21 (ok_load 80 ty3) rfl rfl (by decide)
        apply Wk.goff 21 (ok_bin _ _ _ _ _) rfl rfl (by decide)
        apply Wk.pckT rfl (by conv => lhs; whnf) (lt_of_ble rfl)
        refine Wk.nil ?_
        refine AW.cond rfl (fun _ => ?_) (fun hc => by cases hc)
        refine AW.seq ?_
        cases hin : inB x.a 0 7
        · apply AW.list
          apply Wk.mv (by conv => lhs; whnf) (lt_of_ble rfl)
          apply Wk.drw 0 pick_ok Try.func65 rfl rfl rfl rfl ⟨_, rfl, by omega⟩ (by omega) rfl (lt_of_ble rfl)
          rintro r5 zs5 p5 ⟨k5, rfl, _⟩ hp5
          apply Wk.bin rfl rfl (r := .bool (decide (0 < (k5 : Int)))) (fun w => by simp [go_sem]) (lt_of_ble rfl)
          generalize decide (0 < (k5 : Int)) = b5
          cases b5
          case' true =>
            apply Wk.mv (by conv => lhs; whnf) (lt_of_ble rfl)
            apply Wk.gon 29 rfl rfl
            apply Wk.fad 1 0 false fd27_1 rfl (lt_of_ble rfl)
            apply Wk.gon 29 rfl rfl
            apply Wk.ld (i := 70) 1 false ty3 rfl rfl (by conv => lhs; whnf) (lt_of_ble rfl)
            apply Wk.gon 29 rfl rfl
            apply Wk.dat (sinb hin) Try.func60 rfl rfl rfl rfl rfl (lt_of_ble rfl)
            apply Wk.pckT rfl (by conv => lhs; whnf) (lt_of_ble rfl)
            refine Wk.nil ?_
          case' false =>
            apply Wk.mv (by conv => lhs; whnf) (lt_of_ble rfl)
            apply Wk.goff 29 (ok_faddr fd27_1) rfl rfl (by decide)
            apply Wk.goff 29 (ok_load 70 ty3) rfl rfl (by decide)
            apply Wk.goff 29 (ok_datw ((sinb hin).w rfl) Try.func60 rfl rfl) rfl rfl (by decide)
            apply Wk.pckF rfl (by conv => lhs; whnf) (lt_of_ble rfl)
            refine Wk.nil ?_
          · refine AW.cond rfl (fun hc => by cases hc) (fun _ => AW.skip ?_)
            repeat (first | refine inBlockA_normal ?_ | refine thenA_normal ?_)
            exact ⟨k2, trivial, fin _ _ rfl rfl rfl rfl rfl rfl rfl rfl rfl rfl rfl rfl rfl⟩
          · refine AW.cond rfl (fun hc => by cases hc) (fun _ => AW.skip ?_)
            repeat (first | refine inBlockA_normal ?_ | refine thenA_normal ?_)
            exact ⟨k2, trivial, fin _ _ rfl rfl rfl rfl rfl rfl rfl rfl rfl rfl rfl rfl rfl⟩
        · apply AW.list
          apply Wk.mv (by conv => lhs; whnf) (lt_of_ble rfl)
          apply Wk.drw 0 pick_ok Try.func65 rfl rfl rfl rfl ⟨_, rfl, by omega⟩ (by omega) rfl (lt_of_ble rfl)
          rintro r5 zs5 p5 ⟨k5, rfl, _⟩ hp5
          apply Wk.bin rfl rfl (r := .bool (decide (0 < (k5 : Int)))) (fun w => by simp [go_sem]) (lt_of_ble rfl)
          generalize decide (0 < (k5 : Int)) = b5
          cases b5
          case' true =>
            apply Wk.mv (by conv => lhs; whnf) (lt_of_ble rfl)
            apply Wk.gon 29 rfl rfl
            apply Wk.fad 1 0 false fd27_1 rfl (lt_of_ble rfl)
            apply Wk.gon 29 rfl rfl
            apply Wk.ld (i := 70) 1 false ty3 rfl rfl (by conv => lhs; whnf) (lt_of_ble rfl)
            apply Wk.gon 29 rfl rfl
            apply Wk.dat (sinb hin) Try.func60 rfl rfl rfl rfl rfl (lt_of_ble rfl)
            apply Wk.pckT rfl (by conv => lhs; whnf) (lt_of_ble rfl)
            refine Wk.nil ?_
          case' false =>
            apply Wk.mv (by conv => lhs; whnf) (lt_of_ble rfl)
            apply Wk.goff 29 (ok_faddr fd27_1) rfl rfl (by decide)
            apply Wk.goff 29 (ok_load 70 ty3) rfl rfl (by decide)
            apply Wk.goff 29 (ok_datw ((sinb hin).w rfl) Try.func60 rfl rfl) rfl rfl (by decide)
            apply Wk.pckF rfl (by conv => lhs; whnf) (lt_of_ble rfl)
            refine Wk.nil ?_
          · refine AW.cond rfl (fun hc => by cases hc) (fun _ => AW.skip ?_)
            repeat (first | refine inBlockA_normal ?_ | refine thenA_normal ?_)
            exact ⟨k2, trivial, fin _ _ rfl rfl rfl rfl rfl rfl rfl rfl rfl rfl rfl rfl rfl⟩
          · refine AW.cond rfl (fun _ => ?_) (fun hc => by cases hc)
            have hin2 := (inB_iff _ _ _).1 hin
            apply AW.draw (hm := hmix) (cs := _)
            · apply Wk.fad 1 0 false fd27_1 rfl (lt_of_ble rfl)
              apply Wk.ld (i := 70) 1 false ty3 rfl rfl (by conv => lhs; whnf) (lt_of_ble rfl)
              apply Wk.mv (by conv => lhs; whnf) (lt_of_ble rfl)
              apply Wk.fad 2 0 false fd27_2 rfl (lt_of_ble rfl)
              apply Wk.ld (i := 70) 1 false ty25 rfl rfl (by conv => lhs; whnf) (lt_of_ble rfl)
              apply Wk.len un25 rfl (lt_of_ble rfl)
              apply Wk.addi rfl rfl (by rw [e2]; omega) (lt_of_ble rfl)
              apply Wk.drw 0 pick_ok Try.func65 rfl rfl rfl rfl ⟨_, rfl, by rw [e2]; omega⟩ (by omega) rfl (lt_of_ble rfl)
              rintro r6 zs6 p6 ⟨k6, rfl, hk6⟩ hp6
              have hk6 : (k6 : Int) ≤ 30 := by have h := hk6 _ rfl; rw [e2] at h; omega
              apply Wk.addi rfl rfl (by omega) (lt_of_ble rfl)
              apply Wk.bin rfl rfl (r := .int .i64 ((x.a + (k6 : Int)) % 8)) (fun w => by simp [go_sem, Int.tmod_eq_emod_of_nonneg (show (0 : Int) ≤ x.a + (k6 : Int) by omega)]) (lt_of_ble rfl)
              apply Wk.fad 2 0 false fd42_2 rfl (lt_of_ble rfl)
              apply Wk.sto (i := 80) 1 false ty3 rfl rfl rfl rfl (Nat.le_of_ble_eq_true rfl) (lt_of_ble rfl)
              refine Wk.nil ?_
              repeat (first | refine inBlockA_normal ?_ | refine thenA_normal ?_)
              exact ⟨(x.a + (k6 : Int)) % 8, trivial, fin _ _ rfl rfl rfl rfl rfl rfl rfl rfl rfl rfl rfl rfl rfl⟩
            · rfl
            · rfl
      · by_cases hk2 : k = 2
        · subst hk2
          apply AW.list
          apply Wk.fad 0 0 false fd42_0 rfl (lt_of_ble rfl)
          apply Wk.ld (i := 80) 1 false ty3 rfl rfl (by conv => lhs; whnf) (lt_of_ble rfl)
          apply Wk.bin rfl rfl (r := .bool false) (fun w => by simp [go_sem]) (lt_of_ble rfl)
          apply Wk.mv (by conv => lhs; whnf) (lt_of_ble rfl)
          apply Wk.gon 21 rfl rfl
          apply Wk.fad 0 0 false fd42_0 rfl (lt_of_ble rfl)
          apply Wk.gon 21 rfl rfl
          apply Wk.ld (i := 80) 1 false ty3 rfl rfl (by conv => lhs; whnf) (lt_of_ble rfl)
          apply Wk.gon 21 rfl rfl
          apply Wk.bin rfl rfl (r := .bool true) (fun w => by simp [go_sem]) (lt_of_ble rfl)
          apply Wk.pckF rfl (by conv => lhs; whnf) (lt_of_ble rfl)
          refine Wk.nil ?_
          refine AW.cond rfl (fun _ => ?_) (fun hc => by cases hc)
          refine AW.seq ?_
          cases hin : inB x.a 0 7
          · apply AW.list
            apply Wk.mv (by conv => lhs; whnf) (lt_of_ble rfl)
            apply Wk.drw 0 pick_ok Try.func65 rfl rfl rfl rfl ⟨_, rfl, by omega⟩ (by omega) rfl (lt_of_ble rfl)
            rintro r5 zs5 p5 ⟨k5, rfl, _⟩ hp5
            apply Wk.bin rfl rfl (r := .bool (decide (0 < (k5 : Int)))) (fun w => by simp [go_sem]) (lt_of_ble rfl)
            generalize decide (0 < (k5 : Int)) = b5
            cases b5
            case' true =>
              apply Wk.mv (by conv => lhs; whnf) (lt_of_ble rfl)
              apply Wk.gon 29 rfl rfl
              apply Wk.fad 1 0 false fd27_1 rfl (lt_of_ble rfl)
              apply Wk.gon 29 rfl rfl
              apply Wk.ld (i := 70) 1 false ty3 rfl rfl (by conv => lhs; whnf) (lt_of_ble rfl)
              apply Wk.gon 29 rfl rfl
              apply Wk.dat (sinb hin) Try.func60 rfl rfl rfl rfl rfl (lt_of_ble rfl)
              apply Wk.pckT rfl (by conv => lhs; whnf) (lt_of_ble rfl)
              refine Wk.nil ?_
            case' false =>
              apply Wk.mv (by conv => lhs; whnf) (lt_of_ble rfl)
              apply Wk.goff 29 (ok_faddr fd27_1) rfl rfl (by decide)
              apply Wk.goff 29 (ok_load 70 ty3) rfl rfl (by decide)
              apply Wk.goff 29 (ok_datw ((sinb hin).w rfl) Try.func60 rfl rfl) rfl rfl (by decide)
              apply Wk.pckF rfl (by conv => lhs; whnf) (lt_of_ble rfl)
              refine Wk.nil ?_
            · refine AW.cond rfl (fun hc => by cases hc) (fun _ => AW.skip ?_)
              repeat (first | refine inBlockA_normal ?_ | refine thenA_normal ?_)
              exact ⟨k2, trivial, fin _ _ rfl rfl rfl rfl rfl rfl rfl rfl rfl rfl rfl rfl rfl⟩
            · refine AW.cond rfl (fun hc => by cases hc) (fun _ => AW.skip ?_)
              repeat (first | refine inBlockA_normal ?_ | refine thenA_normal ?_)
              exact ⟨k2, trivial, fin _ _ rfl rfl rfl rfl rfl rfl rfl rfl rfl rfl rfl rfl rfl⟩
          · apply AW.list
            apply Wk.mv (by conv => lhs; whnf) (lt_of_ble rfl)
            apply Wk.drw 0 pick_ok Try.func65 rfl rfl rfl rfl ⟨_, rfl, by omega⟩ (by omega) rfl (lt_of_ble rfl)
            rintro r5 zs5 p5 ⟨k5, rfl, _⟩ hp5
            apply Wk.bin rfl rfl (r := .bool (decide (0 < (k5 : Int)))) (fun w => by simp [go_sem]) (lt_of_ble rfl)
            generalize decide (0 < (k5 : Int)) = b5
            cases b5
            case' true =>
              apply Wk.mv (by conv => lhs; whnf) (lt_of_ble rfl)
              apply Wk.gon 29 rfl rfl
              apply Wk.fad 1 0 false fd27_1 rfl (lt_of_ble rfl)
              apply Wk.gon 29 rfl rfl
              apply Wk.ld (i := 70) 1 false ty3 rfl rfl (by conv => lhs; whnf) (lt_of_ble rfl)
              apply Wk.gon 29 rfl rfl
              apply Wk.dat (sinb hin) Try.func60 rfl rfl rfl rfl rfl (lt_of_ble rfl)
              apply Wk.pckT rfl (by conv => lhs; whnf) (lt_of_ble rfl)
              refine Wk.nil ?_
            case' false =>
              apply Wk.mv (by conv => lhs; whnf) (lt_of_ble rfl)
              apply Wk.goff 29 (ok_faddr fd27_1) rfl rfl (by decide)
              apply Wk.goff 29 (ok_load 70 ty3) rfl rfl (by decide)
              apply Wk.goff 29 (ok_datw ((sinb hin).w rfl) Try.func60 rfl rfl) rfl rfl (by decide)
              apply Wk.pckF rfl (by conv => lhs; whnf) (lt_of_ble rfl)
              refine Wk.nil ?_
            · refine AW.cond rfl (fun hc => by cases hc) (fun _ => AW.skip ?_)
              repeat (first | refine inBlockA_normal ?_ | refine thenA_normal ?_)
              exact ⟨k2, trivial, fin _ _ rfl rfl rfl rfl rfl rfl rfl rfl rfl rfl rfl rfl rfl⟩
            · refine AW.cond rfl (fun _ => ?_) (fun hc => by cases hc)
              have hin2 := (inB_iff _ _ _).1 hin
              apply AW.draw (hm := hmix) (cs := _)
              · apply Wk.fad 1 0 false fd27_1 rfl (lt_of_ble rfl)
                apply Wk.ld (i := 70) 1 false ty3 rfl rfl (by conv => lhs; whnf) (lt_of_ble rfl)
                apply Wk.mv (by conv => lhs; whnf) (lt_of_ble rfl)
                apply Wk.fad 2 0 false fd27_2 rfl (lt_of_ble rfl)
                apply Wk.ld (i := 70) 1 false ty25 rfl rfl (by conv => lhs; whnf) (lt_of_ble rfl)
                apply Wk.len un25 rfl (lt_of_ble rfl)
                apply Wk.addi rfl rfl (by rw [e2]; omega) (lt_of_ble rfl)
                apply Wk.drw 0 pick_ok Try.func65 rfl rfl rfl rfl ⟨_, rfl, by rw [e2]; omega⟩ (by omega) rfl (lt_of_ble rfl)
                rintro r6 zs6 p6 ⟨k6, rfl, hk6⟩ hp6
                have hk6 : (k6 : Int) ≤ 30 := by have h := hk6 _ rfl; rw [e2] at h; omega
                apply Wk.addi rfl rfl (by omega) (lt_of_ble rfl)
                apply Wk.bin rfl rfl (r := .int .i64 ((x.a + (k6 : Int)) % 8)) (fun w => by simp [go_sem, Int.tmod_eq_emod_of_nonneg (show (0 : Int) ≤ x.a + (k6 : Int) by omega)]) (lt_of_ble rfl)
                apply Wk.fad 2 0 false fd42_2 rfl (lt_of_ble rfl)
                apply Wk.sto (i := 80) 1 false ty3 rfl rfl rfl rfl (Nat.le_of_ble_eq_true rfl) (lt_of_ble rfl)
                refine Wk.nil ?_
                repeat (first | refine inBlockA_normal ?_ | refine thenA_normal ?_)
                exact ⟨(x.a + (k6 : Int)) % 8, trivial, fin _ _ rfl rfl rfl rfl rfl rfl rfl rfl rfl rfl rfl rfl rfl⟩
              · rfl
              · rfl
        · apply AW.list
          apply Wk.fad 0 0 false fd42_0 rfl (lt_of_ble rfl)
          apply Wk.ld (i := 80) 1 false ty3 rfl rfl (by conv => lhs; whnf) (lt_of_ble rfl)
          apply Wk.bin rfl rfl (r := .bool false) (fun w => by simp [go_sem, hk1]) (lt_of_ble rfl)
          apply Wk.mv (by conv => lhs; whnf) (lt_of_ble rfl)
          apply Wk.gon 21 rfl rfl
          apply Wk.fad 0 0 false fd42_0 rfl (lt_of_ble rfl)
          apply Wk.gon 21 rfl rfl
          apply Wk.ld (i := 80) 1 false ty3 rfl rfl (by conv => lhs; whnf) (lt_of_ble rfl)
          apply Wk.gon 21 rfl rfl
          apply Wk.bin rfl rfl (r := .bool false) (fun w => by simp [go_sem, hk2]) (lt_of_ble rfl)
          apply Wk.pckF rfl (by conv => lhs; whnf) (lt_of_ble rfl)
          refine Wk.nil ?_
          refine AW.cond rfl (fun hc => by cases hc) (fun _ => AW.skip ?_)
          repeat (first | refine inBlockA_normal ?_ | refine thenA_normal ?_)
          exact ⟨k2, trivial, fin _ _ rfl rfl rfl rfl rfl rfl rfl rfl rfl rfl rfl rfl rfl⟩
    · intro c9 _
      show AW Try.prog C _ _ (St.of 48 [(2, .ptr 2 0), (3, .ptr 3 0), (4, .ptr 4 0), (6, .ptr 60 0), (7, .ptr 70 0), (8, .ptr 80 0)] [(2, .var (cfgC 0 0 0 0 0)), (3, .var txN), (4, .var frmZ0), (60, .var (cfgC m w s0 t y)), (70, .var (txC x)), (80, .var (frmO k s c9 p f y1 g l (.d (fbytes fs))))])
      refine AW.seq ?_
      apply AW.draw (hm := hmix) (cs := _)
      · apply Wk.ld (i := 60) 5 true ty24 rfl rfl (by conv => lhs; whnf) (lt_of_ble rfl)
        apply Wk.ld (i := 70) 10 true ty27 rfl rfl (by conv => lhs; whnf) (lt_of_ble rfl)
        apply Wk.ld (i := 80) 9 true ty42 rfl rfl (by conv => lhs; whnf) (lt_of_ble rfl)
        apply Wk.sto (i := 2) 5 true ty24 rfl rfl rfl rfl (Nat.le_of_ble_eq_true rfl) (lt_of_ble rfl)
        apply Wk.sto (i := 3) 10 true ty27 rfl rfl rfl rfl (Nat.le_of_ble_eq_true rfl) (lt_of_ble rfl)
        apply Wk.sto (i := 4) 9 true ty42 rfl rfl rfl rfl (Nat.le_of_ble_eq_true rfl) (lt_of_ble rfl)
        refine Wk.nil (AW.ret ?_)
        exact RetQ.ret [] (.cons ⟨2, 0, _, _, _, rfl, rfl, ty24, rfl⟩ (.cons ⟨3, 0, _, _, _, rfl, rfl, ty27, rfl⟩ (.cons ⟨4, 0, _, _, _, rfl, rfl, ty42, rfl⟩ .nil))) ⟨⟨m, w, s0, t, y, x, k, s, c9, p, f, y1, g, l, fs, rfl, hx, hfl⟩, rfl⟩ none_kept
      · rfl
      · rfl
  · rintro r ⟨m, w, p, u, y, x, k, s, c, pl, fi, sy, g, ln, fs, rfl, _⟩; rfl
theorem hearX_few (x : TX) (k ack : Int) (fi : Bool) (sy : Int) (hx : x.few) : (hearX x k ack fi sy).few := by
  have h1 : (ackX x ack).few := by
    unfold ackX
    split
    · exact hx
    · exact ⟨⟨by simp only [List.length_drop]; have := hx.1.1; omega, fun d hd => hx.1.2 d (List.mem_of_mem_drop hd)⟩, hx.2⟩
  have h2 : (said3 k sy (said2 fi (said1 k sy (ackX x ack)))).few := by
    unfold said3 said2 said1
    repeat' split
    all_goals exact h1
  unfold hearX
  split
  · exact hx
  · split
    · exact h1
    · exact h2
theorem stxhear_ok (m0 w0 p0 u0 y0 : Int) (x : TX) (k sq ack : Int) (pl fi : Bool) (sy g ln : Int) (fs : List (Fin 256)) (hok : txOkB ⟨m0, w0, p0, u0, y0⟩ x = true) (hk : k = 1 ∨ k = 2) (hfr : frmB k sq ack pl fi sy g ln fs.length = true) :
    DataOk Try.prog 32 [cfgA m0 w0 p0 u0 y0, txA x, frmZ k sq ack pl fi sy g ln (fbytes fs)] (txA (hearX x k ack fi sy)) := by
  have f := txOk_facts hok
  have hx := (txOk_four hok).2
  have hack := frm_ack hfr
  have hs0 := f.2.2.2.2.2.2.2.2.2.1
  have hc0 := f.2.2.2.2.2.2.2.2.2.2.2.2.1
  have hf4 := (txOk_four hok).1
  have ht := shear_x x k sq ack pl fi sy g ln (bytesD (fs.map (·.val))) f.2.2.2.2.2.2.1 ((inB_iff _ _ _).2 hack) hx (by omega) (by omega)
  exact shearD m0 w0 p0 u0 y0 x _ k sq ack pl fi sy g ln (fs.map (·.val)) hok (sfrmZ k sq ack pl fi sy g ln _ (by rw [List.length_map]; exact hfr)) hk hx (hearX_few x k ack fi sy hx) ht
theorem stxhearNo (m0 w0 p0 u0 y0 : Int) (x : TX) (k sq ack : Int) (pl fi : Bool) (sy g ln : Int) (fs : List (Fin 256)) (hno : txOkB ⟨m0, w0, p0, u0, y0⟩ x = false ∨ frmB k sq ack pl fi sy g ln fs.length = false ∨ (k ≠ 1 ∧ k ≠ 2)) :
    DataOk Try.prog 32 [cfgA m0 w0 p0 u0 y0, txA x, frmZ k sq ack pl fi sy g ln (fbytes fs)] txNil :=
  shearTNo m0 w0 p0 u0 y0 x k sq ack pl fi sy g ln (fs.map fun z : Fin 256 => z.val) _ (sfrmZ k sq ack pl fi sy g ln _ (by rw [List.length_map])) hno
theorem sfrmY {k s c : Int} {p f : Bool} {y g l : Int} {fs : List (Fin 256)} {b : Bool} (hb : frmB k s c p f y g l fs.length = b) : DataOk Try.prog 33 [frmZ k s c p f y g l (fbytes fs)] (.d (.v (.bool b))) := sfrmZ k s c p f y g l (fs.map fun z : Fin 256 => z.val) (by rw [List.length_map]; exact hb)
end Go.Proofs.Ytdojkmjamilllaa
