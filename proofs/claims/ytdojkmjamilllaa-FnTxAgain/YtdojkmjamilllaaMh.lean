/- Laws and contracts that the proof stands on: AbsHearJ, AbsSenderD, AbsSendI, AbsSendJ, LiParts, AbsLiTx. -/
import Derived.Test.YtdojkmjamilllaaMa
import Derived.Test.YtdojkmjamilllaaMb
import Derived.Test.YtdojkmjamilllaaMc
import Derived.Test.YtdojkmjamilllaaMd
import Derived.Test.YtdojkmjamilllaaMe
import Derived.Test.YtdojkmjamilllaaMf
import Derived.Test.YtdojkmjamilllaaMg
/- TxHear of the program, as a whole. Written by tools/mk_AbsHearJ.py. -/
namespace Go.Proofs.Ytdojkmjamilllaa
open Go Go.RowKit
theorem isByZ (k s k2 : Int) (p f : Bool) (y g l : Int) (fs : List (Fin 256)) (hl : fs.length ≤ 2000000) : DataOk Try.prog 73 [frmZ k s k2 p f y g l (fbytes fs)] (.d (.v (.bool ((k == 1 || k == 2) && frmB k s k2 p f y g l fs.length)))) := by
  have hi : ∀ k, DataOk Try.prog 27 [frmZ k s k2 p f y g l (fbytes fs)] (.d (.v (.bool (frmB k s k2 p f y g l fs.length)))) := fun k => ifrm_ok k s k2 p f y g l fs hl
  simp only [frmZ, frmZC] at hi ⊢
  refine Spec.intro (n := 15) (rv := [.tmp 2]) Try.func73 rfl rfl rfl (by simp) fun C hN hX => ?_
  refine AW.seq ?_
  apply AW.list
  apply Wk.bx 1 rfl rfl (lt_of_ble rfl)
  apply Wk.asg (by conv => lhs; whnf) (lt_of_ble rfl)
  refine Wk.nil ?_
  refine AW.seq ?_
  by_cases h1 : k = 1
  · subst h1
    apply AW.list
    apply Wk.fad 0 0 false fd42_0 rfl (lt_of_ble rfl)
    apply Wk.ld (i := 1) 1 false ty3 rfl rfl (by conv => lhs; whnf) (lt_of_ble rfl)
    apply Wk.bin rfl rfl (fun w => by simp [go_sem] <;> rfl) (lt_of_ble rfl)
    apply Wk.mv (by conv => lhs; whnf) (lt_of_ble rfl)
    apply Wk.goff 6 (ok_faddr fd42_0) rfl rfl (by decide)
    apply Wk.goff 6 (ok_load 1 ty3) rfl rfl (by decide)
    apply Wk.goff 6 (ok_bin _ _ _ _ _) rfl rfl (by decide)
    apply Wk.pckT rfl (by conv => lhs; whnf) (lt_of_ble rfl)
    apply Wk.mv (by conv => lhs; whnf) (lt_of_ble rfl)
    apply Wk.gon 11 rfl rfl
    apply Wk.ld (i := 1) 9 true ty42 rfl rfl (by conv => lhs; whnf) (lt_of_ble rfl)
    apply Wk.gon 11 rfl rfl
    apply Wk.dat (hi 1) Try.func27 rfl rfl rfl rfl rfl (lt_of_ble rfl)
    apply Wk.pckT rfl (by conv => lhs; whnf) (lt_of_ble rfl)
    apply Wk.asg (by conv => lhs; whnf) (lt_of_ble rfl)
    refine Wk.nil (AW.ret ?_)
    exact RetQ.ret [] (.cons rfl .nil) ⟨rfl, rfl⟩ none_kept
  by_cases h2 : k = 2
  · subst h2
    apply AW.list
    apply Wk.fad 0 0 false fd42_0 rfl (lt_of_ble rfl)
    apply Wk.ld (i := 1) 1 false ty3 rfl rfl (by conv => lhs; whnf) (lt_of_ble rfl)
    apply Wk.bin rfl rfl (fun w => by simp [go_sem] <;> rfl) (lt_of_ble rfl)
    apply Wk.mv (by conv => lhs; whnf) (lt_of_ble rfl)
    apply Wk.gon 6 rfl rfl
    apply Wk.fad 0 0 false fd42_0 rfl (lt_of_ble rfl)
    apply Wk.gon 6 rfl rfl
    apply Wk.ld (i := 1) 1 false ty3 rfl rfl (by conv => lhs; whnf) (lt_of_ble rfl)
    apply Wk.gon 6 rfl rfl
    apply Wk.bin rfl rfl (fun w => by simp [go_sem] <;> rfl) (lt_of_ble rfl)
    apply Wk.pckF rfl (by conv => lhs; whnf) (lt_of_ble rfl)
    apply Wk.mv (by conv => lhs; whnf) (lt_of_ble rfl)
    apply Wk.gon 11 rfl rfl
    apply Wk.ld (i := 1) 9 true ty42 rfl rfl (by conv => lhs; whnf) (lt_of_ble rfl)
    apply Wk.gon 11 rfl rfl
    apply Wk.dat (hi 2) Try.func27 rfl rfl rfl rfl rfl (lt_of_ble rfl)
    apply Wk.pckT rfl (by conv => lhs; whnf) (lt_of_ble rfl)
    apply Wk.asg (by conv => lhs; whnf) (lt_of_ble rfl)
    refine Wk.nil (AW.ret ?_)
    exact RetQ.ret [] (.cons rfl .nil) ⟨rfl, rfl⟩ none_kept
  · have hb : ((k == 1 || k == 2) && frmB k s k2 p f y g l fs.length) = false := by simp [h1, h2]
    rw [hb]
    apply AW.list
    apply Wk.fad 0 0 false fd42_0 rfl (lt_of_ble rfl)
    apply Wk.ld (i := 1) 1 false ty3 rfl rfl (by conv => lhs; whnf) (lt_of_ble rfl)
    apply Wk.bin rfl rfl (r := .bool false) (fun w => by simp [go_sem, h1]) (lt_of_ble rfl)
    apply Wk.mv (by conv => lhs; whnf) (lt_of_ble rfl)
    apply Wk.gon 6 rfl rfl
    apply Wk.fad 0 0 false fd42_0 rfl (lt_of_ble rfl)
    apply Wk.gon 6 rfl rfl
    apply Wk.ld (i := 1) 1 false ty3 rfl rfl (by conv => lhs; whnf) (lt_of_ble rfl)
    apply Wk.gon 6 rfl rfl
    apply Wk.bin rfl rfl (r := .bool false) (fun w => by simp [go_sem, h2]) (lt_of_ble rfl)
    apply Wk.pckF rfl (by conv => lhs; whnf) (lt_of_ble rfl)
    apply Wk.mv (by conv => lhs; whnf) (lt_of_ble rfl)
    apply Wk.goff 11 (ok_load 1 ty42) rfl rfl (by decide)
    apply Wk.goff 11 (ok_datw ((hi k).w rfl) Try.func27 rfl rfl) rfl rfl (by decide)
    apply Wk.pckF rfl (by conv => lhs; whnf) (lt_of_ble rfl)
    apply Wk.asg (by conv => lhs; whnf) (lt_of_ble rfl)
    refine Wk.nil (AW.ret ?_)
    exact RetQ.ret [] (.cons rfl .nil) ⟨rfl, rfl⟩ none_kept
theorem isByY {k s k2 : Int} {p f : Bool} {y g l : Int} {fs : List (Fin 256)} (hl : fs.length ≤ 2000000) {b : Bool} (h : ((k == 1 || k == 2) && frmB k s k2 p f y g l fs.length) = b) : DataOk Try.prog 73 [frmZ k s k2 p f y g l (fbytes fs)] (.d (.v (.bool b))) := h ▸ isByZ k s k2 p f y g l fs hl
set_option maxHeartbeats 4000000 in
set_option maxRecDepth 100000 in
theorem itxhearNo (m0 w0 p0 u0 y0 : Int) (x : TX) (k sq ack : Int) (pl fi : Bool) (sy g ln : Int) (fs : List (Fin 256)) (hfl : fs.length ≤ 2000000) (hno : txOkB ⟨m0, w0, p0, u0, y0⟩ x = false ∨ ((k == 1 || k == 2) && frmB k sq ack pl fi sy g ln fs.length) = false) :
    DataOk Try.prog 31 [cfgA m0 w0 p0 u0 y0, txA x, frmZ k sq ack pl fi sy g ln (fbytes fs)] txNil := by
  cases hok : txOkB ⟨m0, w0, p0, u0, y0⟩ x
  · have hb := isByZ k sq ack pl fi sy g ln fs hfl
    simp only [frmZ, frmZC] at hb ⊢
    refine Spec.intro (n := 26) (rv := [.cell 6 27]) Try.func31 rfl rfl rfl (by simp) fun C hN hX => ?_
    refine AW.seq ?_
    apply AW.list
    apply Wk.bx 3 rfl rfl (lt_of_ble rfl)
    apply Wk.bx 4 rfl rfl (lt_of_ble rfl)
    apply Wk.bx 50 rfl rfl (lt_of_ble rfl)
    apply Wk.alc 6 [.int .i64 0, .int .i64 0, .slice none 0 0, .int .i64 0, .slice none 0 0, .bool false, .int .i64 0, .bool false, .int .i64 0, .bool false] ze27 rfl rfl (lt_of_ble rfl)
    refine Wk.nil ?_
    refine AW.seq (AW.seq ?_)
    apply AW.list
    apply Wk.ld (i := 3) 5 true ty24 rfl rfl (by conv => lhs; whnf) (lt_of_ble rfl)
    apply Wk.ld (i := 4) 10 true ty27 rfl rfl (by conv => lhs; whnf) (lt_of_ble rfl)
    apply Wk.dat (itxb hok) Try.func17 rfl rfl rfl rfl rfl (lt_of_ble rfl)
    apply Wk.un rfl (fun w => by simp [go_sem] <;> rfl) (lt_of_ble rfl)
    apply Wk.mv (by conv => lhs; whnf) (lt_of_ble rfl)
    apply Wk.goff 12 (ok_load 50 ty42) rfl rfl (by simp)
    apply Wk.goff 12 (ok_datw (hb.w rfl) Try.func73 rfl rfl) rfl rfl (by simp)
    apply Wk.goff 12 (ok_un _ _ _) rfl rfl (by simp)
    apply Wk.pckT rfl (by conv => lhs; whnf) (lt_of_ble rfl)
    refine Wk.nil ?_
    refine AW.cond rfl (fun _ => ?_) (fun hc => by cases hc)
    refine AW.seq ?_
    apply AW.list
    apply Wk.bld [.int .i64 0, .int .i64 0, .slice none 0 0, .int .i64 0, .slice none 0 0, .bool false, .int .i64 0, .bool false, .int .i64 0, .bool false] [(0, 1), (1, 1), (2, 1), (3, 1), (4, 1), (5, 1), (6, 1), (7, 1), (8, 1), (9, 1)] bl27 rfl (by conv => lhs; whnf) (lt_of_ble rfl)
    apply Wk.sto (i := 6) 10 true ty27 rfl rfl rfl rfl (Nat.le_of_ble_eq_true rfl) (lt_of_ble rfl)
    refine Wk.nil (AW.ret ?_)
    repeat (first | refine thenA_ret ?_ | refine inBlockA_ret ?_)
    exact RetQ.ret [] (.cons ⟨6, 0, _, _, _, rfl, rfl, ty27, rfl⟩ .nil) ⟨rfl, rfl⟩ none_kept
  · have hb := isByY hfl (hno.resolve_left (by rw [hok]; simp))
    simp only [frmZ, frmZC] at hb ⊢
    refine Spec.intro (n := 26) (rv := [.cell 6 27]) Try.func31 rfl rfl rfl (by simp) fun C hN hX => ?_
    refine AW.seq ?_
    apply AW.list
    apply Wk.bx 3 rfl rfl (lt_of_ble rfl)
    apply Wk.bx 4 rfl rfl (lt_of_ble rfl)
    apply Wk.bx 50 rfl rfl (lt_of_ble rfl)
    apply Wk.alc 6 [.int .i64 0, .int .i64 0, .slice none 0 0, .int .i64 0, .slice none 0 0, .bool false, .int .i64 0, .bool false, .int .i64 0, .bool false] ze27 rfl rfl (lt_of_ble rfl)
    refine Wk.nil ?_
    refine AW.seq (AW.seq ?_)
    apply AW.list
    apply Wk.ld (i := 3) 5 true ty24 rfl rfl (by conv => lhs; whnf) (lt_of_ble rfl)
    apply Wk.ld (i := 4) 10 true ty27 rfl rfl (by conv => lhs; whnf) (lt_of_ble rfl)
    apply Wk.dat (itxb hok) Try.func17 rfl rfl rfl rfl rfl (lt_of_ble rfl)
    apply Wk.un rfl (fun w => by simp [go_sem] <;> rfl) (lt_of_ble rfl)
    apply Wk.mv (by conv => lhs; whnf) (lt_of_ble rfl)
    apply Wk.gon 12 rfl rfl
    apply Wk.ld (i := 50) 9 true ty42 rfl rfl (by conv => lhs; whnf) (lt_of_ble rfl)
    apply Wk.gon 12 rfl rfl
    apply Wk.dat hb Try.func73 rfl rfl rfl rfl rfl (lt_of_ble rfl)
    apply Wk.gon 12 rfl rfl
    apply Wk.un rfl (fun w => by simp [go_sem] <;> rfl) (lt_of_ble rfl)
    apply Wk.pckF rfl (by conv => lhs; whnf) (lt_of_ble rfl)
    refine Wk.nil ?_
    refine AW.cond rfl (fun _ => ?_) (fun hc => by cases hc)
    refine AW.seq ?_
    apply AW.list
    apply Wk.bld [.int .i64 0, .int .i64 0, .slice none 0 0, .int .i64 0, .slice none 0 0, .bool false, .int .i64 0, .bool false, .int .i64 0, .bool false] [(0, 1), (1, 1), (2, 1), (3, 1), (4, 1), (5, 1), (6, 1), (7, 1), (8, 1), (9, 1)] bl27 rfl (by conv => lhs; whnf) (lt_of_ble rfl)
    apply Wk.sto (i := 6) 10 true ty27 rfl rfl rfl rfl (Nat.le_of_ble_eq_true rfl) (lt_of_ble rfl)
    refine Wk.nil (AW.ret ?_)
    repeat (first | refine thenA_ret ?_ | refine inBlockA_ret ?_)
    exact RetQ.ret [] (.cons ⟨6, 0, _, _, _, rfl, rfl, ty27, rfl⟩ .nil) ⟨rfl, rfl⟩ none_kept
set_option maxHeartbeats 4000000 in
set_option maxRecDepth 100000 in
theorem itxhearN (m0 w0 p0 u0 y0 n a : Int) (fl : List Dat) (s : Int) (qu : List Dat) (q : Bool) (t : Int) (hh : Bool) (c : Int) (dd : Bool) (a' : Int) (h' : Nat) (s' : Int) (q' : Bool) (t' : Int) (hh' : Bool) (c' : Int) (d' : Bool) (k sq ack : Int) (pl fi : Bool) (sy g ln : Int) (fs : List (Fin 256)) (hfl : fs.length ≤ 2000000) (hok : txOkB ⟨m0, w0, p0, u0, y0⟩ ⟨n, a, fl, s, qu, q, t, hh, c, dd⟩ = true) (hfr : ((k == 1 || k == 2) && frmB k sq ack pl fi sy g ln fs.length) = true) (hh4 : h' ≤ 4) (hn4 : ([] : List Dat).length ≤ 4) (hL : ∀ i d, ([] : List Dat)[i]? = some d → ringF fl ((h' + i) % 4) = sl (some d)) (ha' : 0 ≤ a' ∧ a' < 8) (hnx : (a' + (([] : List Dat).length : Int)) % 8 = n)
    (ht : Spec Try.prog 74 [.ptr 27 0, frmZ k sq ack pl fi sy g ln (fbytes fs)] (sndB (sndC m0 w0 p0 u0 y0 a (ringF fl) 0 (fl.length : Int) s qu.length q t hh c dd) qu.length qu) (fun r bs => r = .tup [] ∧ bs = sndB (sndC m0 w0 p0 u0 y0 a' (ringF fl) (h' : Int) (([] : List Dat).length : Int) s' qu.length q' t' hh' c' d') qu.length qu)) :
    DataOk Try.prog 31 [cfgA m0 w0 p0 u0 y0, txA ⟨n, a, fl, s, qu, q, t, hh, c, dd⟩, frmZ k sq ack pl fi sy g ln (fbytes fs)] (txA ⟨n, a', [], s', qu, q', t', hh', c', d'⟩) := by
  have h4 := txOk_four hok
  have hb := isByY hfl hfr
  simp only at h4
  have cn := inew m0 w0 p0 u0 y0 ⟨n, a, fl, s, qu, q, t, hh, c, dd⟩ h4.1 h4.2
  simp only at cn
  have cs := istateN m0 w0 p0 u0 y0 a' (ringF fl) s' qu.length q' t' hh' c' d' qu h' hh4 hn4 hL ha'
  rw [hnx] at cs
  simp only [frmZ, frmZC] at hb ht ⊢
  refine Spec.intro (n := 26) (rv := [.cell 6 27]) Try.func31 rfl rfl rfl (by simp) fun C hN hX => ?_
  refine AW.seq ?_
  apply AW.list
  apply Wk.bx 3 rfl rfl (lt_of_ble rfl)
  apply Wk.bx 4 rfl rfl (lt_of_ble rfl)
  apply Wk.bx 50 rfl rfl (lt_of_ble rfl)
  apply Wk.alc 6 [.int .i64 0, .int .i64 0, .slice none 0 0, .int .i64 0, .slice none 0 0, .bool false, .int .i64 0, .bool false, .int .i64 0, .bool false] ze27 rfl rfl (lt_of_ble rfl)
  refine Wk.nil ?_
  refine AW.seq (AW.seq ?_)
  apply AW.list
  apply Wk.ld (i := 3) 5 true ty24 rfl rfl (by conv => lhs; whnf) (lt_of_ble rfl)
  apply Wk.ld (i := 4) 10 true ty27 rfl rfl (by conv => lhs; whnf) (lt_of_ble rfl)
  apply Wk.dat (itxb hok) Try.func17 rfl rfl rfl rfl rfl (lt_of_ble rfl)
  apply Wk.un rfl (fun w => by simp [go_sem] <;> rfl) (lt_of_ble rfl)
  apply Wk.mv (by conv => lhs; whnf) (lt_of_ble rfl)
  apply Wk.gon 12 rfl rfl
  apply Wk.ld (i := 50) 9 true ty42 rfl rfl (by conv => lhs; whnf) (lt_of_ble rfl)
  apply Wk.gon 12 rfl rfl
  apply Wk.dat hb Try.func73 rfl rfl rfl rfl rfl (lt_of_ble rfl)
  apply Wk.gon 12 rfl rfl
  apply Wk.un rfl (fun w => by simp [go_sem] <;> rfl) (lt_of_ble rfl)
  apply Wk.pckF rfl (by conv => lhs; whnf) (lt_of_ble rfl)
  refine Wk.nil ?_
  refine AW.cond rfl (fun hc => by cases hc) (fun _ => AW.skip (thenA_normal ?_))
  refine AW.seq ?_
  apply AW.list
  apply Wk.ld (i := 3) 5 true ty24 rfl rfl (by conv => lhs; whnf) (lt_of_ble rfl)
  apply Wk.ld (i := 4) 10 true ty27 rfl rfl (by conv => lhs; whnf) (lt_of_ble rfl)
  apply Wk.cal [] [27, 66] cn (in_snd _ rfl _ _ _ _ _ _ _ _ _ _ _ _ _ _ _ _ _ _) ⟨_, _, rfl, rfl⟩ Try.func51 rfl rfl rfl rfl (by simp; exact ⟨rfl, rfl⟩) rfl (fun i hi => by cases hi) (lt_of_ble rfl)
  rintro r bs' ⟨rfl, rfl⟩
  apply Wk.asg (by conv => lhs; whnf) (lt_of_ble rfl)
  refine Wk.nil ?_
  refine AW.seq ?_
  apply AW.list
  apply Wk.mv (by conv => lhs; whnf) (lt_of_ble rfl)
  apply Wk.ld (i := 50) 9 true ty42 rfl rfl (by conv => lhs; whnf) (lt_of_ble rfl)
  apply Wk.cal [27, 66] [] ht (in_snd _ rfl _ _ _ _ _ _ _ _ _ _ _ _ _ _ _ _ _ _) ⟨_, _, rfl, rfl⟩ Try.func74 rfl rfl rfl rfl (fun i hi => by cases hi) rfl (two_in rfl (by exact within_parts _)) (lt_of_ble rfl)
  rintro r bs' ⟨rfl, rfl⟩
  refine Wk.nil ?_
  refine AW.seq ?_
  apply AW.list
  apply Wk.mv (by conv => lhs; whnf) (lt_of_ble rfl)
  apply Wk.calr [27, 66] [17] cs (in_sndF _ rfl _ _ _ _ _ _ _ _ _ _ _ _ _ _ _ _ _ _ []) (by rintro r bs' ⟨rfl, rfl⟩; exact keep2) ⟨_, _, rfl, rfl⟩ Try.func53 rfl rfl rfl rfl (by simp; rfl) rfl (two_in rfl (by exact within_parts _)) (lt_of_ble rfl)
  rintro r bs' ⟨rfl, rfl⟩
  apply Wk.sto (i := 6) 10 true ty27 rfl rfl rfl rfl (Nat.le_of_ble_eq_true rfl) (lt_of_ble rfl)
  refine Wk.nil ?_
  refine AW.thawc (j := 6) (c := 4) (i := 66) _ rfl rfl rfl (asData_parts qu) hX.none ?_
  refine AW.nrmb (j := 6) rfl ?_
  refine AW.ret ?_
  exact RetQ.ret [] (.cons ⟨6, 0, _, _, _, rfl, rfl, ty27, rfl⟩ .nil) ⟨rfl, rfl⟩ none_kept
set_option maxHeartbeats 4000000 in
set_option maxRecDepth 100000 in
theorem itxhearO (m0 w0 p0 u0 y0 n a : Int) (fl : List Dat) (s : Int) (qu : List Dat) (q : Bool) (t : Int) (hh : Bool) (c : Int) (dd : Bool) (a' : Int) (h' : Nat) (fl' : List Dat) (hne : fl' ≠ []) (s' : Int) (q' : Bool) (t' : Int) (hh' : Bool) (c' : Int) (d' : Bool) (k sq ack : Int) (pl fi : Bool) (sy g ln : Int) (fs : List (Fin 256)) (hfl : fs.length ≤ 2000000) (hok : txOkB ⟨m0, w0, p0, u0, y0⟩ ⟨n, a, fl, s, qu, q, t, hh, c, dd⟩ = true) (hfr : ((k == 1 || k == 2) && frmB k sq ack pl fi sy g ln fs.length) = true) (hh4 : h' ≤ 4) (hn4 : (fl' : List Dat).length ≤ 4) (hL : ∀ i d, (fl' : List Dat)[i]? = some d → ringF fl ((h' + i) % 4) = sl (some d)) (ha' : 0 ≤ a' ∧ a' < 8) (hnx : (a' + ((fl' : List Dat).length : Int)) % 8 = n)
    (ht : Spec Try.prog 74 [.ptr 27 0, frmZ k sq ack pl fi sy g ln (fbytes fs)] (sndB (sndC m0 w0 p0 u0 y0 a (ringF fl) 0 (fl.length : Int) s qu.length q t hh c dd) qu.length qu) (fun r bs => r = .tup [] ∧ bs = sndB (sndC m0 w0 p0 u0 y0 a' (ringF fl) (h' : Int) ((fl' : List Dat).length : Int) s' qu.length q' t' hh' c' d') qu.length qu)) :
    DataOk Try.prog 31 [cfgA m0 w0 p0 u0 y0, txA ⟨n, a, fl, s, qu, q, t, hh, c, dd⟩, frmZ k sq ack pl fi sy g ln (fbytes fs)] (txA ⟨n, a', fl', s', qu, q', t', hh', c', d'⟩) := by
  have h4 := txOk_four hok
  have hb := isByY hfl hfr
  simp only at h4
  have cn := inew m0 w0 p0 u0 y0 ⟨n, a, fl, s, qu, q, t, hh, c, dd⟩ h4.1 h4.2
  simp only at cn
  have cs := istateO m0 w0 p0 u0 y0 a' (ringF fl) s' qu.length q' t' hh' c' d' qu h' fl' hne hh4 hn4 hL ha'
  rw [hnx] at cs
  simp only [frmZ, frmZC] at hb ht ⊢
  have ev : flV fl' = .own 17 (fl'.length - 1) := if_neg hne
  have ex : flX fl' = [(17, .own (fl'.length - 1) 47 3 (piecesA fl'))] := if_neg hne
  have ip : PostIn [27, 66, 17] (fun r bs => r = stA0 n a' (flV fl') s' qu.length q' t' hh' c' d' ∧ bs = sndB (sndC m0 w0 p0 u0 y0 a' (ringF fl) (h' : Int) ((fl' : List Dat).length : Int) s' qu.length q' t' hh' c' d') qu.length qu ++ flX fl') := in_sndF _ (by rw [ev]; rfl) _ _ _ _ _ _ _ _ _ _ _ _ _ _ _ _ _ _ _
  rw [ev, ex] at cs ip
  refine Spec.intro (n := 26) (rv := [.cell 6 27]) Try.func31 rfl rfl rfl (by simp) fun C hN hX => ?_
  refine AW.seq ?_
  apply AW.list
  apply Wk.bx 3 rfl rfl (lt_of_ble rfl)
  apply Wk.bx 4 rfl rfl (lt_of_ble rfl)
  apply Wk.bx 50 rfl rfl (lt_of_ble rfl)
  apply Wk.alc 6 [.int .i64 0, .int .i64 0, .slice none 0 0, .int .i64 0, .slice none 0 0, .bool false, .int .i64 0, .bool false, .int .i64 0, .bool false] ze27 rfl rfl (lt_of_ble rfl)
  refine Wk.nil ?_
  refine AW.seq (AW.seq ?_)
  apply AW.list
  apply Wk.ld (i := 3) 5 true ty24 rfl rfl (by conv => lhs; whnf) (lt_of_ble rfl)
  apply Wk.ld (i := 4) 10 true ty27 rfl rfl (by conv => lhs; whnf) (lt_of_ble rfl)
  apply Wk.dat (itxb hok) Try.func17 rfl rfl rfl rfl rfl (lt_of_ble rfl)
  apply Wk.un rfl (fun w => by simp [go_sem] <;> rfl) (lt_of_ble rfl)
  apply Wk.mv (by conv => lhs; whnf) (lt_of_ble rfl)
  apply Wk.gon 12 rfl rfl
  apply Wk.ld (i := 50) 9 true ty42 rfl rfl (by conv => lhs; whnf) (lt_of_ble rfl)
  apply Wk.gon 12 rfl rfl
  apply Wk.dat hb Try.func73 rfl rfl rfl rfl rfl (lt_of_ble rfl)
  apply Wk.gon 12 rfl rfl
  apply Wk.un rfl (fun w => by simp [go_sem] <;> rfl) (lt_of_ble rfl)
  apply Wk.pckF rfl (by conv => lhs; whnf) (lt_of_ble rfl)
  refine Wk.nil ?_
  refine AW.cond rfl (fun hc => by cases hc) (fun _ => AW.skip (thenA_normal ?_))
  refine AW.seq ?_
  apply AW.list
  apply Wk.ld (i := 3) 5 true ty24 rfl rfl (by conv => lhs; whnf) (lt_of_ble rfl)
  apply Wk.ld (i := 4) 10 true ty27 rfl rfl (by conv => lhs; whnf) (lt_of_ble rfl)
  apply Wk.cal [] [27, 66] cn (in_snd _ rfl _ _ _ _ _ _ _ _ _ _ _ _ _ _ _ _ _ _) ⟨_, _, rfl, rfl⟩ Try.func51 rfl rfl rfl rfl (by simp; exact ⟨rfl, rfl⟩) rfl (fun i hi => by cases hi) (lt_of_ble rfl)
  rintro r bs' ⟨rfl, rfl⟩
  apply Wk.asg (by conv => lhs; whnf) (lt_of_ble rfl)
  refine Wk.nil ?_
  refine AW.seq ?_
  apply AW.list
  apply Wk.mv (by conv => lhs; whnf) (lt_of_ble rfl)
  apply Wk.ld (i := 50) 9 true ty42 rfl rfl (by conv => lhs; whnf) (lt_of_ble rfl)
  apply Wk.cal [27, 66] [] ht (in_snd _ rfl _ _ _ _ _ _ _ _ _ _ _ _ _ _ _ _ _ _) ⟨_, _, rfl, rfl⟩ Try.func74 rfl rfl rfl rfl (fun i hi => by cases hi) rfl (two_in rfl (by exact within_parts _)) (lt_of_ble rfl)
  rintro r bs' ⟨rfl, rfl⟩
  refine Wk.nil ?_
  refine AW.seq ?_
  apply AW.list
  apply Wk.mv (by conv => lhs; whnf) (lt_of_ble rfl)
  apply Wk.calr [27, 66] [17] cs ip (by rintro r bs' ⟨rfl, rfl⟩; exact keep2) ⟨_, _, rfl, rfl⟩ Try.func53 rfl rfl rfl rfl (by simp; rfl) rfl (two_in rfl (by exact within_parts _)) (lt_of_ble rfl)
  rintro r bs' ⟨rfl, rfl⟩
  apply Wk.sto (i := 6) 10 true ty27 rfl rfl rfl rfl (Nat.le_of_ble_eq_true rfl) (lt_of_ble rfl)
  refine Wk.nil ?_
  refine AW.thawc (j := 6) (c := 4) (i := 66) _ rfl rfl rfl (asData_parts qu) hX.none ?_
  refine AW.thawc (j := 6) (c := 2) (i := 17) _ rfl rfl rfl (asData_parts fl') hX.none ?_
  refine AW.ret ?_
  exact RetQ.ret [] (.cons ⟨6, 0, _, _, _, rfl, rfl, ty27, rfl⟩ .nil) ⟨rfl, rfl⟩ none_kept
/-- What the frame leaves, told field by field. -/
theorem hearX_far (n a : Int) (fl : List Dat) (s : Int) (qu : List Dat) (q : Bool) (t : Int) (hh : Bool) (c : Int) (k ack : Int) (fi : Bool) (sy : Int) (j : Nat) (hj : farF a ack = (j : Int)) (ho : (j : Int) ≤ (fl.length : Int)) (hk : k = 1 ∨ k = 2) :
    hearX ⟨n, a, fl, s, qu, q, t, hh, c, false⟩ k ack fi sy = ⟨n, ack, fl.drop j, (rest3 k sy fi (max 0 (s - (j : Int))) q t hh).1, qu, (rest3 k sy fi (max 0 (s - (j : Int))) q t hh).2.1, (rest3 k sy fi (max 0 (s - (j : Int))) q t hh).2.2.1, (rest3 k sy fi (max 0 (s - (j : Int))) q t hh).2.2.2, c + (j : Int), false⟩ := by
  have hno : ¬ (fl.length : Int) < (j : Int) := by omega
  simp only [hearX, ackX, hj, Int.toNat_natCast, if_neg hno]
  generalize max 0 (s - (j : Int)) = s1
  rcases hk with rfl | rfl
  · cases fi <;> cases q <;> simp [said1, said2, said3, rest3]
  · by_cases hy : sy = 1
    · subst hy
      cases fi <;> cases q <;> simp [said1, said2, said3, rest3]
    · cases fi <;> cases q <;> simp [said1, said2, said3, rest3, hy]
theorem frm_ack {k sq ack : Int} {pl fi : Bool} {sy g ln : Int} {z : Nat} (h : frmB k sq ack pl fi sy g ln z = true) : 0 ≤ ack ∧ ack ≤ 7 := by
  simp only [frmB, decide_eq_true_eq] at h
  omega
theorem txOk_heard {o : Opt} {n a : Int} {fl : List Dat} {s : Int} {qu : List Dat} {q : Bool} {t : Int} {hh : Bool} {c : Int} {k ack : Int} {fi : Bool} {sy : Int} {j : Nat} (h : txOkB o ⟨n, a, fl, s, qu, q, t, hh, c, false⟩ = true) (hack : 0 ≤ ack ∧ ack ≤ 7) (hj : (ack - a) % 8 = (j : Int)) (ho : (j : Int) ≤ (fl.length : Int)) (hc : c + (j : Int) ≤ 9999) (hk : k = 1 ∨ k = 2) :
    txOkB o (hearX ⟨n, a, fl, s, qu, q, t, hh, c, false⟩ k ack fi sy) = true := by
  have hn := txOk_next h
  have hfar : farF a ack = (ack - a) % 8 := farF_in hn.2 (by omega)
  rw [hearX_far n a fl s qu q t hh c k ack fi sy j (hfar.trans hj) ho hk]
  simp only [txOkB, Bool.and_eq_true, decide_eq_true_eq, List.all_eq_true, inB_iff] at h ⊢
  obtain ⟨h1, h2, h3, h4, h5, h6, h7, h8, h9, h10, h11, h12⟩ := h
  have el : ((fl.drop j).length : Int) = (fl.length : Int) - (j : Int) := by rw [List.length_drop]; omega
  rw [farF_in (by omega) (by omega)] at h5
  have hs : 0 ≤ (rest3 k sy fi (max 0 (s - (j : Int))) q t hh).1 ∧ (rest3 k sy fi (max 0 (s - (j : Int))) q t hh).1 ≤ (fl.length : Int) - (j : Int) := by
    have : 0 ≤ max 0 (s - (j : Int)) ∧ max 0 (s - (j : Int)) ≤ (fl.length : Int) - (j : Int) := by omega
    generalize max 0 (s - (j : Int)) = s1 at this ⊢
    simp only [rest3]
    repeat' split
    all_goals (try simp only)
    all_goals omega
  have ht : 0 ≤ (rest3 k sy fi (max 0 (s - (j : Int))) q t hh).2.2.1 ∧ (rest3 k sy fi (max 0 (s - (j : Int))) q t hh).2.2.1 ≤ o.tri := by
    simp only [rest3]
    repeat' split
    all_goals (try simp only)
    all_goals omega
  refine ⟨h1, h2, hack, by rw [el]; omega, by rw [farF_in (by omega) (by omega), el]; omega, by rw [el]; exact hs, h7, ht, by omega, by omega, fun d hd => h11 d (List.mem_of_mem_drop hd), h12⟩
set_option maxHeartbeats 4000000 in
set_option maxRecDepth 100000 in
theorem itxhear_ok (m0 w0 p0 u0 y0 : Int) (x : TX) (k sq ack : Int) (pl fi : Bool) (sy g ln : Int) (fs : List (Fin 256)) (hfl : fs.length ≤ 2000000) (hok : txOkB ⟨m0, w0, p0, u0, y0⟩ x = true) (hk : k = 1 ∨ k = 2) (hfr : frmB k sq ack pl fi sy g ln fs.length = true) :
    DataOk Try.prog 31 [cfgA m0 w0 p0 u0 y0, txA x, frmZ k sq ack pl fi sy g ln (fbytes fs)] (txA (hearX x k ack fi sy)) := by
  have f := txOk_facts hok
  have h4 := (txOk_four hok).1
  have hn := txOk_next hok
  have hs0 := f.2.2.2.2.2.2.2.2.2.1
  have hc0 := f.2.2.2.2.2.2.2.2.2.2.2.2.1
  have hack := frm_ack hfr
  have hby : ((k == 1 || k == 2) && frmB k sq ack pl fi sy g ln fs.length) = true := by rcases hk with rfl | rfl <;> simp [hfr]
  obtain ⟨n, a, fl, s, qu, q, t, hh, c, dd⟩ := x
  simp only at h4 hn hs0 hc0
  cases dd
  case true =>
    have hx : hearX ⟨n, a, fl, s, qu, q, t, hh, c, true⟩ k ack fi sy = ⟨n, a, fl, s, qu, q, t, hh, c, true⟩ := if_pos rfl
    rw [hx]
    have ht := ihearD m0 w0 p0 u0 y0 a (ringF fl) (fl.length : Int) s qu.length q t hh c qu k sq ack pl fi sy g ln (fbytes fs)
    by_cases h0 : fl = []
    · subst h0
      exact itxhearN m0 w0 p0 u0 y0 n a [] s qu q t hh c true a 0 s q t hh c true k sq ack pl fi sy g ln fs hfl hok hby (by omega) h4 (ring_at h4) ⟨hn.2.1, hn.2.2⟩ hn.1 ht
    · exact itxhearO m0 w0 p0 u0 y0 n a fl s qu q t hh c true a 0 fl h0 s q t hh c true k sq ack pl fi sy g ln fs hfl hok hby (by omega) h4 (ring_at h4) ⟨hn.2.1, hn.2.2⟩ hn.1 ht
  case false =>
    have hfar : farF a ack = (ack - a) % 8 := farF_in (by omega) (by omega)
    obtain ⟨j, hj⟩ : ∃ j : Nat, (ack - a) % 8 = (j : Int) := ⟨((ack - a) % 8).toNat, by omega⟩
    by_cases ho : (j : Int) ≤ (fl.length : Int)
    · have hx := hearX_far n a fl s qu q t hh c k ack fi sy j (hfar.trans hj) ho hk
      rw [hx]
      have ht := ihearG m0 w0 p0 u0 y0 a (ringF fl) (fl.length : Int) s qu.length q t hh c qu k sq ack pl fi sy g ln (fbytes fs) j (by omega) (by omega) ⟨hn.2.1, hn.2.2⟩ (by omega) hj ho (by omega) (by omega) hk
      have ea : (a + (j : Int)) % 8 = ack := by omega
      have el : (fl.length : Int) - (j : Int) = ((fl.drop j).length : Int) := by rw [List.length_drop]; omega
      rw [ea, el] at ht
      have hL : ∀ i d, (fl.drop j)[i]? = some d → ringF fl ((j % 4 + i) % 4) = sl (some d) := by
        intro i d h
        rw [List.getElem?_drop] at h
        have hi := (List.getElem?_eq_some_iff.1 h).1
        rw [show (j % 4 + i) % 4 = j + i by omega, ringF, h]
      have hnx : (ack + ((fl.drop j).length : Int)) % 8 = n := by rw [← el]; omega
      have hd4 : (fl.drop j).length ≤ 4 := by rw [List.length_drop]; omega
      generalize rest3 k sy fi (max 0 (s - (j : Int))) q t hh = R at ht ⊢
      generalize fl.drop j = fl' at ht hL hnx hd4 ⊢
      by_cases h0 : fl' = []
      · subst h0
        exact itxhearN m0 w0 p0 u0 y0 n a fl s qu q t hh c false ack (j % 4) R.1 R.2.1 R.2.2.1 R.2.2.2 (c + (j : Int)) false k sq ack pl fi sy g ln fs hfl hok hby (by omega) hd4 hL (by omega) hnx ht
      · exact itxhearO m0 w0 p0 u0 y0 n a fl s qu q t hh c false ack (j % 4) fl' h0 R.1 R.2.1 R.2.2.1 R.2.2.2 (c + (j : Int)) false k sq ack pl fi sy g ln fs hfl hok hby (by omega) hd4 hL (by omega) hnx ht
    · have hx : hearX ⟨n, a, fl, s, qu, q, t, hh, c, false⟩ k ack fi sy = ⟨n, a, fl, s, qu, q, t, hh, c, true⟩ := by
        have hlt : (fl.length : Int) < (j : Int) := by omega
        have e1 : ackX ⟨n, a, fl, s, qu, q, t, hh, c, false⟩ ack = ⟨n, a, fl, s, qu, q, t, hh, c, true⟩ := by
          unfold ackX
          rw [if_pos (by simp only [hfar, hj]; exact hlt)]
        simp [hearX, e1]
      rw [hx]
      have ht := ihearO m0 w0 p0 u0 y0 a (ringF fl) (fl.length : Int) s qu.length q t hh c qu k sq ack pl fi sy g ln (fbytes fs) ⟨hn.2.1, hn.2.2⟩ (by omega) (by omega)
      by_cases h0 : fl = []
      · subst h0
        exact itxhearN m0 w0 p0 u0 y0 n a [] s qu q t hh c false a 0 s q t hh c true k sq ack pl fi sy g ln fs hfl hok hby (by omega) h4 (ring_at h4) ⟨hn.2.1, hn.2.2⟩ hn.1 ht
      · exact itxhearO m0 w0 p0 u0 y0 n a fl s qu q t hh c false a 0 fl h0 s q t hh c true k sq ack pl fi sy g ln fs hfl hok hby (by omega) h4 (ring_at h4) ⟨hn.2.1, hn.2.2⟩ hn.1 ht
end Go.Proofs.Ytdojkmjamilllaa

/- Who sends, the program's, whose queue is plain data: push, at, list, state. Written by tools/mk_AbsSenderD.py. -/
namespace Go.Proofs.Ytdojkmjamilllaa
open Go Go.RowKit
def sndD (m w p u y a : Int) (f : Nat → Sl) (h k s : Int) (Q : D) (q : Bool) (t : Int) (hh : Bool) (c : Int) (d : Bool) : List A :=
  [.d (.v (.int .i64 m)), .d (.v (.int .i64 w)), .d (.v (.int .i64 p)), .d (.v (.int .i64 u)), .d (.v (.int .i64 y)), .d (.v (.int .i64 a)), .d (f 0).x, .d (f 0).y, .d (f 0).z, .d (f 1).x, .d (f 1).y, .d (f 1).z, .d (f 2).x, .d (f 2).y, .d (f 2).z, .d (f 3).x, .d (f 3).y, .d (f 3).z, .d (.v (.int .i64 h)), .d (.v (.int .i64 k)), .d (.v (.int .i64 s)), .d Q, .d (.v (.bool q)), .d (.v (.int .i64 t)), .d (.v (.bool hh)), .d (.v (.int .i64 c)), .d (.v (.bool d))]
theorem in_sndD (r0 : A) (hr : r0.within [27] = true) (m w p u y a : Int) (f : Nat → Sl) (h k s : Int) (Q : D) (q : Bool) (t : Int) (hh : Bool) (c : Int) (d : Bool) : PostIn [27] (fun r bs => r = r0 ∧ bs = [(27, .var (sndD m w p u y a f h k s Q q t hh c d))]) := by
  rintro r bs ⟨rfl, rfl⟩
  refine ⟨hr, fun i z hz => ?_⟩
  obtain ⟨rfl, rfl⟩ := lookup1 hz
  exact ⟨by simp, by simp [Bx.within, sndD, A.withins, A.within]⟩
theorem keep1 {i : Nat} {x : Bx} {ex : List (Nat × Bx)} : ∀ q ∈ [i], ∀ z, ([(i, x)] : List (Nat × Bx)).lookup q = some z → ([(i, x)] ++ ex).lookup q = some z := by
  intro q hq z hz
  obtain rfl := List.mem_singleton.1 hq
  simpa using hz
set_option maxHeartbeats 8000000 in
set_option maxRecDepth 100000 in
theorem ipushD (m w p u y a : Int) (f : Nat → Sl) (s : Int) (Q : D) (q : Bool) (t : Int) (hh : Bool) (c : Int) (dd : Bool) (k : Nat) (hk : k < 4) (d : Dat) : Spec Try.prog 89 [.ptr 27 6, partN d] ([(27, .var (sndD m w p u y a f 0 (k : Int) s Q q t hh c dd))]) (fun r bs => r = .tup [] ∧ bs = [(27, .var (sndD m w p u y a (upd f k (sl (some d))) 0 ((k : Int) + 1) s Q q t hh c dd))]) := by
  obtain ⟨g, n, ys⟩ := d
  rcases (show k = 0 ∨ k = 1 ∨ k = 2 ∨ k = 3 by omega) with rfl | rfl | rfl | rfl
  · skip
    refine Spec.intro (n := 26) (rv := []) Try.func89 rfl rfl rfl (by simp) fun C hN hX => ?_
    refine AW.seq ?_
    apply AW.list
    apply Wk.bx 3 rfl rfl (lt_of_ble rfl)
    refine Wk.nil ?_
    refine AW.seq ?_
    apply AW.draw (hm := hmix) (cs := _)
    · apply Wk.mv (by conv => lhs; whnf) (lt_of_ble rfl)
      apply Wk.mv (by conv => lhs; whnf) (lt_of_ble rfl)
      apply Wk.nilc rfl (lt_of_ble rfl)
      apply Wk.fad 12 0 false fd109_1 rfl (lt_of_ble rfl)
      apply Wk.ld (i := 27) 1 false ty3 rfl rfl (by conv => lhs; whnf) (lt_of_ble rfl)
      apply Wk.mv (by conv => lhs; whnf) (lt_of_ble rfl)
      apply Wk.nilc rfl (lt_of_ble rfl)
      apply Wk.fad 13 0 false fd109_2 rfl (lt_of_ble rfl)
      apply Wk.ld (i := 27) 1 false ty3 rfl rfl (by conv => lhs; whnf) (lt_of_ble rfl)
      apply Wk.addi rfl rfl (by decide) (lt_of_ble rfl)
      apply Wk.bin rfl rfl (r := .int .i64 ((0 : Nat) : Int)) (fun w => by simp [go_sem]) (lt_of_ble rfl)
      apply Wk.ld (i := 3) 3 true ty47 rfl rfl (by conv => lhs; whnf) (lt_of_ble rfl)
      apply Wk.nilc rfl (lt_of_ble rfl)
      apply Wk.fad 0 11 true fd109_0 rfl (lt_of_ble rfl)
      apply Wk.iap 3 4 true ua107 ty47 rfl rfl (show 0 < 4 by decide) (lt_of_ble rfl)
      apply Wk.sto (i := 27) 3 true ty47 rfl rfl rfl rfl (Nat.le_of_ble_eq_true rfl) (lt_of_ble rfl)
      refine Wk.nil ?_
      apply AW.list
      apply Wk.mv (by conv => lhs; whnf) (lt_of_ble rfl)
      apply Wk.nilc rfl (lt_of_ble rfl)
      apply Wk.fad 13 0 false fd109_2 rfl (lt_of_ble rfl)
      apply Wk.ld (i := 27) 1 false ty3 rfl rfl (by conv => lhs; whnf) (lt_of_ble rfl)
      apply Wk.addi rfl rfl (by decide) (lt_of_ble rfl)
      apply Wk.nilc rfl (lt_of_ble rfl)
      apply Wk.fad 13 0 false fd109_2 rfl (lt_of_ble rfl)
      apply Wk.sto (i := 27) 1 false ty3 rfl rfl rfl rfl (Nat.le_of_ble_eq_true rfl) (lt_of_ble rfl)
      refine Wk.nil ?_
      exact ⟨[], [(27, .var _)], .nil, ⟨rfl, rfl⟩, kept1 rfl⟩
    · rfl
    · rfl
  · skip
    refine Spec.intro (n := 26) (rv := []) Try.func89 rfl rfl rfl (by simp) fun C hN hX => ?_
    refine AW.seq ?_
    apply AW.list
    apply Wk.bx 3 rfl rfl (lt_of_ble rfl)
    refine Wk.nil ?_
    refine AW.seq ?_
    apply AW.draw (hm := hmix) (cs := _)
    · apply Wk.mv (by conv => lhs; whnf) (lt_of_ble rfl)
      apply Wk.mv (by conv => lhs; whnf) (lt_of_ble rfl)
      apply Wk.nilc rfl (lt_of_ble rfl)
      apply Wk.fad 12 0 false fd109_1 rfl (lt_of_ble rfl)
      apply Wk.ld (i := 27) 1 false ty3 rfl rfl (by conv => lhs; whnf) (lt_of_ble rfl)
      apply Wk.mv (by conv => lhs; whnf) (lt_of_ble rfl)
      apply Wk.nilc rfl (lt_of_ble rfl)
      apply Wk.fad 13 0 false fd109_2 rfl (lt_of_ble rfl)
      apply Wk.ld (i := 27) 1 false ty3 rfl rfl (by conv => lhs; whnf) (lt_of_ble rfl)
      apply Wk.addi rfl rfl (by decide) (lt_of_ble rfl)
      apply Wk.bin rfl rfl (r := .int .i64 ((1 : Nat) : Int)) (fun w => by simp [go_sem]) (lt_of_ble rfl)
      apply Wk.ld (i := 3) 3 true ty47 rfl rfl (by conv => lhs; whnf) (lt_of_ble rfl)
      apply Wk.nilc rfl (lt_of_ble rfl)
      apply Wk.fad 0 11 true fd109_0 rfl (lt_of_ble rfl)
      apply Wk.iap 3 4 true ua107 ty47 rfl rfl (show 1 < 4 by decide) (lt_of_ble rfl)
      apply Wk.sto (i := 27) 3 true ty47 rfl rfl rfl rfl (Nat.le_of_ble_eq_true rfl) (lt_of_ble rfl)
      refine Wk.nil ?_
      apply AW.list
      apply Wk.mv (by conv => lhs; whnf) (lt_of_ble rfl)
      apply Wk.nilc rfl (lt_of_ble rfl)
      apply Wk.fad 13 0 false fd109_2 rfl (lt_of_ble rfl)
      apply Wk.ld (i := 27) 1 false ty3 rfl rfl (by conv => lhs; whnf) (lt_of_ble rfl)
      apply Wk.addi rfl rfl (by decide) (lt_of_ble rfl)
      apply Wk.nilc rfl (lt_of_ble rfl)
      apply Wk.fad 13 0 false fd109_2 rfl (lt_of_ble rfl)
      apply Wk.sto (i := 27) 1 false ty3 rfl rfl rfl rfl (Nat.le_of_ble_eq_true rfl) (lt_of_ble rfl)
      refine Wk.nil ?_
      exact ⟨[], [(27, .var _)], .nil, ⟨rfl, rfl⟩, kept1 rfl⟩
    · rfl
    · rfl
  · skip
    refine Spec.intro (n := 26) (rv := []) Try.func89 rfl rfl rfl (by simp) fun C hN hX => ?_
    refine AW.seq ?_
    apply AW.list
    apply Wk.bx 3 rfl rfl (lt_of_ble rfl)
    refine Wk.nil ?_
    refine AW.seq ?_
    apply AW.draw (hm := hmix) (cs := _)
    · apply Wk.mv (by conv => lhs; whnf) (lt_of_ble rfl)
      apply Wk.mv (by conv => lhs; whnf) (lt_of_ble rfl)
      apply Wk.nilc rfl (lt_of_ble rfl)
      apply Wk.fad 12 0 false fd109_1 rfl (lt_of_ble rfl)
      apply Wk.ld (i := 27) 1 false ty3 rfl rfl (by conv => lhs; whnf) (lt_of_ble rfl)
      apply Wk.mv (by conv => lhs; whnf) (lt_of_ble rfl)
      apply Wk.nilc rfl (lt_of_ble rfl)
      apply Wk.fad 13 0 false fd109_2 rfl (lt_of_ble rfl)
      apply Wk.ld (i := 27) 1 false ty3 rfl rfl (by conv => lhs; whnf) (lt_of_ble rfl)
      apply Wk.addi rfl rfl (by decide) (lt_of_ble rfl)
      apply Wk.bin rfl rfl (r := .int .i64 ((2 : Nat) : Int)) (fun w => by simp [go_sem]) (lt_of_ble rfl)
      apply Wk.ld (i := 3) 3 true ty47 rfl rfl (by conv => lhs; whnf) (lt_of_ble rfl)
      apply Wk.nilc rfl (lt_of_ble rfl)
      apply Wk.fad 0 11 true fd109_0 rfl (lt_of_ble rfl)
      apply Wk.iap 3 4 true ua107 ty47 rfl rfl (show 2 < 4 by decide) (lt_of_ble rfl)
      apply Wk.sto (i := 27) 3 true ty47 rfl rfl rfl rfl (Nat.le_of_ble_eq_true rfl) (lt_of_ble rfl)
      refine Wk.nil ?_
      apply AW.list
      apply Wk.mv (by conv => lhs; whnf) (lt_of_ble rfl)
      apply Wk.nilc rfl (lt_of_ble rfl)
      apply Wk.fad 13 0 false fd109_2 rfl (lt_of_ble rfl)
      apply Wk.ld (i := 27) 1 false ty3 rfl rfl (by conv => lhs; whnf) (lt_of_ble rfl)
      apply Wk.addi rfl rfl (by decide) (lt_of_ble rfl)
      apply Wk.nilc rfl (lt_of_ble rfl)
      apply Wk.fad 13 0 false fd109_2 rfl (lt_of_ble rfl)
      apply Wk.sto (i := 27) 1 false ty3 rfl rfl rfl rfl (Nat.le_of_ble_eq_true rfl) (lt_of_ble rfl)
      refine Wk.nil ?_
      exact ⟨[], [(27, .var _)], .nil, ⟨rfl, rfl⟩, kept1 rfl⟩
    · rfl
    · rfl
  · skip
    refine Spec.intro (n := 26) (rv := []) Try.func89 rfl rfl rfl (by simp) fun C hN hX => ?_
    refine AW.seq ?_
    apply AW.list
    apply Wk.bx 3 rfl rfl (lt_of_ble rfl)
    refine Wk.nil ?_
    refine AW.seq ?_
    apply AW.draw (hm := hmix) (cs := _)
    · apply Wk.mv (by conv => lhs; whnf) (lt_of_ble rfl)
      apply Wk.mv (by conv => lhs; whnf) (lt_of_ble rfl)
      apply Wk.nilc rfl (lt_of_ble rfl)
      apply Wk.fad 12 0 false fd109_1 rfl (lt_of_ble rfl)
      apply Wk.ld (i := 27) 1 false ty3 rfl rfl (by conv => lhs; whnf) (lt_of_ble rfl)
      apply Wk.mv (by conv => lhs; whnf) (lt_of_ble rfl)
      apply Wk.nilc rfl (lt_of_ble rfl)
      apply Wk.fad 13 0 false fd109_2 rfl (lt_of_ble rfl)
      apply Wk.ld (i := 27) 1 false ty3 rfl rfl (by conv => lhs; whnf) (lt_of_ble rfl)
      apply Wk.addi rfl rfl (by decide) (lt_of_ble rfl)
      apply Wk.bin rfl rfl (r := .int .i64 ((3 : Nat) : Int)) (fun w => by simp [go_sem]) (lt_of_ble rfl)
      apply Wk.ld (i := 3) 3 true ty47 rfl rfl (by conv => lhs; whnf) (lt_of_ble rfl)
      apply Wk.nilc rfl (lt_of_ble rfl)
      apply Wk.fad 0 11 true fd109_0 rfl (lt_of_ble rfl)
      apply Wk.iap 3 4 true ua107 ty47 rfl rfl (show 3 < 4 by decide) (lt_of_ble rfl)
      apply Wk.sto (i := 27) 3 true ty47 rfl rfl rfl rfl (Nat.le_of_ble_eq_true rfl) (lt_of_ble rfl)
      refine Wk.nil ?_
      apply AW.list
      apply Wk.mv (by conv => lhs; whnf) (lt_of_ble rfl)
      apply Wk.nilc rfl (lt_of_ble rfl)
      apply Wk.fad 13 0 false fd109_2 rfl (lt_of_ble rfl)
      apply Wk.ld (i := 27) 1 false ty3 rfl rfl (by conv => lhs; whnf) (lt_of_ble rfl)
      apply Wk.addi rfl rfl (by decide) (lt_of_ble rfl)
      apply Wk.nilc rfl (lt_of_ble rfl)
      apply Wk.fad 13 0 false fd109_2 rfl (lt_of_ble rfl)
      apply Wk.sto (i := 27) 1 false ty3 rfl rfl rfl rfl (Nat.le_of_ble_eq_true rfl) (lt_of_ble rfl)
      refine Wk.nil ?_
      exact ⟨[], [(27, .var _)], .nil, ⟨rfl, rfl⟩, kept1 rfl⟩
    · rfl
    · rfl
set_option maxHeartbeats 8000000 in
set_option maxRecDepth 100000 in
theorem iatD (m w p u y a : Int) (f : Nat → Sl) (s : Int) (Q : D) (q : Bool) (t : Int) (hh : Bool) (c : Int) (dd : Bool) (h n : Nat) (k : Int) (hh1 : h ≤ 4) (hn : n ≤ 4) (j : Nat) (hj : (h + n) % 4 = j) : Spec Try.prog 98 [.ptr 27 6, .d (.v (.int .i64 (n : Int)))] ([(27, .var (sndD m w p u y a f (h : Int) k s Q q t hh c dd))]) (fun r bs => r = .agg [.d (f j).x, .d (f j).y, .d (f j).z] ∧ bs = [(27, .var (sndD m w p u y a f (h : Int) k s Q q t hh c dd))]) := by
  rcases (show j = 0 ∨ j = 1 ∨ j = 2 ∨ j = 3 by omega) with rfl | rfl | rfl | rfl
  · skip
    refine Spec.intro (n := 17) (rv := [.cell 4 47]) Try.func98 rfl rfl rfl (by simp) fun C hN hX => ?_
    refine AW.seq ?_
    apply AW.list
    apply Wk.alc 4 [.int .i64 0, .int .i64 0, .slice none 0 0] ze47 rfl rfl (lt_of_ble rfl)
    refine Wk.nil ?_
    refine AW.seq ?_
    apply AW.draw (hm := hmix) (cs := _)
    · apply Wk.mv (by conv => lhs; whnf) (lt_of_ble rfl)
      apply Wk.mv (by conv => lhs; whnf) (lt_of_ble rfl)
      apply Wk.nilc rfl (lt_of_ble rfl)
      apply Wk.fad 12 0 false fd109_1 rfl (lt_of_ble rfl)
      apply Wk.ld (i := 27) 1 false ty3 rfl rfl (by conv => lhs; whnf) (lt_of_ble rfl)
      apply Wk.mv (by conv => lhs; whnf) (lt_of_ble rfl)
      apply Wk.addi rfl rfl (by omega) (lt_of_ble rfl)
      apply Wk.bin rfl rfl (r := .int .i64 ((0 : Nat) : Int)) (fun w => by simp [go_sem]; rw [Int.tmod_eq_emod_of_nonneg (by omega)]; omega) (lt_of_ble rfl)
      apply Wk.nilc rfl (lt_of_ble rfl)
      apply Wk.fad 0 11 true fd109_0 rfl (lt_of_ble rfl)
      apply Wk.iap 3 4 true ua107 ty47 rfl rfl (show 0 < 4 by decide) (lt_of_ble rfl)
      apply Wk.ld (i := 27) 3 true ty47 rfl rfl (by conv => lhs; whnf) (lt_of_ble rfl)
      apply Wk.sto (i := 4) 3 true ty47 rfl rfl rfl rfl (Nat.le_of_ble_eq_true rfl) (lt_of_ble rfl)
      refine Wk.nil (AW.ret ?_)
      exact RetQ.ret ([(27, .var _)]) (.cons ⟨4, 0, _, _, _, rfl, rfl, ty47, rfl⟩ .nil) ⟨rfl, rfl⟩ (kept1 rfl)
    · rfl
    · rfl
  · skip
    refine Spec.intro (n := 17) (rv := [.cell 4 47]) Try.func98 rfl rfl rfl (by simp) fun C hN hX => ?_
    refine AW.seq ?_
    apply AW.list
    apply Wk.alc 4 [.int .i64 0, .int .i64 0, .slice none 0 0] ze47 rfl rfl (lt_of_ble rfl)
    refine Wk.nil ?_
    refine AW.seq ?_
    apply AW.draw (hm := hmix) (cs := _)
    · apply Wk.mv (by conv => lhs; whnf) (lt_of_ble rfl)
      apply Wk.mv (by conv => lhs; whnf) (lt_of_ble rfl)
      apply Wk.nilc rfl (lt_of_ble rfl)
      apply Wk.fad 12 0 false fd109_1 rfl (lt_of_ble rfl)
      apply Wk.ld (i := 27) 1 false ty3 rfl rfl (by conv => lhs; whnf) (lt_of_ble rfl)
      apply Wk.mv (by conv => lhs; whnf) (lt_of_ble rfl)
      apply Wk.addi rfl rfl (by omega) (lt_of_ble rfl)
      apply Wk.bin rfl rfl (r := .int .i64 ((1 : Nat) : Int)) (fun w => by simp [go_sem]; rw [Int.tmod_eq_emod_of_nonneg (by omega)]; omega) (lt_of_ble rfl)
      apply Wk.nilc rfl (lt_of_ble rfl)
      apply Wk.fad 0 11 true fd109_0 rfl (lt_of_ble rfl)
      apply Wk.iap 3 4 true ua107 ty47 rfl rfl (show 1 < 4 by decide) (lt_of_ble rfl)
      apply Wk.ld (i := 27) 3 true ty47 rfl rfl (by conv => lhs; whnf) (lt_of_ble rfl)
      apply Wk.sto (i := 4) 3 true ty47 rfl rfl rfl rfl (Nat.le_of_ble_eq_true rfl) (lt_of_ble rfl)
      refine Wk.nil (AW.ret ?_)
      exact RetQ.ret ([(27, .var _)]) (.cons ⟨4, 0, _, _, _, rfl, rfl, ty47, rfl⟩ .nil) ⟨rfl, rfl⟩ (kept1 rfl)
    · rfl
    · rfl
  · skip
    refine Spec.intro (n := 17) (rv := [.cell 4 47]) Try.func98 rfl rfl rfl (by simp) fun C hN hX => ?_
    refine AW.seq ?_
    apply AW.list
    apply Wk.alc 4 [.int .i64 0, .int .i64 0, .slice none 0 0] ze47 rfl rfl (lt_of_ble rfl)
    refine Wk.nil ?_
    refine AW.seq ?_
    apply AW.draw (hm := hmix) (cs := _)
    · apply Wk.mv (by conv => lhs; whnf) (lt_of_ble rfl)
      apply Wk.mv (by conv => lhs; whnf) (lt_of_ble rfl)
      apply Wk.nilc rfl (lt_of_ble rfl)
      apply Wk.fad 12 0 false fd109_1 rfl (lt_of_ble rfl)
      apply Wk.ld (i := 27) 1 false ty3 rfl rfl (by conv => lhs; whnf) (lt_of_ble rfl)
      apply Wk.mv (by conv => lhs; whnf) (lt_of_ble rfl)
      apply Wk.addi rfl rfl (by omega) (lt_of_ble rfl)
      apply Wk.bin rfl rfl (r := .int .i64 ((2 : Nat) : Int)) (fun w => by simp [go_sem]; rw [Int.tmod_eq_emod_of_nonneg (by omega)]; omega) (lt_of_ble rfl)
      apply Wk.nilc rfl (lt_of_ble rfl)
      apply Wk.fad 0 11 true fd109_0 rfl (lt_of_ble rfl)
      apply Wk.iap 3 4 true ua107 ty47 rfl rfl (show 2 < 4 by decide) (lt_of_ble rfl)
      apply Wk.ld (i := 27) 3 true ty47 rfl rfl (by conv => lhs; whnf) (lt_of_ble rfl)
      apply Wk.sto (i := 4) 3 true ty47 rfl rfl rfl rfl (Nat.le_of_ble_eq_true rfl) (lt_of_ble rfl)
      refine Wk.nil (AW.ret ?_)
      exact RetQ.ret ([(27, .var _)]) (.cons ⟨4, 0, _, _, _, rfl, rfl, ty47, rfl⟩ .nil) ⟨rfl, rfl⟩ (kept1 rfl)
    · rfl
    · rfl
  · skip
    refine Spec.intro (n := 17) (rv := [.cell 4 47]) Try.func98 rfl rfl rfl (by simp) fun C hN hX => ?_
    refine AW.seq ?_
    apply AW.list
    apply Wk.alc 4 [.int .i64 0, .int .i64 0, .slice none 0 0] ze47 rfl rfl (lt_of_ble rfl)
    refine Wk.nil ?_
    refine AW.seq ?_
    apply AW.draw (hm := hmix) (cs := _)
    · apply Wk.mv (by conv => lhs; whnf) (lt_of_ble rfl)
      apply Wk.mv (by conv => lhs; whnf) (lt_of_ble rfl)
      apply Wk.nilc rfl (lt_of_ble rfl)
      apply Wk.fad 12 0 false fd109_1 rfl (lt_of_ble rfl)
      apply Wk.ld (i := 27) 1 false ty3 rfl rfl (by conv => lhs; whnf) (lt_of_ble rfl)
      apply Wk.mv (by conv => lhs; whnf) (lt_of_ble rfl)
      apply Wk.addi rfl rfl (by omega) (lt_of_ble rfl)
      apply Wk.bin rfl rfl (r := .int .i64 ((3 : Nat) : Int)) (fun w => by simp [go_sem]; rw [Int.tmod_eq_emod_of_nonneg (by omega)]; omega) (lt_of_ble rfl)
      apply Wk.nilc rfl (lt_of_ble rfl)
      apply Wk.fad 0 11 true fd109_0 rfl (lt_of_ble rfl)
      apply Wk.iap 3 4 true ua107 ty47 rfl rfl (show 3 < 4 by decide) (lt_of_ble rfl)
      apply Wk.ld (i := 27) 3 true ty47 rfl rfl (by conv => lhs; whnf) (lt_of_ble rfl)
      apply Wk.sto (i := 4) 3 true ty47 rfl rfl rfl rfl (Nat.le_of_ble_eq_true rfl) (lt_of_ble rfl)
      refine Wk.nil (AW.ret ?_)
      exact RetQ.ret ([(27, .var _)]) (.cons ⟨4, 0, _, _, _, rfl, rfl, ty47, rfl⟩ .nil) ⟨rfl, rfl⟩ (kept1 rfl)
    · rfl
    · rfl
set_option maxHeartbeats 8000000 in
set_option maxRecDepth 100000 in
theorem ilistD (m w p u y a : Int) (f : Nat → Sl) (s : Int) (Q : D) (q : Bool) (t : Int) (hh : Bool) (c : Int) (dd : Bool) (h : Nat) (L : List Dat) (hh1 : h ≤ 4) (hn : L.length ≤ 4) (hL : ∀ i d, L[i]? = some d → f ((h + i) % 4) = sl (some d)) : Spec Try.prog 91 [.ptr 27 6] ([(27, .var (sndD m w p u y a f (h : Int) (L.length : Int) s Q q t hh c dd))]) (fun r bs => r = flV L ∧ bs = [(27, .var (sndD m w p u y a f (h : Int) (L.length : Int) s Q q t hh c dd))] ++ flX L) := by
  refine Spec.intro (n := 20) (rv := [.tmp 2]) Try.func91 rfl rfl rfl (by simp) fun C hN hX => ?_
  refine AW.seq ?_
  apply AW.list
  apply Wk.asg (by conv => lhs; whnf) (lt_of_ble rfl)
  refine Wk.nil ?_
  refine AW.seq ?_
  apply AW.list
  apply Wk.asg (by conv => lhs; whnf) (lt_of_ble rfl)
  refine Wk.nil ?_
  refine AW.seq (AW.seq ?_)
  apply AW.list
  apply Wk.mv (by conv => lhs; whnf) (lt_of_ble rfl)
  apply Wk.nilc rfl (lt_of_ble rfl)
  apply Wk.fad 13 0 false fd109_2 rfl (lt_of_ble rfl)
  apply Wk.ld (i := 27) 1 false ty3 rfl rfl (by conv => lhs; whnf) (lt_of_ble rfl)
  apply Wk.mv (by conv => lhs; whnf) (lt_of_ble rfl)
  refine Wk.nil (AW.block ?_)
  let inv : Nat → St := fun k => match k with
    | 0 => St.of 20 [(0, .ptr 27 6), (3, .d (.v (.slice none 0 0))), (8, .d (.v (.int .i64 (L.length : Int)))), (9, .d (.v (.int .i64 0)))] [(27, .var (sndD m w p u y a f (h : Int) (L.length : Int) s Q q t hh c dd))]
    | k + 1 => St.of 20 [(0, .ptr 27 6), (3, .own 17 k), (8, .d (.v (.int .i64 (L.length : Int)))), (9, .d (.v (.int .i64 ((k + 1 : Nat) : Int))))] [(27, .var (sndD m w p u y a f (h : Int) (L.length : Int) s Q q t hh c dd)), (17, .own k 47 3 (piecesA (L.take (k + 1))))]
  refine AW.loop inv (fun k => k ≤ L.length) (fun k => L.length - k) 0 (Nat.zero_le _) ?_ ?_
  · exact fun a w => Rel.keep ⟨rfl, .cons rfl rfl (.cons rfl rfl (.cons rfl rfl (.cons rfl rfl .nil))), .cons rfl rfl .nil, hN.mono (by simp [keys])⟩
  rintro k hk
  cases k with
  | zero =>
    show AW Try.prog C _ _ (St.of 20 [(0, .ptr 27 6), (3, .d (.v (.slice none 0 0))), (8, .d (.v (.int .i64 (L.length : Int)))), (9, .d (.v (.int .i64 0)))] [(27, .var (sndD m w p u y a f (h : Int) (L.length : Int) s Q q t hh c dd))])
    refine AW.seq ?_
    by_cases hlt : 0 < L.length
    · obtain ⟨d, hd⟩ : ∃ d, L[0]? = some d := ⟨_, List.getElem?_eq_getElem hlt⟩
      have htk : L.take 1 = L.take 0 ++ [d] := by rw [List.take_add_one, hd]; rfl
      have cat := iatD m w p u y a f s Q q t hh c dd h 0 (L.length : Int) hh1 (by omega) _ rfl
      rw [hL 0 d hd] at cat
      apply AW.list
      apply Wk.bin rfl rfl (r := .bool true) (fun w => by simp [go_sem] <;> omega) (lt_of_ble rfl)
      refine Wk.nil ?_
      refine AW.seq ?_
      refine AW.cond rfl (fun _ => AW.skip ?_) (fun hc => by cases hc)
      repeat (first | refine thenA_normal ?_ | refine inBlockA_normal ?_)
      refine AW.seq (AW.block (AW.seq ?_))
      apply AW.list
      apply Wk.mv (by conv => lhs; whnf) (lt_of_ble rfl)
      apply Wk.asg (by conv => lhs; whnf) (lt_of_ble rfl)
      refine Wk.nil ?_
      repeat (first | refine thenA_normal ?_ | refine inBlockA_normal ?_)
      apply AW.list
      apply Wk.mv (by conv => lhs; whnf) (lt_of_ble rfl)
      apply Wk.mv (by conv => lhs; whnf) (lt_of_ble rfl)
      apply Wk.mv (by conv => lhs; whnf) (lt_of_ble rfl)
      apply Wk.cal [27] [] cat (in_sndD _ rfl _ _ _ _ _ _ _ _ _ _ _ _ _ _ _ _) ⟨_, _, rfl, rfl⟩ Try.func98 rfl rfl rfl rfl (fun i hi => by cases hi) rfl (one_in rfl) (lt_of_ble rfl)
      rintro r bs' ⟨rfl, rfl⟩
      apply Wk.lst 16 3 true [.int .i64 0, .int .i64 0, .slice none 0 0] un25 ty47 ze47 rfl rfl (by rfl) (by rfl) (by decide) (by decide) rfl rfl (all_len rfl) (lt_of_ble rfl)
      apply Wk.appNO 17 16 3 un25 ap47 rfl rfl rfl rfl (by decide) (all_len rfl) (by simp) (lt_of_ble rfl)
      apply Wk.asg (by conv => lhs; whnf) (lt_of_ble rfl)
      refine Wk.nil ?_
      repeat (first | refine thenA_normal ?_ | refine inBlockA_normal ?_)
      apply AW.list
      apply Wk.addi rfl rfl (by omega) (lt_of_ble rfl)
      apply Wk.mv (by conv => lhs; whnf) (lt_of_ble rfl)
      refine Wk.nil ?_
      refine ⟨1, by omega, by omega, ?_⟩
      refine fun a w => Rel.keep ⟨rfl, .cons rfl rfl (.cons rfl rfl (.cons rfl rfl (.cons rfl rfl .nil))), .cons rfl rfl (.cons ?_ (by exact within_parts _) .nil), hN.mono (by simp [keys])⟩
      simp only [htk, piecesA, List.map_append]
      rfl
    · have hlen : L.length = 0 := by omega
      apply AW.list
      apply Wk.bin rfl rfl (r := .bool false) (fun w => by rw [hlen]; simp [go_sem]) (lt_of_ble rfl)
      refine Wk.nil ?_
      refine AW.seq ?_
      refine AW.cond rfl (fun hc => by cases hc) (fun _ => AW.exit ?_)
      repeat (first | refine inBlockA_same ?_ | refine thenA_exit ?_)
      repeat (first | refine thenA_normal ?_ | refine inBlockA_normal ?_)
      refine AW.seq ?_
      apply AW.list
      apply Wk.mv (by conv => lhs; whnf) (lt_of_ble rfl)
      apply Wk.asg (by conv => lhs; whnf) (lt_of_ble rfl)
      refine Wk.nil ?_
      refine AW.ret ?_
      repeat (first | refine thenA_ret ?_ | refine inBlockA_ret ?_)
      obtain rfl : L = [] := List.length_eq_zero_iff.1 hlen
      exact RetQ.ret ([(27, .var _)]) (.cons rfl .nil) ⟨rfl, rfl⟩ (kept1 rfl)
  | succ k =>
    show AW Try.prog C _ _ (St.of 20 [(0, .ptr 27 6), (3, .own 17 k), (8, .d (.v (.int .i64 (L.length : Int)))), (9, .d (.v (.int .i64 ((k + 1 : Nat) : Int))))] [(27, .var (sndD m w p u y a f (h : Int) (L.length : Int) s Q q t hh c dd)), (17, .own k 47 3 (piecesA (L.take (k + 1))))])
    refine AW.seq ?_
    by_cases hlt : (k + 1) < L.length
    · obtain ⟨d, hd⟩ : ∃ d, L[(k + 1)]? = some d := ⟨_, List.getElem?_eq_getElem hlt⟩
      have htk : L.take ((k + 1) + 1) = L.take (k + 1) ++ [d] := by rw [List.take_add_one, hd]; rfl
      have cat := iatD m w p u y a f s Q q t hh c dd h (k + 1) (L.length : Int) hh1 (by omega) _ rfl
      rw [hL (k + 1) d hd] at cat
      apply AW.list
      apply Wk.bin rfl rfl (r := .bool true) (fun w => by simp [go_sem] <;> omega) (lt_of_ble rfl)
      refine Wk.nil ?_
      refine AW.seq ?_
      refine AW.cond rfl (fun _ => AW.skip ?_) (fun hc => by cases hc)
      repeat (first | refine thenA_normal ?_ | refine inBlockA_normal ?_)
      refine AW.seq (AW.block (AW.seq ?_))
      apply AW.list
      apply Wk.mv (by conv => lhs; whnf) (lt_of_ble rfl)
      apply Wk.asg (by conv => lhs; whnf) (lt_of_ble rfl)
      refine Wk.nil ?_
      repeat (first | refine thenA_normal ?_ | refine inBlockA_normal ?_)
      apply AW.list
      apply Wk.mv (by conv => lhs; whnf) (lt_of_ble rfl)
      apply Wk.mv (by conv => lhs; whnf) (lt_of_ble rfl)
      apply Wk.mv (by conv => lhs; whnf) (lt_of_ble rfl)
      apply Wk.cal [27] [] cat (in_sndD _ rfl _ _ _ _ _ _ _ _ _ _ _ _ _ _ _ _) ⟨_, _, rfl, rfl⟩ Try.func98 rfl rfl rfl rfl (fun i hi => by cases hi) rfl (one_in rfl) (lt_of_ble rfl)
      rintro r bs' ⟨rfl, rfl⟩
      apply Wk.lst 16 3 true [.int .i64 0, .int .i64 0, .slice none 0 0] un25 ty47 ze47 rfl rfl (by rfl) (by rfl) (by decide) (by decide) rfl rfl (all_len rfl) (lt_of_ble rfl)
      apply Wk.appOO 17 16 3 un25 ap47 rfl rfl rfl rfl (by decide) (all_len rfl) (three_parts _) (by simp [piecesA]; omega) (lt_of_ble rfl)
      apply Wk.asg (by conv => lhs; whnf) (lt_of_ble rfl)
      refine Wk.nil ?_
      repeat (first | refine thenA_normal ?_ | refine inBlockA_normal ?_)
      apply AW.list
      apply Wk.addi rfl rfl (by omega) (lt_of_ble rfl)
      apply Wk.mv (by conv => lhs; whnf) (lt_of_ble rfl)
      refine Wk.nil ?_
      refine ⟨k + 1 + 1, by omega, by omega, ?_⟩
      refine fun a w => Rel.keep ⟨rfl, .cons rfl rfl (.cons rfl rfl (.cons rfl rfl (.cons rfl rfl .nil))), .cons rfl rfl (.cons ?_ (by exact within_parts _) .nil), hN.mono (by simp [keys])⟩
      simp only [htk, piecesA, List.map_append]
      rfl
    · have hlen : L.length = k + 1 := by omega
      apply AW.list
      apply Wk.bin rfl rfl (r := .bool false) (fun w => by rw [hlen]; simp [go_sem]) (lt_of_ble rfl)
      refine Wk.nil ?_
      refine AW.seq ?_
      refine AW.cond rfl (fun hc => by cases hc) (fun _ => AW.exit ?_)
      repeat (first | refine inBlockA_same ?_ | refine thenA_exit ?_)
      repeat (first | refine thenA_normal ?_ | refine inBlockA_normal ?_)
      refine AW.seq ?_
      apply AW.list
      apply Wk.mv (by conv => lhs; whnf) (lt_of_ble rfl)
      apply Wk.asg (by conv => lhs; whnf) (lt_of_ble rfl)
      refine Wk.nil ?_
      refine AW.ret ?_
      repeat (first | refine thenA_ret ?_ | refine inBlockA_ret ?_)
      have hne : L ≠ [] := fun e => by rw [e] at hlen; cases hlen
      have e1 : flV L = .own 17 k := by rw [flV, if_neg hne, hlen]; rfl
      have e2 : flX L = [(17, .own k 47 3 (piecesA (L.take (k + 1))))] := by rw [flX, if_neg hne, ← hlen, List.take_length, hlen]; rfl
      rw [e1, e2]
      exact RetQ.ret [(27, .var (sndD m w p u y a f (h : Int) (L.length : Int) s Q q t hh c dd)), (17, .own k 47 3 (piecesA (L.take (k + 1))))] (.cons rfl .nil) ⟨rfl, rfl⟩ (kept2 rfl rfl)
theorem st_fillOD (n a s : Int) (k : Nat) (q : Bool) (t : Int) (hh : Bool) (c : Int) (dd : Bool) : fillA ([(0, 1), (1, 1), (2, 1), (3, 1), (4, 1), (5, 1), (6, 1), (7, 1), (8, 1), (9, 1)][·]?) (([.int .i64 0, .int .i64 0, .slice none 0 0, .int .i64 0, .slice none 0 0, .bool false, .int .i64 0, .bool false, .int .i64 0, .bool false] : List Value).map fun x => .d (.v x)) [(0, .d (.v (.int .i64 n))), (1, .d (.v (.int .i64 a))), (2, .own 17 k), (3, .d (.v (.int .i64 s))), (4, .d (.v (.slice none 0 0))), (5, .d (.v (.bool q))), (6, .d (.v (.int .i64 t))), (7, .d (.v (.bool hh))), (8, .d (.v (.int .i64 c))), (9, .d (.v (.bool dd)))] = some [.d (.v (.int .i64 n)), .d (.v (.int .i64 a)), .own 17 k, .d (.v (.int .i64 s)), .d (.v (.slice none 0 0)), .d (.v (.bool q)), .d (.v (.int .i64 t)), .d (.v (.bool hh)), .d (.v (.int .i64 c)), .d (.v (.bool dd))] := by
  simp [fillA, setA, cellsA, Value.oneCell']
theorem st_fillND (n a s : Int) (q : Bool) (t : Int) (hh : Bool) (c : Int) (dd : Bool) : fillA ([(0, 1), (1, 1), (2, 1), (3, 1), (4, 1), (5, 1), (6, 1), (7, 1), (8, 1), (9, 1)][·]?) (([.int .i64 0, .int .i64 0, .slice none 0 0, .int .i64 0, .slice none 0 0, .bool false, .int .i64 0, .bool false, .int .i64 0, .bool false] : List Value).map fun x => .d (.v x)) [(0, .d (.v (.int .i64 n))), (1, .d (.v (.int .i64 a))), (2, .d (.v (.slice none 0 0))), (3, .d (.v (.int .i64 s))), (4, .d (.v (.slice none 0 0))), (5, .d (.v (.bool q))), (6, .d (.v (.int .i64 t))), (7, .d (.v (.bool hh))), (8, .d (.v (.int .i64 c))), (9, .d (.v (.bool dd)))] = some [.d (.v (.int .i64 n)), .d (.v (.int .i64 a)), .d (.v (.slice none 0 0)), .d (.v (.int .i64 s)), .d (.v (.slice none 0 0)), .d (.v (.bool q)), .d (.v (.int .i64 t)), .d (.v (.bool hh)), .d (.v (.int .i64 c)), .d (.v (.bool dd))] := by
  simp [fillA, setA, cellsA, Value.oneCell']
def stAD (n a : Int) (F : A) (s : Int) (Q : D) (q : Bool) (t : Int) (hh : Bool) (c : Int) (dd : Bool) : A := .agg [.d (.v (.int .i64 n)), .d (.v (.int .i64 a)), F, .d (.v (.int .i64 s)), .d Q, .d (.v (.bool q)), .d (.v (.int .i64 t)), .d (.v (.bool hh)), .d (.v (.int .i64 c)), .d (.v (.bool dd))]
theorem in_sndFD (r0 : A) (hr : r0.within [27, 17] = true) (m w p u y a : Int) (f : Nat → Sl) (h k s : Int) (Q : D) (q : Bool) (t : Int) (hh : Bool) (c : Int) (d : Bool) (L : List Dat) : PostIn [27, 17] (fun r bs => r = r0 ∧ bs = [(27, .var (sndD m w p u y a f h k s Q q t hh c d))] ++ flX L) := by
  rintro r bs ⟨rfl, rfl⟩
  refine ⟨hr, fun i z hz => ?_⟩
  rcases lookup_app hz with h | h
  · obtain ⟨rfl, rfl⟩ := lookup1 h
    exact ⟨by simp, by simp [Bx.within, sndD, A.withins, A.within]⟩
  · have := flX_in h
    exact ⟨by have h1 := this.1; simp at h1 ⊢; omega, within_up this.2 (fun i hi => by simp at hi ⊢; omega)⟩
theorem flV_inD (L : List Dat) : (flV L).within [27, 17] = true := by
  unfold flV
  split <;> simp [A.within]
set_option maxHeartbeats 1000000 in
set_option maxRecDepth 100000 in
theorem istateND (m w p u y a : Int) (f : Nat → Sl) (s : Int) (q : Bool) (t : Int) (hh : Bool) (c : Int) (dd : Bool) (h : Nat) (hh1 : h ≤ 4) (hn : ([] : List Dat).length ≤ 4) (hL : ∀ i d, ([] : List Dat)[i]? = some d → f ((h + i) % 4) = sl (some d)) (ha : 0 ≤ a ∧ a < 8) :
    Spec Try.prog 53 [.ptr 27 0] ([(27, .var (sndD m w p u y a f (h : Int) (([] : List Dat).length : Int) s (.v (.slice none 0 0)) q t hh c dd))]) (fun r bs => r = stAD ((a + (([] : List Dat).length : Int)) % 8) a (flV []) s (.v (.slice none 0 0)) q t hh c dd ∧ bs = [(27, .var (sndD m w p u y a f (h : Int) (([] : List Dat).length : Int) s (.v (.slice none 0 0)) q t hh c dd))] ++ flX []) := by
  have c1 := ion_ok a (([] : List Dat).length : Int) ha (by omega)
  have c2 := ilistD m w p u y a f s (.v (.slice none 0 0)) q t hh c dd h [] hh1 hn hL
  refine Spec.intro (n := 50) (rv := [.cell 2 27]) Try.func53 rfl rfl rfl (by simp) fun C hN hX => ?_
  refine AW.seq ?_
  apply AW.list
  apply Wk.alc 2 [.int .i64 0, .int .i64 0, .slice none 0 0, .int .i64 0, .slice none 0 0, .bool false, .int .i64 0, .bool false, .int .i64 0, .bool false] ze27 rfl rfl (lt_of_ble rfl)
  refine Wk.nil ?_
  refine AW.seq ?_
  apply AW.draw (hm := hmix) (cs := _)
  · apply Wk.mv (by conv => lhs; whnf) (lt_of_ble rfl)
    apply Wk.nilc rfl (lt_of_ble rfl)
    apply Wk.fad 5 0 false fd111_1 rfl (lt_of_ble rfl)
    apply Wk.ld (i := 27) 1 false ty92 rfl rfl (by conv => lhs; whnf) (lt_of_ble rfl)
    apply Wk.mv (by conv => lhs; whnf) (lt_of_ble rfl)
    apply Wk.nilc rfl (lt_of_ble rfl)
    apply Wk.fad 6 13 true fd111_2 rfl (lt_of_ble rfl)
    apply Wk.fad 13 0 false fd109_2 rfl (lt_of_ble rfl)
    apply Wk.ld (i := 27) 1 false ty3 rfl rfl (by conv => lhs; whnf) (lt_of_ble rfl)
    apply Wk.dat c1 Try.func90 rfl rfl rfl rfl rfl (lt_of_ble rfl)
    apply Wk.mv (by conv => lhs; whnf) (lt_of_ble rfl)
    apply Wk.nilc rfl (lt_of_ble rfl)
    apply Wk.fad 5 0 false fd111_1 rfl (lt_of_ble rfl)
    apply Wk.ld (i := 27) 1 false ty92 rfl rfl (by conv => lhs; whnf) (lt_of_ble rfl)
    apply Wk.mv (by conv => lhs; whnf) (lt_of_ble rfl)
    apply Wk.nilc rfl (lt_of_ble rfl)
    apply Wk.fad 6 13 true fd111_2 rfl (lt_of_ble rfl)
    apply Wk.calr [27] [17] c2 (in_sndFD _ rfl _ _ _ _ _ _ _ _ _ _ _ _ _ _ _ _ []) (by rintro r bs' ⟨rfl, rfl⟩; exact keep1) ⟨_, _, rfl, rfl⟩ Try.func91 rfl rfl rfl rfl (by simp; rfl) rfl (one_in rfl) (lt_of_ble rfl)
    rintro r bs' ⟨rfl, rfl⟩
    apply Wk.mv (by conv => lhs; whnf) (lt_of_ble rfl)
    apply Wk.nilc rfl (lt_of_ble rfl)
    apply Wk.fad 20 0 false fd111_3 rfl (lt_of_ble rfl)
    apply Wk.ld (i := 27) 1 false ty3 rfl rfl (by conv => lhs; whnf) (lt_of_ble rfl)
    apply Wk.mv (by conv => lhs; whnf) (lt_of_ble rfl)
    apply Wk.nilc rfl (lt_of_ble rfl)
    apply Wk.fad 21 0 false fd111_4 rfl (lt_of_ble rfl)
    apply Wk.ld (i := 27) 1 false ty25 rfl rfl (by conv => lhs; whnf) (lt_of_ble rfl)
    apply Wk.mv (by conv => lhs; whnf) (lt_of_ble rfl)
    apply Wk.nilc rfl (lt_of_ble rfl)
    apply Wk.fad 22 0 false fd111_5 rfl (lt_of_ble rfl)
    apply Wk.ld (i := 27) 1 false ty4 rfl rfl (by conv => lhs; whnf) (lt_of_ble rfl)
    apply Wk.mv (by conv => lhs; whnf) (lt_of_ble rfl)
    apply Wk.nilc rfl (lt_of_ble rfl)
    apply Wk.fad 23 0 false fd111_6 rfl (lt_of_ble rfl)
    apply Wk.ld (i := 27) 1 false ty3 rfl rfl (by conv => lhs; whnf) (lt_of_ble rfl)
    apply Wk.mv (by conv => lhs; whnf) (lt_of_ble rfl)
    apply Wk.nilc rfl (lt_of_ble rfl)
    apply Wk.fad 24 0 false fd111_7 rfl (lt_of_ble rfl)
    apply Wk.ld (i := 27) 1 false ty4 rfl rfl (by conv => lhs; whnf) (lt_of_ble rfl)
    apply Wk.mv (by conv => lhs; whnf) (lt_of_ble rfl)
    apply Wk.nilc rfl (lt_of_ble rfl)
    apply Wk.fad 25 0 false fd111_8 rfl (lt_of_ble rfl)
    apply Wk.ld (i := 27) 1 false ty3 rfl rfl (by conv => lhs; whnf) (lt_of_ble rfl)
    apply Wk.mv (by conv => lhs; whnf) (lt_of_ble rfl)
    apply Wk.nilc rfl (lt_of_ble rfl)
    apply Wk.fad 26 0 false fd111_9 rfl (lt_of_ble rfl)
    apply Wk.ld (i := 27) 1 false ty4 rfl rfl (by conv => lhs; whnf) (lt_of_ble rfl)
    apply Wk.bld [.int .i64 0, .int .i64 0, .slice none 0 0, .int .i64 0, .slice none 0 0, .bool false, .int .i64 0, .bool false, .int .i64 0, .bool false] [(0, 1), (1, 1), (2, 1), (3, 1), (4, 1), (5, 1), (6, 1), (7, 1), (8, 1), (9, 1)] bl27 rfl (by exact st_fillND ((a + (([] : List Dat).length : Int)) % 8) a s q t hh c dd) (lt_of_ble rfl)
    apply Wk.sto (i := 2) 10 true ty27 rfl rfl rfl rfl (Nat.le_of_ble_eq_true rfl) (lt_of_ble rfl)
    refine Wk.nil (AW.ret ?_)
    exact RetQ.ret ([(27, .var _)]) (.cons ⟨2, 0, _, _, _, rfl, rfl, ty27, rfl⟩ .nil) ⟨rfl, rfl⟩ (kept1 rfl)
  · rfl
  · rfl
set_option maxHeartbeats 1000000 in
set_option maxRecDepth 100000 in
theorem istateOD (m w p u y a : Int) (f : Nat → Sl) (s : Int) (q : Bool) (t : Int) (hh : Bool) (c : Int) (dd : Bool) (h : Nat) (L : List Dat) (hne : L ≠ []) (hh1 : h ≤ 4) (hn : (L : List Dat).length ≤ 4) (hL : ∀ i d, (L : List Dat)[i]? = some d → f ((h + i) % 4) = sl (some d)) (ha : 0 ≤ a ∧ a < 8) :
    Spec Try.prog 53 [.ptr 27 0] ([(27, .var (sndD m w p u y a f (h : Int) ((L : List Dat).length : Int) s (.v (.slice none 0 0)) q t hh c dd))]) (fun r bs => r = stAD ((a + ((L : List Dat).length : Int)) % 8) a (flV L) s (.v (.slice none 0 0)) q t hh c dd ∧ bs = [(27, .var (sndD m w p u y a f (h : Int) ((L : List Dat).length : Int) s (.v (.slice none 0 0)) q t hh c dd))] ++ flX L) := by
  have c1 := ion_ok a ((L : List Dat).length : Int) ha (by omega)
  have c2 := ilistD m w p u y a f s (.v (.slice none 0 0)) q t hh c dd h L hh1 hn hL
  have ev : flV L = .own 17 (L.length - 1) := if_neg hne
  have ex : flX L = [(17, .own (L.length - 1) 47 3 (piecesA L))] := if_neg hne
  have ip := in_sndFD (flV L) (flV_inD L) m w p u y a f (h : Int) (L.length : Int) s (.v (.slice none 0 0)) q t hh c dd L
  rw [ev, ex] at c2 ip
  rw [ev, ex]
  refine Spec.intro (n := 50) (rv := [.cell 2 27]) Try.func53 rfl rfl rfl (by simp) fun C hN hX => ?_
  refine AW.seq ?_
  apply AW.list
  apply Wk.alc 2 [.int .i64 0, .int .i64 0, .slice none 0 0, .int .i64 0, .slice none 0 0, .bool false, .int .i64 0, .bool false, .int .i64 0, .bool false] ze27 rfl rfl (lt_of_ble rfl)
  refine Wk.nil ?_
  refine AW.seq ?_
  apply AW.draw (hm := hmix) (cs := _)
  · apply Wk.mv (by conv => lhs; whnf) (lt_of_ble rfl)
    apply Wk.nilc rfl (lt_of_ble rfl)
    apply Wk.fad 5 0 false fd111_1 rfl (lt_of_ble rfl)
    apply Wk.ld (i := 27) 1 false ty92 rfl rfl (by conv => lhs; whnf) (lt_of_ble rfl)
    apply Wk.mv (by conv => lhs; whnf) (lt_of_ble rfl)
    apply Wk.nilc rfl (lt_of_ble rfl)
    apply Wk.fad 6 13 true fd111_2 rfl (lt_of_ble rfl)
    apply Wk.fad 13 0 false fd109_2 rfl (lt_of_ble rfl)
    apply Wk.ld (i := 27) 1 false ty3 rfl rfl (by conv => lhs; whnf) (lt_of_ble rfl)
    apply Wk.dat c1 Try.func90 rfl rfl rfl rfl rfl (lt_of_ble rfl)
    apply Wk.mv (by conv => lhs; whnf) (lt_of_ble rfl)
    apply Wk.nilc rfl (lt_of_ble rfl)
    apply Wk.fad 5 0 false fd111_1 rfl (lt_of_ble rfl)
    apply Wk.ld (i := 27) 1 false ty92 rfl rfl (by conv => lhs; whnf) (lt_of_ble rfl)
    apply Wk.mv (by conv => lhs; whnf) (lt_of_ble rfl)
    apply Wk.nilc rfl (lt_of_ble rfl)
    apply Wk.fad 6 13 true fd111_2 rfl (lt_of_ble rfl)
    apply Wk.calr [27] [17] c2 ip (by rintro r bs' ⟨rfl, rfl⟩; exact keep1) ⟨_, _, rfl, rfl⟩ Try.func91 rfl rfl rfl rfl (by simp; rfl) rfl (one_in rfl) (lt_of_ble rfl)
    rintro r bs' ⟨rfl, rfl⟩
    apply Wk.mv (by conv => lhs; whnf) (lt_of_ble rfl)
    apply Wk.nilc rfl (lt_of_ble rfl)
    apply Wk.fad 20 0 false fd111_3 rfl (lt_of_ble rfl)
    apply Wk.ld (i := 27) 1 false ty3 rfl rfl (by conv => lhs; whnf) (lt_of_ble rfl)
    apply Wk.mv (by conv => lhs; whnf) (lt_of_ble rfl)
    apply Wk.nilc rfl (lt_of_ble rfl)
    apply Wk.fad 21 0 false fd111_4 rfl (lt_of_ble rfl)
    apply Wk.ld (i := 27) 1 false ty25 rfl rfl (by conv => lhs; whnf) (lt_of_ble rfl)
    apply Wk.mv (by conv => lhs; whnf) (lt_of_ble rfl)
    apply Wk.nilc rfl (lt_of_ble rfl)
    apply Wk.fad 22 0 false fd111_5 rfl (lt_of_ble rfl)
    apply Wk.ld (i := 27) 1 false ty4 rfl rfl (by conv => lhs; whnf) (lt_of_ble rfl)
    apply Wk.mv (by conv => lhs; whnf) (lt_of_ble rfl)
    apply Wk.nilc rfl (lt_of_ble rfl)
    apply Wk.fad 23 0 false fd111_6 rfl (lt_of_ble rfl)
    apply Wk.ld (i := 27) 1 false ty3 rfl rfl (by conv => lhs; whnf) (lt_of_ble rfl)
    apply Wk.mv (by conv => lhs; whnf) (lt_of_ble rfl)
    apply Wk.nilc rfl (lt_of_ble rfl)
    apply Wk.fad 24 0 false fd111_7 rfl (lt_of_ble rfl)
    apply Wk.ld (i := 27) 1 false ty4 rfl rfl (by conv => lhs; whnf) (lt_of_ble rfl)
    apply Wk.mv (by conv => lhs; whnf) (lt_of_ble rfl)
    apply Wk.nilc rfl (lt_of_ble rfl)
    apply Wk.fad 25 0 false fd111_8 rfl (lt_of_ble rfl)
    apply Wk.ld (i := 27) 1 false ty3 rfl rfl (by conv => lhs; whnf) (lt_of_ble rfl)
    apply Wk.mv (by conv => lhs; whnf) (lt_of_ble rfl)
    apply Wk.nilc rfl (lt_of_ble rfl)
    apply Wk.fad 26 0 false fd111_9 rfl (lt_of_ble rfl)
    apply Wk.ld (i := 27) 1 false ty4 rfl rfl (by conv => lhs; whnf) (lt_of_ble rfl)
    apply Wk.bld [.int .i64 0, .int .i64 0, .slice none 0 0, .int .i64 0, .slice none 0 0, .bool false, .int .i64 0, .bool false, .int .i64 0, .bool false] [(0, 1), (1, 1), (2, 1), (3, 1), (4, 1), (5, 1), (6, 1), (7, 1), (8, 1), (9, 1)] bl27 rfl (by exact st_fillOD ((a + (L.length : Int)) % 8) a s (L.length - 1) q t hh c dd) (lt_of_ble rfl)
    apply Wk.sto (i := 2) 10 true ty27 rfl rfl rfl rfl (Nat.le_of_ble_eq_true rfl) (lt_of_ble rfl)
    refine Wk.nil (AW.ret ?_)
    exact RetQ.ret [(27, .var (sndD m w p u y a f (h : Int) (L.length : Int) s (.v (.slice none 0 0)) q t hh c dd)), (17, .own (L.length - 1) 47 3 (piecesA L))] (.cons ⟨2, 0, _, _, _, rfl, rfl, ty27, rfl⟩ .nil) ⟨rfl, rfl⟩ (kept2 rfl rfl)
  · rfl
  · rfl
end Go.Proofs.Ytdojkmjamilllaa

/- The sender's send, of the program, over what values read as. Written by tools/mk_AbsSendI.py. -/
namespace Go.Proofs.Ytdojkmjamilllaa
open Go Go.RowKit
set_option maxHeartbeats 4000000 in
set_option maxRecDepth 100000 in
theorem isetNo (m w p u y a : Int) (f : Nat → Sl) (k : Nat) (s : Int) (l : Nat) (q : Bool) (t : Int) (hh : Bool) (c : Int) (dd : Bool) (qu : List Dat) (hi : (k : Int) = w ∨ qu = [] ∨ c + (k : Int) = 9999) (hq : qu.length ≤ 1000) : Spec Try.prog 96 [.ptr 27 0] (sndB (sndC m w p u y a f 0 (k : Int) s l q t hh c dd) l qu) (fun r bs => r = .d (.v (.bool false)) ∧ bs = sndB (sndC m w p u y a f 0 (k : Int) s l q t hh c dd) l qu) := by
  have e3 : (((piecesA qu).length : Nat) : Int) = (qu.length : Int) := by rw [piecesA, List.length_map]
  refine Spec.intro (n := 52) (rv := [.tmp 2]) Try.func96 rfl rfl rfl (by simp) fun C hN hX => ?_
  refine AW.seq ?_
  apply AW.list
  apply Wk.asg (by conv => lhs; whnf) (lt_of_ble rfl)
  refine Wk.nil ?_
  refine AW.seq ?_
  apply AW.list
  apply Wk.mv (by conv => lhs; whnf) (lt_of_ble rfl)
  apply Wk.nilc rfl (lt_of_ble rfl)
  apply Wk.fad 6 13 true fd111_2 rfl (lt_of_ble rfl)
  apply Wk.fad 13 0 false fd109_2 rfl (lt_of_ble rfl)
  apply Wk.ld (i := 27) 1 false ty3 rfl rfl (by conv => lhs; whnf) (lt_of_ble rfl)
  apply Wk.asg (by conv => lhs; whnf) (lt_of_ble rfl)
  refine Wk.nil ?_
  refine AW.seq (AW.seq ?_)
  by_cases c1 : (k : Int) = w
  · skip
    apply AW.list
    apply Wk.mv (by conv => lhs; whnf) (lt_of_ble rfl)
    apply Wk.mv (by conv => lhs; whnf) (lt_of_ble rfl)
    apply Wk.nilc rfl (lt_of_ble rfl)
    apply Wk.fad 0 4 true fd111_0 rfl (lt_of_ble rfl)
    apply Wk.fad 1 0 false fd24_1 rfl (lt_of_ble rfl)
    apply Wk.ld (i := 27) 1 false ty3 rfl rfl (by conv => lhs; whnf) (lt_of_ble rfl)
    apply Wk.bin rfl rfl (r := .bool true) (fun w => by simp [go_sem] <;> omega) (lt_of_ble rfl)
    apply Wk.mv (by conv => lhs; whnf) (lt_of_ble rfl)
    apply Wk.goff 16 (ok_move _) rfl rfl (by simp)
    apply Wk.goff 16 (ok_nil _) rfl rfl (by simp)
    apply Wk.goff 16 (ok_faddr fd111_4) rfl rfl (by simp)
    apply Wk.goff 16 (ok_load 27 ty25) rfl rfl (by simp)
    apply Wk.goff 16 (ok_leno 66 un25) rfl rfl (by simp)
    apply Wk.goff 16 (ok_bin _ _ _ _ _) rfl rfl (by simp)
    apply Wk.pckT rfl (by conv => lhs; whnf) (lt_of_ble rfl)
    apply Wk.mv (by conv => lhs; whnf) (lt_of_ble rfl)
    apply Wk.goff 24 (ok_move _) rfl rfl (by simp)
    apply Wk.goff 24 (ok_nil _) rfl rfl (by simp)
    apply Wk.goff 24 (ok_faddr fd111_8) rfl rfl (by simp)
    apply Wk.goff 24 (ok_load 27 ty3) rfl rfl (by simp)
    apply Wk.goff 24 (ok_move _) rfl rfl (by simp)
    apply Wk.goff 24 (ok_bin _ _ _ _ _) rfl rfl (by simp)
    apply Wk.goff 24 (ok_bin _ _ _ _ _) rfl rfl (by simp)
    apply Wk.pckT rfl (by conv => lhs; whnf) (lt_of_ble rfl)
    refine Wk.nil ?_
    refine AW.cond rfl (fun _ => ?_) (fun hc => by cases hc)
    refine AW.seq ?_
    apply AW.list
    apply Wk.asg (by conv => lhs; whnf) (lt_of_ble rfl)
    refine Wk.nil (AW.ret ?_)
    repeat (first | refine thenA_ret ?_ | refine inBlockA_ret ?_)
    exact RetQ.ret (sndB _ l qu) (.cons rfl .nil) ⟨rfl, rfl⟩ (kept2 rfl rfl)
  · by_cases c2 : qu = []
    · subst c2
      apply AW.list
      apply Wk.mv (by conv => lhs; whnf) (lt_of_ble rfl)
      apply Wk.mv (by conv => lhs; whnf) (lt_of_ble rfl)
      apply Wk.nilc rfl (lt_of_ble rfl)
      apply Wk.fad 0 4 true fd111_0 rfl (lt_of_ble rfl)
      apply Wk.fad 1 0 false fd24_1 rfl (lt_of_ble rfl)
      apply Wk.ld (i := 27) 1 false ty3 rfl rfl (by conv => lhs; whnf) (lt_of_ble rfl)
      apply Wk.bin rfl rfl (r := .bool false) (fun w => by simp [go_sem] <;> omega) (lt_of_ble rfl)
      apply Wk.mv (by conv => lhs; whnf) (lt_of_ble rfl)
      apply Wk.gon 16 rfl rfl
      apply Wk.mv (by conv => lhs; whnf) (lt_of_ble rfl)
      apply Wk.gon 16 rfl rfl
      apply Wk.nilc rfl (lt_of_ble rfl)
      apply Wk.gon 16 rfl rfl
      apply Wk.fad 21 0 false fd111_4 rfl (lt_of_ble rfl)
      apply Wk.gon 16 rfl rfl
      apply Wk.ld (i := 27) 1 false ty25 rfl rfl (by conv => lhs; whnf) (lt_of_ble rfl)
      apply Wk.gon 16 rfl rfl
      apply Wk.leno (i := 66) un25 rfl rfl (lt_of_ble rfl)
      apply Wk.gon 16 rfl rfl
      apply Wk.bin rfl rfl (r := .bool true) (fun w => by simp [go_sem, piecesA]) (lt_of_ble rfl)
      apply Wk.pckF rfl (by conv => lhs; whnf) (lt_of_ble rfl)
      apply Wk.mv (by conv => lhs; whnf) (lt_of_ble rfl)
      apply Wk.goff 24 (ok_move _) rfl rfl (by simp)
      apply Wk.goff 24 (ok_nil _) rfl rfl (by simp)
      apply Wk.goff 24 (ok_faddr fd111_8) rfl rfl (by simp)
      apply Wk.goff 24 (ok_load 27 ty3) rfl rfl (by simp)
      apply Wk.goff 24 (ok_move _) rfl rfl (by simp)
      apply Wk.goff 24 (ok_bin _ _ _ _ _) rfl rfl (by simp)
      apply Wk.goff 24 (ok_bin _ _ _ _ _) rfl rfl (by simp)
      apply Wk.pckT rfl (by conv => lhs; whnf) (lt_of_ble rfl)
      refine Wk.nil ?_
      refine AW.cond rfl (fun _ => ?_) (fun hc => by cases hc)
      refine AW.seq ?_
      apply AW.list
      apply Wk.asg (by conv => lhs; whnf) (lt_of_ble rfl)
      refine Wk.nil (AW.ret ?_)
      repeat (first | refine thenA_ret ?_ | refine inBlockA_ret ?_)
      exact RetQ.ret (sndB _ l []) (.cons rfl .nil) ⟨rfl, rfl⟩ (kept2 rfl rfl)
    · have c3 : c + (k : Int) = 9999 := by rcases hi with h | h | h <;> first | exact absurd h c1 | exact absurd h c2 | exact h
      have hq0 : ¬ ((qu.length : Nat) : Int) = 0 := by have := List.length_pos_iff.2 c2; omega
      apply AW.list
      apply Wk.mv (by conv => lhs; whnf) (lt_of_ble rfl)
      apply Wk.mv (by conv => lhs; whnf) (lt_of_ble rfl)
      apply Wk.nilc rfl (lt_of_ble rfl)
      apply Wk.fad 0 4 true fd111_0 rfl (lt_of_ble rfl)
      apply Wk.fad 1 0 false fd24_1 rfl (lt_of_ble rfl)
      apply Wk.ld (i := 27) 1 false ty3 rfl rfl (by conv => lhs; whnf) (lt_of_ble rfl)
      apply Wk.bin rfl rfl (r := .bool false) (fun w => by simp [go_sem] <;> omega) (lt_of_ble rfl)
      apply Wk.mv (by conv => lhs; whnf) (lt_of_ble rfl)
      apply Wk.gon 16 rfl rfl
      apply Wk.mv (by conv => lhs; whnf) (lt_of_ble rfl)
      apply Wk.gon 16 rfl rfl
      apply Wk.nilc rfl (lt_of_ble rfl)
      apply Wk.gon 16 rfl rfl
      apply Wk.fad 21 0 false fd111_4 rfl (lt_of_ble rfl)
      apply Wk.gon 16 rfl rfl
      apply Wk.ld (i := 27) 1 false ty25 rfl rfl (by conv => lhs; whnf) (lt_of_ble rfl)
      apply Wk.gon 16 rfl rfl
      apply Wk.leno (i := 66) un25 rfl rfl (lt_of_ble rfl)
      apply Wk.gon 16 rfl rfl
      apply Wk.bin rfl rfl (r := .bool false) (fun w => by rw [e3]; simp [go_sem] <;> first | omega | exact c2) (lt_of_ble rfl)
      apply Wk.pckF rfl (by conv => lhs; whnf) (lt_of_ble rfl)
      apply Wk.mv (by conv => lhs; whnf) (lt_of_ble rfl)
      apply Wk.gon 24 rfl rfl
      apply Wk.mv (by conv => lhs; whnf) (lt_of_ble rfl)
      apply Wk.gon 24 rfl rfl
      apply Wk.nilc rfl (lt_of_ble rfl)
      apply Wk.gon 24 rfl rfl
      apply Wk.fad 25 0 false fd111_8 rfl (lt_of_ble rfl)
      apply Wk.gon 24 rfl rfl
      apply Wk.ld (i := 27) 1 false ty3 rfl rfl (by conv => lhs; whnf) (lt_of_ble rfl)
      apply Wk.gon 24 rfl rfl
      apply Wk.mv (by conv => lhs; whnf) (lt_of_ble rfl)
      apply Wk.gon 24 rfl rfl
      apply Wk.addi rfl rfl (by omega) (lt_of_ble rfl)
      apply Wk.gon 24 rfl rfl
      apply Wk.bin rfl rfl (r := .bool true) (fun w => by simp [go_sem] <;> omega) (lt_of_ble rfl)
      apply Wk.pckF rfl (by conv => lhs; whnf) (lt_of_ble rfl)
      refine Wk.nil ?_
      refine AW.cond rfl (fun _ => ?_) (fun hc => by cases hc)
      refine AW.seq ?_
      apply AW.list
      apply Wk.asg (by conv => lhs; whnf) (lt_of_ble rfl)
      refine Wk.nil (AW.ret ?_)
      repeat (first | refine thenA_ret ?_ | refine inBlockA_ret ?_)
      exact RetQ.ret (sndB _ l qu) (.cons rfl .nil) ⟨rfl, rfl⟩ (kept2 rfl rfl)
set_option maxHeartbeats 4000000 in
set_option maxRecDepth 100000 in
theorem isetYes (m w p u y a : Int) (f : Nat → Sl) (k : Nat) (s : Int) (q : Bool) (t : Int) (hh : Bool) (c : Int) (dd : Bool) (e : Dat) (qs : List Dat) (hw : ¬ (k : Int) = w) (hk4 : k < 4) (hc : 0 ≤ c ∧ c ≤ 1000000) (h9 : ¬ c + (k : Int) = 9999) (hq : qs.length ≤ 1000) : Spec Try.prog 96 [.ptr 27 0] [(27, .var (sndD m w p u y a f 0 (k : Int) s (partsD (e :: qs)) q t hh c dd))] (fun r bs => r = .d (.v (.bool true)) ∧ bs = sndB (sndC m w p u y a (upd f k (sl (some e))) 0 ((k : Int) + 1) s 0 q t hh c dd) 0 qs) := by
  have cp := ipushD m w p u y a f s (partsD (e :: qs)) q t hh c dd k hk4 e
  have e4 : ((((e :: qs).map datD).length : Nat) : Int) = ((qs.length : Nat) : Int) + 1 := by simp
  have ez : ∀ c ∈ ((e :: qs).map datD), c.length = 3 := datD_len _
  refine Spec.intro (n := 52) (rv := [.tmp 2]) Try.func96 rfl rfl rfl (by simp) fun C hN hX => ?_
  refine AW.seq ?_
  apply AW.list
  apply Wk.asg (by conv => lhs; whnf) (lt_of_ble rfl)
  refine Wk.nil ?_
  refine AW.seq ?_
  apply AW.list
  apply Wk.mv (by conv => lhs; whnf) (lt_of_ble rfl)
  apply Wk.nilc rfl (lt_of_ble rfl)
  apply Wk.fad 6 13 true fd111_2 rfl (lt_of_ble rfl)
  apply Wk.fad 13 0 false fd109_2 rfl (lt_of_ble rfl)
  apply Wk.ld (i := 27) 1 false ty3 rfl rfl (by conv => lhs; whnf) (lt_of_ble rfl)
  apply Wk.asg (by conv => lhs; whnf) (lt_of_ble rfl)
  refine Wk.nil ?_
  refine AW.seq (AW.seq ?_)
  apply AW.list
  apply Wk.mv (by conv => lhs; whnf) (lt_of_ble rfl)
  apply Wk.mv (by conv => lhs; whnf) (lt_of_ble rfl)
  apply Wk.nilc rfl (lt_of_ble rfl)
  apply Wk.fad 0 4 true fd111_0 rfl (lt_of_ble rfl)
  apply Wk.fad 1 0 false fd24_1 rfl (lt_of_ble rfl)
  apply Wk.ld (i := 27) 1 false ty3 rfl rfl (by conv => lhs; whnf) (lt_of_ble rfl)
  apply Wk.bin rfl rfl (r := .bool false) (fun w => by simp [go_sem] <;> omega) (lt_of_ble rfl)
  apply Wk.mv (by conv => lhs; whnf) (lt_of_ble rfl)
  apply Wk.gon 16 rfl rfl
  apply Wk.mv (by conv => lhs; whnf) (lt_of_ble rfl)
  apply Wk.gon 16 rfl rfl
  apply Wk.nilc rfl (lt_of_ble rfl)
  apply Wk.gon 16 rfl rfl
  apply Wk.fad 21 0 false fd111_4 rfl (lt_of_ble rfl)
  apply Wk.gon 16 rfl rfl
  apply Wk.ld (i := 27) 1 false ty25 rfl rfl (by conv => lhs; whnf) (lt_of_ble rfl)
  apply Wk.gon 16 rfl rfl
  apply Wk.len un25 rfl (lt_of_ble rfl)
  apply Wk.gon 16 rfl rfl
  apply Wk.bin rfl rfl (r := .bool false) (fun w => by rw [e4]; simp [go_sem] <;> omega) (lt_of_ble rfl)
  apply Wk.pckF rfl (by conv => lhs; whnf) (lt_of_ble rfl)
  apply Wk.mv (by conv => lhs; whnf) (lt_of_ble rfl)
  apply Wk.gon 24 rfl rfl
  apply Wk.mv (by conv => lhs; whnf) (lt_of_ble rfl)
  apply Wk.gon 24 rfl rfl
  apply Wk.nilc rfl (lt_of_ble rfl)
  apply Wk.gon 24 rfl rfl
  apply Wk.fad 25 0 false fd111_8 rfl (lt_of_ble rfl)
  apply Wk.gon 24 rfl rfl
  apply Wk.ld (i := 27) 1 false ty3 rfl rfl (by conv => lhs; whnf) (lt_of_ble rfl)
  apply Wk.gon 24 rfl rfl
  apply Wk.mv (by conv => lhs; whnf) (lt_of_ble rfl)
  apply Wk.gon 24 rfl rfl
  apply Wk.addi rfl rfl (by omega) (lt_of_ble rfl)
  apply Wk.gon 24 rfl rfl
  apply Wk.bin rfl rfl (r := .bool false) (fun w => by simp [go_sem] <;> omega) (lt_of_ble rfl)
  apply Wk.pckF rfl (by conv => lhs; whnf) (lt_of_ble rfl)
  refine Wk.nil ?_
  refine AW.cond rfl (fun hc => by cases hc) (fun _ => AW.skip (thenA_normal ?_))
  refine AW.seq ?_
  apply AW.draw (hm := hmix) (cs := _)
  · apply Wk.mv (by conv => lhs; whnf) (lt_of_ble rfl)
    apply Wk.nilc rfl (lt_of_ble rfl)
    apply Wk.fad 6 13 true fd111_2 rfl (lt_of_ble rfl)
    apply Wk.mv (by conv => lhs; whnf) (lt_of_ble rfl)
    apply Wk.nilc rfl (lt_of_ble rfl)
    apply Wk.fad 21 0 false fd111_4 rfl (lt_of_ble rfl)
    apply Wk.ld (i := 27) 1 false ty25 rfl rfl (by conv => lhs; whnf) (lt_of_ble rfl)
    apply Wk.iad 3 true un25 ty47 rfl rfl (k := 0) (by simp) ez (lt_of_ble rfl)
    apply Wk.ldr 3 true ty47 rfl rfl (by conv => lhs; whnf) (lt_of_ble rfl)
    apply Wk.cal [27] [] cp (in_sndD _ rfl _ _ _ _ _ _ _ _ _ _ _ _ _ _ _ _) ⟨_, _, rfl, rfl⟩ Try.func89 rfl rfl rfl rfl (fun i hi => by cases hi) rfl (one_in rfl) (lt_of_ble rfl)
    rintro r bs' ⟨rfl, rfl⟩
    refine Wk.nil ?_
    refine AW.seq ?_
    apply AW.list
    apply Wk.mv (by conv => lhs; whnf) (lt_of_ble rfl)
    apply Wk.mv (by conv => lhs; whnf) (lt_of_ble rfl)
    apply Wk.nilc rfl (lt_of_ble rfl)
    apply Wk.fad 21 0 false fd111_4 rfl (lt_of_ble rfl)
    apply Wk.ld (i := 27) 1 false ty25 rfl rfl (by conv => lhs; whnf) (lt_of_ble rfl)
    apply Wk.slc (m := ((e :: qs).map datD).length) (l := 1) 3 true un25 ty47 rfl rfl (by exact if_pos ⟨by omega, by rw [e4]; omega⟩) ez (lt_of_ble rfl)
    apply Wk.appNR 66 1000 3 un25 ap47 rfl rfl rfl (.inr rfl) (by decide) (fun c hc => ez c (List.mem_of_mem_drop (List.mem_of_mem_take hc))) (by simp; omega) (lt_of_ble rfl)
    rw [show ((((e :: qs).map datD).drop 1).take (((e :: qs).map datD).length - 1)) = qs.map datD by rw [List.map_cons, List.drop_one, List.tail_cons, List.take_of_length_le (by simp)], show (qs.map datD).map (·.map A.d) = piecesA qs by simp [piecesA]]
    apply Wk.nilc rfl (lt_of_ble rfl)
    apply Wk.fad 21 0 false fd111_4 rfl (lt_of_ble rfl)
    apply Wk.sto (i := 27) 1 false ty25 rfl rfl rfl rfl (Nat.le_of_ble_eq_true rfl) (lt_of_ble rfl)
    refine Wk.nil ?_
    refine AW.seq ?_
    apply AW.list
    apply Wk.asg (by conv => lhs; whnf) (lt_of_ble rfl)
    refine Wk.nil (AW.ret ?_)
    exact RetQ.ret [(27, .var (sndC m w p u y a (upd f k (sl (some e))) 0 ((k : Int) + 1) s 0 q t hh c dd)), (66, .own 0 47 3 (piecesA qs))] (.cons rfl .nil) ⟨rfl, rfl⟩ (kept2 rfl rfl)
  · rfl
  · rfl
set_option maxHeartbeats 4000000 in
set_option maxRecDepth 100000 in
theorem isendIdle (m w p u y a : Int) (f : Nat → Sl) (k : Nat) (s : Int) (l : Nat) (q : Bool) (t : Int) (hh : Bool) (c : Int) (dd : Bool) (qu : List Dat) (ack : Int) (hi : dd = true ∨ q = true ∨ hh = true) : Spec Try.prog 67 [.ptr 27 0, .d (.v (.int .i64 ack))] (sndB (sndC m w p u y a f 0 (k : Int) s l q t hh c dd) l qu) (fun r bs => r = .tup [frmNo, .d (.v (.bool false))] ∧ bs = sndB (sndC m w p u y a f 0 (k : Int) s l q t hh c dd) l qu) := by
  cases dd
  · cases q
    · obtain rfl : hh = true := by simpa using hi
      refine Spec.intro (n := 75) (rv := [.cell 4 42, .tmp 5]) Try.func67 rfl rfl rfl (by simp) fun C hN hX => ?_
      refine AW.seq ?_
      apply AW.list
      apply Wk.alc 4 [.int .i64 0, .int .i64 0, .int .i64 0, .bool false, .bool false, .int .i64 0, .int .i64 0, .int .i64 0, .slice none 0 0] ze42 rfl rfl (lt_of_ble rfl)
      apply Wk.asg (by conv => lhs; whnf) (lt_of_ble rfl)
      refine Wk.nil ?_
      refine AW.seq (AW.seq ?_)
      apply AW.list
      apply Wk.mv (by conv => lhs; whnf) (lt_of_ble rfl)
      apply Wk.nilc rfl (lt_of_ble rfl)
      apply Wk.fad 26 0 false fd111_9 rfl (lt_of_ble rfl)
      apply Wk.ld (i := 27) 1 false ty4 rfl rfl (by conv => lhs; whnf) (lt_of_ble rfl)
      apply Wk.mv (by conv => lhs; whnf) (lt_of_ble rfl)
      apply Wk.gon 12 rfl rfl
      apply Wk.mv (by conv => lhs; whnf) (lt_of_ble rfl)
      apply Wk.gon 12 rfl rfl
      apply Wk.nilc rfl (lt_of_ble rfl)
      apply Wk.gon 12 rfl rfl
      apply Wk.fad 22 0 false fd111_5 rfl (lt_of_ble rfl)
      apply Wk.gon 12 rfl rfl
      apply Wk.ld (i := 27) 1 false ty4 rfl rfl (by conv => lhs; whnf) (lt_of_ble rfl)
      apply Wk.pckF rfl (by conv => lhs; whnf) (lt_of_ble rfl)
      apply Wk.mv (by conv => lhs; whnf) (lt_of_ble rfl)
      apply Wk.gon 18 rfl rfl
      apply Wk.mv (by conv => lhs; whnf) (lt_of_ble rfl)
      apply Wk.gon 18 rfl rfl
      apply Wk.nilc rfl (lt_of_ble rfl)
      apply Wk.gon 18 rfl rfl
      apply Wk.fad 24 0 false fd111_7 rfl (lt_of_ble rfl)
      apply Wk.gon 18 rfl rfl
      apply Wk.ld (i := 27) 1 false ty4 rfl rfl (by conv => lhs; whnf) (lt_of_ble rfl)
      apply Wk.pckF rfl (by conv => lhs; whnf) (lt_of_ble rfl)
      refine Wk.nil ?_
      refine AW.cond rfl (fun _ => ?_) (fun hc => by cases hc)
      refine AW.seq ?_
      apply AW.list
      apply Wk.bld [.int .i64 0, .int .i64 0, .int .i64 0, .bool false, .bool false, .int .i64 0, .int .i64 0, .int .i64 0, .slice none 0 0] [(0, 1), (1, 1), (2, 1), (3, 1), (4, 1), (5, 1), (6, 1), (7, 1), (8, 1)] bl42 rfl (by conv => lhs; whnf) (lt_of_ble rfl)
      apply Wk.sto (i := 4) 9 true ty42 rfl rfl rfl rfl (Nat.le_of_ble_eq_true rfl) (lt_of_ble rfl)
      apply Wk.asg (by conv => lhs; whnf) (lt_of_ble rfl)
      refine Wk.nil (AW.ret ?_)
      repeat (first | refine thenA_ret ?_ | refine inBlockA_ret ?_)
      exact RetQ.ret (sndB _ l qu) (.cons ⟨4, 0, _, _, _, rfl, rfl, ty42, rfl⟩ (.cons rfl .nil)) ⟨rfl, rfl⟩ (kept2 rfl rfl)
    · skip
      refine Spec.intro (n := 75) (rv := [.cell 4 42, .tmp 5]) Try.func67 rfl rfl rfl (by simp) fun C hN hX => ?_
      refine AW.seq ?_
      apply AW.list
      apply Wk.alc 4 [.int .i64 0, .int .i64 0, .int .i64 0, .bool false, .bool false, .int .i64 0, .int .i64 0, .int .i64 0, .slice none 0 0] ze42 rfl rfl (lt_of_ble rfl)
      apply Wk.asg (by conv => lhs; whnf) (lt_of_ble rfl)
      refine Wk.nil ?_
      refine AW.seq (AW.seq ?_)
      apply AW.list
      apply Wk.mv (by conv => lhs; whnf) (lt_of_ble rfl)
      apply Wk.nilc rfl (lt_of_ble rfl)
      apply Wk.fad 26 0 false fd111_9 rfl (lt_of_ble rfl)
      apply Wk.ld (i := 27) 1 false ty4 rfl rfl (by conv => lhs; whnf) (lt_of_ble rfl)
      apply Wk.mv (by conv => lhs; whnf) (lt_of_ble rfl)
      apply Wk.gon 12 rfl rfl
      apply Wk.mv (by conv => lhs; whnf) (lt_of_ble rfl)
      apply Wk.gon 12 rfl rfl
      apply Wk.nilc rfl (lt_of_ble rfl)
      apply Wk.gon 12 rfl rfl
      apply Wk.fad 22 0 false fd111_5 rfl (lt_of_ble rfl)
      apply Wk.gon 12 rfl rfl
      apply Wk.ld (i := 27) 1 false ty4 rfl rfl (by conv => lhs; whnf) (lt_of_ble rfl)
      apply Wk.pckF rfl (by conv => lhs; whnf) (lt_of_ble rfl)
      apply Wk.mv (by conv => lhs; whnf) (lt_of_ble rfl)
      apply Wk.goff 18 (ok_move _) rfl rfl (by simp)
      apply Wk.goff 18 (ok_nil _) rfl rfl (by simp)
      apply Wk.goff 18 (ok_faddr fd111_7) rfl rfl (by simp)
      apply Wk.goff 18 (ok_load 27 ty4) rfl rfl (by simp)
      apply Wk.pckT rfl (by conv => lhs; whnf) (lt_of_ble rfl)
      refine Wk.nil ?_
      refine AW.cond rfl (fun _ => ?_) (fun hc => by cases hc)
      refine AW.seq ?_
      apply AW.list
      apply Wk.bld [.int .i64 0, .int .i64 0, .int .i64 0, .bool false, .bool false, .int .i64 0, .int .i64 0, .int .i64 0, .slice none 0 0] [(0, 1), (1, 1), (2, 1), (3, 1), (4, 1), (5, 1), (6, 1), (7, 1), (8, 1)] bl42 rfl (by conv => lhs; whnf) (lt_of_ble rfl)
      apply Wk.sto (i := 4) 9 true ty42 rfl rfl rfl rfl (Nat.le_of_ble_eq_true rfl) (lt_of_ble rfl)
      apply Wk.asg (by conv => lhs; whnf) (lt_of_ble rfl)
      refine Wk.nil (AW.ret ?_)
      repeat (first | refine thenA_ret ?_ | refine inBlockA_ret ?_)
      exact RetQ.ret (sndB _ l qu) (.cons ⟨4, 0, _, _, _, rfl, rfl, ty42, rfl⟩ (.cons rfl .nil)) ⟨rfl, rfl⟩ (kept2 rfl rfl)
  · skip
    refine Spec.intro (n := 75) (rv := [.cell 4 42, .tmp 5]) Try.func67 rfl rfl rfl (by simp) fun C hN hX => ?_
    refine AW.seq ?_
    apply AW.list
    apply Wk.alc 4 [.int .i64 0, .int .i64 0, .int .i64 0, .bool false, .bool false, .int .i64 0, .int .i64 0, .int .i64 0, .slice none 0 0] ze42 rfl rfl (lt_of_ble rfl)
    apply Wk.asg (by conv => lhs; whnf) (lt_of_ble rfl)
    refine Wk.nil ?_
    refine AW.seq (AW.seq ?_)
    apply AW.list
    apply Wk.mv (by conv => lhs; whnf) (lt_of_ble rfl)
    apply Wk.nilc rfl (lt_of_ble rfl)
    apply Wk.fad 26 0 false fd111_9 rfl (lt_of_ble rfl)
    apply Wk.ld (i := 27) 1 false ty4 rfl rfl (by conv => lhs; whnf) (lt_of_ble rfl)
    apply Wk.mv (by conv => lhs; whnf) (lt_of_ble rfl)
    apply Wk.goff 12 (ok_move _) rfl rfl (by simp)
    apply Wk.goff 12 (ok_nil _) rfl rfl (by simp)
    apply Wk.goff 12 (ok_faddr fd111_5) rfl rfl (by simp)
    apply Wk.goff 12 (ok_load 27 ty4) rfl rfl (by simp)
    apply Wk.pckT rfl (by conv => lhs; whnf) (lt_of_ble rfl)
    apply Wk.mv (by conv => lhs; whnf) (lt_of_ble rfl)
    apply Wk.goff 18 (ok_move _) rfl rfl (by simp)
    apply Wk.goff 18 (ok_nil _) rfl rfl (by simp)
    apply Wk.goff 18 (ok_faddr fd111_7) rfl rfl (by simp)
    apply Wk.goff 18 (ok_load 27 ty4) rfl rfl (by simp)
    apply Wk.pckT rfl (by conv => lhs; whnf) (lt_of_ble rfl)
    refine Wk.nil ?_
    refine AW.cond rfl (fun _ => ?_) (fun hc => by cases hc)
    refine AW.seq ?_
    apply AW.list
    apply Wk.bld [.int .i64 0, .int .i64 0, .int .i64 0, .bool false, .bool false, .int .i64 0, .int .i64 0, .int .i64 0, .slice none 0 0] [(0, 1), (1, 1), (2, 1), (3, 1), (4, 1), (5, 1), (6, 1), (7, 1), (8, 1)] bl42 rfl (by conv => lhs; whnf) (lt_of_ble rfl)
    apply Wk.sto (i := 4) 9 true ty42 rfl rfl rfl rfl (Nat.le_of_ble_eq_true rfl) (lt_of_ble rfl)
    apply Wk.asg (by conv => lhs; whnf) (lt_of_ble rfl)
    refine Wk.nil (AW.ret ?_)
    repeat (first | refine thenA_ret ?_ | refine inBlockA_ret ?_)
    exact RetQ.ret (sndB _ l qu) (.cons ⟨4, 0, _, _, _, rfl, rfl, ty42, rfl⟩ (.cons rfl .nil)) ⟨rfl, rfl⟩ (kept2 rfl rfl)
set_option maxHeartbeats 4000000 in
set_option maxRecDepth 100000 in
theorem isendFull (m w p u y a : Int) (f : Nat → Sl) (k : Nat) (l : Nat) (t : Int) (c : Int) (qu : List Dat) (ack : Int) (hi : (k : Int) = w ∨ qu = [] ∨ c + (k : Int) = 9999) (hq : qu.length ≤ 1000) : Spec Try.prog 67 [.ptr 27 0, .d (.v (.int .i64 ack))] (sndB (sndC m w p u y a f 0 (k : Int) (k : Int) l false t false c false) l qu) (fun r bs => r = .tup [frmNo, .d (.v (.bool false))] ∧ bs = sndB (sndC m w p u y a f 0 (k : Int) (k : Int) l false t false c false) l qu) := by
  have cs := isetNo m w p u y a f k (k : Int) l false t false c false qu hi hq
  refine Spec.intro (n := 75) (rv := [.cell 4 42, .tmp 5]) Try.func67 rfl rfl rfl (by simp) fun C hN hX => ?_
  refine AW.seq ?_
  apply AW.list
  apply Wk.alc 4 [.int .i64 0, .int .i64 0, .int .i64 0, .bool false, .bool false, .int .i64 0, .int .i64 0, .int .i64 0, .slice none 0 0] ze42 rfl rfl (lt_of_ble rfl)
  apply Wk.asg (by conv => lhs; whnf) (lt_of_ble rfl)
  refine Wk.nil ?_
  refine AW.seq (AW.seq ?_)
  apply AW.list
  apply Wk.mv (by conv => lhs; whnf) (lt_of_ble rfl)
  apply Wk.nilc rfl (lt_of_ble rfl)
  apply Wk.fad 26 0 false fd111_9 rfl (lt_of_ble rfl)
  apply Wk.ld (i := 27) 1 false ty4 rfl rfl (by conv => lhs; whnf) (lt_of_ble rfl)
  apply Wk.mv (by conv => lhs; whnf) (lt_of_ble rfl)
  apply Wk.gon 12 rfl rfl
  apply Wk.mv (by conv => lhs; whnf) (lt_of_ble rfl)
  apply Wk.gon 12 rfl rfl
  apply Wk.nilc rfl (lt_of_ble rfl)
  apply Wk.gon 12 rfl rfl
  apply Wk.fad 22 0 false fd111_5 rfl (lt_of_ble rfl)
  apply Wk.gon 12 rfl rfl
  apply Wk.ld (i := 27) 1 false ty4 rfl rfl (by conv => lhs; whnf) (lt_of_ble rfl)
  apply Wk.pckF rfl (by conv => lhs; whnf) (lt_of_ble rfl)
  apply Wk.mv (by conv => lhs; whnf) (lt_of_ble rfl)
  apply Wk.gon 18 rfl rfl
  apply Wk.mv (by conv => lhs; whnf) (lt_of_ble rfl)
  apply Wk.gon 18 rfl rfl
  apply Wk.nilc rfl (lt_of_ble rfl)
  apply Wk.gon 18 rfl rfl
  apply Wk.fad 24 0 false fd111_7 rfl (lt_of_ble rfl)
  apply Wk.gon 18 rfl rfl
  apply Wk.ld (i := 27) 1 false ty4 rfl rfl (by conv => lhs; whnf) (lt_of_ble rfl)
  apply Wk.pckF rfl (by conv => lhs; whnf) (lt_of_ble rfl)
  refine Wk.nil ?_
  refine AW.cond rfl (fun hc => by cases hc) (fun _ => AW.skip (thenA_normal ?_))
  refine AW.seq (AW.seq ?_)
  apply AW.draw (hm := hmix) (cs := _)
  · apply Wk.mv (by conv => lhs; whnf) (lt_of_ble rfl)
    apply Wk.nilc rfl (lt_of_ble rfl)
    apply Wk.fad 20 0 false fd111_3 rfl (lt_of_ble rfl)
    apply Wk.ld (i := 27) 1 false ty3 rfl rfl (by conv => lhs; whnf) (lt_of_ble rfl)
    apply Wk.mv (by conv => lhs; whnf) (lt_of_ble rfl)
    apply Wk.nilc rfl (lt_of_ble rfl)
    apply Wk.fad 6 13 true fd111_2 rfl (lt_of_ble rfl)
    apply Wk.fad 13 0 false fd109_2 rfl (lt_of_ble rfl)
    apply Wk.ld (i := 27) 1 false ty3 rfl rfl (by conv => lhs; whnf) (lt_of_ble rfl)
    apply Wk.bin rfl rfl (r := .bool true) (fun w => by simp [go_sem]) (lt_of_ble rfl)
    apply Wk.mv (by conv => lhs; whnf) (lt_of_ble rfl)
    apply Wk.gon 35 rfl rfl
    apply Wk.mv (by conv => lhs; whnf) (lt_of_ble rfl)
    apply Wk.gon 35 rfl rfl
    apply Wk.cal [27, 66] [] cs (in_snd _ rfl _ _ _ _ _ _ _ _ _ _ _ _ _ _ _ _ _ _) ⟨_, _, rfl, rfl⟩ Try.func96 rfl rfl rfl rfl (fun i hi => by cases hi) rfl (two_in rfl (by exact within_parts _)) (lt_of_ble rfl)
    rintro r bs' ⟨rfl, rfl⟩
    apply Wk.gon 35 rfl rfl
    apply Wk.un rfl (fun w => by simp [go_sem] <;> rfl) (lt_of_ble rfl)
    apply Wk.pckT rfl (by conv => lhs; whnf) (lt_of_ble rfl)
    refine Wk.nil ?_
    refine AW.cond rfl (fun _ => ?_) (fun hc => by cases hc)
    refine AW.seq ?_
    apply AW.list
    apply Wk.bld [.int .i64 0, .int .i64 0, .int .i64 0, .bool false, .bool false, .int .i64 0, .int .i64 0, .int .i64 0, .slice none 0 0] [(0, 1), (1, 1), (2, 1), (3, 1), (4, 1), (5, 1), (6, 1), (7, 1), (8, 1)] bl42 rfl (by conv => lhs; whnf) (lt_of_ble rfl)
    apply Wk.sto (i := 4) 9 true ty42 rfl rfl rfl rfl (Nat.le_of_ble_eq_true rfl) (lt_of_ble rfl)
    apply Wk.asg (by conv => lhs; whnf) (lt_of_ble rfl)
    refine Wk.nil (AW.ret ?_)
    repeat (first | refine thenA_ret ?_ | refine inBlockA_ret ?_)
    exact RetQ.ret (sndB _ l qu) (.cons ⟨4, 0, _, _, _, rfl, rfl, ty42, rfl⟩ (.cons rfl .nil)) ⟨rfl, rfl⟩ (kept2 rfl rfl)
  · rfl
  · rfl
set_option maxHeartbeats 4000000 in
set_option maxRecDepth 100000 in
theorem isendOn (m w p u y a : Int) (f : Nat → Sl) (k : Nat) (l : Nat) (t : Int) (c : Int) (qu : List Dat) (j : Nat) (ack : Int) (e : Dat) (he : f j = sl (some e)) (hl : e.2.2.length ≤ 1000) (hj : j < k) (hk4 : k ≤ 4) (ha : 0 ≤ a ∧ a < 8) : Spec Try.prog 67 [.ptr 27 0, .d (.v (.int .i64 ack))] (sndB (sndC m w p u y a f 0 (k : Int) (j : Int) l false t false c false) l qu) (fun r bs => r = .tup [frmD 1 ((a + (j : Int)) % 8) ack false false 0 e.1 e.2.1 e.2.2, .d (.v (.bool true))] ∧ bs = sndB (sndC m w p u y a f 0 (k : Int) ((j : Int) + 1) l false t false c false) l qu) := by
  have cx := isetNo m w p u y a f 0 0 0 false 0 false 0 false [] (.inr (.inl rfl)) (by simp)
  have cat := iat m w p u y a f (j : Int) l false t false c false qu 0 j (k : Int) (by omega) (by omega) j (by omega)
  rw [he] at cat
  have ccp := icpart_ok e hl
  have co := ion_ok a (j : Int) ha (by omega)
  refine Spec.intro (n := 75) (rv := [.cell 4 42, .tmp 5]) Try.func67 rfl rfl rfl (by simp) fun C hN hX => ?_
  refine AW.seq ?_
  apply AW.list
  apply Wk.alc 4 [.int .i64 0, .int .i64 0, .int .i64 0, .bool false, .bool false, .int .i64 0, .int .i64 0, .int .i64 0, .slice none 0 0] ze42 rfl rfl (lt_of_ble rfl)
  apply Wk.asg (by conv => lhs; whnf) (lt_of_ble rfl)
  refine Wk.nil ?_
  refine AW.seq (AW.seq ?_)
  apply AW.list
  apply Wk.mv (by conv => lhs; whnf) (lt_of_ble rfl)
  apply Wk.nilc rfl (lt_of_ble rfl)
  apply Wk.fad 26 0 false fd111_9 rfl (lt_of_ble rfl)
  apply Wk.ld (i := 27) 1 false ty4 rfl rfl (by conv => lhs; whnf) (lt_of_ble rfl)
  apply Wk.mv (by conv => lhs; whnf) (lt_of_ble rfl)
  apply Wk.gon 12 rfl rfl
  apply Wk.mv (by conv => lhs; whnf) (lt_of_ble rfl)
  apply Wk.gon 12 rfl rfl
  apply Wk.nilc rfl (lt_of_ble rfl)
  apply Wk.gon 12 rfl rfl
  apply Wk.fad 22 0 false fd111_5 rfl (lt_of_ble rfl)
  apply Wk.gon 12 rfl rfl
  apply Wk.ld (i := 27) 1 false ty4 rfl rfl (by conv => lhs; whnf) (lt_of_ble rfl)
  apply Wk.pckF rfl (by conv => lhs; whnf) (lt_of_ble rfl)
  apply Wk.mv (by conv => lhs; whnf) (lt_of_ble rfl)
  apply Wk.gon 18 rfl rfl
  apply Wk.mv (by conv => lhs; whnf) (lt_of_ble rfl)
  apply Wk.gon 18 rfl rfl
  apply Wk.nilc rfl (lt_of_ble rfl)
  apply Wk.gon 18 rfl rfl
  apply Wk.fad 24 0 false fd111_7 rfl (lt_of_ble rfl)
  apply Wk.gon 18 rfl rfl
  apply Wk.ld (i := 27) 1 false ty4 rfl rfl (by conv => lhs; whnf) (lt_of_ble rfl)
  apply Wk.pckF rfl (by conv => lhs; whnf) (lt_of_ble rfl)
  refine Wk.nil ?_
  refine AW.cond rfl (fun hc => by cases hc) (fun _ => AW.skip (thenA_normal ?_))
  refine AW.seq (AW.seq ?_)
  apply AW.draw (hm := hmix) (cs := _)
  · apply Wk.mv (by conv => lhs; whnf) (lt_of_ble rfl)
    apply Wk.nilc rfl (lt_of_ble rfl)
    apply Wk.fad 20 0 false fd111_3 rfl (lt_of_ble rfl)
    apply Wk.ld (i := 27) 1 false ty3 rfl rfl (by conv => lhs; whnf) (lt_of_ble rfl)
    apply Wk.mv (by conv => lhs; whnf) (lt_of_ble rfl)
    apply Wk.nilc rfl (lt_of_ble rfl)
    apply Wk.fad 6 13 true fd111_2 rfl (lt_of_ble rfl)
    apply Wk.fad 13 0 false fd109_2 rfl (lt_of_ble rfl)
    apply Wk.ld (i := 27) 1 false ty3 rfl rfl (by conv => lhs; whnf) (lt_of_ble rfl)
    apply Wk.bin rfl rfl (r := .bool false) (fun w => by simp [go_sem] <;> omega) (lt_of_ble rfl)
    apply Wk.mv (by conv => lhs; whnf) (lt_of_ble rfl)
    apply Wk.goff 35 (ok_move _) rfl rfl (by simp)
    apply Wk.goff 35 (ok_call [27, 66] [] Try.func96 rfl rfl (Con.at_ok cx (in_snd _ rfl _ _ _ _ _ _ _ _ _ _ _ _ _ _ _ _ _ _))) rfl rfl (by simp)
    apply Wk.goff 35 (ok_un _ _ _) rfl rfl (by simp)
    apply Wk.pckF rfl (by conv => lhs; whnf) (lt_of_ble rfl)
    refine Wk.nil ?_
    refine AW.cond rfl (fun hc => by cases hc) (fun _ => AW.skip (thenA_normal ?_))
    refine AW.seq ?_
    apply AW.draw (hm := hmix) (cs := _)
    · apply Wk.mv (by conv => lhs; whnf) (lt_of_ble rfl)
      apply Wk.nilc rfl (lt_of_ble rfl)
      apply Wk.fad 6 13 true fd111_2 rfl (lt_of_ble rfl)
      apply Wk.mv (by conv => lhs; whnf) (lt_of_ble rfl)
      apply Wk.nilc rfl (lt_of_ble rfl)
      apply Wk.fad 20 0 false fd111_3 rfl (lt_of_ble rfl)
      apply Wk.ld (i := 27) 1 false ty3 rfl rfl (by conv => lhs; whnf) (lt_of_ble rfl)
      apply Wk.cal [27, 66] [] cat (in_snd _ rfl _ _ _ _ _ _ _ _ _ _ _ _ _ _ _ _ _ _) ⟨_, _, rfl, rfl⟩ Try.func98 rfl rfl rfl rfl (fun i hi => by cases hi) rfl (two_in rfl (by exact within_parts _)) (lt_of_ble rfl)
      rintro r bs' ⟨rfl, rfl⟩
      apply Wk.dat ccp Try.func97 rfl rfl rfl rfl rfl (lt_of_ble rfl)
      apply Wk.alc 6 [.int .i64 0, .int .i64 0, .slice none 0 0] ze47 rfl rfl (lt_of_ble rfl)
      apply Wk.sto (i := 6) 3 true ty47 rfl rfl rfl rfl (Nat.le_of_ble_eq_true rfl) (lt_of_ble rfl)
      refine Wk.nil ?_
      refine AW.seq ?_
      apply AW.draw (hm := hmix) (cs := _)
      · apply Wk.mv (by conv => lhs; whnf) (lt_of_ble rfl)
        apply Wk.nilc rfl (lt_of_ble rfl)
        apply Wk.fad 5 0 false fd111_1 rfl (lt_of_ble rfl)
        apply Wk.ld (i := 27) 1 false ty92 rfl rfl (by conv => lhs; whnf) (lt_of_ble rfl)
        apply Wk.mv (by conv => lhs; whnf) (lt_of_ble rfl)
        apply Wk.nilc rfl (lt_of_ble rfl)
        apply Wk.fad 20 0 false fd111_3 rfl (lt_of_ble rfl)
        apply Wk.ld (i := 27) 1 false ty3 rfl rfl (by conv => lhs; whnf) (lt_of_ble rfl)
        apply Wk.dat co Try.func90 rfl rfl rfl rfl rfl (lt_of_ble rfl)
        apply Wk.asg (by conv => lhs; whnf) (lt_of_ble rfl)
        refine Wk.nil ?_
        refine AW.seq ?_
        apply AW.list
        apply Wk.mv (by conv => lhs; whnf) (lt_of_ble rfl)
        apply Wk.nilc rfl (lt_of_ble rfl)
        apply Wk.fad 20 0 false fd111_3 rfl (lt_of_ble rfl)
        apply Wk.ld (i := 27) 1 false ty3 rfl rfl (by conv => lhs; whnf) (lt_of_ble rfl)
        apply Wk.addi rfl rfl (by omega) (lt_of_ble rfl)
        apply Wk.nilc rfl (lt_of_ble rfl)
        apply Wk.fad 20 0 false fd111_3 rfl (lt_of_ble rfl)
        apply Wk.sto (i := 27) 1 false ty3 rfl rfl rfl rfl (Nat.le_of_ble_eq_true rfl) (lt_of_ble rfl)
        refine Wk.nil ?_
        refine AW.seq ?_
        apply AW.list
        apply Wk.mv (by conv => lhs; whnf) (lt_of_ble rfl)
        apply Wk.mv (by conv => lhs; whnf) (lt_of_ble rfl)
        apply Wk.fad 0 0 false fd47_0 rfl (lt_of_ble rfl)
        apply Wk.ld (i := 6) 1 false ty3 rfl rfl (by conv => lhs; whnf) (lt_of_ble rfl)
        apply Wk.fad 1 0 false fd47_1 rfl (lt_of_ble rfl)
        apply Wk.ld (i := 6) 1 false ty3 rfl rfl (by conv => lhs; whnf) (lt_of_ble rfl)
        apply Wk.fad 2 0 false fd47_2 rfl (lt_of_ble rfl)
        apply Wk.ld (i := 6) 1 false ty22 rfl rfl (by conv => lhs; whnf) (lt_of_ble rfl)
        apply Wk.bld [.int .i64 0, .int .i64 0, .int .i64 0, .bool false, .bool false, .int .i64 0, .int .i64 0, .int .i64 0, .slice none 0 0] [(0, 1), (1, 1), (2, 1), (3, 1), (4, 1), (5, 1), (6, 1), (7, 1), (8, 1)] bl42 rfl (by conv => lhs; whnf) (lt_of_ble rfl)
        apply Wk.sto (i := 4) 9 true ty42 rfl rfl rfl rfl (Nat.le_of_ble_eq_true rfl) (lt_of_ble rfl)
        apply Wk.asg (by conv => lhs; whnf) (lt_of_ble rfl)
        refine Wk.nil (AW.ret ?_)
        exact RetQ.ret (sndB _ l qu) (.cons ⟨4, 0, _, _, _, rfl, rfl, ty42, rfl⟩ (.cons rfl .nil)) ⟨rfl, rfl⟩ (kept2 rfl rfl)
      · rfl
      · rfl
    · rfl
    · rfl
  · rfl
  · rfl
set_option maxHeartbeats 4000000 in
set_option maxRecDepth 100000 in
theorem isendNew (m w p u y a : Int) (f : Nat → Sl) (k : Nat) (t : Int) (c : Int) (ack : Int) (e : Dat) (qs : List Dat) (hl : e.2.2.length ≤ 1000) (hw : ¬ (k : Int) = w) (hk4 : k < 4) (hc : 0 ≤ c ∧ c ≤ 1000000) (h9 : ¬ c + (k : Int) = 9999) (hq : qs.length ≤ 1000) (ha : 0 ≤ a ∧ a < 8) : Spec Try.prog 67 [.ptr 27 0, .d (.v (.int .i64 ack))] [(27, .var (sndD m w p u y a f 0 (k : Int) (k : Int) (partsD (e :: qs)) false t false c false))] (fun r bs => r = .tup [frmD 1 ((a + (k : Int)) % 8) ack false false 0 e.1 e.2.1 e.2.2, .d (.v (.bool true))] ∧ bs = sndB (sndC m w p u y a (upd f k (sl (some e))) 0 ((k : Int) + 1) ((k : Int) + 1) 0 false t false c false) 0 qs) := by
  have cs := isetYes m w p u y a f k (k : Int) false t false c false e qs hw hk4 hc h9 hq
  have cat := iat m w p u y a (upd f k (sl (some e))) (k : Int) 0 false t false c false qs 0 k ((k : Int) + 1) (by omega) (by omega) k (by omega)
  rw [show upd f k (sl (some e)) k = sl (some e) by simp [upd]] at cat
  have ccp := icpart_ok e hl
  have co := ion_ok a (k : Int) ha (by omega)
  refine Spec.intro (n := 75) (rv := [.cell 4 42, .tmp 5]) Try.func67 rfl rfl rfl (by simp) fun C hN hX => ?_
  refine AW.seq ?_
  apply AW.list
  apply Wk.alc 4 [.int .i64 0, .int .i64 0, .int .i64 0, .bool false, .bool false, .int .i64 0, .int .i64 0, .int .i64 0, .slice none 0 0] ze42 rfl rfl (lt_of_ble rfl)
  apply Wk.asg (by conv => lhs; whnf) (lt_of_ble rfl)
  refine Wk.nil ?_
  refine AW.seq (AW.seq ?_)
  apply AW.list
  apply Wk.mv (by conv => lhs; whnf) (lt_of_ble rfl)
  apply Wk.nilc rfl (lt_of_ble rfl)
  apply Wk.fad 26 0 false fd111_9 rfl (lt_of_ble rfl)
  apply Wk.ld (i := 27) 1 false ty4 rfl rfl (by conv => lhs; whnf) (lt_of_ble rfl)
  apply Wk.mv (by conv => lhs; whnf) (lt_of_ble rfl)
  apply Wk.gon 12 rfl rfl
  apply Wk.mv (by conv => lhs; whnf) (lt_of_ble rfl)
  apply Wk.gon 12 rfl rfl
  apply Wk.nilc rfl (lt_of_ble rfl)
  apply Wk.gon 12 rfl rfl
  apply Wk.fad 22 0 false fd111_5 rfl (lt_of_ble rfl)
  apply Wk.gon 12 rfl rfl
  apply Wk.ld (i := 27) 1 false ty4 rfl rfl (by conv => lhs; whnf) (lt_of_ble rfl)
  apply Wk.pckF rfl (by conv => lhs; whnf) (lt_of_ble rfl)
  apply Wk.mv (by conv => lhs; whnf) (lt_of_ble rfl)
  apply Wk.gon 18 rfl rfl
  apply Wk.mv (by conv => lhs; whnf) (lt_of_ble rfl)
  apply Wk.gon 18 rfl rfl
  apply Wk.nilc rfl (lt_of_ble rfl)
  apply Wk.gon 18 rfl rfl
  apply Wk.fad 24 0 false fd111_7 rfl (lt_of_ble rfl)
  apply Wk.gon 18 rfl rfl
  apply Wk.ld (i := 27) 1 false ty4 rfl rfl (by conv => lhs; whnf) (lt_of_ble rfl)
  apply Wk.pckF rfl (by conv => lhs; whnf) (lt_of_ble rfl)
  refine Wk.nil ?_
  refine AW.cond rfl (fun hc => by cases hc) (fun _ => AW.skip (thenA_normal ?_))
  refine AW.seq (AW.seq ?_)
  apply AW.draw (hm := hmix) (cs := _)
  · apply Wk.mv (by conv => lhs; whnf) (lt_of_ble rfl)
    apply Wk.nilc rfl (lt_of_ble rfl)
    apply Wk.fad 20 0 false fd111_3 rfl (lt_of_ble rfl)
    apply Wk.ld (i := 27) 1 false ty3 rfl rfl (by conv => lhs; whnf) (lt_of_ble rfl)
    apply Wk.mv (by conv => lhs; whnf) (lt_of_ble rfl)
    apply Wk.nilc rfl (lt_of_ble rfl)
    apply Wk.fad 6 13 true fd111_2 rfl (lt_of_ble rfl)
    apply Wk.fad 13 0 false fd109_2 rfl (lt_of_ble rfl)
    apply Wk.ld (i := 27) 1 false ty3 rfl rfl (by conv => lhs; whnf) (lt_of_ble rfl)
    apply Wk.bin rfl rfl (r := .bool true) (fun w => by simp [go_sem]) (lt_of_ble rfl)
    apply Wk.mv (by conv => lhs; whnf) (lt_of_ble rfl)
    apply Wk.gon 35 rfl rfl
    apply Wk.mv (by conv => lhs; whnf) (lt_of_ble rfl)
    apply Wk.gon 35 rfl rfl
    apply Wk.cal [27] [66] cs (in_snd _ rfl _ _ _ _ _ _ _ _ _ _ _ _ _ _ _ _ _ _) ⟨_, _, rfl, rfl⟩ Try.func96 rfl rfl rfl rfl (by simp; rfl) rfl (one_in rfl) (lt_of_ble rfl)
    rintro r bs' ⟨rfl, rfl⟩
    apply Wk.gon 35 rfl rfl
    apply Wk.un rfl (fun w => by simp [go_sem] <;> rfl) (lt_of_ble rfl)
    apply Wk.pckT rfl (by conv => lhs; whnf) (lt_of_ble rfl)
    refine Wk.nil ?_
    refine AW.cond rfl (fun hc => by cases hc) (fun _ => AW.skip (thenA_normal ?_))
    refine AW.seq ?_
    apply AW.draw (hm := hmix) (cs := _)
    · apply Wk.mv (by conv => lhs; whnf) (lt_of_ble rfl)
      apply Wk.nilc rfl (lt_of_ble rfl)
      apply Wk.fad 6 13 true fd111_2 rfl (lt_of_ble rfl)
      apply Wk.mv (by conv => lhs; whnf) (lt_of_ble rfl)
      apply Wk.nilc rfl (lt_of_ble rfl)
      apply Wk.fad 20 0 false fd111_3 rfl (lt_of_ble rfl)
      apply Wk.ld (i := 27) 1 false ty3 rfl rfl (by conv => lhs; whnf) (lt_of_ble rfl)
      apply Wk.cal [27, 66] [] cat (in_snd _ rfl _ _ _ _ _ _ _ _ _ _ _ _ _ _ _ _ _ _) ⟨_, _, rfl, rfl⟩ Try.func98 rfl rfl rfl rfl (fun i hi => by cases hi) rfl (two_in rfl (by exact within_parts _)) (lt_of_ble rfl)
      rintro r bs' ⟨rfl, rfl⟩
      apply Wk.dat ccp Try.func97 rfl rfl rfl rfl rfl (lt_of_ble rfl)
      apply Wk.alc 6 [.int .i64 0, .int .i64 0, .slice none 0 0] ze47 rfl rfl (lt_of_ble rfl)
      apply Wk.sto (i := 6) 3 true ty47 rfl rfl rfl rfl (Nat.le_of_ble_eq_true rfl) (lt_of_ble rfl)
      refine Wk.nil ?_
      refine AW.seq ?_
      apply AW.draw (hm := hmix) (cs := _)
      · apply Wk.mv (by conv => lhs; whnf) (lt_of_ble rfl)
        apply Wk.nilc rfl (lt_of_ble rfl)
        apply Wk.fad 5 0 false fd111_1 rfl (lt_of_ble rfl)
        apply Wk.ld (i := 27) 1 false ty92 rfl rfl (by conv => lhs; whnf) (lt_of_ble rfl)
        apply Wk.mv (by conv => lhs; whnf) (lt_of_ble rfl)
        apply Wk.nilc rfl (lt_of_ble rfl)
        apply Wk.fad 20 0 false fd111_3 rfl (lt_of_ble rfl)
        apply Wk.ld (i := 27) 1 false ty3 rfl rfl (by conv => lhs; whnf) (lt_of_ble rfl)
        apply Wk.dat co Try.func90 rfl rfl rfl rfl rfl (lt_of_ble rfl)
        apply Wk.asg (by conv => lhs; whnf) (lt_of_ble rfl)
        refine Wk.nil ?_
        refine AW.seq ?_
        apply AW.list
        apply Wk.mv (by conv => lhs; whnf) (lt_of_ble rfl)
        apply Wk.nilc rfl (lt_of_ble rfl)
        apply Wk.fad 20 0 false fd111_3 rfl (lt_of_ble rfl)
        apply Wk.ld (i := 27) 1 false ty3 rfl rfl (by conv => lhs; whnf) (lt_of_ble rfl)
        apply Wk.addi rfl rfl (by omega) (lt_of_ble rfl)
        apply Wk.nilc rfl (lt_of_ble rfl)
        apply Wk.fad 20 0 false fd111_3 rfl (lt_of_ble rfl)
        apply Wk.sto (i := 27) 1 false ty3 rfl rfl rfl rfl (Nat.le_of_ble_eq_true rfl) (lt_of_ble rfl)
        refine Wk.nil ?_
        refine AW.seq ?_
        apply AW.list
        apply Wk.mv (by conv => lhs; whnf) (lt_of_ble rfl)
        apply Wk.mv (by conv => lhs; whnf) (lt_of_ble rfl)
        apply Wk.fad 0 0 false fd47_0 rfl (lt_of_ble rfl)
        apply Wk.ld (i := 6) 1 false ty3 rfl rfl (by conv => lhs; whnf) (lt_of_ble rfl)
        apply Wk.fad 1 0 false fd47_1 rfl (lt_of_ble rfl)
        apply Wk.ld (i := 6) 1 false ty3 rfl rfl (by conv => lhs; whnf) (lt_of_ble rfl)
        apply Wk.fad 2 0 false fd47_2 rfl (lt_of_ble rfl)
        apply Wk.ld (i := 6) 1 false ty22 rfl rfl (by conv => lhs; whnf) (lt_of_ble rfl)
        apply Wk.bld [.int .i64 0, .int .i64 0, .int .i64 0, .bool false, .bool false, .int .i64 0, .int .i64 0, .int .i64 0, .slice none 0 0] [(0, 1), (1, 1), (2, 1), (3, 1), (4, 1), (5, 1), (6, 1), (7, 1), (8, 1)] bl42 rfl (by conv => lhs; whnf) (lt_of_ble rfl)
        apply Wk.sto (i := 4) 9 true ty42 rfl rfl rfl rfl (Nat.le_of_ble_eq_true rfl) (lt_of_ble rfl)
        apply Wk.asg (by conv => lhs; whnf) (lt_of_ble rfl)
        refine Wk.nil (AW.ret ?_)
        exact RetQ.ret (sndB _ 0 qs) (.cons ⟨4, 0, _, _, _, rfl, rfl, ty42, rfl⟩ (.cons rfl .nil)) ⟨rfl, rfl⟩ (kept2 rfl rfl)
      · rfl
      · rfl
    · rfl
    · rfl
  · rfl
  · rfl
end Go.Proofs.Ytdojkmjamilllaa

/- TxSend of the program, as a whole. Written by tools/mk_AbsSendJ.py. -/
namespace Go.Proofs.Ytdojkmjamilllaa
open Go Go.RowKit
set_option maxHeartbeats 4000000 in
set_option maxRecDepth 100000 in
theorem itsendNo (m0 w0 p0 u0 y0 : Int) (x : TX) (ack : Int) (hno : txOkB ⟨m0, w0, p0, u0, y0⟩ x = false ∨ inB ack 0 7 = false) :
    DataOk Try.prog 24 [cfgA m0 w0 p0 u0 y0, txA x, .d (.v (.int .i64 ack))] (.tup [txNil, frmNo, .d (.v (.bool false))]) := by
  cases hok : txOkB ⟨m0, w0, p0, u0, y0⟩ x
  · skip
    refine Spec.intro (n := 36) (rv := [.cell 6 27, .cell 7 42, .tmp 8]) Try.func24 rfl rfl rfl (by simp) fun C hN hX => ?_
    refine AW.seq ?_
    apply AW.list
    apply Wk.bx 3 rfl rfl (lt_of_ble rfl)
    apply Wk.bx 50 rfl rfl (lt_of_ble rfl)
    apply Wk.alc 6 [.int .i64 0, .int .i64 0, .slice none 0 0, .int .i64 0, .slice none 0 0, .bool false, .int .i64 0, .bool false, .int .i64 0, .bool false] ze27 rfl rfl (lt_of_ble rfl)
    apply Wk.alc 7 [.int .i64 0, .int .i64 0, .int .i64 0, .bool false, .bool false, .int .i64 0, .int .i64 0, .int .i64 0, .slice none 0 0] ze42 rfl rfl (lt_of_ble rfl)
    apply Wk.asg (by conv => lhs; whnf) (lt_of_ble rfl)
    refine Wk.nil ?_
    refine AW.seq (AW.seq ?_)
    apply AW.list
    apply Wk.ld (i := 3) 5 true ty24 rfl rfl (by conv => lhs; whnf) (lt_of_ble rfl)
    apply Wk.ld (i := 50) 10 true ty27 rfl rfl (by conv => lhs; whnf) (lt_of_ble rfl)
    apply Wk.dat (itxb hok) Try.func17 rfl rfl rfl rfl rfl (lt_of_ble rfl)
    apply Wk.un rfl (fun w => by simp [go_sem] <;> rfl) (lt_of_ble rfl)
    apply Wk.mv (by conv => lhs; whnf) (lt_of_ble rfl)
    apply Wk.goff 16 (ok_move _) rfl rfl (by simp)
    apply Wk.goff 16 (ok_datw ((iisnum (n := 0) rfl).w rfl) Try.func66 rfl rfl) rfl rfl (by simp)
    apply Wk.goff 16 (ok_un _ _ _) rfl rfl (by simp)
    apply Wk.pckT rfl (by conv => lhs; whnf) (lt_of_ble rfl)
    refine Wk.nil ?_
    refine AW.cond rfl (fun _ => ?_) (fun hc => by cases hc)
    refine AW.seq ?_
    apply AW.list
    apply Wk.bld [.int .i64 0, .int .i64 0, .slice none 0 0, .int .i64 0, .slice none 0 0, .bool false, .int .i64 0, .bool false, .int .i64 0, .bool false] [(0, 1), (1, 1), (2, 1), (3, 1), (4, 1), (5, 1), (6, 1), (7, 1), (8, 1), (9, 1)] bl27 rfl (by conv => lhs; whnf) (lt_of_ble rfl)
    apply Wk.bld [.int .i64 0, .int .i64 0, .int .i64 0, .bool false, .bool false, .int .i64 0, .int .i64 0, .int .i64 0, .slice none 0 0] [(0, 1), (1, 1), (2, 1), (3, 1), (4, 1), (5, 1), (6, 1), (7, 1), (8, 1)] bl42 rfl (by conv => lhs; whnf) (lt_of_ble rfl)
    apply Wk.sto (i := 6) 10 true ty27 rfl rfl rfl rfl (Nat.le_of_ble_eq_true rfl) (lt_of_ble rfl)
    apply Wk.sto (i := 7) 9 true ty42 rfl rfl rfl rfl (Nat.le_of_ble_eq_true rfl) (lt_of_ble rfl)
    apply Wk.asg (by conv => lhs; whnf) (lt_of_ble rfl)
    refine Wk.nil (AW.ret ?_)
    repeat (first | refine thenA_ret ?_ | refine inBlockA_ret ?_)
    exact RetQ.ret [] (.cons ⟨6, 0, _, _, _, rfl, rfl, ty27, rfl⟩ (.cons ⟨7, 0, _, _, _, rfl, rfl, ty42, rfl⟩ (.cons rfl .nil))) ⟨rfl, rfl⟩ none_kept
  · have hack : inB ack 0 7 = false := by rcases hno with h | h <;> first | exact h | (rw [hok] at h; cases h)
    refine Spec.intro (n := 36) (rv := [.cell 6 27, .cell 7 42, .tmp 8]) Try.func24 rfl rfl rfl (by simp) fun C hN hX => ?_
    refine AW.seq ?_
    apply AW.list
    apply Wk.bx 3 rfl rfl (lt_of_ble rfl)
    apply Wk.bx 50 rfl rfl (lt_of_ble rfl)
    apply Wk.alc 6 [.int .i64 0, .int .i64 0, .slice none 0 0, .int .i64 0, .slice none 0 0, .bool false, .int .i64 0, .bool false, .int .i64 0, .bool false] ze27 rfl rfl (lt_of_ble rfl)
    apply Wk.alc 7 [.int .i64 0, .int .i64 0, .int .i64 0, .bool false, .bool false, .int .i64 0, .int .i64 0, .int .i64 0, .slice none 0 0] ze42 rfl rfl (lt_of_ble rfl)
    apply Wk.asg (by conv => lhs; whnf) (lt_of_ble rfl)
    refine Wk.nil ?_
    refine AW.seq (AW.seq ?_)
    apply AW.list
    apply Wk.ld (i := 3) 5 true ty24 rfl rfl (by conv => lhs; whnf) (lt_of_ble rfl)
    apply Wk.ld (i := 50) 10 true ty27 rfl rfl (by conv => lhs; whnf) (lt_of_ble rfl)
    apply Wk.dat (itxb hok) Try.func17 rfl rfl rfl rfl rfl (lt_of_ble rfl)
    apply Wk.un rfl (fun w => by simp [go_sem] <;> rfl) (lt_of_ble rfl)
    apply Wk.mv (by conv => lhs; whnf) (lt_of_ble rfl)
    apply Wk.gon 16 rfl rfl
    apply Wk.mv (by conv => lhs; whnf) (lt_of_ble rfl)
    apply Wk.gon 16 rfl rfl
    apply Wk.dat (iisnum hack) Try.func66 rfl rfl rfl rfl rfl (lt_of_ble rfl)
    apply Wk.gon 16 rfl rfl
    apply Wk.un rfl (fun w => by simp [go_sem] <;> rfl) (lt_of_ble rfl)
    apply Wk.pckF rfl (by conv => lhs; whnf) (lt_of_ble rfl)
    refine Wk.nil ?_
    refine AW.cond rfl (fun _ => ?_) (fun hc => by cases hc)
    refine AW.seq ?_
    apply AW.list
    apply Wk.bld [.int .i64 0, .int .i64 0, .slice none 0 0, .int .i64 0, .slice none 0 0, .bool false, .int .i64 0, .bool false, .int .i64 0, .bool false] [(0, 1), (1, 1), (2, 1), (3, 1), (4, 1), (5, 1), (6, 1), (7, 1), (8, 1), (9, 1)] bl27 rfl (by conv => lhs; whnf) (lt_of_ble rfl)
    apply Wk.bld [.int .i64 0, .int .i64 0, .int .i64 0, .bool false, .bool false, .int .i64 0, .int .i64 0, .int .i64 0, .slice none 0 0] [(0, 1), (1, 1), (2, 1), (3, 1), (4, 1), (5, 1), (6, 1), (7, 1), (8, 1)] bl42 rfl (by conv => lhs; whnf) (lt_of_ble rfl)
    apply Wk.sto (i := 6) 10 true ty27 rfl rfl rfl rfl (Nat.le_of_ble_eq_true rfl) (lt_of_ble rfl)
    apply Wk.sto (i := 7) 9 true ty42 rfl rfl rfl rfl (Nat.le_of_ble_eq_true rfl) (lt_of_ble rfl)
    apply Wk.asg (by conv => lhs; whnf) (lt_of_ble rfl)
    refine Wk.nil (AW.ret ?_)
    repeat (first | refine thenA_ret ?_ | refine inBlockA_ret ?_)
    exact RetQ.ret [] (.cons ⟨6, 0, _, _, _, rfl, rfl, ty27, rfl⟩ (.cons ⟨7, 0, _, _, _, rfl, rfl, ty42, rfl⟩ (.cons rfl .nil))) ⟨rfl, rfl⟩ none_kept
set_option maxHeartbeats 4000000 in
set_option maxRecDepth 100000 in
theorem itsendN (m0 w0 p0 u0 y0 n a : Int) (s : Int) (qu : List Dat) (q : Bool) (t : Int) (hh : Bool) (c : Int) (dd : Bool) (s' : Int) (ack : Int) (k1 s1 c1 : Int) (p1 f1 : Bool) (y1 g1 l1 : Int) (z1 : D) (b : Bool) (hok : txOkB ⟨m0, w0, p0, u0, y0⟩ ⟨n, a, [], s, qu, q, t, hh, c, dd⟩ = true) (hack : inB ack 0 7 = true)
    (ht : Spec Try.prog 67 [.ptr 27 0, .d (.v (.int .i64 ack))] (sndB (sndC m0 w0 p0 u0 y0 a (ringF []) 0 (([] : List Dat).length : Int) s qu.length q t hh c dd) qu.length qu) (fun r bs => r = .tup [frmZ k1 s1 c1 p1 f1 y1 g1 l1 z1, .d (.v (.bool b))] ∧ bs = sndB (sndC m0 w0 p0 u0 y0 a (ringF []) 0 (([] : List Dat).length : Int) s' qu.length q t hh c dd) qu.length qu)) :
    DataOk Try.prog 24 [cfgA m0 w0 p0 u0 y0, txA ⟨n, a, [], s, qu, q, t, hh, c, dd⟩, .d (.v (.int .i64 ack))] (.tup [txA ⟨n, a, [], s', qu, q, t, hh, c, dd⟩, frmZ k1 s1 c1 p1 f1 y1 g1 l1 z1, .d (.v (.bool b))]) := by
  have h4 := txOk_four hok
  have hn := txOk_next hok
  simp only at h4 hn
  have cn := inew m0 w0 p0 u0 y0 ⟨n, a, [], s, qu, q, t, hh, c, dd⟩ h4.1 h4.2
  simp only at cn
  have cs := istateN m0 w0 p0 u0 y0 a (ringF []) s' qu.length q t hh c dd qu 0 (by omega) h4.1 (ring_at h4.1) ⟨hn.2.1, hn.2.2⟩
  rw [hn.1] at cs
  simp only [frmZ, frmZC] at ht ⊢
  refine Spec.intro (n := 36) (rv := [.cell 6 27, .cell 7 42, .tmp 8]) Try.func24 rfl rfl rfl (by simp) fun C hN hX => ?_
  refine AW.seq ?_
  apply AW.list
  apply Wk.bx 3 rfl rfl (lt_of_ble rfl)
  apply Wk.bx 50 rfl rfl (lt_of_ble rfl)
  apply Wk.alc 6 [.int .i64 0, .int .i64 0, .slice none 0 0, .int .i64 0, .slice none 0 0, .bool false, .int .i64 0, .bool false, .int .i64 0, .bool false] ze27 rfl rfl (lt_of_ble rfl)
  apply Wk.alc 7 [.int .i64 0, .int .i64 0, .int .i64 0, .bool false, .bool false, .int .i64 0, .int .i64 0, .int .i64 0, .slice none 0 0] ze42 rfl rfl (lt_of_ble rfl)
  apply Wk.asg (by conv => lhs; whnf) (lt_of_ble rfl)
  refine Wk.nil ?_
  refine AW.seq (AW.seq ?_)
  apply AW.list
  apply Wk.ld (i := 3) 5 true ty24 rfl rfl (by conv => lhs; whnf) (lt_of_ble rfl)
  apply Wk.ld (i := 50) 10 true ty27 rfl rfl (by conv => lhs; whnf) (lt_of_ble rfl)
  apply Wk.dat (itxb hok) Try.func17 rfl rfl rfl rfl rfl (lt_of_ble rfl)
  apply Wk.un rfl (fun w => by simp [go_sem] <;> rfl) (lt_of_ble rfl)
  apply Wk.mv (by conv => lhs; whnf) (lt_of_ble rfl)
  apply Wk.gon 16 rfl rfl
  apply Wk.mv (by conv => lhs; whnf) (lt_of_ble rfl)
  apply Wk.gon 16 rfl rfl
  apply Wk.dat (iisnum hack) Try.func66 rfl rfl rfl rfl rfl (lt_of_ble rfl)
  apply Wk.gon 16 rfl rfl
  apply Wk.un rfl (fun w => by simp [go_sem] <;> rfl) (lt_of_ble rfl)
  apply Wk.pckF rfl (by conv => lhs; whnf) (lt_of_ble rfl)
  refine Wk.nil ?_
  refine AW.cond rfl (fun hc => by cases hc) (fun _ => AW.skip (thenA_normal ?_))
  refine AW.seq ?_
  apply AW.list
  apply Wk.ld (i := 3) 5 true ty24 rfl rfl (by conv => lhs; whnf) (lt_of_ble rfl)
  apply Wk.ld (i := 50) 10 true ty27 rfl rfl (by conv => lhs; whnf) (lt_of_ble rfl)
  apply Wk.cal [] [27, 66] cn (in_snd _ rfl _ _ _ _ _ _ _ _ _ _ _ _ _ _ _ _ _ _) ⟨_, _, rfl, rfl⟩ Try.func51 rfl rfl rfl rfl (by simp; exact ⟨rfl, rfl⟩) rfl (fun i hi => by cases hi) (lt_of_ble rfl)
  rintro r bs' ⟨rfl, rfl⟩
  apply Wk.asg (by conv => lhs; whnf) (lt_of_ble rfl)
  refine Wk.nil ?_
  refine AW.seq ?_
  apply AW.list
  apply Wk.mv (by conv => lhs; whnf) (lt_of_ble rfl)
  apply Wk.mv (by conv => lhs; whnf) (lt_of_ble rfl)
  apply Wk.cal [27, 66] [] ht (in_snd _ (by rfl) _ _ _ _ _ _ _ _ _ _ _ _ _ _ _ _ _ _) ⟨_, _, rfl, rfl⟩ Try.func67 rfl rfl rfl rfl (fun i hi => by cases hi) rfl (two_in rfl (by exact within_parts _)) (lt_of_ble rfl)
  rintro r bs' ⟨rfl, rfl⟩
  apply Wk.mv (by conv => lhs; whnf) (lt_of_ble rfl)
  apply Wk.ext rfl rfl (lt_of_ble rfl)
  apply Wk.ext rfl rfl (lt_of_ble rfl)
  apply Wk.alc 10 [.int .i64 0, .int .i64 0, .int .i64 0, .bool false, .bool false, .int .i64 0, .int .i64 0, .int .i64 0, .slice none 0 0] ze42 rfl rfl (lt_of_ble rfl)
  apply Wk.sto (i := 10) 9 true ty42 rfl rfl rfl rfl (Nat.le_of_ble_eq_true rfl) (lt_of_ble rfl)
  apply Wk.asg (by conv => lhs; whnf) (lt_of_ble rfl)
  refine Wk.nil ?_
  refine AW.seq ?_
  apply AW.draw (hm := hmix) (cs := _)
  · apply Wk.mv (by conv => lhs; whnf) (lt_of_ble rfl)
    apply Wk.calr [27, 66] [17] cs (in_sndF _ rfl _ _ _ _ _ _ _ _ _ _ _ _ _ _ _ _ _ _ []) (by rintro r bs' ⟨rfl, rfl⟩; exact keep2) ⟨_, _, rfl, rfl⟩ Try.func53 rfl rfl rfl rfl (by simp; rfl) rfl (two_in rfl (by exact within_parts _)) (lt_of_ble rfl)
    rintro r bs' ⟨rfl, rfl⟩
    apply Wk.ld (i := 10) 9 true ty42 rfl rfl (by conv => lhs; whnf) (lt_of_ble rfl)
    apply Wk.mv (by conv => lhs; whnf) (lt_of_ble rfl)
    apply Wk.sto (i := 6) 10 true ty27 rfl rfl rfl rfl (Nat.le_of_ble_eq_true rfl) (lt_of_ble rfl)
    apply Wk.sto (i := 7) 9 true ty42 rfl rfl rfl rfl (Nat.le_of_ble_eq_true rfl) (lt_of_ble rfl)
    apply Wk.asg (by conv => lhs; whnf) (lt_of_ble rfl)
    refine Wk.nil ?_
    refine AW.thawc (j := 6) (c := 4) (i := 66) _ rfl rfl rfl (asData_parts qu) hX.none ?_
    refine AW.nrmb (j := 6) rfl ?_
    refine AW.ret ?_
    exact RetQ.ret [] (.cons ⟨6, 0, _, _, _, rfl, rfl, ty27, rfl⟩ (.cons ⟨7, 0, _, _, _, rfl, rfl, ty42, rfl⟩ (.cons rfl .nil))) ⟨rfl, rfl⟩ none_kept
  · rfl
  · rfl
set_option maxHeartbeats 4000000 in
set_option maxRecDepth 100000 in
theorem itsendO (m0 w0 p0 u0 y0 n a : Int) (fl : List Dat) (hne : fl ≠ []) (s : Int) (qu : List Dat) (q : Bool) (t : Int) (hh : Bool) (c : Int) (dd : Bool) (s' : Int) (ack : Int) (k1 s1 c1 : Int) (p1 f1 : Bool) (y1 g1 l1 : Int) (z1 : D) (b : Bool) (hok : txOkB ⟨m0, w0, p0, u0, y0⟩ ⟨n, a, fl, s, qu, q, t, hh, c, dd⟩ = true) (hack : inB ack 0 7 = true)
    (ht : Spec Try.prog 67 [.ptr 27 0, .d (.v (.int .i64 ack))] (sndB (sndC m0 w0 p0 u0 y0 a (ringF fl) 0 ((fl : List Dat).length : Int) s qu.length q t hh c dd) qu.length qu) (fun r bs => r = .tup [frmZ k1 s1 c1 p1 f1 y1 g1 l1 z1, .d (.v (.bool b))] ∧ bs = sndB (sndC m0 w0 p0 u0 y0 a (ringF fl) 0 ((fl : List Dat).length : Int) s' qu.length q t hh c dd) qu.length qu)) :
    DataOk Try.prog 24 [cfgA m0 w0 p0 u0 y0, txA ⟨n, a, fl, s, qu, q, t, hh, c, dd⟩, .d (.v (.int .i64 ack))] (.tup [txA ⟨n, a, fl, s', qu, q, t, hh, c, dd⟩, frmZ k1 s1 c1 p1 f1 y1 g1 l1 z1, .d (.v (.bool b))]) := by
  have h4 := txOk_four hok
  have hn := txOk_next hok
  simp only at h4 hn
  have cn := inew m0 w0 p0 u0 y0 ⟨n, a, fl, s, qu, q, t, hh, c, dd⟩ h4.1 h4.2
  simp only at cn
  have cs := istateO m0 w0 p0 u0 y0 a (ringF fl) s' qu.length q t hh c dd qu 0 fl hne (by omega) h4.1 (ring_at h4.1) ⟨hn.2.1, hn.2.2⟩
  rw [hn.1] at cs
  simp only [frmZ, frmZC] at ht ⊢
  have ev : flV fl = .own 17 (fl.length - 1) := if_neg hne
  have ex : flX fl = [(17, .own (fl.length - 1) 47 3 (piecesA fl))] := if_neg hne
  have ip : PostIn [27, 66, 17] (fun r bs => r = stA0 n a (flV fl) s' qu.length q t hh c dd ∧ bs = sndB (sndC m0 w0 p0 u0 y0 a (ringF fl) 0 ((fl : List Dat).length : Int) s' qu.length q t hh c dd) qu.length qu ++ flX fl) := in_sndF _ (by rw [ev]; rfl) _ _ _ _ _ _ _ _ _ _ _ _ _ _ _ _ _ _ _
  rw [ev, ex] at cs ip
  refine Spec.intro (n := 36) (rv := [.cell 6 27, .cell 7 42, .tmp 8]) Try.func24 rfl rfl rfl (by simp) fun C hN hX => ?_
  refine AW.seq ?_
  apply AW.list
  apply Wk.bx 3 rfl rfl (lt_of_ble rfl)
  apply Wk.bx 50 rfl rfl (lt_of_ble rfl)
  apply Wk.alc 6 [.int .i64 0, .int .i64 0, .slice none 0 0, .int .i64 0, .slice none 0 0, .bool false, .int .i64 0, .bool false, .int .i64 0, .bool false] ze27 rfl rfl (lt_of_ble rfl)
  apply Wk.alc 7 [.int .i64 0, .int .i64 0, .int .i64 0, .bool false, .bool false, .int .i64 0, .int .i64 0, .int .i64 0, .slice none 0 0] ze42 rfl rfl (lt_of_ble rfl)
  apply Wk.asg (by conv => lhs; whnf) (lt_of_ble rfl)
  refine Wk.nil ?_
  refine AW.seq (AW.seq ?_)
  apply AW.list
  apply Wk.ld (i := 3) 5 true ty24 rfl rfl (by conv => lhs; whnf) (lt_of_ble rfl)
  apply Wk.ld (i := 50) 10 true ty27 rfl rfl (by conv => lhs; whnf) (lt_of_ble rfl)
  apply Wk.dat (itxb hok) Try.func17 rfl rfl rfl rfl rfl (lt_of_ble rfl)
  apply Wk.un rfl (fun w => by simp [go_sem] <;> rfl) (lt_of_ble rfl)
  apply Wk.mv (by conv => lhs; whnf) (lt_of_ble rfl)
  apply Wk.gon 16 rfl rfl
  apply Wk.mv (by conv => lhs; whnf) (lt_of_ble rfl)
  apply Wk.gon 16 rfl rfl
  apply Wk.dat (iisnum hack) Try.func66 rfl rfl rfl rfl rfl (lt_of_ble rfl)
  apply Wk.gon 16 rfl rfl
  apply Wk.un rfl (fun w => by simp [go_sem] <;> rfl) (lt_of_ble rfl)
  apply Wk.pckF rfl (by conv => lhs; whnf) (lt_of_ble rfl)
  refine Wk.nil ?_
  refine AW.cond rfl (fun hc => by cases hc) (fun _ => AW.skip (thenA_normal ?_))
  refine AW.seq ?_
  apply AW.list
  apply Wk.ld (i := 3) 5 true ty24 rfl rfl (by conv => lhs; whnf) (lt_of_ble rfl)
  apply Wk.ld (i := 50) 10 true ty27 rfl rfl (by conv => lhs; whnf) (lt_of_ble rfl)
  apply Wk.cal [] [27, 66] cn (in_snd _ rfl _ _ _ _ _ _ _ _ _ _ _ _ _ _ _ _ _ _) ⟨_, _, rfl, rfl⟩ Try.func51 rfl rfl rfl rfl (by simp; exact ⟨rfl, rfl⟩) rfl (fun i hi => by cases hi) (lt_of_ble rfl)
  rintro r bs' ⟨rfl, rfl⟩
  apply Wk.asg (by conv => lhs; whnf) (lt_of_ble rfl)
  refine Wk.nil ?_
  refine AW.seq ?_
  apply AW.list
  apply Wk.mv (by conv => lhs; whnf) (lt_of_ble rfl)
  apply Wk.mv (by conv => lhs; whnf) (lt_of_ble rfl)
  apply Wk.cal [27, 66] [] ht (in_snd _ (by rfl) _ _ _ _ _ _ _ _ _ _ _ _ _ _ _ _ _ _) ⟨_, _, rfl, rfl⟩ Try.func67 rfl rfl rfl rfl (fun i hi => by cases hi) rfl (two_in rfl (by exact within_parts _)) (lt_of_ble rfl)
  rintro r bs' ⟨rfl, rfl⟩
  apply Wk.mv (by conv => lhs; whnf) (lt_of_ble rfl)
  apply Wk.ext rfl rfl (lt_of_ble rfl)
  apply Wk.ext rfl rfl (lt_of_ble rfl)
  apply Wk.alc 10 [.int .i64 0, .int .i64 0, .int .i64 0, .bool false, .bool false, .int .i64 0, .int .i64 0, .int .i64 0, .slice none 0 0] ze42 rfl rfl (lt_of_ble rfl)
  apply Wk.sto (i := 10) 9 true ty42 rfl rfl rfl rfl (Nat.le_of_ble_eq_true rfl) (lt_of_ble rfl)
  apply Wk.asg (by conv => lhs; whnf) (lt_of_ble rfl)
  refine Wk.nil ?_
  refine AW.seq ?_
  apply AW.draw (hm := hmix) (cs := _)
  · apply Wk.mv (by conv => lhs; whnf) (lt_of_ble rfl)
    apply Wk.calr [27, 66] [17] cs ip (by rintro r bs' ⟨rfl, rfl⟩; exact keep2) ⟨_, _, rfl, rfl⟩ Try.func53 rfl rfl rfl rfl (by simp; rfl) rfl (two_in rfl (by exact within_parts _)) (lt_of_ble rfl)
    rintro r bs' ⟨rfl, rfl⟩
    apply Wk.ld (i := 10) 9 true ty42 rfl rfl (by conv => lhs; whnf) (lt_of_ble rfl)
    apply Wk.mv (by conv => lhs; whnf) (lt_of_ble rfl)
    apply Wk.sto (i := 6) 10 true ty27 rfl rfl rfl rfl (Nat.le_of_ble_eq_true rfl) (lt_of_ble rfl)
    apply Wk.sto (i := 7) 9 true ty42 rfl rfl rfl rfl (Nat.le_of_ble_eq_true rfl) (lt_of_ble rfl)
    apply Wk.asg (by conv => lhs; whnf) (lt_of_ble rfl)
    refine Wk.nil ?_
    refine AW.thawc (j := 6) (c := 4) (i := 66) _ rfl rfl rfl (asData_parts qu) hX.none ?_
    refine AW.thawc (j := 6) (c := 2) (i := 17) _ rfl rfl rfl (asData_parts (fl)) hX.none ?_
    refine AW.ret ?_
    exact RetQ.ret [] (.cons ⟨6, 0, _, _, _, rfl, rfl, ty27, rfl⟩ (.cons ⟨7, 0, _, _, _, rfl, rfl, ty42, rfl⟩ (.cons rfl .nil))) ⟨rfl, rfl⟩ none_kept
  · rfl
  · rfl
theorem ring_more {fl : List Dat} (e : Dat) (h4 : fl.length < 4) : ∀ i d, (fl ++ [e])[i]? = some d → upd (ringF fl) fl.length (sl (some e)) ((0 + i) % 4) = sl (some d) := by
  intro i d h
  have hi := (List.getElem?_eq_some_iff.1 h).1
  rw [List.length_append, List.length_singleton] at hi
  rw [show (0 + i) % 4 = i by omega]
  unfold upd
  by_cases hl : i = fl.length
  · rw [if_pos hl]
    subst hl
    rw [List.getElem?_append_right (by omega)] at h
    simp at h
    rw [h]
  · rw [if_neg hl, ringF]
    rw [List.getElem?_append_left (by omega)] at h
    rw [h]
set_option maxHeartbeats 4000000 in
set_option maxRecDepth 100000 in
theorem itsendNew (m0 w0 p0 u0 y0 n a : Int) (fl : List Dat) (e : Dat) (qs : List Dat) (t : Int) (c : Int) (ack : Int) (hok : txOkB ⟨m0, w0, p0, u0, y0⟩ ⟨n, a, fl, (fl.length : Int), e :: qs, false, t, false, c, false⟩ = true) (hack : inB ack 0 7 = true) (hw : ¬ (fl.length : Int) = w0) (h9 : ¬ c + (fl.length : Int) = 9999) :
    DataOk Try.prog 24 [cfgA m0 w0 p0 u0 y0, txA ⟨n, a, fl, (fl.length : Int), e :: qs, false, t, false, c, false⟩, .d (.v (.int .i64 ack))] (.tup [txA ⟨(n + 1) % 8, a, fl ++ [e], (fl.length : Int) + 1, qs, false, t, false, c, false⟩, frmZ 1 ((a + (fl.length : Int)) % 8) ack false false 0 e.1 e.2.1 (bytesD e.2.2), .d (.v (.bool true))]) := by
  have f := txOk_facts hok
  have h4 := txOk_four hok
  have hn := txOk_next hok
  have hw4 := f.2.1
  have hlw := f.2.2.2.2.2.2.2.1
  have hc0 := f.2.2.2.2.2.2.2.2.2.2.2.2.1
  simp only at h4 hn hw4 hlw hc0
  have hq1 := h4.2.2.1
  have hq2 := h4.2.2.2 e (by simp)
  simp only [List.length_cons] at hq1
  have hk4 : fl.length < 4 := by omega
  have cn := inew m0 w0 p0 u0 y0 ⟨n, a, fl, (fl.length : Int), e :: qs, false, t, false, c, false⟩ h4.1 h4.2
  simp only at cn
  have ht := isendNew m0 w0 p0 u0 y0 a (ringF fl) fl.length t c ack e qs hq2 hw hk4 (by omega) h9 (by omega) ⟨hn.2.1, hn.2.2⟩
  have hne : fl ++ [e] ≠ [] := by simp
  have el : ((fl ++ [e]).length : Int) = (fl.length : Int) + 1 := by simp
  have cs := istateO m0 w0 p0 u0 y0 a (upd (ringF fl) fl.length (sl (some e))) ((fl.length : Int) + 1) 0 false t false c false qs 0 (fl ++ [e]) hne (by omega) (by simp; omega) (ring_more e hk4) ⟨hn.2.1, hn.2.2⟩
  have ev : flV (fl ++ [e]) = .own 17 ((fl ++ [e]).length - 1) := if_neg hne
  have ex : flX (fl ++ [e]) = [(17, .own ((fl ++ [e]).length - 1) 47 3 (piecesA (fl ++ [e])))] := if_neg hne
  have hnx : (a + ((fl.length : Int) + 1)) % 8 = (n + 1) % 8 := by omega
  rw [el, hnx] at cs
  have ip : PostIn [27, 66, 17] (fun r bs => r = stA0 ((n + 1) % 8) a (flV (fl ++ [e])) ((fl.length : Int) + 1) 0 false t false c false ∧ bs = sndB (sndC m0 w0 p0 u0 y0 a (upd (ringF fl) fl.length (sl (some e))) ((0 : Nat) : Int) ((fl.length : Int) + 1) ((fl.length : Int) + 1) 0 false t false c false) 0 qs ++ flX (fl ++ [e])) := in_sndF _ (by rw [ev]; rfl) _ _ _ _ _ _ _ _ _ _ _ _ _ _ _ _ _ _ _
  rw [ev, ex] at cs ip
  simp only [frmZ, frmZC]
  simp only [frmD] at ht
  refine Spec.intro (n := 36) (rv := [.cell 6 27, .cell 7 42, .tmp 8]) Try.func24 rfl rfl rfl (by simp) fun C hN hX => ?_
  refine AW.seq ?_
  apply AW.list
  apply Wk.bx 3 rfl rfl (lt_of_ble rfl)
  apply Wk.bx 50 rfl rfl (lt_of_ble rfl)
  apply Wk.alc 6 [.int .i64 0, .int .i64 0, .slice none 0 0, .int .i64 0, .slice none 0 0, .bool false, .int .i64 0, .bool false, .int .i64 0, .bool false] ze27 rfl rfl (lt_of_ble rfl)
  apply Wk.alc 7 [.int .i64 0, .int .i64 0, .int .i64 0, .bool false, .bool false, .int .i64 0, .int .i64 0, .int .i64 0, .slice none 0 0] ze42 rfl rfl (lt_of_ble rfl)
  apply Wk.asg (by conv => lhs; whnf) (lt_of_ble rfl)
  refine Wk.nil ?_
  refine AW.seq (AW.seq ?_)
  apply AW.list
  apply Wk.ld (i := 3) 5 true ty24 rfl rfl (by conv => lhs; whnf) (lt_of_ble rfl)
  apply Wk.ld (i := 50) 10 true ty27 rfl rfl (by conv => lhs; whnf) (lt_of_ble rfl)
  apply Wk.dat (itxb hok) Try.func17 rfl rfl rfl rfl rfl (lt_of_ble rfl)
  apply Wk.un rfl (fun w => by simp [go_sem] <;> rfl) (lt_of_ble rfl)
  apply Wk.mv (by conv => lhs; whnf) (lt_of_ble rfl)
  apply Wk.gon 16 rfl rfl
  apply Wk.mv (by conv => lhs; whnf) (lt_of_ble rfl)
  apply Wk.gon 16 rfl rfl
  apply Wk.dat (iisnum hack) Try.func66 rfl rfl rfl rfl rfl (lt_of_ble rfl)
  apply Wk.gon 16 rfl rfl
  apply Wk.un rfl (fun w => by simp [go_sem] <;> rfl) (lt_of_ble rfl)
  apply Wk.pckF rfl (by conv => lhs; whnf) (lt_of_ble rfl)
  refine Wk.nil ?_
  refine AW.cond rfl (fun hc => by cases hc) (fun _ => AW.skip (thenA_normal ?_))
  refine AW.seq ?_
  apply AW.list
  apply Wk.ld (i := 3) 5 true ty24 rfl rfl (by conv => lhs; whnf) (lt_of_ble rfl)
  apply Wk.ld (i := 50) 10 true ty27 rfl rfl (by conv => lhs; whnf) (lt_of_ble rfl)
  apply Wk.cal [] [27, 66] cn (in_snd _ rfl _ _ _ _ _ _ _ _ _ _ _ _ _ _ _ _ _ _) ⟨_, _, rfl, rfl⟩ Try.func51 rfl rfl rfl rfl (by simp; exact ⟨rfl, rfl⟩) rfl (fun i hi => by cases hi) (lt_of_ble rfl)
  rintro r bs' ⟨rfl, rfl⟩
  apply Wk.asg (by conv => lhs; whnf) (lt_of_ble rfl)
  refine Wk.nil ?_
  refine AW.thawc (j := 27) (c := 21) (i := 66) _ rfl rfl rfl (asData_parts (e :: qs)) hX.none ?_
  refine AW.keep (n := 36) (ts := [(2, .d (.v (.int .i64 ack))), (6, .ptr 6 0), (7, .ptr 7 0), (8, .d (.v (.bool false))), (9, .ptr 27 0)]) (bs := [(6, .var txN), (7, .var frmNC), (27, .var (sndD m0 w0 p0 u0 y0 a (ringF fl) 0 (fl.length : Int) (fl.length : Int) (partsD (e :: qs)) false t false c false))]) ⟨rfl, .cons rfl rfl (.cons rfl rfl (.cons rfl rfl (.cons rfl rfl (.cons rfl rfl .nil)))), .cons rfl rfl (.cons rfl rfl (.cons rfl rfl .nil)), hN.mono (by simp [keys])⟩ ?_
  refine AW.seq ?_
  apply AW.list
  apply Wk.mv (by conv => lhs; whnf) (lt_of_ble rfl)
  apply Wk.mv (by conv => lhs; whnf) (lt_of_ble rfl)
  apply Wk.cal [27] [66] ht (in_snd _ (by rfl) _ _ _ _ _ _ _ _ _ _ _ _ _ _ _ _ _ _) ⟨_, _, rfl, rfl⟩ Try.func67 rfl rfl rfl rfl (by simp; rfl) rfl (one_in rfl) (lt_of_ble rfl)
  rintro r bs' ⟨rfl, rfl⟩
  apply Wk.mv (by conv => lhs; whnf) (lt_of_ble rfl)
  apply Wk.ext rfl rfl (lt_of_ble rfl)
  apply Wk.ext rfl rfl (lt_of_ble rfl)
  apply Wk.alc 10 [.int .i64 0, .int .i64 0, .int .i64 0, .bool false, .bool false, .int .i64 0, .int .i64 0, .int .i64 0, .slice none 0 0] ze42 rfl rfl (lt_of_ble rfl)
  apply Wk.sto (i := 10) 9 true ty42 rfl rfl rfl rfl (Nat.le_of_ble_eq_true rfl) (lt_of_ble rfl)
  apply Wk.asg (by conv => lhs; whnf) (lt_of_ble rfl)
  refine Wk.nil ?_
  refine AW.seq ?_
  apply AW.draw (hm := hmix) (cs := _)
  · apply Wk.mv (by conv => lhs; whnf) (lt_of_ble rfl)
    apply Wk.calr [27, 66] [17] cs ip (by rintro r bs' ⟨rfl, rfl⟩; exact keep2) ⟨_, _, rfl, rfl⟩ Try.func53 rfl rfl rfl rfl (by simp; rfl) rfl (two_in rfl (by exact within_parts _)) (lt_of_ble rfl)
    rintro r bs' ⟨rfl, rfl⟩
    apply Wk.ld (i := 10) 9 true ty42 rfl rfl (by conv => lhs; whnf) (lt_of_ble rfl)
    apply Wk.mv (by conv => lhs; whnf) (lt_of_ble rfl)
    apply Wk.sto (i := 6) 10 true ty27 rfl rfl rfl rfl (Nat.le_of_ble_eq_true rfl) (lt_of_ble rfl)
    apply Wk.sto (i := 7) 9 true ty42 rfl rfl rfl rfl (Nat.le_of_ble_eq_true rfl) (lt_of_ble rfl)
    apply Wk.asg (by conv => lhs; whnf) (lt_of_ble rfl)
    refine Wk.nil ?_
    refine AW.thawc (j := 6) (c := 4) (i := 66) _ rfl rfl rfl (asData_parts qs) hX.none ?_
    refine AW.thawc (j := 6) (c := 2) (i := 17) _ rfl rfl rfl (asData_parts (fl ++ [e])) hX.none ?_
    refine AW.ret ?_
    exact RetQ.ret [] (.cons ⟨6, 0, _, _, _, rfl, rfl, ty27, rfl⟩ (.cons ⟨7, 0, _, _, _, rfl, rfl, ty42, rfl⟩ (.cons rfl .nil))) ⟨rfl, rfl⟩ none_kept
  · rfl
  · rfl
end Go.Proofs.Ytdojkmjamilllaa

/- Pieces that are the same, by the laws' own words. -/
namespace Go.Proofs.Ytdojkmjamilllaa
open Go Go.RowKit
theorem liBytesE (zs : List Nat) : DataOk Try.prog 39 [.d (bytesD zs), .d (bytesD zs)] (.d (.v (.bool true))) := by
  have h := liBytes_ok zs zs
  simpa using h
theorem liPartE (d : Dat) : DataOk Try.prog 29 [partN d, partN d] (.d (.v (.bool true))) := by
  obtain ⟨g, l, ys⟩ := d
  refine Spec.intro (n := 24) (rv := [.tmp 4]) Try.func29 rfl rfl rfl (by simp) fun C hN hX => ?_
  refine AW.seq ?_
  apply AW.list
  apply Wk.bx 2 rfl rfl (lt_of_ble rfl)
  apply Wk.bx 3 rfl rfl (lt_of_ble rfl)
  apply Wk.asg (by conv => lhs; whnf) (lt_of_ble rfl)
  refine Wk.nil ?_
  refine AW.seq ?_
  apply AW.list
  apply Wk.fad 0 0 false fd47_0 rfl (lt_of_ble rfl)
  apply Wk.ld (i := 2) 1 false ty3 rfl rfl (by conv => lhs; whnf) (lt_of_ble rfl)
  apply Wk.fad 0 0 false fd47_0 rfl (lt_of_ble rfl)
  apply Wk.ld (i := 3) 1 false ty3 rfl rfl (by conv => lhs; whnf) (lt_of_ble rfl)
  apply Wk.bin rfl rfl (r := .bool true) (fun w => by simp [go_sem]) (lt_of_ble rfl)
  apply Wk.mv (by conv => lhs; whnf) (lt_of_ble rfl)
  apply Wk.gon 10 rfl rfl
  apply Wk.fad 1 0 false fd47_1 rfl (lt_of_ble rfl)
  apply Wk.gon 10 rfl rfl
  apply Wk.ld (i := 2) 1 false ty3 rfl rfl (by conv => lhs; whnf) (lt_of_ble rfl)
  apply Wk.gon 10 rfl rfl
  apply Wk.fad 1 0 false fd47_1 rfl (lt_of_ble rfl)
  apply Wk.gon 10 rfl rfl
  apply Wk.ld (i := 3) 1 false ty3 rfl rfl (by conv => lhs; whnf) (lt_of_ble rfl)
  apply Wk.gon 10 rfl rfl
  apply Wk.bin rfl rfl (r := .bool true) (fun w => by simp [go_sem]) (lt_of_ble rfl)
  apply Wk.pckT rfl (by conv => lhs; whnf) (lt_of_ble rfl)
  apply Wk.mv (by conv => lhs; whnf) (lt_of_ble rfl)
  apply Wk.gon 17 rfl rfl
  apply Wk.fad 2 0 false fd47_2 rfl (lt_of_ble rfl)
  apply Wk.gon 17 rfl rfl
  apply Wk.ld (i := 2) 1 false ty22 rfl rfl (by conv => lhs; whnf) (lt_of_ble rfl)
  apply Wk.gon 17 rfl rfl
  apply Wk.fad 2 0 false fd47_2 rfl (lt_of_ble rfl)
  apply Wk.gon 17 rfl rfl
  apply Wk.ld (i := 3) 1 false ty22 rfl rfl (by conv => lhs; whnf) (lt_of_ble rfl)
  apply Wk.gon 17 rfl rfl
  apply Wk.dat (liBytesE ys) Try.func39 rfl rfl rfl rfl rfl (lt_of_ble rfl)
  apply Wk.pckT rfl (by conv => lhs; whnf) (lt_of_ble rfl)
  apply Wk.asg (by conv => lhs; whnf) (lt_of_ble rfl)
  refine Wk.nil (AW.ret ?_)
  exact RetQ.ret [] (.cons rfl .nil) ⟨rfl, rfl⟩ none_kept
theorem liPartsE (ds : List Dat) : DataOk Try.prog 21 [.d (partsD ds), .d (partsD ds)] (.d (.v (.bool true))) := by
  refine Spec.intro (n := 27) (rv := [.tmp 4]) Try.func21 rfl rfl rfl (by simp) fun C hN hX => ?_
  refine AW.bound (x := .tmp 0) rfl fun hb => ?_
  simp only [List.length_map] at hb
  refine AW.seq ?_
  apply AW.list
  apply Wk.asg (by conv => lhs; whnf) (lt_of_ble rfl)
  refine Wk.nil ?_
  refine AW.seq (AW.seq ?_)
  apply AW.list
  apply Wk.mv (by conv => lhs; whnf) (lt_of_ble rfl)
  apply Wk.len un25 rfl (lt_of_ble rfl)
  apply Wk.mv (by conv => lhs; whnf) (lt_of_ble rfl)
  apply Wk.len un25 rfl (lt_of_ble rfl)
  apply Wk.bin rfl rfl (fun w => by simp [go_sem] <;> rfl) (lt_of_ble rfl)
  refine Wk.nil ?_
  refine AW.cond rfl (fun hc => by simp at hc) (fun _ => AW.skip (thenA_normal ?_))
  refine AW.seq (AW.seq ?_)
  apply AW.list
  apply Wk.asg (by conv => lhs; whnf) (lt_of_ble rfl)
  refine Wk.nil (AW.block ?_)
  refine AW.loop (fun q : Nat => St.of 27 [(0, .d (partsD ds)), (1, .d (partsD ds)), (5, .d (.v (.int .i64 (q : Int))))] []) (fun q => q ≤ ds.length) (fun q => ds.length - q) 0 (Nat.zero_le _) ?_ (fun q hq => ?_)
  · exact fun a w => Rel.keep ⟨rfl, .cons rfl rfl (.cons rfl rfl (.cons rfl rfl .nil)), .nil, hN⟩
  refine AW.seq (AW.seq ?_)
  apply AW.list
  apply Wk.mv (by conv => lhs; whnf) (lt_of_ble rfl)
  apply Wk.mv (by conv => lhs; whnf) (lt_of_ble rfl)
  apply Wk.len un25 rfl (lt_of_ble rfl)
  apply Wk.bin rfl rfl (fun w => by simp [go_sem] <;> rfl) (lt_of_ble rfl)
  refine Wk.nil ?_
  refine AW.cond rfl (fun hc => ?_) (fun hc => ?_)
  · have hlt : q < ds.length := by simpa using hc
    obtain ⟨d, hd⟩ : ∃ d, ds[q]? = some d := ⟨_, List.getElem?_eq_getElem hlt⟩
    have hget : (ds.map datD)[q]? = some (datD d) := by simp [hd]
    refine AW.skip ?_
    repeat (first | refine thenA_normal ?_ | refine inBlockA_normal ?_)
    refine AW.seq (AW.block (AW.seq ?_))
    apply AW.draw (hm := hmix) (cs := _)
    · apply Wk.mv (by conv => lhs; whnf) (lt_of_ble rfl)
      apply Wk.mv (by conv => lhs; whnf) (lt_of_ble rfl)
      apply Wk.iad 3 true un25 ty47 rfl rfl (by simpa using hlt) (datD_len ds) (lt_of_ble rfl)
      apply Wk.ldr 3 true ty47 rfl hget (by conv => lhs; whnf) (lt_of_ble rfl)
      apply Wk.mv (by conv => lhs; whnf) (lt_of_ble rfl)
      apply Wk.mv (by conv => lhs; whnf) (lt_of_ble rfl)
      apply Wk.iad 3 true un25 ty47 rfl rfl (by simpa using hlt) (datD_len ds) (lt_of_ble rfl)
      apply Wk.ldr 3 true ty47 rfl hget (by conv => lhs; whnf) (lt_of_ble rfl)
      apply Wk.dat (liPartE d) Try.func29 rfl rfl rfl rfl rfl (lt_of_ble rfl)
      apply Wk.un rfl (fun w => by simp [go_sem] <;> rfl) (lt_of_ble rfl)
      refine Wk.nil ?_
      refine AW.cond rfl (fun hn => by cases hn) (fun hn => ?_)
      refine AW.skip ?_
      repeat (first | refine thenA_normal ?_ | refine inBlockA_normal ?_)
      apply AW.list
      apply Wk.mv (by conv => lhs; whnf) (lt_of_ble rfl)
      apply Wk.addi rfl rfl (by omega) (lt_of_ble rfl)
      apply Wk.asg (by conv => lhs; whnf) (lt_of_ble rfl)
      refine Wk.nil ?_
      exact ⟨q + 1, by omega, by omega, fun a w => Rel.keep ⟨rfl, .cons rfl rfl (.cons rfl rfl (.cons rfl rfl .nil)), .nil, hN⟩⟩
    · rfl
    · rfl
  · refine AW.exit ?_
    repeat (first | refine inBlockA_same ?_ | refine thenA_exit ?_)
    repeat (first | refine thenA_normal ?_ | refine inBlockA_normal ?_)
    refine AW.seq ?_
    apply AW.list
    apply Wk.asg (by conv => lhs; whnf) (lt_of_ble rfl)
    refine Wk.nil (AW.ret ?_)
    repeat (first | refine thenA_ret ?_ | refine inBlockA_ret ?_)
    exact RetQ.ret [] (.cons rfl .nil) ⟨rfl, rfl⟩ none_kept
end Go.Proofs.Ytdojkmjamilllaa

/- Two of who sends that are the same, by the laws' own words. Written by tools/mk_AbsTickI.py. -/
namespace Go.Proofs.Ytdojkmjamilllaa
open Go Go.RowKit
set_option maxHeartbeats 2000000 in
set_option maxRecDepth 100000 in
theorem liTxE (x : TX) : DataOk Try.prog 16 [txA x, txA x] (.d (.v (.bool true))) := by
  obtain ⟨n, a, fl, s, qu, q, t, h, c, d⟩ := x
  refine Spec.intro (n := 73) (rv := [.tmp 4]) Try.func16 rfl rfl rfl (by simp) fun C hN hX => ?_
  refine AW.seq ?_
  apply AW.list
  apply Wk.bx 2 rfl rfl (lt_of_ble rfl)
  apply Wk.bx 3 rfl rfl (lt_of_ble rfl)
  apply Wk.asg (by conv => lhs; whnf) (lt_of_ble rfl)
  refine Wk.nil ?_
  refine AW.seq ?_
  apply AW.list
  apply Wk.fad 0 0 false fd27_0 rfl (lt_of_ble rfl)
  apply Wk.ld (i := 2) 1 false ty3 rfl rfl (by conv => lhs; whnf) (lt_of_ble rfl)
  apply Wk.fad 0 0 false fd27_0 rfl (lt_of_ble rfl)
  apply Wk.ld (i := 3) 1 false ty3 rfl rfl (by conv => lhs; whnf) (lt_of_ble rfl)
  apply Wk.bin rfl rfl (r := .bool true) (fun w => by simp [go_sem]) (lt_of_ble rfl)
  apply Wk.mv (by conv => lhs; whnf) (lt_of_ble rfl)
  apply Wk.gon 10 rfl rfl
  apply Wk.fad 1 0 false fd27_1 rfl (lt_of_ble rfl)
  apply Wk.gon 10 rfl rfl
  apply Wk.ld (i := 2) 1 false ty3 rfl rfl (by conv => lhs; whnf) (lt_of_ble rfl)
  apply Wk.gon 10 rfl rfl
  apply Wk.fad 1 0 false fd27_1 rfl (lt_of_ble rfl)
  apply Wk.gon 10 rfl rfl
  apply Wk.ld (i := 3) 1 false ty3 rfl rfl (by conv => lhs; whnf) (lt_of_ble rfl)
  apply Wk.gon 10 rfl rfl
  apply Wk.bin rfl rfl (r := .bool true) (fun w => by simp [go_sem]) (lt_of_ble rfl)
  apply Wk.pckT rfl (by conv => lhs; whnf) (lt_of_ble rfl)
  apply Wk.mv (by conv => lhs; whnf) (lt_of_ble rfl)
  apply Wk.gon 17 rfl rfl
  apply Wk.fad 2 0 false fd27_2 rfl (lt_of_ble rfl)
  apply Wk.gon 17 rfl rfl
  apply Wk.ld (i := 2) 1 false ty25 rfl rfl (by conv => lhs; whnf) (lt_of_ble rfl)
  apply Wk.gon 17 rfl rfl
  apply Wk.fad 2 0 false fd27_2 rfl (lt_of_ble rfl)
  apply Wk.gon 17 rfl rfl
  apply Wk.ld (i := 3) 1 false ty25 rfl rfl (by conv => lhs; whnf) (lt_of_ble rfl)
  apply Wk.gon 17 rfl rfl
  apply Wk.dat (liPartsE fl) Try.func21 rfl rfl rfl rfl rfl (lt_of_ble rfl)
  apply Wk.pckT rfl (by conv => lhs; whnf) (lt_of_ble rfl)
  apply Wk.mv (by conv => lhs; whnf) (lt_of_ble rfl)
  apply Wk.gon 24 rfl rfl
  apply Wk.fad 3 0 false fd27_3 rfl (lt_of_ble rfl)
  apply Wk.gon 24 rfl rfl
  apply Wk.ld (i := 2) 1 false ty3 rfl rfl (by conv => lhs; whnf) (lt_of_ble rfl)
  apply Wk.gon 24 rfl rfl
  apply Wk.fad 3 0 false fd27_3 rfl (lt_of_ble rfl)
  apply Wk.gon 24 rfl rfl
  apply Wk.ld (i := 3) 1 false ty3 rfl rfl (by conv => lhs; whnf) (lt_of_ble rfl)
  apply Wk.gon 24 rfl rfl
  apply Wk.bin rfl rfl (r := .bool true) (fun w => by simp [go_sem]) (lt_of_ble rfl)
  apply Wk.pckT rfl (by conv => lhs; whnf) (lt_of_ble rfl)
  apply Wk.mv (by conv => lhs; whnf) (lt_of_ble rfl)
  apply Wk.gon 31 rfl rfl
  apply Wk.fad 4 0 false fd27_4 rfl (lt_of_ble rfl)
  apply Wk.gon 31 rfl rfl
  apply Wk.ld (i := 2) 1 false ty25 rfl rfl (by conv => lhs; whnf) (lt_of_ble rfl)
  apply Wk.gon 31 rfl rfl
  apply Wk.fad 4 0 false fd27_4 rfl (lt_of_ble rfl)
  apply Wk.gon 31 rfl rfl
  apply Wk.ld (i := 3) 1 false ty25 rfl rfl (by conv => lhs; whnf) (lt_of_ble rfl)
  apply Wk.gon 31 rfl rfl
  apply Wk.dat (liPartsE qu) Try.func21 rfl rfl rfl rfl rfl (lt_of_ble rfl)
  apply Wk.pckT rfl (by conv => lhs; whnf) (lt_of_ble rfl)
  apply Wk.mv (by conv => lhs; whnf) (lt_of_ble rfl)
  apply Wk.gon 38 rfl rfl
  apply Wk.fad 5 0 false fd27_5 rfl (lt_of_ble rfl)
  apply Wk.gon 38 rfl rfl
  apply Wk.ld (i := 2) 1 false ty4 rfl rfl (by conv => lhs; whnf) (lt_of_ble rfl)
  apply Wk.gon 38 rfl rfl
  apply Wk.fad 5 0 false fd27_5 rfl (lt_of_ble rfl)
  apply Wk.gon 38 rfl rfl
  apply Wk.ld (i := 3) 1 false ty4 rfl rfl (by conv => lhs; whnf) (lt_of_ble rfl)
  apply Wk.gon 38 rfl rfl
  apply Wk.bin rfl rfl (r := .bool true) (fun w => by simp [go_sem]) (lt_of_ble rfl)
  apply Wk.pckT rfl (by conv => lhs; whnf) (lt_of_ble rfl)
  apply Wk.mv (by conv => lhs; whnf) (lt_of_ble rfl)
  apply Wk.gon 45 rfl rfl
  apply Wk.fad 6 0 false fd27_6 rfl (lt_of_ble rfl)
  apply Wk.gon 45 rfl rfl
  apply Wk.ld (i := 2) 1 false ty3 rfl rfl (by conv => lhs; whnf) (lt_of_ble rfl)
  apply Wk.gon 45 rfl rfl
  apply Wk.fad 6 0 false fd27_6 rfl (lt_of_ble rfl)
  apply Wk.gon 45 rfl rfl
  apply Wk.ld (i := 3) 1 false ty3 rfl rfl (by conv => lhs; whnf) (lt_of_ble rfl)
  apply Wk.gon 45 rfl rfl
  apply Wk.bin rfl rfl (r := .bool true) (fun w => by simp [go_sem]) (lt_of_ble rfl)
  apply Wk.pckT rfl (by conv => lhs; whnf) (lt_of_ble rfl)
  apply Wk.mv (by conv => lhs; whnf) (lt_of_ble rfl)
  apply Wk.gon 52 rfl rfl
  apply Wk.fad 7 0 false fd27_7 rfl (lt_of_ble rfl)
  apply Wk.gon 52 rfl rfl
  apply Wk.ld (i := 2) 1 false ty4 rfl rfl (by conv => lhs; whnf) (lt_of_ble rfl)
  apply Wk.gon 52 rfl rfl
  apply Wk.fad 7 0 false fd27_7 rfl (lt_of_ble rfl)
  apply Wk.gon 52 rfl rfl
  apply Wk.ld (i := 3) 1 false ty4 rfl rfl (by conv => lhs; whnf) (lt_of_ble rfl)
  apply Wk.gon 52 rfl rfl
  apply Wk.bin rfl rfl (r := .bool true) (fun w => by simp [go_sem]) (lt_of_ble rfl)
  apply Wk.pckT rfl (by conv => lhs; whnf) (lt_of_ble rfl)
  apply Wk.mv (by conv => lhs; whnf) (lt_of_ble rfl)
  apply Wk.gon 59 rfl rfl
  apply Wk.fad 8 0 false fd27_8 rfl (lt_of_ble rfl)
  apply Wk.gon 59 rfl rfl
  apply Wk.ld (i := 2) 1 false ty3 rfl rfl (by conv => lhs; whnf) (lt_of_ble rfl)
  apply Wk.gon 59 rfl rfl
  apply Wk.fad 8 0 false fd27_8 rfl (lt_of_ble rfl)
  apply Wk.gon 59 rfl rfl
  apply Wk.ld (i := 3) 1 false ty3 rfl rfl (by conv => lhs; whnf) (lt_of_ble rfl)
  apply Wk.gon 59 rfl rfl
  apply Wk.bin rfl rfl (r := .bool true) (fun w => by simp [go_sem]) (lt_of_ble rfl)
  apply Wk.pckT rfl (by conv => lhs; whnf) (lt_of_ble rfl)
  apply Wk.mv (by conv => lhs; whnf) (lt_of_ble rfl)
  apply Wk.gon 66 rfl rfl
  apply Wk.fad 9 0 false fd27_9 rfl (lt_of_ble rfl)
  apply Wk.gon 66 rfl rfl
  apply Wk.ld (i := 2) 1 false ty4 rfl rfl (by conv => lhs; whnf) (lt_of_ble rfl)
  apply Wk.gon 66 rfl rfl
  apply Wk.fad 9 0 false fd27_9 rfl (lt_of_ble rfl)
  apply Wk.gon 66 rfl rfl
  apply Wk.ld (i := 3) 1 false ty4 rfl rfl (by conv => lhs; whnf) (lt_of_ble rfl)
  apply Wk.gon 66 rfl rfl
  apply Wk.bin rfl rfl (r := .bool true) (fun w => by simp [go_sem]) (lt_of_ble rfl)
  apply Wk.pckT rfl (by conv => lhs; whnf) (lt_of_ble rfl)
  apply Wk.asg (by conv => lhs; whnf) (lt_of_ble rfl)
  refine Wk.nil (AW.ret ?_)
  exact RetQ.ret [] (.cons rfl .nil) ⟨rfl, rfl⟩ none_kept
end Go.Proofs.Ytdojkmjamilllaa
