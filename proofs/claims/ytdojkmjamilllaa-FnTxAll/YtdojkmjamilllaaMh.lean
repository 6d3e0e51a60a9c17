/- Laws and contracts that the proof stands on: AbsHearJ, LiParts, AbsLiTx. -/
import Derived.Test.YtdojkmjamilllaaMa
import Derived.Test.YtdojkmjamilllaaMb
import Derived.Test.YtdojkmjamilllaaMc
import Derived.Test.YtdojkmjamilllaaMd
import Derived.Test.YtdojkmjamilllaaMe
import Derived.Test.YtdojkmjamilllaaMf
import Derived.Test.YtdojkmjamilllaaMg
/- TxHear of the program, as a whole. Written by tools/mk_AbsHearJ.py. -/
namespace Go.Proofs.Ytdojkmjamilllaa
open Go Go.RowKit
theorem isByZ (k s k2 : Int) (p f : Bool) (y g l : Int) (fs : List (Fin 256)) (hl : fs.length ≤ 2000000) : DataOk Try.prog 73 [frmZ k s k2 p f y g l (fbytes fs)] (.d (.v (.bool ((k == 1 || k == 2) && frmB k s k2 p f y g l fs.length)))) := by
  have hi : ∀ k, DataOk Try.prog 27 [frmZ k s k2 p f y g l (fbytes fs)] (.d (.v (.bool (frmB k s k2 p f y g l fs.length)))) := fun k => ifrm_ok k s k2 p f y g l fs hl
  simp only [frmZ, frmZC] at hi ⊢
  refine Spec.intro (n := 15) (rv := [.tmp 2]) Try.func73 rfl rfl rfl (by simp) fun C hN hX => ?_
  refine AW.seq ?_
  apply AW.list
  apply Wk.bx 1 rfl rfl (lt_of_ble rfl)
  apply Wk.asg (by conv => lhs; whnf) (lt_of_ble rfl)
  refine Wk.nil ?_
  refine AW.seq ?_
  by_cases h1 : k = 1
  · subst h1
    apply AW.list
    apply Wk.fad 0 0 false fd42_0 rfl (lt_of_ble rfl)
    apply Wk.ld (i := 1) 1 false ty3 rfl rfl (by conv => lhs; whnf) (lt_of_ble rfl)
    apply Wk.bin rfl rfl (fun w => by simp [go_sem] <;> rfl) (lt_of_ble rfl)
    apply Wk.mv (by conv => lhs; whnf) (lt_of_ble rfl)
    apply Wk.goff 6 (ok_faddr fd42_0) rfl rfl (by decide)
    apply Wk.goff 6 (ok_load 1 ty3) rfl rfl (by decide)
    apply Wk.goff 6 (ok_bin _ _ _ _ _) rfl rfl (by decide)
    apply Wk.pckT rfl (by conv => lhs; whnf) (lt_of_ble rfl)
    apply Wk.mv (by conv => lhs; whnf) (lt_of_ble rfl)
    apply Wk.gon 11 rfl rfl
    apply Wk.ld (i := 1) 9 true ty42 rfl rfl (by conv => lhs; whnf) (lt_of_ble rfl)
    apply Wk.gon 11 rfl rfl
    apply Wk.dat (hi 1) Try.func27 rfl rfl rfl rfl rfl (lt_of_ble rfl)
    apply Wk.pckT rfl (by conv => lhs; whnf) (lt_of_ble rfl)
    apply Wk.asg (by conv => lhs; whnf) (lt_of_ble rfl)
    refine Wk.nil (AW.ret ?_)
    exact RetQ.ret [] (.cons rfl .nil) ⟨rfl, rfl⟩ none_kept
  by_cases h2 : k = 2
  · subst h2
    apply AW.list
    apply Wk.fad 0 0 false fd42_0 rfl (lt_of_ble rfl)
    apply Wk.ld (i := 1) 1 false ty3 rfl rfl (by conv => lhs; whnf) (lt_of_ble rfl)
    apply Wk.bin rfl rfl (fun w => by simp [go_sem] <;> rfl) (lt_of_ble rfl)
    apply Wk.mv (by conv => lhs; whnf) (lt_of_ble rfl)
    apply Wk.gon 6 rfl rfl
    apply Wk.fad 0 0 false fd42_0 rfl (lt_of_ble rfl)
    apply Wk.gon 6 rfl rfl
    apply Wk.ld (i := 1) 1 false ty3 rfl rfl (by conv => lhs; whnf) (lt_of_ble rfl)
    apply Wk.gon 6 rfl rfl
    apply Wk.bin rfl rfl (fun w => by simp [go_sem] <;> rfl) (lt_of_ble rfl)
    apply Wk.pckF rfl (by conv => lhs; whnf) (lt_of_ble rfl)
    apply Wk.mv (by conv => lhs; whnf) (lt_of_ble rfl)
    apply Wk.gon 11 rfl rfl
    apply Wk.ld (i := 1) 9 true ty42 rfl rfl (by conv => lhs; whnf) (lt_of_ble rfl)
    apply Wk.gon 11 rfl rfl
    apply Wk.dat (hi 2) Try.func27 rfl rfl rfl rfl rfl (lt_of_ble rfl)
    apply Wk.pckT rfl (by conv => lhs; whnf) (lt_of_ble rfl)
    apply Wk.asg (by conv => lhs; whnf) (lt_of_ble rfl)
    refine Wk.nil (AW.ret ?_)
    exact RetQ.ret [] (.cons rfl .nil) ⟨rfl, rfl⟩ none_kept
  · have hb : ((k == 1 || k == 2) && frmB k s k2 p f y g l fs.length) = false := by simp [h1, h2]
    rw [hb]
    apply AW.list
    apply Wk.fad 0 0 false fd42_0 rfl (lt_of_ble rfl)
    apply Wk.ld (i := 1) 1 false ty3 rfl rfl (by conv => lhs; whnf) (lt_of_ble rfl)
    apply Wk.bin rfl rfl (r := .bool false) (fun w => by simp [go_sem, h1]) (lt_of_ble rfl)
    apply Wk.mv (by conv => lhs; whnf) (lt_of_ble rfl)
    apply Wk.gon 6 rfl rfl
    apply Wk.fad 0 0 false fd42_0 rfl (lt_of_ble rfl)
    apply Wk.gon 6 rfl rfl
    apply Wk.ld (i := 1) 1 false ty3 rfl rfl (by conv => lhs; whnf) (lt_of_ble rfl)
    apply Wk.gon 6 rfl rfl
    apply Wk.bin rfl rfl (r := .bool false) (fun w => by simp [go_sem, h2]) (lt_of_ble rfl)
    apply Wk.pckF rfl (by conv => lhs; whnf) (lt_of_ble rfl)
    apply Wk.mv (by conv => lhs; whnf) (lt_of_ble rfl)
    apply Wk.goff 11 (ok_load 1 ty42) rfl rfl (by decide)
    apply Wk.goff 11 (ok_datw ((hi k).w rfl) Try.func27 rfl rfl) rfl rfl (by decide)
    apply Wk.pckF rfl (by conv => lhs; whnf) (lt_of_ble rfl)
    apply Wk.asg (by conv => lhs; whnf) (lt_of_ble rfl)
    refine Wk.nil (AW.ret ?_)
    exact RetQ.ret [] (.cons rfl .nil) ⟨rfl, rfl⟩ none_kept
theorem isByY {k s k2 : Int} {p f : Bool} {y g l : Int} {fs : List (Fin 256)} (hl : fs.length ≤ 2000000) {b : Bool} (h : ((k == 1 || k == 2) && frmB k s k2 p f y g l fs.length) = b) : DataOk Try.prog 73 [frmZ k s k2 p f y g l (fbytes fs)] (.d (.v (.bool b))) := h ▸ isByZ k s k2 p f y g l fs hl
set_option maxHeartbeats 4000000 in
set_option maxRecDepth 100000 in
theorem itxhearNo (m0 w0 p0 u0 y0 : Int) (x : TX) (k sq ack : Int) (pl fi : Bool) (sy g ln : Int) (fs : List (Fin 256)) (hfl : fs.length ≤ 2000000) (hno : txOkB ⟨m0, w0, p0, u0, y0⟩ x = false ∨ ((k == 1 || k == 2) && frmB k sq ack pl fi sy g ln fs.length) = false) :
    DataOk Try.prog 31 [cfgA m0 w0 p0 u0 y0, txA x, frmZ k sq ack pl fi sy g ln (fbytes fs)] txNil := by
  cases hok : txOkB ⟨m0, w0, p0, u0, y0⟩ x
  · have hb := isByZ k sq ack pl fi sy g ln fs hfl
    simp only [frmZ, frmZC] at hb ⊢
    refine Spec.intro (n := 26) (rv := [.cell 6 27]) Try.func31 rfl rfl rfl (by simp) fun C hN hX => ?_
    refine AW.seq ?_
    apply AW.list
    apply Wk.bx 3 rfl rfl (lt_of_ble rfl)
    apply Wk.bx 4 rfl rfl (lt_of_ble rfl)
    apply Wk.bx 50 rfl rfl (lt_of_ble rfl)
    apply Wk.alc 6 [.int .i64 0, .int .i64 0, .slice none 0 0, .int .i64 0, .slice none 0 0, .bool false, .int .i64 0, .bool false, .int .i64 0, .bool false] ze27 rfl rfl (lt_of_ble rfl)
    refine Wk.nil ?_
    refine AW.seq (AW.seq ?_)
    apply AW.list
    apply Wk.ld (i := 3) 5 true ty24 rfl rfl (by conv => lhs; whnf) (lt_of_ble rfl)
    apply Wk.ld (i := 4) 10 true ty27 rfl rfl (by conv => lhs; whnf) (lt_of_ble rfl)
    apply Wk.dat (itxb hok) Try.func17 rfl rfl rfl rfl rfl (lt_of_ble rfl)
    apply Wk.un rfl (fun w => by simp [go_sem] <;> rfl) (lt_of_ble rfl)
    apply Wk.mv (by conv => lhs; whnf) (lt_of_ble rfl)
    apply Wk.goff 12 (ok_load 50 ty42) rfl rfl (by simp)
    apply Wk.goff 12 (ok_datw (hb.w rfl) Try.func73 rfl rfl) rfl rfl (by simp)
    apply Wk.goff 12 (ok_un _ _ _) rfl rfl (by simp)
    apply Wk.pckT rfl (by conv => lhs; whnf) (lt_of_ble rfl)
    refine Wk.nil ?_
    refine AW.cond rfl (fun _ => ?_) (fun hc => by cases hc)
    refine AW.seq ?_
    apply AW.list
    apply Wk.bld [.int .i64 0, .int .i64 0, .slice none 0 0, .int .i64 0, .slice none 0 0, .bool false, .int .i64 0, .bool false, .int .i64 0, .bool false] [(0, 1), (1, 1), (2, 1), (3, 1), (4, 1), (5, 1), (6, 1), (7, 1), (8, 1), (9, 1)] bl27 rfl (by conv => lhs; whnf) (lt_of_ble rfl)
    apply Wk.sto (i := 6) 10 true ty27 rfl rfl rfl rfl (Nat.le_of_ble_eq_true rfl) (lt_of_ble rfl)
    refine Wk.nil (AW.ret ?_)
    repeat (first | refine thenA_ret ?_ | refine inBlockA_ret ?_)
    exact RetQ.ret [] (.cons ⟨6, 0, _, _, _, rfl, rfl, ty27, rfl⟩ .nil) ⟨rfl, rfl⟩ none_kept
  · have hb := isByY hfl (hno.resolve_left (by rw [hok]; simp))
    simp only [frmZ, frmZC] at hb ⊢
    refine Spec.intro (n := 26) (rv := [.cell 6 27]) Try.func31 rfl rfl rfl (by simp) fun C hN hX => ?_
    refine AW.seq ?_
    apply AW.list
    apply Wk.bx 3 rfl rfl (lt_of_ble rfl)
    apply Wk.bx 4 rfl rfl (lt_of_ble rfl)
    apply Wk.bx 50 rfl rfl (lt_of_ble rfl)
    apply Wk.alc 6 [.int .i64 0, .int .i64 0, .slice none 0 0, .int .i64 0, .slice none 0 0, .bool false, .int .i64 0, .bool false, .int .i64 0, .bool false] ze27 rfl rfl (lt_of_ble rfl)
    refine Wk.nil ?_
    refine AW.seq (AW.seq ?_)
    apply AW.list
    apply Wk.ld (i := 3) 5 true ty24 rfl rfl (by conv => lhs; whnf) (lt_of_ble rfl)
    apply Wk.ld (i := 4) 10 true ty27 rfl rfl (by conv => lhs; whnf) (lt_of_ble rfl)
    apply Wk.dat (itxb hok) Try.func17 rfl rfl rfl rfl rfl (lt_of_ble rfl)
    apply Wk.un rfl (fun w => by simp [go_sem] <;> rfl) (lt_of_ble rfl)
    apply Wk.mv (by conv => lhs; whnf) (lt_of_ble rfl)
    apply Wk.gon 12 rfl rfl
    apply Wk.ld (i := 50) 9 true ty42 rfl rfl (by conv => lhs; whnf) (lt_of_ble rfl)
    apply Wk.gon 12 rfl rfl
    apply Wk.dat hb Try.func73 rfl rfl rfl rfl rfl (lt_of_ble rfl)
    apply Wk.gon 12 rfl rfl
    apply Wk.un rfl (fun w => by simp [go_sem] <;> rfl) (lt_of_ble rfl)
    apply Wk.pckF rfl (by conv => lhs; whnf) (lt_of_ble rfl)
    refine Wk.nil ?_
    refine AW.cond rfl (fun _ => ?_) (fun hc => by cases hc)
    refine AW.seq ?_
    apply AW.list
    apply Wk.bld [.int .i64 0, .int .i64 0, .slice none 0 0, .int .i64 0, .slice none 0 0, .bool false, .int .i64 0, .bool false, .int .i64 0, .bool false] [(0, 1), (1, 1), (2, 1), (3, 1), (4, 1), (5, 1), (6, 1), (7, 1), (8, 1), (9, 1)] bl27 rfl (by conv => lhs; whnf) (lt_of_ble rfl)
    apply Wk.sto (i := 6) 10 true ty27 rfl rfl rfl rfl (Nat.le_of_ble_eq_true rfl) (lt_of_ble rfl)
    refine Wk.nil (AW.ret ?_)
    repeat (first | refine thenA_ret ?_ | refine inBlockA_ret ?_)
    exact RetQ.ret [] (.cons ⟨6, 0, _, _, _, rfl, rfl, ty27, rfl⟩ .nil) ⟨rfl, rfl⟩ none_kept
set_option maxHeartbeats 4000000 in
set_option maxRecDepth 100000 in
theorem itxhearN (m0 w0 p0 u0 y0 n a : Int) (fl : List Dat) (s : Int) (qu : List Dat) (q : Bool) (t : Int) (hh : Bool) (c : Int) (dd : Bool) (a' : Int) (h' : Nat) (s' : Int) (q' : Bool) (t' : Int) (hh' : Bool) (c' : Int) (d' : Bool) (k sq ack : Int) (pl fi : Bool) (sy g ln : Int) (fs : List (Fin 256)) (hfl : fs.length ≤ 2000000) (hok : txOkB ⟨m0, w0, p0, u0, y0⟩ ⟨n, a, fl, s, qu, q, t, hh, c, dd⟩ = true) (hfr : ((k == 1 || k == 2) && frmB k sq ack pl fi sy g ln fs.length) = true) (hh4 : h' ≤ 4) (hn4 : ([] : List Dat).length ≤ 4) (hL : ∀ i d, ([] : List Dat)[i]? = some d → ringF fl ((h' + i) % 4) = sl (some d)) (ha' : 0 ≤ a' ∧ a' < 8) (hnx : (a' + (([] : List Dat).length : Int)) % 8 = n)
    (ht : Spec Try.prog 74 [.ptr 27 0, frmZ k sq ack pl fi sy g ln (fbytes fs)] (sndB (sndC m0 w0 p0 u0 y0 a (ringF fl) 0 (fl.length : Int) s qu.length q t hh c dd) qu.length qu) (fun r bs => r = .tup [] ∧ bs = sndB (sndC m0 w0 p0 u0 y0 a' (ringF fl) (h' : Int) (([] : List Dat).length : Int) s' qu.length q' t' hh' c' d') qu.length qu)) :
    DataOk Try.prog 31 [cfgA m0 w0 p0 u0 y0, txA ⟨n, a, fl, s, qu, q, t, hh, c, dd⟩, frmZ k sq ack pl fi sy g ln (fbytes fs)] (txA ⟨n, a', [], s', qu, q', t', hh', c', d'⟩) := by
  have h4 := txOk_four hok
  have hb := isByY hfl hfr
  simp only at h4
  have cn := inew m0 w0 p0 u0 y0 ⟨n, a, fl, s, qu, q, t, hh, c, dd⟩ h4.1 h4.2
  simp only at cn
  have cs := istateN m0 w0 p0 u0 y0 a' (ringF fl) s' qu.length q' t' hh' c' d' qu h' hh4 hn4 hL ha'
  rw [hnx] at cs
  simp only [frmZ, frmZC] at hb ht ⊢
  refine Spec.intro (n := 26) (rv := [.cell 6 27]) Try.func31 rfl rfl rfl (by simp) fun C hN hX => ?_
  refine AW.seq ?_
  apply AW.list
  apply Wk.bx 3 rfl rfl (lt_of_ble rfl)
  apply Wk.bx 4 rfl rfl (lt_of_ble rfl)
  apply Wk.bx 50 rfl rfl (lt_of_ble rfl)
  apply Wk.alc 6 [.int .i64 0, .int .i64 0, .slice none 0 0, .int .i64 0, .slice none 0 0, .bool false, .int .i64 0, .bool false, .int .i64 0, .bool false] ze27 rfl rfl (lt_of_ble rfl)
  refine Wk.nil ?_
  refine AW.seq (AW.seq ?_)
  apply AW.list
  apply Wk.ld (i := 3) 5 true ty24 rfl rfl (by conv => lhs; whnf) (lt_of_ble rfl)
  apply Wk.ld (i := 4) 10 true ty27 rfl rfl (by conv => lhs; whnf) (lt_of_ble rfl)
  apply Wk.dat (itxb hok) Try.func17 rfl rfl rfl rfl rfl (lt_of_ble rfl)
  apply Wk.un rfl (fun w => by simp [go_sem] <;> rfl) (lt_of_ble rfl)
  apply Wk.mv (by conv => lhs; whnf) (lt_of_ble rfl)
  apply Wk.gon 12 rfl rfl
  apply Wk.ld (i := 50) 9 true ty42 rfl rfl (by conv => lhs; whnf) (lt_of_ble rfl)
  apply Wk.gon 12 rfl rfl
  apply Wk.dat hb Try.func73 rfl rfl rfl rfl rfl (lt_of_ble rfl)
  apply Wk.gon 12 rfl rfl
  apply Wk.un rfl (fun w => by simp [go_sem] <;> rfl) (lt_of_ble rfl)
  apply Wk.pckF rfl (by conv => lhs; whnf) (lt_of_ble rfl)
  refine Wk.nil ?_
  refine AW.cond rfl (fun hc => by cases hc) (fun _ => AW.skip (thenA_normal ?_))
  refine AW.seq ?_
  apply AW.list
  apply Wk.ld (i := 3) 5 true ty24 rfl rfl (by conv => lhs; whnf) (lt_of_ble rfl)
  apply Wk.ld (i := 4) 10 true ty27 rfl rfl (by conv => lhs; whnf) (lt_of_ble rfl)
  apply Wk.cal [] [27, 66] cn (in_snd _ rfl _ _ _ _ _ _ _ _ _ _ _ _ _ _ _ _ _ _) ⟨_, _, rfl, rfl⟩ Try.func51 rfl rfl rfl rfl (by simp; exact ⟨rfl, rfl⟩) rfl (fun i hi => by cases hi) (lt_of_ble rfl)
  rintro r bs' ⟨rfl, rfl⟩
  apply Wk.asg (by conv => lhs; whnf) (lt_of_ble rfl)
  refine Wk.nil ?_
  refine AW.seq ?_
  apply AW.list
  apply Wk.mv (by conv => lhs; whnf) (lt_of_ble rfl)
  apply Wk.ld (i := 50) 9 true ty42 rfl rfl (by conv => lhs; whnf) (lt_of_ble rfl)
  apply Wk.cal [27, 66] [] ht (in_snd _ rfl _ _ _ _ _ _ _ _ _ _ _ _ _ _ _ _ _ _) ⟨_, _, rfl, rfl⟩ Try.func74 rfl rfl rfl rfl (fun i hi => by cases hi) rfl (two_in rfl (by exact within_parts _)) (lt_of_ble rfl)
  rintro r bs' ⟨rfl, rfl⟩
  refine Wk.nil ?_
  refine AW.seq ?_
  apply AW.list
  apply Wk.mv (by conv => lhs; whnf) (lt_of_ble rfl)
  apply Wk.calr [27, 66] [17] cs (in_sndF _ rfl _ _ _ _ _ _ _ _ _ _ _ _ _ _ _ _ _ _ []) (by rintro r bs' ⟨rfl, rfl⟩; exact keep2) ⟨_, _, rfl, rfl⟩ Try.func53 rfl rfl rfl rfl (by simp; rfl) rfl (two_in rfl (by exact within_parts _)) (lt_of_ble rfl)
  rintro r bs' ⟨rfl, rfl⟩
  apply Wk.sto (i := 6) 10 true ty27 rfl rfl rfl rfl (Nat.le_of_ble_eq_true rfl) (lt_of_ble rfl)
  refine Wk.nil ?_
  refine AW.thawc (j := 6) (c := 4) (i := 66) _ rfl rfl rfl (asData_parts qu) hX.none ?_
  refine AW.nrmb (j := 6) rfl ?_
  refine AW.ret ?_
  exact RetQ.ret [] (.cons ⟨6, 0, _, _, _, rfl, rfl, ty27, rfl⟩ .nil) ⟨rfl, rfl⟩ none_kept
set_option maxHeartbeats 4000000 in
set_option maxRecDepth 100000 in
theorem itxhearO (m0 w0 p0 u0 y0 n a : Int) (fl : List Dat) (s : Int) (qu : List Dat) (q : Bool) (t : Int) (hh : Bool) (c : Int) (dd : Bool) (a' : Int) (h' : Nat) (fl' : List Dat) (hne : fl' ≠ []) (s' : Int) (q' : Bool) (t' : Int) (hh' : Bool) (c' : Int) (d' : Bool) (k sq ack : Int) (pl fi : Bool) (sy g ln : Int) (fs : List (Fin 256)) (hfl : fs.length ≤ 2000000) (hok : txOkB ⟨m0, w0, p0, u0, y0⟩ ⟨n, a, fl, s, qu, q, t, hh, c, dd⟩ = true) (hfr : ((k == 1 || k == 2) && frmB k sq ack pl fi sy g ln fs.length) = true) (hh4 : h' ≤ 4) (hn4 : (fl' : List Dat).length ≤ 4) (hL : ∀ i d, (fl' : List Dat)[i]? = some d → ringF fl ((h' + i) % 4) = sl (some d)) (ha' : 0 ≤ a' ∧ a' < 8) (hnx : (a' + ((fl' : List Dat).length : Int)) % 8 = n)
    (ht : Spec Try.prog 74 [.ptr 27 0, frmZ k sq ack pl fi sy g ln (fbytes fs)] (sndB (sndC m0 w0 p0 u0 y0 a (ringF fl) 0 (fl.length : Int) s qu.length q t hh c dd) qu.length qu) (fun r bs => r = .tup [] ∧ bs = sndB (sndC m0 w0 p0 u0 y0 a' (ringF fl) (h' : Int) ((fl' : List Dat).length : Int) s' qu.length q' t' hh' c' d') qu.length qu)) :
    DataOk Try.prog 31 [cfgA m0 w0 p0 u0 y0, txA ⟨n, a, fl, s, qu, q, t, hh, c, dd⟩, frmZ k sq ack pl fi sy g ln (fbytes fs)] (txA ⟨n, a', fl', s', qu, q', t', hh', c', d'⟩) := by
  have h4 := txOk_four hok
  have hb := isByY hfl hfr
  simp only at h4
  have cn := inew m0 w0 p0 u0 y0 ⟨n, a, fl, s, qu, q, t, hh, c, dd⟩ h4.1 h4.2
  simp only at cn
  have cs := istateO m0 w0 p0 u0 y0 a' (ringF fl) s' qu.length q' t' hh' c' d' qu h' fl' hne hh4 hn4 hL ha'
  rw [hnx] at cs
  simp only [frmZ, frmZC] at hb ht ⊢
  have ev : flV fl' = .own 17 (fl'.length - 1) := if_neg hne
  have ex : flX fl' = [(17, .own (fl'.length - 1) 47 3 (piecesA fl'))] := if_neg hne
  have ip : PostIn [27, 66, 17] (fun r bs => r = stA0 n a' (flV fl') s' qu.length q' t' hh' c' d' ∧ bs = sndB (sndC m0 w0 p0 u0 y0 a' (ringF fl) (h' : Int) ((fl' : List Dat).length : Int) s' qu.length q' t' hh' c' d') qu.length qu ++ flX fl') := in_sndF _ (by rw [ev]; rfl) _ _ _ _ _ _ _ _ _ _ _ _ _ _ _ _ _ _ _
  rw [ev, ex] at cs ip
  refine Spec.intro (n := 26) (rv := [.cell 6 27]) Try.func31 rfl rfl rfl (by simp) fun C hN hX => ?_
  refine AW.seq ?_
  apply AW.list
  apply Wk.bx 3 rfl rfl (lt_of_ble rfl)
  apply Wk.bx 4 rfl rfl (lt_of_ble rfl)
  apply Wk.bx 50 rfl rfl (lt_of_ble rfl)
  apply Wk.alc 6 [.int .i64 0, .int .i64 0, .slice none 0 0, .int .i64 0, .slice none 0 0, .bool false, .int .i64 0, .bool false, .int .i64 0, .bool false] ze27 rfl rfl (lt_of_ble rfl)
  refine Wk.nil ?_
  refine AW.seq (AW.seq ?_)
  apply AW.list
  apply Wk.ld (i := 3) 5 true ty24 rfl rfl (by conv => lhs; whnf) (lt_of_ble rfl)
  apply Wk.ld (i := 4) 10 true ty27 rfl rfl (by conv => lhs; whnf) (lt_of_ble rfl)
  apply Wk.dat (itxb hok) Try.func17 rfl rfl rfl rfl rfl (lt_of_ble rfl)
  apply Wk.un rfl (fun w => by simp [go_sem] <;> rfl) (lt_of_ble rfl)
  apply Wk.mv (by conv => lhs; whnf) (lt_of_ble rfl)
  apply Wk.gon 12 rfl rfl
  apply Wk.ld (i := 50) 9 true ty42 rfl rfl (by conv => lhs; whnf) (lt_of_ble rfl)
  apply Wk.gon 12 rfl rfl
  apply Wk.dat hb Try.func73 rfl rfl rfl rfl rfl (lt_of_ble rfl)
  apply Wk.gon 12 rfl rfl
  apply Wk.un rfl (fun w => by simp [go_sem] <;> rfl) (lt_of_ble rfl)
  apply Wk.pckF rfl (by conv => lhs; whnf) (lt_of_ble rfl)
  refine Wk.nil ?_
  refine AW.cond rfl (fun hc => by cases hc) (fun _ => AW.skip (thenA_normal ?_))
  refine AW.seq ?_
  apply AW.list
  apply Wk.ld (i := 3) 5 true ty24 rfl rfl (by conv => lhs; whnf) (lt_of_ble rfl)
  apply Wk.ld (i := 4) 10 true ty27 rfl rfl (by conv => lhs; whnf) (lt_of_ble rfl)
  apply Wk.cal [] [27, 66] cn (in_snd _ rfl _ _ _ _ _ _ _ _ _ _ _ _ _ _ _ _ _ _) ⟨_, _, rfl, rfl⟩ Try.func51 rfl rfl rfl rfl (by simp; exact ⟨rfl, rfl⟩) rfl (fun i hi => by cases hi) (lt_of_ble rfl)
  rintro r bs' ⟨rfl, rfl⟩
  apply Wk.asg (by conv => lhs; whnf) (lt_of_ble rfl)
  refine Wk.nil ?_
  refine AW.seq ?_
  apply AW.list
  apply Wk.mv (by conv => lhs; whnf) (lt_of_ble rfl)
  apply Wk.ld (i := 50) 9 true ty42 rfl rfl (by conv => lhs; whnf) (lt_of_ble rfl)
  apply Wk.cal [27, 66] [] ht (in_snd _ rfl _ _ _ _ _ _ _ _ _ _ _ _ _ _ _ _ _ _) ⟨_, _, rfl, rfl⟩ Try.func74 rfl rfl rfl rfl (fun i hi => by cases hi) rfl (two_in rfl (by exact within_parts _)) (lt_of_ble rfl)
  rintro r bs' ⟨rfl, rfl⟩
  refine Wk.nil ?_
  refine AW.seq ?_
  apply AW.list
  apply Wk.mv (by conv => lhs; whnf) (lt_of_ble rfl)
  apply Wk.calr [27, 66] [17] cs ip (by rintro r bs' ⟨rfl, rfl⟩; exact keep2) ⟨_, _, rfl, rfl⟩ Try.func53 rfl rfl rfl rfl (by simp; rfl) rfl (two_in rfl (by exact within_parts _)) (lt_of_ble rfl)
  rintro r bs' ⟨rfl, rfl⟩
  apply Wk.sto (i := 6) 10 true ty27 rfl rfl rfl rfl (Nat.le_of_ble_eq_true rfl) (lt_of_ble rfl)
  refine Wk.nil ?_
  refine AW.thawc (j := 6) (c := 4) (i := 66) _ rfl rfl rfl (asData_parts qu) hX.none ?_
  refine AW.thawc (j := 6) (c := 2) (i := 17) _ rfl rfl rfl (asData_parts fl') hX.none ?_
  refine AW.ret ?_
  exact RetQ.ret [] (.cons ⟨6, 0, _, _, _, rfl, rfl, ty27, rfl⟩ .nil) ⟨rfl, rfl⟩ none_kept
/-- What the frame leaves, told field by field. -/
theorem hearX_far (n a : Int) (fl : List Dat) (s : Int) (qu : List Dat) (q : Bool) (t : Int) (hh : Bool) (c : Int) (k ack : Int) (fi : Bool) (sy : Int) (j : Nat) (hj : farF a ack = (j : Int)) (ho : (j : Int) ≤ (fl.length : Int)) (hk : k = 1 ∨ k = 2) :
    hearX ⟨n, a, fl, s, qu, q, t, hh, c, false⟩ k ack fi sy = ⟨n, ack, fl.drop j, (rest3 k sy fi (max 0 (s - (j : Int))) q t hh).1, qu, (rest3 k sy fi (max 0 (s - (j : Int))) q t hh).2.1, (rest3 k sy fi (max 0 (s - (j : Int))) q t hh).2.2.1, (rest3 k sy fi (max 0 (s - (j : Int))) q t hh).2.2.2, c + (j : Int), false⟩ := by
  have hno : ¬ (fl.length : Int) < (j : Int) := by omega
  simp only [hearX, ackX, hj, Int.toNat_natCast, if_neg hno]
  generalize max 0 (s - (j : Int)) = s1
  rcases hk with rfl | rfl
  · cases fi <;> cases q <;> simp [said1, said2, said3, rest3]
  · by_cases hy : sy = 1
    · subst hy
      cases fi <;> cases q <;> simp [said1, said2, said3, rest3]
    · cases fi <;> cases q <;> simp [said1, said2, said3, rest3, hy]
theorem frm_ack {k sq ack : Int} {pl fi : Bool} {sy g ln : Int} {z : Nat} (h : frmB k sq ack pl fi sy g ln z = true) : 0 ≤ ack ∧ ack ≤ 7 := by
  simp only [frmB, decide_eq_true_eq] at h
  omega
set_option maxHeartbeats 4000000 in
set_option maxRecDepth 100000 in
theorem itxhear_ok (m0 w0 p0 u0 y0 : Int) (x : TX) (k sq ack : Int) (pl fi : Bool) (sy g ln : Int) (fs : List (Fin 256)) (hfl : fs.length ≤ 2000000) (hok : txOkB ⟨m0, w0, p0, u0, y0⟩ x = true) (hk : k = 1 ∨ k = 2) (hfr : frmB k sq ack pl fi sy g ln fs.length = true) :
    DataOk Try.prog 31 [cfgA m0 w0 p0 u0 y0, txA x, frmZ k sq ack pl fi sy g ln (fbytes fs)] (txA (hearX x k ack fi sy)) := by
  have f := txOk_facts hok
  have h4 := (txOk_four hok).1
  have hn := txOk_next hok
  have hs0 := f.2.2.2.2.2.2.2.2.2.1
  have hc0 := f.2.2.2.2.2.2.2.2.2.2.2.2.1
  have hack := frm_ack hfr
  have hby : ((k == 1 || k == 2) && frmB k sq ack pl fi sy g ln fs.length) = true := by rcases hk with rfl | rfl <;> simp [hfr]
  obtain ⟨n, a, fl, s, qu, q, t, hh, c, dd⟩ := x
  simp only at h4 hn hs0 hc0
  cases dd
  case true =>
    have hx : hearX ⟨n, a, fl, s, qu, q, t, hh, c, true⟩ k ack fi sy = ⟨n, a, fl, s, qu, q, t, hh, c, true⟩ := if_pos rfl
    rw [hx]
    have ht := ihearD m0 w0 p0 u0 y0 a (ringF fl) (fl.length : Int) s qu.length q t hh c qu k sq ack pl fi sy g ln (fbytes fs)
    by_cases h0 : fl = []
    · subst h0
      exact itxhearN m0 w0 p0 u0 y0 n a [] s qu q t hh c true a 0 s q t hh c true k sq ack pl fi sy g ln fs hfl hok hby (by omega) h4 (ring_at h4) ⟨hn.2.1, hn.2.2⟩ hn.1 ht
    · exact itxhearO m0 w0 p0 u0 y0 n a fl s qu q t hh c true a 0 fl h0 s q t hh c true k sq ack pl fi sy g ln fs hfl hok hby (by omega) h4 (ring_at h4) ⟨hn.2.1, hn.2.2⟩ hn.1 ht
  case false =>
    have hfar : farF a ack = (ack - a) % 8 := farF_in (by omega) (by omega)
    obtain ⟨j, hj⟩ : ∃ j : Nat, (ack - a) % 8 = (j : Int) := ⟨((ack - a) % 8).toNat, by omega⟩
    by_cases ho : (j : Int) ≤ (fl.length : Int)
    · have hx := hearX_far n a fl s qu q t hh c k ack fi sy j (hfar.trans hj) ho hk
      rw [hx]
      have ht := ihearG m0 w0 p0 u0 y0 a (ringF fl) (fl.length : Int) s qu.length q t hh c qu k sq ack pl fi sy g ln (fbytes fs) j (by omega) (by omega) ⟨hn.2.1, hn.2.2⟩ (by omega) hj ho (by omega) (by omega) hk
      have ea : (a + (j : Int)) % 8 = ack := by omega
      have el : (fl.length : Int) - (j : Int) = ((fl.drop j).length : Int) := by rw [List.length_drop]; omega
      rw [ea, el] at ht
      have hL : ∀ i d, (fl.drop j)[i]? = some d → ringF fl ((j % 4 + i) % 4) = sl (some d) := by
        intro i d h
        rw [List.getElem?_drop] at h
        have hi := (List.getElem?_eq_some_iff.1 h).1
        rw [show (j % 4 + i) % 4 = j + i by omega, ringF, h]
      have hnx : (ack + ((fl.drop j).length : Int)) % 8 = n := by rw [← el]; omega
      have hd4 : (fl.drop j).length ≤ 4 := by rw [List.length_drop]; omega
      generalize rest3 k sy fi (max 0 (s - (j : Int))) q t hh = R at ht ⊢
      generalize fl.drop j = fl' at ht hL hnx hd4 ⊢
      by_cases h0 : fl' = []
      · subst h0
        exact itxhearN m0 w0 p0 u0 y0 n a fl s qu q t hh c false ack (j % 4) R.1 R.2.1 R.2.2.1 R.2.2.2 (c + (j : Int)) false k sq ack pl fi sy g ln fs hfl hok hby (by omega) hd4 hL (by omega) hnx ht
      · exact itxhearO m0 w0 p0 u0 y0 n a fl s qu q t hh c false ack (j % 4) fl' h0 R.1 R.2.1 R.2.2.1 R.2.2.2 (c + (j : Int)) false k sq ack pl fi sy g ln fs hfl hok hby (by omega) hd4 hL (by omega) hnx ht
    · have hx : hearX ⟨n, a, fl, s, qu, q, t, hh, c, false⟩ k ack fi sy = ⟨n, a, fl, s, qu, q, t, hh, c, true⟩ := by
        have hlt : (fl.length : Int) < (j : Int) := by omega
        have e1 : ackX ⟨n, a, fl, s, qu, q, t, hh, c, false⟩ ack = ⟨n, a, fl, s, qu, q, t, hh, c, true⟩ := by
          unfold ackX
          rw [if_pos (by simp only [hfar, hj]; exact hlt)]
        simp [hearX, e1]
      rw [hx]
      have ht := ihearO m0 w0 p0 u0 y0 a (ringF fl) (fl.length : Int) s qu.length q t hh c qu k sq ack pl fi sy g ln (fbytes fs) ⟨hn.2.1, hn.2.2⟩ (by omega) (by omega)
      by_cases h0 : fl = []
      · subst h0
        exact itxhearN m0 w0 p0 u0 y0 n a [] s qu q t hh c false a 0 s q t hh c true k sq ack pl fi sy g ln fs hfl hok hby (by omega) h4 (ring_at h4) ⟨hn.2.1, hn.2.2⟩ hn.1 ht
      · exact itxhearO m0 w0 p0 u0 y0 n a fl s qu q t hh c false a 0 fl h0 s q t hh c true k sq ack pl fi sy g ln fs hfl hok hby (by omega) h4 (ring_at h4) ⟨hn.2.1, hn.2.2⟩ hn.1 ht
end Go.Proofs.Ytdojkmjamilllaa

/- Pieces that are the same, by the laws' own words. -/
namespace Go.Proofs.Ytdojkmjamilllaa
open Go Go.RowKit
theorem liBytesE (zs : List Nat) : DataOk Try.prog 39 [.d (bytesD zs), .d (bytesD zs)] (.d (.v (.bool true))) := by
  have h := liBytes_ok zs zs
  simpa using h
theorem liPartE (d : Dat) : DataOk Try.prog 29 [partN d, partN d] (.d (.v (.bool true))) := by
  obtain ⟨g, l, ys⟩ := d
  refine Spec.intro (n := 24) (rv := [.tmp 4]) Try.func29 rfl rfl rfl (by simp) fun C hN hX => ?_
  refine AW.seq ?_
  apply AW.list
  apply Wk.bx 2 rfl rfl (lt_of_ble rfl)
  apply Wk.bx 3 rfl rfl (lt_of_ble rfl)
  apply Wk.asg (by conv => lhs; whnf) (lt_of_ble rfl)
  refine Wk.nil ?_
  refine AW.seq ?_
  apply AW.list
  apply Wk.fad 0 0 false fd47_0 rfl (lt_of_ble rfl)
  apply Wk.ld (i := 2) 1 false ty3 rfl rfl (by conv => lhs; whnf) (lt_of_ble rfl)
  apply Wk.fad 0 0 false fd47_0 rfl (lt_of_ble rfl)
  apply Wk.ld (i := 3) 1 false ty3 rfl rfl (by conv => lhs; whnf) (lt_of_ble rfl)
  apply Wk.bin rfl rfl (r := .bool true) (fun w => by simp [go_sem]) (lt_of_ble rfl)
  apply Wk.mv (by conv => lhs; whnf) (lt_of_ble rfl)
  apply Wk.gon 10 rfl rfl
  apply Wk.fad 1 0 false fd47_1 rfl (lt_of_ble rfl)
  apply Wk.gon 10 rfl rfl
  apply Wk.ld (i := 2) 1 false ty3 rfl rfl (by conv => lhs; whnf) (lt_of_ble rfl)
  apply Wk.gon 10 rfl rfl
  apply Wk.fad 1 0 false fd47_1 rfl (lt_of_ble rfl)
  apply Wk.gon 10 rfl rfl
  apply Wk.ld (i := 3) 1 false ty3 rfl rfl (by conv => lhs; whnf) (lt_of_ble rfl)
  apply Wk.gon 10 rfl rfl
  apply Wk.bin rfl rfl (r := .bool true) (fun w => by simp [go_sem]) (lt_of_ble rfl)
  apply Wk.pckT rfl (by conv => lhs; whnf) (lt_of_ble rfl)
  apply Wk.mv (by conv => lhs; whnf) (lt_of_ble rfl)
  apply Wk.gon 17 rfl rfl
  apply Wk.fad 2 0 false fd47_2 rfl (lt_of_ble rfl)
  apply Wk.gon 17 rfl rfl
  apply Wk.ld (i := 2) 1 false ty22 rfl rfl (by conv => lhs; whnf) (lt_of_ble rfl)
  apply Wk.gon 17 rfl rfl
  apply Wk.fad 2 0 false fd47_2 rfl (lt_of_ble rfl)
  apply Wk.gon 17 rfl rfl
  apply Wk.ld (i := 3) 1 false ty22 rfl rfl (by conv => lhs; whnf) (lt_of_ble rfl)
  apply Wk.gon 17 rfl rfl
  apply Wk.dat (liBytesE ys) Try.func39 rfl rfl rfl rfl rfl (lt_of_ble rfl)
  apply Wk.pckT rfl (by conv => lhs; whnf) (lt_of_ble rfl)
  apply Wk.asg (by conv => lhs; whnf) (lt_of_ble rfl)
  refine Wk.nil (AW.ret ?_)
  exact RetQ.ret [] (.cons rfl .nil) ⟨rfl, rfl⟩ none_kept
theorem liPartsE (ds : List Dat) : DataOk Try.prog 21 [.d (partsD ds), .d (partsD ds)] (.d (.v (.bool true))) := by
  refine Spec.intro (n := 27) (rv := [.tmp 4]) Try.func21 rfl rfl rfl (by simp) fun C hN hX => ?_
  refine AW.bound (x := .tmp 0) rfl fun hb => ?_
  simp only [List.length_map] at hb
  refine AW.seq ?_
  apply AW.list
  apply Wk.asg (by conv => lhs; whnf) (lt_of_ble rfl)
  refine Wk.nil ?_
  refine AW.seq (AW.seq ?_)
  apply AW.list
  apply Wk.mv (by conv => lhs; whnf) (lt_of_ble rfl)
  apply Wk.len un25 rfl (lt_of_ble rfl)
  apply Wk.mv (by conv => lhs; whnf) (lt_of_ble rfl)
  apply Wk.len un25 rfl (lt_of_ble rfl)
  apply Wk.bin rfl rfl (fun w => by simp [go_sem] <;> rfl) (lt_of_ble rfl)
  refine Wk.nil ?_
  refine AW.cond rfl (fun hc => by simp at hc) (fun _ => AW.skip (thenA_normal ?_))
  refine AW.seq (AW.seq ?_)
  apply AW.list
  apply Wk.asg (by conv => lhs; whnf) (lt_of_ble rfl)
  refine Wk.nil (AW.block ?_)
  refine AW.loop (fun q : Nat => St.of 27 [(0, .d (partsD ds)), (1, .d (partsD ds)), (5, .d (.v (.int .i64 (q : Int))))] []) (fun q => q ≤ ds.length) (fun q => ds.length - q) 0 (Nat.zero_le _) ?_ (fun q hq => ?_)
  · exact fun a w => Rel.keep ⟨rfl, .cons rfl rfl (.cons rfl rfl (.cons rfl rfl .nil)), .nil, hN⟩
  refine AW.seq (AW.seq ?_)
  apply AW.list
  apply Wk.mv (by conv => lhs; whnf) (lt_of_ble rfl)
  apply Wk.mv (by conv => lhs; whnf) (lt_of_ble rfl)
  apply Wk.len un25 rfl (lt_of_ble rfl)
  apply Wk.bin rfl rfl (fun w => by simp [go_sem] <;> rfl) (lt_of_ble rfl)
  refine Wk.nil ?_
  refine AW.cond rfl (fun hc => ?_) (fun hc => ?_)
  · have hlt : q < ds.length := by simpa using hc
    obtain ⟨d, hd⟩ : ∃ d, ds[q]? = some d := ⟨_, List.getElem?_eq_getElem hlt⟩
    have hget : (ds.map datD)[q]? = some (datD d) := by simp [hd]
    refine AW.skip ?_
    repeat (first | refine thenA_normal ?_ | refine inBlockA_normal ?_)
    refine AW.seq (AW.block (AW.seq ?_))
    apply AW.draw (hm := hmix) (cs := _)
    · apply Wk.mv (by conv => lhs; whnf) (lt_of_ble rfl)
      apply Wk.mv (by conv => lhs; whnf) (lt_of_ble rfl)
      apply Wk.iad 3 true un25 ty47 rfl rfl (by simpa using hlt) (datD_len ds) (lt_of_ble rfl)
      apply Wk.ldr 3 true ty47 rfl hget (by conv => lhs; whnf) (lt_of_ble rfl)
      apply Wk.mv (by conv => lhs; whnf) (lt_of_ble rfl)
      apply Wk.mv (by conv => lhs; whnf) (lt_of_ble rfl)
      apply Wk.iad 3 true un25 ty47 rfl rfl (by simpa using hlt) (datD_len ds) (lt_of_ble rfl)
      apply Wk.ldr 3 true ty47 rfl hget (by conv => lhs; whnf) (lt_of_ble rfl)
      apply Wk.dat (liPartE d) Try.func29 rfl rfl rfl rfl rfl (lt_of_ble rfl)
      apply Wk.un rfl (fun w => by simp [go_sem] <;> rfl) (lt_of_ble rfl)
      refine Wk.nil ?_
      refine AW.cond rfl (fun hn => by cases hn) (fun hn => ?_)
      refine AW.skip ?_
      repeat (first | refine thenA_normal ?_ | refine inBlockA_normal ?_)
      apply AW.list
      apply Wk.mv (by conv => lhs; whnf) (lt_of_ble rfl)
      apply Wk.addi rfl rfl (by omega) (lt_of_ble rfl)
      apply Wk.asg (by conv => lhs; whnf) (lt_of_ble rfl)
      refine Wk.nil ?_
      exact ⟨q + 1, by omega, by omega, fun a w => Rel.keep ⟨rfl, .cons rfl rfl (.cons rfl rfl (.cons rfl rfl .nil)), .nil, hN⟩⟩
    · rfl
    · rfl
  · refine AW.exit ?_
    repeat (first | refine inBlockA_same ?_ | refine thenA_exit ?_)
    repeat (first | refine thenA_normal ?_ | refine inBlockA_normal ?_)
    refine AW.seq ?_
    apply AW.list
    apply Wk.asg (by conv => lhs; whnf) (lt_of_ble rfl)
    refine Wk.nil (AW.ret ?_)
    repeat (first | refine thenA_ret ?_ | refine inBlockA_ret ?_)
    exact RetQ.ret [] (.cons rfl .nil) ⟨rfl, rfl⟩ none_kept
end Go.Proofs.Ytdojkmjamilllaa

/- Two of who sends that are the same, by the laws' own words. Written by tools/mk_AbsTickI.py. -/
namespace Go.Proofs.Ytdojkmjamilllaa
open Go Go.RowKit
set_option maxHeartbeats 2000000 in
set_option maxRecDepth 100000 in
theorem liTxE (x : TX) : DataOk Try.prog 16 [txA x, txA x] (.d (.v (.bool true))) := by
  obtain ⟨n, a, fl, s, qu, q, t, h, c, d⟩ := x
  refine Spec.intro (n := 73) (rv := [.tmp 4]) Try.func16 rfl rfl rfl (by simp) fun C hN hX => ?_
  refine AW.seq ?_
  apply AW.list
  apply Wk.bx 2 rfl rfl (lt_of_ble rfl)
  apply Wk.bx 3 rfl rfl (lt_of_ble rfl)
  apply Wk.asg (by conv => lhs; whnf) (lt_of_ble rfl)
  refine Wk.nil ?_
  refine AW.seq ?_
  apply AW.list
  apply Wk.fad 0 0 false fd27_0 rfl (lt_of_ble rfl)
  apply Wk.ld (i := 2) 1 false ty3 rfl rfl (by conv => lhs; whnf) (lt_of_ble rfl)
  apply Wk.fad 0 0 false fd27_0 rfl (lt_of_ble rfl)
  apply Wk.ld (i := 3) 1 false ty3 rfl rfl (by conv => lhs; whnf) (lt_of_ble rfl)
  apply Wk.bin rfl rfl (r := .bool true) (fun w => by simp [go_sem]) (lt_of_ble rfl)
  apply Wk.mv (by conv => lhs; whnf) (lt_of_ble rfl)
  apply Wk.gon 10 rfl rfl
  apply Wk.fad 1 0 false fd27_1 rfl (lt_of_ble rfl)
  apply Wk.gon 10 rfl rfl
  apply Wk.ld (i := 2) 1 false ty3 rfl rfl (by conv => lhs; whnf) (lt_of_ble rfl)
  apply Wk.gon 10 rfl rfl
  apply Wk.fad 1 0 false fd27_1 rfl (lt_of_ble rfl)
  apply Wk.gon 10 rfl rfl
  apply Wk.ld (i := 3) 1 false ty3 rfl rfl (by conv => lhs; whnf) (lt_of_ble rfl)
  apply Wk.gon 10 rfl rfl
  apply Wk.bin rfl rfl (r := .bool true) (fun w => by simp [go_sem]) (lt_of_ble rfl)
  apply Wk.pckT rfl (by conv => lhs; whnf) (lt_of_ble rfl)
  apply Wk.mv (by conv => lhs; whnf) (lt_of_ble rfl)
  apply Wk.gon 17 rfl rfl
  apply Wk.fad 2 0 false fd27_2 rfl (lt_of_ble rfl)
  apply Wk.gon 17 rfl rfl
  apply Wk.ld (i := 2) 1 false ty25 rfl rfl (by conv => lhs; whnf) (lt_of_ble rfl)
  apply Wk.gon 17 rfl rfl
  apply Wk.fad 2 0 false fd27_2 rfl (lt_of_ble rfl)
  apply Wk.gon 17 rfl rfl
  apply Wk.ld (i := 3) 1 false ty25 rfl rfl (by conv => lhs; whnf) (lt_of_ble rfl)
  apply Wk.gon 17 rfl rfl
  apply Wk.dat (liPartsE fl) Try.func21 rfl rfl rfl rfl rfl (lt_of_ble rfl)
  apply Wk.pckT rfl (by conv => lhs; whnf) (lt_of_ble rfl)
  apply Wk.mv (by conv => lhs; whnf) (lt_of_ble rfl)
  apply Wk.gon 24 rfl rfl
  apply Wk.fad 3 0 false fd27_3 rfl (lt_of_ble rfl)
  apply Wk.gon 24 rfl rfl
  apply Wk.ld (i := 2) 1 false ty3 rfl rfl (by conv => lhs; whnf) (lt_of_ble rfl)
  apply Wk.gon 24 rfl rfl
  apply Wk.fad 3 0 false fd27_3 rfl (lt_of_ble rfl)
  apply Wk.gon 24 rfl rfl
  apply Wk.ld (i := 3) 1 false ty3 rfl rfl (by conv => lhs; whnf) (lt_of_ble rfl)
  apply Wk.gon 24 rfl rfl
  apply Wk.bin rfl rfl (r := .bool true) (fun w => by simp [go_sem]) (lt_of_ble rfl)
  apply Wk.pckT rfl (by conv => lhs; whnf) (lt_of_ble rfl)
  apply Wk.mv (by conv => lhs; whnf) (lt_of_ble rfl)
  apply Wk.gon 31 rfl rfl
  apply Wk.fad 4 0 false fd27_4 rfl (lt_of_ble rfl)
  apply Wk.gon 31 rfl rfl
  apply Wk.ld (i := 2) 1 false ty25 rfl rfl (by conv => lhs; whnf) (lt_of_ble rfl)
  apply Wk.gon 31 rfl rfl
  apply Wk.fad 4 0 false fd27_4 rfl (lt_of_ble rfl)
  apply Wk.gon 31 rfl rfl
  apply Wk.ld (i := 3) 1 false ty25 rfl rfl (by conv => lhs; whnf) (lt_of_ble rfl)
  apply Wk.gon 31 rfl rfl
  apply Wk.dat (liPartsE qu) Try.func21 rfl rfl rfl rfl rfl (lt_of_ble rfl)
  apply Wk.pckT rfl (by conv => lhs; whnf) (lt_of_ble rfl)
  apply Wk.mv (by conv => lhs; whnf) (lt_of_ble rfl)
  apply Wk.gon 38 rfl rfl
  apply Wk.fad 5 0 false fd27_5 rfl (lt_of_ble rfl)
  apply Wk.gon 38 rfl rfl
  apply Wk.ld (i := 2) 1 false ty4 rfl rfl (by conv => lhs; whnf) (lt_of_ble rfl)
  apply Wk.gon 38 rfl rfl
  apply Wk.fad 5 0 false fd27_5 rfl (lt_of_ble rfl)
  apply Wk.gon 38 rfl rfl
  apply Wk.ld (i := 3) 1 false ty4 rfl rfl (by conv => lhs; whnf) (lt_of_ble rfl)
  apply Wk.gon 38 rfl rfl
  apply Wk.bin rfl rfl (r := .bool true) (fun w => by simp [go_sem]) (lt_of_ble rfl)
  apply Wk.pckT rfl (by conv => lhs; whnf) (lt_of_ble rfl)
  apply Wk.mv (by conv => lhs; whnf) (lt_of_ble rfl)
  apply Wk.gon 45 rfl rfl
  apply Wk.fad 6 0 false fd27_6 rfl (lt_of_ble rfl)
  apply Wk.gon 45 rfl rfl
  apply Wk.ld (i := 2) 1 false ty3 rfl rfl (by conv => lhs; whnf) (lt_of_ble rfl)
  apply Wk.gon 45 rfl rfl
  apply Wk.fad 6 0 false fd27_6 rfl (lt_of_ble rfl)
  apply Wk.gon 45 rfl rfl
  apply Wk.ld (i := 3) 1 false ty3 rfl rfl (by conv => lhs; whnf) (lt_of_ble rfl)
  apply Wk.gon 45 rfl rfl
  apply Wk.bin rfl rfl (r := .bool true) (fun w => by simp [go_sem]) (lt_of_ble rfl)
  apply Wk.pckT rfl (by conv => lhs; whnf) (lt_of_ble rfl)
  apply Wk.mv (by conv => lhs; whnf) (lt_of_ble rfl)
  apply Wk.gon 52 rfl rfl
  apply Wk.fad 7 0 false fd27_7 rfl (lt_of_ble rfl)
  apply Wk.gon 52 rfl rfl
  apply Wk.ld (i := 2) 1 false ty4 rfl rfl (by conv => lhs; whnf) (lt_of_ble rfl)
  apply Wk.gon 52 rfl rfl
  apply Wk.fad 7 0 false fd27_7 rfl (lt_of_ble rfl)
  apply Wk.gon 52 rfl rfl
  apply Wk.ld (i := 3) 1 false ty4 rfl rfl (by conv => lhs; whnf) (lt_of_ble rfl)
  apply Wk.gon 52 rfl rfl
  apply Wk.bin rfl rfl (r := .bool true) (fun w => by simp [go_sem]) (lt_of_ble rfl)
  apply Wk.pckT rfl (by conv => lhs; whnf) (lt_of_ble rfl)
  apply Wk.mv (by conv => lhs; whnf) (lt_of_ble rfl)
  apply Wk.gon 59 rfl rfl
  apply Wk.fad 8 0 false fd27_8 rfl (lt_of_ble rfl)
  apply Wk.gon 59 rfl rfl
  apply Wk.ld (i := 2) 1 false ty3 rfl rfl (by conv => lhs; whnf) (lt_of_ble rfl)
  apply Wk.gon 59 rfl rfl
  apply Wk.fad 8 0 false fd27_8 rfl (lt_of_ble rfl)
  apply Wk.gon 59 rfl rfl
  apply Wk.ld (i := 3) 1 false ty3 rfl rfl (by conv => lhs; whnf) (lt_of_ble rfl)
  apply Wk.gon 59 rfl rfl
  apply Wk.bin rfl rfl (r := .bool true) (fun w => by simp [go_sem]) (lt_of_ble rfl)
  apply Wk.pckT rfl (by conv => lhs; whnf) (lt_of_ble rfl)
  apply Wk.mv (by conv => lhs; whnf) (lt_of_ble rfl)
  apply Wk.gon 66 rfl rfl
  apply Wk.fad 9 0 false fd27_9 rfl (lt_of_ble rfl)
  apply Wk.gon 66 rfl rfl
  apply Wk.ld (i := 2) 1 false ty4 rfl rfl (by conv => lhs; whnf) (lt_of_ble rfl)
  apply Wk.gon 66 rfl rfl
  apply Wk.fad 9 0 false fd27_9 rfl (lt_of_ble rfl)
  apply Wk.gon 66 rfl rfl
  apply Wk.ld (i := 3) 1 false ty4 rfl rfl (by conv => lhs; whnf) (lt_of_ble rfl)
  apply Wk.gon 66 rfl rfl
  apply Wk.bin rfl rfl (r := .bool true) (fun w => by simp [go_sem]) (lt_of_ble rfl)
  apply Wk.pckT rfl (by conv => lhs; whnf) (lt_of_ble rfl)
  apply Wk.asg (by conv => lhs; whnf) (lt_of_ble rfl)
  refine Wk.nil (AW.ret ?_)
  exact RetQ.ret [] (.cons rfl .nil) ⟨rfl, rfl⟩ none_kept
end Go.Proofs.Ytdojkmjamilllaa
