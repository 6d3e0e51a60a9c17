/- The law of TxHear (FnTxFinal), promise 30, returns true at every code. Written by tools/mk_WFnTxHear.py. -/
import Derived.Test.YtdojkmjamilllaaMa
import Derived.Test.YtdojkmjamilllaaMb
import Derived.Test.YtdojkmjamilllaaMc
import Derived.Test.YtdojkmjamilllaaMd
import Derived.Test.YtdojkmjamilllaaMe
import Derived.Test.YtdojkmjamilllaaMf
import Derived.Test.YtdojkmjamilllaaMg
import Derived.Test.YtdojkmjamilllaaMh
import Derived.RowKit3
namespace Go.Proofs.Ytdojkmjamilllaa
open Go Go.RowKit

set_option maxHeartbeats 4000000 in
set_option maxRecDepth 100000 in
theorem lawTxFinal_ok (zs : List (Fin 256)) : DataOk Try.prog 7 [.d (bytesD (zs.map (·.val)))] (.d (.v (.bool true))) := by
  refine Spec.intro (n := 95) (rv := [.tmp 2]) Try.func7 rfl rfl rfl (by simp) fun C hN hX => ?_
  refine AW.seq ?_
  apply AW.list
  apply Wk.asg (by conv => lhs; whnf) (lt_of_ble rfl)
  refine Wk.nil ?_
  refine AW.seq (AW.seq ?_)
  apply AW.list
  apply Wk.mv (by conv => lhs; whnf) (lt_of_ble rfl)
  apply Wk.len un22 rfl (lt_of_ble rfl)
  apply Wk.bin rfl rfl (fun w => by simp [go_sem] <;> rfl) (lt_of_ble rfl)
  refine Wk.nil ?_
  refine AW.cond rfl (fun hc => ?_) (fun hc => ?_)
  · refine AW.seq ?_
    apply AW.list
    apply Wk.asg (by conv => lhs; whnf) (lt_of_ble rfl)
    refine Wk.nil (AW.ret ?_)
    refine thenA_ret ?_
    exact RetQ.ret [] (.cons rfl .nil) ⟨rfl, rfl⟩ none_kept
  refine AW.skip (thenA_normal ?_)
  refine AW.seq ?_
  apply AW.list
  apply Wk.mv (by conv => lhs; whnf) (lt_of_ble rfl)
  apply Wk.datw (drawTxHear_ok zs) Try.func30 rfl rfl rfl rfl (lt_of_ble rfl)
  rintro _ ⟨m, w, p, u, y, x, k, sq, ack, pl, fi, sy, g, ln, fs, rfl, hx, hfl⟩
  apply Wk.mv (by conv => lhs; whnf) (lt_of_ble rfl)
  apply Wk.ext rfl rfl (lt_of_ble rfl)
  apply Wk.ext rfl rfl (lt_of_ble rfl)
  apply Wk.ext rfl rfl (lt_of_ble rfl)
  apply Wk.alc 3 [.int .i64 0, .int .i64 0, .int .i64 0, .int .i64 0, .int .i64 0] ze24 rfl rfl (lt_of_ble rfl)
  apply Wk.alc 4 [.int .i64 0, .int .i64 0, .slice none 0 0, .int .i64 0, .slice none 0 0, .bool false, .int .i64 0, .bool false, .int .i64 0, .bool false] ze27 rfl rfl (lt_of_ble rfl)
  apply Wk.alc 5 [.int .i64 0, .int .i64 0, .int .i64 0, .bool false, .bool false, .int .i64 0, .int .i64 0, .int .i64 0, .slice none 0 0] ze42 rfl rfl (lt_of_ble rfl)
  apply Wk.sto (i := 3) 5 true ty24 rfl rfl rfl rfl (Nat.le_of_ble_eq_true rfl) (lt_of_ble rfl)
  apply Wk.sto (i := 4) 10 true ty27 rfl rfl rfl rfl (Nat.le_of_ble_eq_true rfl) (lt_of_ble rfl)
  apply Wk.sto (i := 5) 9 true ty42 rfl rfl rfl rfl (Nat.le_of_ble_eq_true rfl) (lt_of_ble rfl)
  refine Wk.nil ?_
  have hfl2 : fs.length ≤ 2000000 := by omega
  cases hok : txOkB ⟨m, w, p, u, y⟩ x
  · have ci := itxhearNo m w p u y x k sq ack pl fi sy g ln fs hfl2 (.inl hok)
    have cs := stxhearNo m w p u y x k sq ack pl fi sy g ln fs (.inl hok)
    refine AW.seq ?_
    apply AW.list
    apply Wk.ld (i := 3) 5 true ty24 rfl rfl (by conv => lhs; whnf) (lt_of_ble rfl)
    apply Wk.ld (i := 4) 10 true ty27 rfl rfl (by conv => lhs; whnf) (lt_of_ble rfl)
    apply Wk.ld (i := 5) 9 true ty42 rfl rfl (by conv => lhs; whnf) (lt_of_ble rfl)
    apply Wk.dat ci Try.func31 rfl rfl rfl rfl rfl (lt_of_ble rfl)
    apply Wk.alc 6 [.int .i64 0, .int .i64 0, .slice none 0 0, .int .i64 0, .slice none 0 0, .bool false, .int .i64 0, .bool false, .int .i64 0, .bool false] ze27 rfl rfl (lt_of_ble rfl)
    apply Wk.sto (i := 6) 10 true ty27 rfl rfl rfl rfl (Nat.le_of_ble_eq_true rfl) (lt_of_ble rfl)
    refine Wk.nil ?_
    refine AW.seq (AW.seq ?_)
    apply AW.draw (hm := hmix) (cs := _)
    · apply Wk.ld (i := 6) 10 true ty27 rfl rfl (by conv => lhs; whnf) (lt_of_ble rfl)
      apply Wk.ld (i := 3) 5 true ty24 rfl rfl (by conv => lhs; whnf) (lt_of_ble rfl)
      apply Wk.ld (i := 4) 10 true ty27 rfl rfl (by conv => lhs; whnf) (lt_of_ble rfl)
      apply Wk.ld (i := 5) 9 true ty42 rfl rfl (by conv => lhs; whnf) (lt_of_ble rfl)
      apply Wk.dat cs Try.func32 rfl rfl rfl rfl rfl (lt_of_ble rfl)
      apply Wk.dat (liTxE tx0) Try.func16 rfl rfl rfl rfl rfl (lt_of_ble rfl)
      apply Wk.un rfl (fun w => by simp [go_sem] <;> rfl) (lt_of_ble rfl)
      refine Wk.nil ?_
      refine AW.cond rfl (fun hc => by cases hc) (fun _ => AW.skip (thenA_normal ?_))
      refine AW.seq (AW.seq ?_)
      apply AW.list
      apply Wk.ld (i := 3) 5 true ty24 rfl rfl (by conv => lhs; whnf) (lt_of_ble rfl)
      apply Wk.ld (i := 4) 10 true ty27 rfl rfl (by conv => lhs; whnf) (lt_of_ble rfl)
      apply Wk.dat (stxb hok) Try.func18 rfl rfl rfl rfl rfl (lt_of_ble rfl)
      apply Wk.un rfl (fun w => by simp [go_sem] <;> rfl) (lt_of_ble rfl)
      apply Wk.mv (by conv => lhs; whnf) (lt_of_ble rfl)
      apply Wk.goff 31 (ok_load 5 ty42) rfl rfl (by simp)
      apply Wk.goff 31 (ok_datw ((sfrmY (k := k) (s := sq) (c := ack) (p := pl) (f := fi) (y := sy) (g := g) (l := ln) (fs := fs) rfl).w rfl) Try.func33 rfl rfl) rfl rfl (by simp)
      apply Wk.goff 31 (ok_un _ _ _) rfl rfl (by simp)
      apply Wk.pckT rfl (by conv => lhs; whnf) (lt_of_ble rfl)
      apply Wk.mv (by conv => lhs; whnf) (lt_of_ble rfl)
      apply Wk.goff 36 (ok_faddr fd42_0) rfl rfl (by simp)
      apply Wk.goff 36 (ok_load 5 ty3) rfl rfl (by simp)
      apply Wk.goff 36 (ok_bin _ _ _ _ _) rfl rfl (by simp)
      apply Wk.pckT rfl (by conv => lhs; whnf) (lt_of_ble rfl)
      apply Wk.mv (by conv => lhs; whnf) (lt_of_ble rfl)
      apply Wk.goff 41 (ok_faddr fd27_9) rfl rfl (by simp)
      apply Wk.goff 41 (ok_load 6 ty4) rfl rfl (by simp)
      apply Wk.pckT rfl (by conv => lhs; whnf) (lt_of_ble rfl)
      refine Wk.nil ?_
      refine AW.cond rfl (fun _ => ?_) (fun hc => by cases hc)
      refine AW.seq ?_
      apply AW.list
      apply Wk.dat liok_ok Try.func19 rfl rfl rfl rfl rfl (lt_of_ble rfl)
      apply Wk.asg (by conv => lhs; whnf) (lt_of_ble rfl)
      refine Wk.nil (AW.ret ?_)
      repeat (first | refine thenA_ret ?_ | refine inBlockA_ret ?_)
      exact RetQ.ret [] (.cons rfl .nil) ⟨rfl, rfl⟩ none_kept
    · rfl
    · rfl
  cases hfr : frmB k sq ack pl fi sy g ln fs.length
  · have ci := itxhearNo m w p u y x k sq ack pl fi sy g ln fs hfl2 (.inr (by simp [hfr]))
    have cs := stxhearNo m w p u y x k sq ack pl fi sy g ln fs (.inr (.inl hfr))
    refine AW.seq ?_
    apply AW.list
    apply Wk.ld (i := 3) 5 true ty24 rfl rfl (by conv => lhs; whnf) (lt_of_ble rfl)
    apply Wk.ld (i := 4) 10 true ty27 rfl rfl (by conv => lhs; whnf) (lt_of_ble rfl)
    apply Wk.ld (i := 5) 9 true ty42 rfl rfl (by conv => lhs; whnf) (lt_of_ble rfl)
    apply Wk.dat ci Try.func31 rfl rfl rfl rfl rfl (lt_of_ble rfl)
    apply Wk.alc 6 [.int .i64 0, .int .i64 0, .slice none 0 0, .int .i64 0, .slice none 0 0, .bool false, .int .i64 0, .bool false, .int .i64 0, .bool false] ze27 rfl rfl (lt_of_ble rfl)
    apply Wk.sto (i := 6) 10 true ty27 rfl rfl rfl rfl (Nat.le_of_ble_eq_true rfl) (lt_of_ble rfl)
    refine Wk.nil ?_
    refine AW.seq (AW.seq ?_)
    apply AW.draw (hm := hmix) (cs := _)
    · apply Wk.ld (i := 6) 10 true ty27 rfl rfl (by conv => lhs; whnf) (lt_of_ble rfl)
      apply Wk.ld (i := 3) 5 true ty24 rfl rfl (by conv => lhs; whnf) (lt_of_ble rfl)
      apply Wk.ld (i := 4) 10 true ty27 rfl rfl (by conv => lhs; whnf) (lt_of_ble rfl)
      apply Wk.ld (i := 5) 9 true ty42 rfl rfl (by conv => lhs; whnf) (lt_of_ble rfl)
      apply Wk.dat cs Try.func32 rfl rfl rfl rfl rfl (lt_of_ble rfl)
      apply Wk.dat (liTxE tx0) Try.func16 rfl rfl rfl rfl rfl (lt_of_ble rfl)
      apply Wk.un rfl (fun w => by simp [go_sem] <;> rfl) (lt_of_ble rfl)
      refine Wk.nil ?_
      refine AW.cond rfl (fun hc => by cases hc) (fun _ => AW.skip (thenA_normal ?_))
      refine AW.seq (AW.seq ?_)
      apply AW.list
      apply Wk.ld (i := 3) 5 true ty24 rfl rfl (by conv => lhs; whnf) (lt_of_ble rfl)
      apply Wk.ld (i := 4) 10 true ty27 rfl rfl (by conv => lhs; whnf) (lt_of_ble rfl)
      apply Wk.dat (stxb hok) Try.func18 rfl rfl rfl rfl rfl (lt_of_ble rfl)
      apply Wk.un rfl (fun w => by simp [go_sem] <;> rfl) (lt_of_ble rfl)
      apply Wk.mv (by conv => lhs; whnf) (lt_of_ble rfl)
      apply Wk.gon 31 rfl rfl
      apply Wk.ld (i := 5) 9 true ty42 rfl rfl (by conv => lhs; whnf) (lt_of_ble rfl)
      apply Wk.gon 31 rfl rfl
      apply Wk.dat (sfrmY hfr) Try.func33 rfl rfl rfl rfl rfl (lt_of_ble rfl)
      apply Wk.gon 31 rfl rfl
      apply Wk.un rfl (fun w => by simp [go_sem] <;> rfl) (lt_of_ble rfl)
      apply Wk.pckF rfl (by conv => lhs; whnf) (lt_of_ble rfl)
      apply Wk.mv (by conv => lhs; whnf) (lt_of_ble rfl)
      apply Wk.goff 36 (ok_faddr fd42_0) rfl rfl (by simp)
      apply Wk.goff 36 (ok_load 5 ty3) rfl rfl (by simp)
      apply Wk.goff 36 (ok_bin _ _ _ _ _) rfl rfl (by simp)
      apply Wk.pckT rfl (by conv => lhs; whnf) (lt_of_ble rfl)
      apply Wk.mv (by conv => lhs; whnf) (lt_of_ble rfl)
      apply Wk.goff 41 (ok_faddr fd27_9) rfl rfl (by simp)
      apply Wk.goff 41 (ok_load 6 ty4) rfl rfl (by simp)
      apply Wk.pckT rfl (by conv => lhs; whnf) (lt_of_ble rfl)
      refine Wk.nil ?_
      refine AW.cond rfl (fun _ => ?_) (fun hc => by cases hc)
      refine AW.seq ?_
      apply AW.list
      apply Wk.dat liok_ok Try.func19 rfl rfl rfl rfl rfl (lt_of_ble rfl)
      apply Wk.asg (by conv => lhs; whnf) (lt_of_ble rfl)
      refine Wk.nil (AW.ret ?_)
      repeat (first | refine thenA_ret ?_ | refine inBlockA_ret ?_)
      exact RetQ.ret [] (.cons rfl .nil) ⟨rfl, rfl⟩ none_kept
    · rfl
    · rfl
  by_cases hk3 : 3 ≤ k
  · have hk1 : k ≠ 1 := by omega
    have hk2 : k ≠ 2 := by omega
    have ci := itxhearNo m w p u y x k sq ack pl fi sy g ln fs hfl2 (.inr (by simp [hk1, hk2]))
    have cs := stxhearNo m w p u y x k sq ack pl fi sy g ln fs (.inr (.inr ⟨hk1, hk2⟩))
    refine AW.seq ?_
    apply AW.list
    apply Wk.ld (i := 3) 5 true ty24 rfl rfl (by conv => lhs; whnf) (lt_of_ble rfl)
    apply Wk.ld (i := 4) 10 true ty27 rfl rfl (by conv => lhs; whnf) (lt_of_ble rfl)
    apply Wk.ld (i := 5) 9 true ty42 rfl rfl (by conv => lhs; whnf) (lt_of_ble rfl)
    apply Wk.dat ci Try.func31 rfl rfl rfl rfl rfl (lt_of_ble rfl)
    apply Wk.alc 6 [.int .i64 0, .int .i64 0, .slice none 0 0, .int .i64 0, .slice none 0 0, .bool false, .int .i64 0, .bool false, .int .i64 0, .bool false] ze27 rfl rfl (lt_of_ble rfl)
    apply Wk.sto (i := 6) 10 true ty27 rfl rfl rfl rfl (Nat.le_of_ble_eq_true rfl) (lt_of_ble rfl)
    refine Wk.nil ?_
    refine AW.seq (AW.seq ?_)
    apply AW.draw (hm := hmix) (cs := _)
    · apply Wk.ld (i := 6) 10 true ty27 rfl rfl (by conv => lhs; whnf) (lt_of_ble rfl)
      apply Wk.ld (i := 3) 5 true ty24 rfl rfl (by conv => lhs; whnf) (lt_of_ble rfl)
      apply Wk.ld (i := 4) 10 true ty27 rfl rfl (by conv => lhs; whnf) (lt_of_ble rfl)
      apply Wk.ld (i := 5) 9 true ty42 rfl rfl (by conv => lhs; whnf) (lt_of_ble rfl)
      apply Wk.dat cs Try.func32 rfl rfl rfl rfl rfl (lt_of_ble rfl)
      apply Wk.dat (liTxE tx0) Try.func16 rfl rfl rfl rfl rfl (lt_of_ble rfl)
      apply Wk.un rfl (fun w => by simp [go_sem] <;> rfl) (lt_of_ble rfl)
      refine Wk.nil ?_
      refine AW.cond rfl (fun hc => by cases hc) (fun _ => AW.skip (thenA_normal ?_))
      refine AW.seq (AW.seq ?_)
      apply AW.list
      apply Wk.ld (i := 3) 5 true ty24 rfl rfl (by conv => lhs; whnf) (lt_of_ble rfl)
      apply Wk.ld (i := 4) 10 true ty27 rfl rfl (by conv => lhs; whnf) (lt_of_ble rfl)
      apply Wk.dat (stxb hok) Try.func18 rfl rfl rfl rfl rfl (lt_of_ble rfl)
      apply Wk.un rfl (fun w => by simp [go_sem] <;> rfl) (lt_of_ble rfl)
      apply Wk.mv (by conv => lhs; whnf) (lt_of_ble rfl)
      apply Wk.gon 31 rfl rfl
      apply Wk.ld (i := 5) 9 true ty42 rfl rfl (by conv => lhs; whnf) (lt_of_ble rfl)
      apply Wk.gon 31 rfl rfl
      apply Wk.dat (sfrmY hfr) Try.func33 rfl rfl rfl rfl rfl (lt_of_ble rfl)
      apply Wk.gon 31 rfl rfl
      apply Wk.un rfl (fun w => by simp [go_sem] <;> rfl) (lt_of_ble rfl)
      apply Wk.pckF rfl (by conv => lhs; whnf) (lt_of_ble rfl)
      apply Wk.mv (by conv => lhs; whnf) (lt_of_ble rfl)
      apply Wk.gon 36 rfl rfl
      apply Wk.fad 0 0 false fd42_0 rfl (lt_of_ble rfl)
      apply Wk.gon 36 rfl rfl
      apply Wk.ld (i := 5) 1 false ty3 rfl rfl (by conv => lhs; whnf) (lt_of_ble rfl)
      apply Wk.gon 36 rfl rfl
      apply Wk.bin rfl rfl (r := .bool true) (fun w => by simp [go_sem] <;> omega) (lt_of_ble rfl)
      apply Wk.pckF rfl (by conv => lhs; whnf) (lt_of_ble rfl)
      apply Wk.mv (by conv => lhs; whnf) (lt_of_ble rfl)
      apply Wk.goff 41 (ok_faddr fd27_9) rfl rfl (by simp)
      apply Wk.goff 41 (ok_load 6 ty4) rfl rfl (by simp)
      apply Wk.pckT rfl (by conv => lhs; whnf) (lt_of_ble rfl)
      refine Wk.nil ?_
      refine AW.cond rfl (fun _ => ?_) (fun hc => by cases hc)
      refine AW.seq ?_
      apply AW.list
      apply Wk.dat liok_ok Try.func19 rfl rfl rfl rfl rfl (lt_of_ble rfl)
      apply Wk.asg (by conv => lhs; whnf) (lt_of_ble rfl)
      refine Wk.nil (AW.ret ?_)
      repeat (first | refine thenA_ret ?_ | refine inBlockA_ret ?_)
      exact RetQ.ret [] (.cons rfl .nil) ⟨rfl, rfl⟩ none_kept
    · rfl
    · rfl
  have hk : k = 1 ∨ k = 2 := by
    have h := hfr
    simp only [frmB, decide_eq_true_eq] at h
    omega
  have ci := itxhear_ok m w p u y x k sq ack pl fi sy g ln fs hfl2 hok hk hfr
  have cs := stxhear_ok m w p u y x k sq ack pl fi sy g ln fs hok hk hfr
  have f := txOk_facts hok
  have h4 := (txOk_four hok).1
  have hn := txOk_next hok
  have hack := frm_ack hfr
  have hq := f.2.2.2.2.2.2.2.2.2.2.1
  have hs0 := f.2.2.2.2.2.2.2.2.2.1
  have hc0 := f.2.2.2.2.2.2.2.2.2.2.2.2.1
  have hcw := hx.2.2.2.2.2.2
  obtain ⟨n, a, fl, s, qu, q, t, hh, c, dd⟩ := x
  simp only at h4 hn hq hs0 hc0 hcw
  cases dd
  case true =>
    have hX : hearX ⟨n, a, fl, s, qu, q, t, hh, c, true⟩ k ack fi sy = ⟨n, a, fl, s, qu, q, t, hh, c, true⟩ := if_pos rfl
    rw [hX] at ci cs
    clear hX
    refine AW.seq ?_
    apply AW.list
    apply Wk.ld (i := 3) 5 true ty24 rfl rfl (by conv => lhs; whnf) (lt_of_ble rfl)
    apply Wk.ld (i := 4) 10 true ty27 rfl rfl (by conv => lhs; whnf) (lt_of_ble rfl)
    apply Wk.ld (i := 5) 9 true ty42 rfl rfl (by conv => lhs; whnf) (lt_of_ble rfl)
    apply Wk.dat ci Try.func31 rfl rfl rfl rfl rfl (lt_of_ble rfl)
    apply Wk.alc 6 [.int .i64 0, .int .i64 0, .slice none 0 0, .int .i64 0, .slice none 0 0, .bool false, .int .i64 0, .bool false, .int .i64 0, .bool false] ze27 rfl rfl (lt_of_ble rfl)
    apply Wk.sto (i := 6) 10 true ty27 rfl rfl rfl rfl (Nat.le_of_ble_eq_true rfl) (lt_of_ble rfl)
    refine Wk.nil ?_
    refine AW.seq (AW.seq ?_)
    apply AW.draw (hm := hmix) (cs := _)
    · apply Wk.ld (i := 6) 10 true ty27 rfl rfl (by conv => lhs; whnf) (lt_of_ble rfl)
      apply Wk.ld (i := 3) 5 true ty24 rfl rfl (by conv => lhs; whnf) (lt_of_ble rfl)
      apply Wk.ld (i := 4) 10 true ty27 rfl rfl (by conv => lhs; whnf) (lt_of_ble rfl)
      apply Wk.ld (i := 5) 9 true ty42 rfl rfl (by conv => lhs; whnf) (lt_of_ble rfl)
      apply Wk.dat cs Try.func32 rfl rfl rfl rfl rfl (lt_of_ble rfl)
      apply Wk.dat (liTxE _) Try.func16 rfl rfl rfl rfl rfl (lt_of_ble rfl)
      apply Wk.un rfl (fun w => by simp [go_sem] <;> rfl) (lt_of_ble rfl)
      refine Wk.nil ?_
      refine AW.cond rfl (fun hc => by cases hc) (fun _ => AW.skip (thenA_normal ?_))
      refine AW.seq (AW.seq ?_)
      apply AW.list
      apply Wk.ld (i := 3) 5 true ty24 rfl rfl (by conv => lhs; whnf) (lt_of_ble rfl)
      apply Wk.ld (i := 4) 10 true ty27 rfl rfl (by conv => lhs; whnf) (lt_of_ble rfl)
      apply Wk.dat (stxb hok) Try.func18 rfl rfl rfl rfl rfl (lt_of_ble rfl)
      apply Wk.un rfl (fun w => by simp [go_sem] <;> rfl) (lt_of_ble rfl)
      apply Wk.mv (by conv => lhs; whnf) (lt_of_ble rfl)
      apply Wk.gon 31 rfl rfl
      apply Wk.ld (i := 5) 9 true ty42 rfl rfl (by conv => lhs; whnf) (lt_of_ble rfl)
      apply Wk.gon 31 rfl rfl
      apply Wk.dat (sfrmY hfr) Try.func33 rfl rfl rfl rfl rfl (lt_of_ble rfl)
      apply Wk.gon 31 rfl rfl
      apply Wk.un rfl (fun w => by simp [go_sem] <;> rfl) (lt_of_ble rfl)
      apply Wk.pckF rfl (by conv => lhs; whnf) (lt_of_ble rfl)
      apply Wk.mv (by conv => lhs; whnf) (lt_of_ble rfl)
      apply Wk.gon 36 rfl rfl
      apply Wk.fad 0 0 false fd42_0 rfl (lt_of_ble rfl)
      apply Wk.gon 36 rfl rfl
      apply Wk.ld (i := 5) 1 false ty3 rfl rfl (by conv => lhs; whnf) (lt_of_ble rfl)
      apply Wk.gon 36 rfl rfl
      apply Wk.bin rfl rfl (r := .bool false) (fun w => by simp [go_sem] <;> omega) (lt_of_ble rfl)
      apply Wk.pckF rfl (by conv => lhs; whnf) (lt_of_ble rfl)
      apply Wk.mv (by conv => lhs; whnf) (lt_of_ble rfl)
      apply Wk.gon 41 rfl rfl
      apply Wk.fad 9 0 false fd27_9 rfl (lt_of_ble rfl)
      apply Wk.gon 41 rfl rfl
      apply Wk.ld (i := 6) 1 false ty4 rfl rfl (by conv => lhs; whnf) (lt_of_ble rfl)
      apply Wk.pckF rfl (by conv => lhs; whnf) (lt_of_ble rfl)
      refine Wk.nil ?_
      refine AW.cond rfl (fun _ => ?_) (fun hc => by cases hc)
      refine AW.seq ?_
      apply AW.list
      apply Wk.dat liok_ok Try.func19 rfl rfl rfl rfl rfl (lt_of_ble rfl)
      apply Wk.asg (by conv => lhs; whnf) (lt_of_ble rfl)
      refine Wk.nil (AW.ret ?_)
      repeat (first | refine thenA_ret ?_ | refine inBlockA_ret ?_)
      exact RetQ.ret [] (.cons rfl .nil) ⟨rfl, rfl⟩ none_kept
    · rfl
    · rfl
  case false =>
    have hfar : farF a ack = (ack - a) % 8 := farF_in (by omega) (by omega)
    obtain ⟨j, hj⟩ : ∃ j : Nat, (ack - a) % 8 = (j : Int) := ⟨((ack - a) % 8).toNat, by omega⟩
    by_cases ho : (j : Int) ≤ (fl.length : Int)
    · have hX := hearX_far n a fl s qu q t hh c k ack fi sy j (hfar.trans hj) ho hk
      rw [hX] at ci cs
      clear hX
      generalize max 0 (s - (j : Int)) = s1 at ci cs
      rcases hk with rfl | rfl
      · cases fi <;> cases q
        · skip
          have e : rest3 1 sy false s1 false t hh = (s1, false, t, hh) := by simp [rest3]
          rw [e] at ci cs
          simp only at ci cs
          refine AW.seq ?_
          apply AW.list
          apply Wk.ld (i := 3) 5 true ty24 rfl rfl (by conv => lhs; whnf) (lt_of_ble rfl)
          apply Wk.ld (i := 4) 10 true ty27 rfl rfl (by conv => lhs; whnf) (lt_of_ble rfl)
          apply Wk.ld (i := 5) 9 true ty42 rfl rfl (by conv => lhs; whnf) (lt_of_ble rfl)
          apply Wk.dat ci Try.func31 rfl rfl rfl rfl rfl (lt_of_ble rfl)
          apply Wk.alc 6 [.int .i64 0, .int .i64 0, .slice none 0 0, .int .i64 0, .slice none 0 0, .bool false, .int .i64 0, .bool false, .int .i64 0, .bool false] ze27 rfl rfl (lt_of_ble rfl)
          apply Wk.sto (i := 6) 10 true ty27 rfl rfl rfl rfl (Nat.le_of_ble_eq_true rfl) (lt_of_ble rfl)
          refine Wk.nil ?_
          refine AW.seq (AW.seq ?_)
          apply AW.draw (hm := hmix) (cs := _)
          · apply Wk.ld (i := 6) 10 true ty27 rfl rfl (by conv => lhs; whnf) (lt_of_ble rfl)
            apply Wk.ld (i := 3) 5 true ty24 rfl rfl (by conv => lhs; whnf) (lt_of_ble rfl)
            apply Wk.ld (i := 4) 10 true ty27 rfl rfl (by conv => lhs; whnf) (lt_of_ble rfl)
            apply Wk.ld (i := 5) 9 true ty42 rfl rfl (by conv => lhs; whnf) (lt_of_ble rfl)
            apply Wk.dat cs Try.func32 rfl rfl rfl rfl rfl (lt_of_ble rfl)
            apply Wk.dat (liTxE _) Try.func16 rfl rfl rfl rfl rfl (lt_of_ble rfl)
            apply Wk.un rfl (fun w => by simp [go_sem] <;> rfl) (lt_of_ble rfl)
            refine Wk.nil ?_
            refine AW.cond rfl (fun hc => by cases hc) (fun _ => AW.skip (thenA_normal ?_))
            refine AW.seq (AW.seq ?_)
            apply AW.list
            apply Wk.ld (i := 3) 5 true ty24 rfl rfl (by conv => lhs; whnf) (lt_of_ble rfl)
            apply Wk.ld (i := 4) 10 true ty27 rfl rfl (by conv => lhs; whnf) (lt_of_ble rfl)
            apply Wk.dat (stxb hok) Try.func18 rfl rfl rfl rfl rfl (lt_of_ble rfl)
            apply Wk.un rfl (fun w => by simp [go_sem] <;> rfl) (lt_of_ble rfl)
            apply Wk.mv (by conv => lhs; whnf) (lt_of_ble rfl)
            apply Wk.gon 31 rfl rfl
            apply Wk.ld (i := 5) 9 true ty42 rfl rfl (by conv => lhs; whnf) (lt_of_ble rfl)
            apply Wk.gon 31 rfl rfl
            apply Wk.dat (sfrmY hfr) Try.func33 rfl rfl rfl rfl rfl (lt_of_ble rfl)
            apply Wk.gon 31 rfl rfl
            apply Wk.un rfl (fun w => by simp [go_sem] <;> rfl) (lt_of_ble rfl)
            apply Wk.pckF rfl (by conv => lhs; whnf) (lt_of_ble rfl)
            apply Wk.mv (by conv => lhs; whnf) (lt_of_ble rfl)
            apply Wk.gon 36 rfl rfl
            apply Wk.fad 0 0 false fd42_0 rfl (lt_of_ble rfl)
            apply Wk.gon 36 rfl rfl
            apply Wk.ld (i := 5) 1 false ty3 rfl rfl (by conv => lhs; whnf) (lt_of_ble rfl)
            apply Wk.gon 36 rfl rfl
            apply Wk.bin rfl rfl (r := .bool false) (fun w => by simp [go_sem] <;> omega) (lt_of_ble rfl)
            apply Wk.pckF rfl (by conv => lhs; whnf) (lt_of_ble rfl)
            apply Wk.mv (by conv => lhs; whnf) (lt_of_ble rfl)
            apply Wk.gon 41 rfl rfl
            apply Wk.fad 9 0 false fd27_9 rfl (lt_of_ble rfl)
            apply Wk.gon 41 rfl rfl
            apply Wk.ld (i := 6) 1 false ty4 rfl rfl (by conv => lhs; whnf) (lt_of_ble rfl)
            apply Wk.pckF rfl (by conv => lhs; whnf) (lt_of_ble rfl)
            refine Wk.nil ?_
            refine AW.cond rfl (fun hc => by cases hc) (fun _ => AW.skip (thenA_normal ?_))
            refine AW.seq (AW.seq ?_)
            apply AW.list
            apply Wk.fad 5 0 false fd27_5 rfl (lt_of_ble rfl)
            apply Wk.ld (i := 4) 1 false ty4 rfl rfl (by conv => lhs; whnf) (lt_of_ble rfl)
            refine Wk.nil ?_
            refine AW.cond rfl (fun hc => by cases hc) (fun _ => AW.skip (thenA_normal ?_))
            refine AW.seq (AW.seq ?_)
            apply AW.list
            apply Wk.fad 0 0 false fd42_0 rfl (lt_of_ble rfl)
            apply Wk.ld (i := 5) 1 false ty3 rfl rfl (by conv => lhs; whnf) (lt_of_ble rfl)
            apply Wk.bin rfl rfl (r := .bool false) (fun w => by simp [go_sem]) (lt_of_ble rfl)
            apply Wk.mv (by conv => lhs; whnf) (lt_of_ble rfl)
            apply Wk.goff 72 (ok_faddr fd42_5) rfl rfl (by simp)
            apply Wk.goff 72 (ok_load 5 ty3) rfl rfl (by simp)
            apply Wk.goff 72 (ok_bin _ _ _ _ _) rfl rfl (by simp)
            apply Wk.pckF rfl (by conv => lhs; whnf) (lt_of_ble rfl)
            refine Wk.nil ?_
            refine AW.cond rfl (fun hc => by cases hc) (fun _ => AW.skip (thenA_normal ?_))
            refine AW.seq ?_
            apply AW.list
            apply Wk.fad 5 0 false fd27_5 rfl (lt_of_ble rfl)
            apply Wk.ld (i := 6) 1 false ty4 rfl rfl (by conv => lhs; whnf) (lt_of_ble rfl)
            apply Wk.un rfl (fun w => by simp [go_sem] <;> rfl) (lt_of_ble rfl)
            apply Wk.mv (by conv => lhs; whnf) (lt_of_ble rfl)
            apply Wk.gon 88 rfl rfl
            apply Wk.fad 6 0 false fd27_6 rfl (lt_of_ble rfl)
            apply Wk.gon 88 rfl rfl
            apply Wk.ld (i := 6) 1 false ty3 rfl rfl (by conv => lhs; whnf) (lt_of_ble rfl)
            apply Wk.gon 88 rfl rfl
            apply Wk.fad 6 0 false fd27_6 rfl (lt_of_ble rfl)
            apply Wk.gon 88 rfl rfl
            apply Wk.ld (i := 4) 1 false ty3 rfl rfl (by conv => lhs; whnf) (lt_of_ble rfl)
            apply Wk.gon 88 rfl rfl
            apply Wk.bin rfl rfl (r := .bool true) (fun w => by simp [go_sem]) (lt_of_ble rfl)
            apply Wk.pckT rfl (by conv => lhs; whnf) (lt_of_ble rfl)
            apply Wk.asg (by conv => lhs; whnf) (lt_of_ble rfl)
            refine Wk.nil (AW.ret ?_)
            repeat (first | refine thenA_ret ?_ | refine inBlockA_ret ?_)
            exact RetQ.ret [] (.cons rfl .nil) ⟨rfl, rfl⟩ none_kept
          · rfl
          · rfl
        · skip
          have e : rest3 1 sy false s1 true t hh = (s1, true, t, hh) := by simp [rest3]
          rw [e] at ci cs
          simp only at ci cs
          refine AW.seq ?_
          apply AW.list
          apply Wk.ld (i := 3) 5 true ty24 rfl rfl (by conv => lhs; whnf) (lt_of_ble rfl)
          apply Wk.ld (i := 4) 10 true ty27 rfl rfl (by conv => lhs; whnf) (lt_of_ble rfl)
          apply Wk.ld (i := 5) 9 true ty42 rfl rfl (by conv => lhs; whnf) (lt_of_ble rfl)
          apply Wk.dat ci Try.func31 rfl rfl rfl rfl rfl (lt_of_ble rfl)
          apply Wk.alc 6 [.int .i64 0, .int .i64 0, .slice none 0 0, .int .i64 0, .slice none 0 0, .bool false, .int .i64 0, .bool false, .int .i64 0, .bool false] ze27 rfl rfl (lt_of_ble rfl)
          apply Wk.sto (i := 6) 10 true ty27 rfl rfl rfl rfl (Nat.le_of_ble_eq_true rfl) (lt_of_ble rfl)
          refine Wk.nil ?_
          refine AW.seq (AW.seq ?_)
          apply AW.draw (hm := hmix) (cs := _)
          · apply Wk.ld (i := 6) 10 true ty27 rfl rfl (by conv => lhs; whnf) (lt_of_ble rfl)
            apply Wk.ld (i := 3) 5 true ty24 rfl rfl (by conv => lhs; whnf) (lt_of_ble rfl)
            apply Wk.ld (i := 4) 10 true ty27 rfl rfl (by conv => lhs; whnf) (lt_of_ble rfl)
            apply Wk.ld (i := 5) 9 true ty42 rfl rfl (by conv => lhs; whnf) (lt_of_ble rfl)
            apply Wk.dat cs Try.func32 rfl rfl rfl rfl rfl (lt_of_ble rfl)
            apply Wk.dat (liTxE _) Try.func16 rfl rfl rfl rfl rfl (lt_of_ble rfl)
            apply Wk.un rfl (fun w => by simp [go_sem] <;> rfl) (lt_of_ble rfl)
            refine Wk.nil ?_
            refine AW.cond rfl (fun hc => by cases hc) (fun _ => AW.skip (thenA_normal ?_))
            refine AW.seq (AW.seq ?_)
            apply AW.list
            apply Wk.ld (i := 3) 5 true ty24 rfl rfl (by conv => lhs; whnf) (lt_of_ble rfl)
            apply Wk.ld (i := 4) 10 true ty27 rfl rfl (by conv => lhs; whnf) (lt_of_ble rfl)
            apply Wk.dat (stxb hok) Try.func18 rfl rfl rfl rfl rfl (lt_of_ble rfl)
            apply Wk.un rfl (fun w => by simp [go_sem] <;> rfl) (lt_of_ble rfl)
            apply Wk.mv (by conv => lhs; whnf) (lt_of_ble rfl)
            apply Wk.gon 31 rfl rfl
            apply Wk.ld (i := 5) 9 true ty42 rfl rfl (by conv => lhs; whnf) (lt_of_ble rfl)
            apply Wk.gon 31 rfl rfl
            apply Wk.dat (sfrmY hfr) Try.func33 rfl rfl rfl rfl rfl (lt_of_ble rfl)
            apply Wk.gon 31 rfl rfl
            apply Wk.un rfl (fun w => by simp [go_sem] <;> rfl) (lt_of_ble rfl)
            apply Wk.pckF rfl (by conv => lhs; whnf) (lt_of_ble rfl)
            apply Wk.mv (by conv => lhs; whnf) (lt_of_ble rfl)
            apply Wk.gon 36 rfl rfl
            apply Wk.fad 0 0 false fd42_0 rfl (lt_of_ble rfl)
            apply Wk.gon 36 rfl rfl
            apply Wk.ld (i := 5) 1 false ty3 rfl rfl (by conv => lhs; whnf) (lt_of_ble rfl)
            apply Wk.gon 36 rfl rfl
            apply Wk.bin rfl rfl (r := .bool false) (fun w => by simp [go_sem] <;> omega) (lt_of_ble rfl)
            apply Wk.pckF rfl (by conv => lhs; whnf) (lt_of_ble rfl)
            apply Wk.mv (by conv => lhs; whnf) (lt_of_ble rfl)
            apply Wk.gon 41 rfl rfl
            apply Wk.fad 9 0 false fd27_9 rfl (lt_of_ble rfl)
            apply Wk.gon 41 rfl rfl
            apply Wk.ld (i := 6) 1 false ty4 rfl rfl (by conv => lhs; whnf) (lt_of_ble rfl)
            apply Wk.pckF rfl (by conv => lhs; whnf) (lt_of_ble rfl)
            refine Wk.nil ?_
            refine AW.cond rfl (fun hc => by cases hc) (fun _ => AW.skip (thenA_normal ?_))
            refine AW.seq (AW.seq ?_)
            apply AW.list
            apply Wk.fad 5 0 false fd27_5 rfl (lt_of_ble rfl)
            apply Wk.ld (i := 4) 1 false ty4 rfl rfl (by conv => lhs; whnf) (lt_of_ble rfl)
            refine Wk.nil ?_
            refine AW.cond rfl (fun _ => ?_) (fun hc => by cases hc)
            refine AW.seq ?_
            apply AW.list
            apply Wk.fad 5 0 false fd27_5 rfl (lt_of_ble rfl)
            apply Wk.ld (i := 6) 1 false ty4 rfl rfl (by conv => lhs; whnf) (lt_of_ble rfl)
            apply Wk.fad 4 0 false fd42_4 rfl (lt_of_ble rfl)
            apply Wk.ld (i := 5) 1 false ty4 rfl rfl (by conv => lhs; whnf) (lt_of_ble rfl)
            apply Wk.un rfl (fun w => by simp [go_sem] <;> rfl) (lt_of_ble rfl)
            apply Wk.bin rfl rfl (r := .bool true) (fun w => by simp [go_sem]) (lt_of_ble rfl)
            apply Wk.mv (by conv => lhs; whnf) (lt_of_ble rfl)
            apply Wk.gon 54 rfl rfl
            apply Wk.fad 4 0 false fd42_4 rfl (lt_of_ble rfl)
            apply Wk.gon 54 rfl rfl
            apply Wk.ld (i := 5) 1 false ty4 rfl rfl (by conv => lhs; whnf) (lt_of_ble rfl)
            apply Wk.gon 54 rfl rfl
            apply Wk.un rfl (fun w => by simp [go_sem] <;> rfl) (lt_of_ble rfl)
            apply Wk.gon 54 rfl rfl
            apply Wk.mv (by conv => lhs; whnf) (lt_of_ble rfl)
            apply Wk.goff 58 (ok_faddr fd27_3) rfl rfl (by simp)
            apply Wk.goff 58 (ok_load 6 ty3) rfl rfl (by simp)
            apply Wk.goff 58 (ok_bin _ _ _ _ _) rfl rfl (by simp)
            apply Wk.goff 58 (ok_move _) rfl rfl (by simp)
            apply Wk.goffu 62 (ok_faddr fd27_6) rfl rfl
            apply Wk.goffu 62 (ok_load 6 ty3) rfl rfl
            apply Wk.goffu 62 (ok_bin _ _ _ _ _) rfl rfl
            apply Wk.goff 58 (ok_pick _ _ _) rfl rfl (by simp)
            apply Wk.gon 54 rfl rfl
            apply Wk.pckT rfl (by conv => lhs; whnf) (lt_of_ble rfl)
            apply Wk.pckT rfl (by conv => lhs; whnf) (lt_of_ble rfl)
            apply Wk.asg (by conv => lhs; whnf) (lt_of_ble rfl)
            refine Wk.nil (AW.ret ?_)
            repeat (first | refine thenA_ret ?_ | refine inBlockA_ret ?_)
            exact RetQ.ret [] (.cons rfl .nil) ⟨rfl, rfl⟩ none_kept
          · rfl
          · rfl
        · skip
          have e : rest3 1 sy true s1 false t hh = (s1, false, t, hh) := by simp [rest3]
          rw [e] at ci cs
          simp only at ci cs
          refine AW.seq ?_
          apply AW.list
          apply Wk.ld (i := 3) 5 true ty24 rfl rfl (by conv => lhs; whnf) (lt_of_ble rfl)
          apply Wk.ld (i := 4) 10 true ty27 rfl rfl (by conv => lhs; whnf) (lt_of_ble rfl)
          apply Wk.ld (i := 5) 9 true ty42 rfl rfl (by conv => lhs; whnf) (lt_of_ble rfl)
          apply Wk.dat ci Try.func31 rfl rfl rfl rfl rfl (lt_of_ble rfl)
          apply Wk.alc 6 [.int .i64 0, .int .i64 0, .slice none 0 0, .int .i64 0, .slice none 0 0, .bool false, .int .i64 0, .bool false, .int .i64 0, .bool false] ze27 rfl rfl (lt_of_ble rfl)
          apply Wk.sto (i := 6) 10 true ty27 rfl rfl rfl rfl (Nat.le_of_ble_eq_true rfl) (lt_of_ble rfl)
          refine Wk.nil ?_
          refine AW.seq (AW.seq ?_)
          apply AW.draw (hm := hmix) (cs := _)
          · apply Wk.ld (i := 6) 10 true ty27 rfl rfl (by conv => lhs; whnf) (lt_of_ble rfl)
            apply Wk.ld (i := 3) 5 true ty24 rfl rfl (by conv => lhs; whnf) (lt_of_ble rfl)
            apply Wk.ld (i := 4) 10 true ty27 rfl rfl (by conv => lhs; whnf) (lt_of_ble rfl)
            apply Wk.ld (i := 5) 9 true ty42 rfl rfl (by conv => lhs; whnf) (lt_of_ble rfl)
            apply Wk.dat cs Try.func32 rfl rfl rfl rfl rfl (lt_of_ble rfl)
            apply Wk.dat (liTxE _) Try.func16 rfl rfl rfl rfl rfl (lt_of_ble rfl)
            apply Wk.un rfl (fun w => by simp [go_sem] <;> rfl) (lt_of_ble rfl)
            refine Wk.nil ?_
            refine AW.cond rfl (fun hc => by cases hc) (fun _ => AW.skip (thenA_normal ?_))
            refine AW.seq (AW.seq ?_)
            apply AW.list
            apply Wk.ld (i := 3) 5 true ty24 rfl rfl (by conv => lhs; whnf) (lt_of_ble rfl)
            apply Wk.ld (i := 4) 10 true ty27 rfl rfl (by conv => lhs; whnf) (lt_of_ble rfl)
            apply Wk.dat (stxb hok) Try.func18 rfl rfl rfl rfl rfl (lt_of_ble rfl)
            apply Wk.un rfl (fun w => by simp [go_sem] <;> rfl) (lt_of_ble rfl)
            apply Wk.mv (by conv => lhs; whnf) (lt_of_ble rfl)
            apply Wk.gon 31 rfl rfl
            apply Wk.ld (i := 5) 9 true ty42 rfl rfl (by conv => lhs; whnf) (lt_of_ble rfl)
            apply Wk.gon 31 rfl rfl
            apply Wk.dat (sfrmY hfr) Try.func33 rfl rfl rfl rfl rfl (lt_of_ble rfl)
            apply Wk.gon 31 rfl rfl
            apply Wk.un rfl (fun w => by simp [go_sem] <;> rfl) (lt_of_ble rfl)
            apply Wk.pckF rfl (by conv => lhs; whnf) (lt_of_ble rfl)
            apply Wk.mv (by conv => lhs; whnf) (lt_of_ble rfl)
            apply Wk.gon 36 rfl rfl
            apply Wk.fad 0 0 false fd42_0 rfl (lt_of_ble rfl)
            apply Wk.gon 36 rfl rfl
            apply Wk.ld (i := 5) 1 false ty3 rfl rfl (by conv => lhs; whnf) (lt_of_ble rfl)
            apply Wk.gon 36 rfl rfl
            apply Wk.bin rfl rfl (r := .bool false) (fun w => by simp [go_sem] <;> omega) (lt_of_ble rfl)
            apply Wk.pckF rfl (by conv => lhs; whnf) (lt_of_ble rfl)
            apply Wk.mv (by conv => lhs; whnf) (lt_of_ble rfl)
            apply Wk.gon 41 rfl rfl
            apply Wk.fad 9 0 false fd27_9 rfl (lt_of_ble rfl)
            apply Wk.gon 41 rfl rfl
            apply Wk.ld (i := 6) 1 false ty4 rfl rfl (by conv => lhs; whnf) (lt_of_ble rfl)
            apply Wk.pckF rfl (by conv => lhs; whnf) (lt_of_ble rfl)
            refine Wk.nil ?_
            refine AW.cond rfl (fun hc => by cases hc) (fun _ => AW.skip (thenA_normal ?_))
            refine AW.seq (AW.seq ?_)
            apply AW.list
            apply Wk.fad 5 0 false fd27_5 rfl (lt_of_ble rfl)
            apply Wk.ld (i := 4) 1 false ty4 rfl rfl (by conv => lhs; whnf) (lt_of_ble rfl)
            refine Wk.nil ?_
            refine AW.cond rfl (fun hc => by cases hc) (fun _ => AW.skip (thenA_normal ?_))
            refine AW.seq (AW.seq ?_)
            apply AW.list
            apply Wk.fad 0 0 false fd42_0 rfl (lt_of_ble rfl)
            apply Wk.ld (i := 5) 1 false ty3 rfl rfl (by conv => lhs; whnf) (lt_of_ble rfl)
            apply Wk.bin rfl rfl (r := .bool false) (fun w => by simp [go_sem]) (lt_of_ble rfl)
            apply Wk.mv (by conv => lhs; whnf) (lt_of_ble rfl)
            apply Wk.goff 72 (ok_faddr fd42_5) rfl rfl (by simp)
            apply Wk.goff 72 (ok_load 5 ty3) rfl rfl (by simp)
            apply Wk.goff 72 (ok_bin _ _ _ _ _) rfl rfl (by simp)
            apply Wk.pckF rfl (by conv => lhs; whnf) (lt_of_ble rfl)
            refine Wk.nil ?_
            refine AW.cond rfl (fun hc => by cases hc) (fun _ => AW.skip (thenA_normal ?_))
            refine AW.seq ?_
            apply AW.list
            apply Wk.fad 5 0 false fd27_5 rfl (lt_of_ble rfl)
            apply Wk.ld (i := 6) 1 false ty4 rfl rfl (by conv => lhs; whnf) (lt_of_ble rfl)
            apply Wk.un rfl (fun w => by simp [go_sem] <;> rfl) (lt_of_ble rfl)
            apply Wk.mv (by conv => lhs; whnf) (lt_of_ble rfl)
            apply Wk.gon 88 rfl rfl
            apply Wk.fad 6 0 false fd27_6 rfl (lt_of_ble rfl)
            apply Wk.gon 88 rfl rfl
            apply Wk.ld (i := 6) 1 false ty3 rfl rfl (by conv => lhs; whnf) (lt_of_ble rfl)
            apply Wk.gon 88 rfl rfl
            apply Wk.fad 6 0 false fd27_6 rfl (lt_of_ble rfl)
            apply Wk.gon 88 rfl rfl
            apply Wk.ld (i := 4) 1 false ty3 rfl rfl (by conv => lhs; whnf) (lt_of_ble rfl)
            apply Wk.gon 88 rfl rfl
            apply Wk.bin rfl rfl (r := .bool true) (fun w => by simp [go_sem]) (lt_of_ble rfl)
            apply Wk.pckT rfl (by conv => lhs; whnf) (lt_of_ble rfl)
            apply Wk.asg (by conv => lhs; whnf) (lt_of_ble rfl)
            refine Wk.nil (AW.ret ?_)
            repeat (first | refine thenA_ret ?_ | refine inBlockA_ret ?_)
            exact RetQ.ret [] (.cons rfl .nil) ⟨rfl, rfl⟩ none_kept
          · rfl
          · rfl
        · skip
          have e : rest3 1 sy true s1 true t hh = (0, false, 0, hh) := by simp [rest3]
          rw [e] at ci cs
          simp only at ci cs
          refine AW.seq ?_
          apply AW.list
          apply Wk.ld (i := 3) 5 true ty24 rfl rfl (by conv => lhs; whnf) (lt_of_ble rfl)
          apply Wk.ld (i := 4) 10 true ty27 rfl rfl (by conv => lhs; whnf) (lt_of_ble rfl)
          apply Wk.ld (i := 5) 9 true ty42 rfl rfl (by conv => lhs; whnf) (lt_of_ble rfl)
          apply Wk.dat ci Try.func31 rfl rfl rfl rfl rfl (lt_of_ble rfl)
          apply Wk.alc 6 [.int .i64 0, .int .i64 0, .slice none 0 0, .int .i64 0, .slice none 0 0, .bool false, .int .i64 0, .bool false, .int .i64 0, .bool false] ze27 rfl rfl (lt_of_ble rfl)
          apply Wk.sto (i := 6) 10 true ty27 rfl rfl rfl rfl (Nat.le_of_ble_eq_true rfl) (lt_of_ble rfl)
          refine Wk.nil ?_
          refine AW.seq (AW.seq ?_)
          apply AW.draw (hm := hmix) (cs := _)
          · apply Wk.ld (i := 6) 10 true ty27 rfl rfl (by conv => lhs; whnf) (lt_of_ble rfl)
            apply Wk.ld (i := 3) 5 true ty24 rfl rfl (by conv => lhs; whnf) (lt_of_ble rfl)
            apply Wk.ld (i := 4) 10 true ty27 rfl rfl (by conv => lhs; whnf) (lt_of_ble rfl)
            apply Wk.ld (i := 5) 9 true ty42 rfl rfl (by conv => lhs; whnf) (lt_of_ble rfl)
            apply Wk.dat cs Try.func32 rfl rfl rfl rfl rfl (lt_of_ble rfl)
            apply Wk.dat (liTxE _) Try.func16 rfl rfl rfl rfl rfl (lt_of_ble rfl)
            apply Wk.un rfl (fun w => by simp [go_sem] <;> rfl) (lt_of_ble rfl)
            refine Wk.nil ?_
            refine AW.cond rfl (fun hc => by cases hc) (fun _ => AW.skip (thenA_normal ?_))
            refine AW.seq (AW.seq ?_)
            apply AW.list
            apply Wk.ld (i := 3) 5 true ty24 rfl rfl (by conv => lhs; whnf) (lt_of_ble rfl)
            apply Wk.ld (i := 4) 10 true ty27 rfl rfl (by conv => lhs; whnf) (lt_of_ble rfl)
            apply Wk.dat (stxb hok) Try.func18 rfl rfl rfl rfl rfl (lt_of_ble rfl)
            apply Wk.un rfl (fun w => by simp [go_sem] <;> rfl) (lt_of_ble rfl)
            apply Wk.mv (by conv => lhs; whnf) (lt_of_ble rfl)
            apply Wk.gon 31 rfl rfl
            apply Wk.ld (i := 5) 9 true ty42 rfl rfl (by conv => lhs; whnf) (lt_of_ble rfl)
            apply Wk.gon 31 rfl rfl
            apply Wk.dat (sfrmY hfr) Try.func33 rfl rfl rfl rfl rfl (lt_of_ble rfl)
            apply Wk.gon 31 rfl rfl
            apply Wk.un rfl (fun w => by simp [go_sem] <;> rfl) (lt_of_ble rfl)
            apply Wk.pckF rfl (by conv => lhs; whnf) (lt_of_ble rfl)
            apply Wk.mv (by conv => lhs; whnf) (lt_of_ble rfl)
            apply Wk.gon 36 rfl rfl
            apply Wk.fad 0 0 false fd42_0 rfl (lt_of_ble rfl)
            apply Wk.gon 36 rfl rfl
            apply Wk.ld (i := 5) 1 false ty3 rfl rfl (by conv => lhs; whnf) (lt_of_ble rfl)
            apply Wk.gon 36 rfl rfl
            apply Wk.bin rfl rfl (r := .bool false) (fun w => by simp [go_sem] <;> omega) (lt_of_ble rfl)
            apply Wk.pckF rfl (by conv => lhs; whnf) (lt_of_ble rfl)
            apply Wk.mv (by conv => lhs; whnf) (lt_of_ble rfl)
            apply Wk.gon 41 rfl rfl
            apply Wk.fad 9 0 false fd27_9 rfl (lt_of_ble rfl)
            apply Wk.gon 41 rfl rfl
            apply Wk.ld (i := 6) 1 false ty4 rfl rfl (by conv => lhs; whnf) (lt_of_ble rfl)
            apply Wk.pckF rfl (by conv => lhs; whnf) (lt_of_ble rfl)
            refine Wk.nil ?_
            refine AW.cond rfl (fun hc => by cases hc) (fun _ => AW.skip (thenA_normal ?_))
            refine AW.seq (AW.seq ?_)
            apply AW.list
            apply Wk.fad 5 0 false fd27_5 rfl (lt_of_ble rfl)
            apply Wk.ld (i := 4) 1 false ty4 rfl rfl (by conv => lhs; whnf) (lt_of_ble rfl)
            refine Wk.nil ?_
            refine AW.cond rfl (fun _ => ?_) (fun hc => by cases hc)
            refine AW.seq ?_
            apply AW.list
            apply Wk.fad 5 0 false fd27_5 rfl (lt_of_ble rfl)
            apply Wk.ld (i := 6) 1 false ty4 rfl rfl (by conv => lhs; whnf) (lt_of_ble rfl)
            apply Wk.fad 4 0 false fd42_4 rfl (lt_of_ble rfl)
            apply Wk.ld (i := 5) 1 false ty4 rfl rfl (by conv => lhs; whnf) (lt_of_ble rfl)
            apply Wk.un rfl (fun w => by simp [go_sem] <;> rfl) (lt_of_ble rfl)
            apply Wk.bin rfl rfl (r := .bool true) (fun w => by simp [go_sem]) (lt_of_ble rfl)
            apply Wk.mv (by conv => lhs; whnf) (lt_of_ble rfl)
            apply Wk.gon 54 rfl rfl
            apply Wk.fad 4 0 false fd42_4 rfl (lt_of_ble rfl)
            apply Wk.gon 54 rfl rfl
            apply Wk.ld (i := 5) 1 false ty4 rfl rfl (by conv => lhs; whnf) (lt_of_ble rfl)
            apply Wk.gon 54 rfl rfl
            apply Wk.un rfl (fun w => by simp [go_sem] <;> rfl) (lt_of_ble rfl)
            apply Wk.gon 54 rfl rfl
            apply Wk.mv (by conv => lhs; whnf) (lt_of_ble rfl)
            apply Wk.gon 58 rfl rfl
            apply Wk.fad 3 0 false fd27_3 rfl (lt_of_ble rfl)
            apply Wk.gon 58 rfl rfl
            apply Wk.ld (i := 6) 1 false ty3 rfl rfl (by conv => lhs; whnf) (lt_of_ble rfl)
            apply Wk.gon 58 rfl rfl
            apply Wk.bin rfl rfl (r := .bool true) (fun w => by simp [go_sem]) (lt_of_ble rfl)
            apply Wk.gon 58 rfl rfl
            apply Wk.mv (by conv => lhs; whnf) (lt_of_ble rfl)
            apply Wk.gon 62 rfl rfl
            apply Wk.fad 6 0 false fd27_6 rfl (lt_of_ble rfl)
            apply Wk.gon 62 rfl rfl
            apply Wk.ld (i := 6) 1 false ty3 rfl rfl (by conv => lhs; whnf) (lt_of_ble rfl)
            apply Wk.gon 62 rfl rfl
            apply Wk.bin rfl rfl (r := .bool true) (fun w => by simp [go_sem]) (lt_of_ble rfl)
            apply Wk.gon 58 rfl rfl
            apply Wk.pckT rfl (by conv => lhs; whnf) (lt_of_ble rfl)
            apply Wk.gon 54 rfl rfl
            apply Wk.pckF rfl (by conv => lhs; whnf) (lt_of_ble rfl)
            apply Wk.pckT rfl (by conv => lhs; whnf) (lt_of_ble rfl)
            apply Wk.asg (by conv => lhs; whnf) (lt_of_ble rfl)
            refine Wk.nil (AW.ret ?_)
            repeat (first | refine thenA_ret ?_ | refine inBlockA_ret ?_)
            exact RetQ.ret [] (.cons rfl .nil) ⟨rfl, rfl⟩ none_kept
          · rfl
          · rfl
      · by_cases hy : sy = 1
        · subst hy
          cases fi <;> cases q
          · skip
            have e : rest3 2 1 false s1 false t hh = (0, false, t, false) := by simp [rest3]
            rw [e] at ci cs
            simp only at ci cs
            refine AW.seq ?_
            apply AW.list
            apply Wk.ld (i := 3) 5 true ty24 rfl rfl (by conv => lhs; whnf) (lt_of_ble rfl)
            apply Wk.ld (i := 4) 10 true ty27 rfl rfl (by conv => lhs; whnf) (lt_of_ble rfl)
            apply Wk.ld (i := 5) 9 true ty42 rfl rfl (by conv => lhs; whnf) (lt_of_ble rfl)
            apply Wk.dat ci Try.func31 rfl rfl rfl rfl rfl (lt_of_ble rfl)
            apply Wk.alc 6 [.int .i64 0, .int .i64 0, .slice none 0 0, .int .i64 0, .slice none 0 0, .bool false, .int .i64 0, .bool false, .int .i64 0, .bool false] ze27 rfl rfl (lt_of_ble rfl)
            apply Wk.sto (i := 6) 10 true ty27 rfl rfl rfl rfl (Nat.le_of_ble_eq_true rfl) (lt_of_ble rfl)
            refine Wk.nil ?_
            refine AW.seq (AW.seq ?_)
            apply AW.draw (hm := hmix) (cs := _)
            · apply Wk.ld (i := 6) 10 true ty27 rfl rfl (by conv => lhs; whnf) (lt_of_ble rfl)
              apply Wk.ld (i := 3) 5 true ty24 rfl rfl (by conv => lhs; whnf) (lt_of_ble rfl)
              apply Wk.ld (i := 4) 10 true ty27 rfl rfl (by conv => lhs; whnf) (lt_of_ble rfl)
              apply Wk.ld (i := 5) 9 true ty42 rfl rfl (by conv => lhs; whnf) (lt_of_ble rfl)
              apply Wk.dat cs Try.func32 rfl rfl rfl rfl rfl (lt_of_ble rfl)
              apply Wk.dat (liTxE _) Try.func16 rfl rfl rfl rfl rfl (lt_of_ble rfl)
              apply Wk.un rfl (fun w => by simp [go_sem] <;> rfl) (lt_of_ble rfl)
              refine Wk.nil ?_
              refine AW.cond rfl (fun hc => by cases hc) (fun _ => AW.skip (thenA_normal ?_))
              refine AW.seq (AW.seq ?_)
              apply AW.list
              apply Wk.ld (i := 3) 5 true ty24 rfl rfl (by conv => lhs; whnf) (lt_of_ble rfl)
              apply Wk.ld (i := 4) 10 true ty27 rfl rfl (by conv => lhs; whnf) (lt_of_ble rfl)
              apply Wk.dat (stxb hok) Try.func18 rfl rfl rfl rfl rfl (lt_of_ble rfl)
              apply Wk.un rfl (fun w => by simp [go_sem] <;> rfl) (lt_of_ble rfl)
              apply Wk.mv (by conv => lhs; whnf) (lt_of_ble rfl)
              apply Wk.gon 31 rfl rfl
              apply Wk.ld (i := 5) 9 true ty42 rfl rfl (by conv => lhs; whnf) (lt_of_ble rfl)
              apply Wk.gon 31 rfl rfl
              apply Wk.dat (sfrmY hfr) Try.func33 rfl rfl rfl rfl rfl (lt_of_ble rfl)
              apply Wk.gon 31 rfl rfl
              apply Wk.un rfl (fun w => by simp [go_sem] <;> rfl) (lt_of_ble rfl)
              apply Wk.pckF rfl (by conv => lhs; whnf) (lt_of_ble rfl)
              apply Wk.mv (by conv => lhs; whnf) (lt_of_ble rfl)
              apply Wk.gon 36 rfl rfl
              apply Wk.fad 0 0 false fd42_0 rfl (lt_of_ble rfl)
              apply Wk.gon 36 rfl rfl
              apply Wk.ld (i := 5) 1 false ty3 rfl rfl (by conv => lhs; whnf) (lt_of_ble rfl)
              apply Wk.gon 36 rfl rfl
              apply Wk.bin rfl rfl (r := .bool false) (fun w => by simp [go_sem] <;> omega) (lt_of_ble rfl)
              apply Wk.pckF rfl (by conv => lhs; whnf) (lt_of_ble rfl)
              apply Wk.mv (by conv => lhs; whnf) (lt_of_ble rfl)
              apply Wk.gon 41 rfl rfl
              apply Wk.fad 9 0 false fd27_9 rfl (lt_of_ble rfl)
              apply Wk.gon 41 rfl rfl
              apply Wk.ld (i := 6) 1 false ty4 rfl rfl (by conv => lhs; whnf) (lt_of_ble rfl)
              apply Wk.pckF rfl (by conv => lhs; whnf) (lt_of_ble rfl)
              refine Wk.nil ?_
              refine AW.cond rfl (fun hc => by cases hc) (fun _ => AW.skip (thenA_normal ?_))
              refine AW.seq (AW.seq ?_)
              apply AW.list
              apply Wk.fad 5 0 false fd27_5 rfl (lt_of_ble rfl)
              apply Wk.ld (i := 4) 1 false ty4 rfl rfl (by conv => lhs; whnf) (lt_of_ble rfl)
              refine Wk.nil ?_
              refine AW.cond rfl (fun hc => by cases hc) (fun _ => AW.skip (thenA_normal ?_))
              refine AW.seq (AW.seq ?_)
              apply AW.list
              apply Wk.fad 0 0 false fd42_0 rfl (lt_of_ble rfl)
              apply Wk.ld (i := 5) 1 false ty3 rfl rfl (by conv => lhs; whnf) (lt_of_ble rfl)
              apply Wk.bin rfl rfl (r := .bool true) (fun w => by simp [go_sem]) (lt_of_ble rfl)
              apply Wk.mv (by conv => lhs; whnf) (lt_of_ble rfl)
              apply Wk.gon 72 rfl rfl
              apply Wk.fad 5 0 false fd42_5 rfl (lt_of_ble rfl)
              apply Wk.gon 72 rfl rfl
              apply Wk.ld (i := 5) 1 false ty3 rfl rfl (by conv => lhs; whnf) (lt_of_ble rfl)
              apply Wk.gon 72 rfl rfl
              apply Wk.bin rfl rfl (r := .bool true) (fun w => by simp [go_sem]) (lt_of_ble rfl)
              apply Wk.pckT rfl (by conv => lhs; whnf) (lt_of_ble rfl)
              refine Wk.nil ?_
              refine AW.cond rfl (fun _ => ?_) (fun hc => by cases hc)
              refine AW.seq ?_
              apply AW.list
              apply Wk.fad 3 0 false fd27_3 rfl (lt_of_ble rfl)
              apply Wk.ld (i := 6) 1 false ty3 rfl rfl (by conv => lhs; whnf) (lt_of_ble rfl)
              apply Wk.bin rfl rfl (r := .bool true) (fun w => by simp [go_sem]) (lt_of_ble rfl)
              apply Wk.mv (by conv => lhs; whnf) (lt_of_ble rfl)
              apply Wk.gon 80 rfl rfl
              apply Wk.fad 5 0 false fd27_5 rfl (lt_of_ble rfl)
              apply Wk.gon 80 rfl rfl
              apply Wk.ld (i := 6) 1 false ty4 rfl rfl (by conv => lhs; whnf) (lt_of_ble rfl)
              apply Wk.gon 80 rfl rfl
              apply Wk.un rfl (fun w => by simp [go_sem] <;> rfl) (lt_of_ble rfl)
              apply Wk.pckT rfl (by conv => lhs; whnf) (lt_of_ble rfl)
              apply Wk.asg (by conv => lhs; whnf) (lt_of_ble rfl)
              refine Wk.nil (AW.ret ?_)
              repeat (first | refine thenA_ret ?_ | refine inBlockA_ret ?_)
              exact RetQ.ret [] (.cons rfl .nil) ⟨rfl, rfl⟩ none_kept
            · rfl
            · rfl
          · skip
            have e : rest3 2 1 false s1 true t hh = (s1, true, t, false) := by simp [rest3]
            rw [e] at ci cs
            simp only at ci cs
            refine AW.seq ?_
            apply AW.list
            apply Wk.ld (i := 3) 5 true ty24 rfl rfl (by conv => lhs; whnf) (lt_of_ble rfl)
            apply Wk.ld (i := 4) 10 true ty27 rfl rfl (by conv => lhs; whnf) (lt_of_ble rfl)
            apply Wk.ld (i := 5) 9 true ty42 rfl rfl (by conv => lhs; whnf) (lt_of_ble rfl)
            apply Wk.dat ci Try.func31 rfl rfl rfl rfl rfl (lt_of_ble rfl)
            apply Wk.alc 6 [.int .i64 0, .int .i64 0, .slice none 0 0, .int .i64 0, .slice none 0 0, .bool false, .int .i64 0, .bool false, .int .i64 0, .bool false] ze27 rfl rfl (lt_of_ble rfl)
            apply Wk.sto (i := 6) 10 true ty27 rfl rfl rfl rfl (Nat.le_of_ble_eq_true rfl) (lt_of_ble rfl)
            refine Wk.nil ?_
            refine AW.seq (AW.seq ?_)
            apply AW.draw (hm := hmix) (cs := _)
            · apply Wk.ld (i := 6) 10 true ty27 rfl rfl (by conv => lhs; whnf) (lt_of_ble rfl)
              apply Wk.ld (i := 3) 5 true ty24 rfl rfl (by conv => lhs; whnf) (lt_of_ble rfl)
              apply Wk.ld (i := 4) 10 true ty27 rfl rfl (by conv => lhs; whnf) (lt_of_ble rfl)
              apply Wk.ld (i := 5) 9 true ty42 rfl rfl (by conv => lhs; whnf) (lt_of_ble rfl)
              apply Wk.dat cs Try.func32 rfl rfl rfl rfl rfl (lt_of_ble rfl)
              apply Wk.dat (liTxE _) Try.func16 rfl rfl rfl rfl rfl (lt_of_ble rfl)
              apply Wk.un rfl (fun w => by simp [go_sem] <;> rfl) (lt_of_ble rfl)
              refine Wk.nil ?_
              refine AW.cond rfl (fun hc => by cases hc) (fun _ => AW.skip (thenA_normal ?_))
              refine AW.seq (AW.seq ?_)
              apply AW.list
              apply Wk.ld (i := 3) 5 true ty24 rfl rfl (by conv => lhs; whnf) (lt_of_ble rfl)
              apply Wk.ld (i := 4) 10 true ty27 rfl rfl (by conv => lhs; whnf) (lt_of_ble rfl)
              apply Wk.dat (stxb hok) Try.func18 rfl rfl rfl rfl rfl (lt_of_ble rfl)
              apply Wk.un rfl (fun w => by simp [go_sem] <;> rfl) (lt_of_ble rfl)
              apply Wk.mv (by conv => lhs; whnf) (lt_of_ble rfl)
              apply Wk.gon 31 rfl rfl
              apply Wk.ld (i := 5) 9 true ty42 rfl rfl (by conv => lhs; whnf) (lt_of_ble rfl)
              apply Wk.gon 31 rfl rfl
              apply Wk.dat (sfrmY hfr) Try.func33 rfl rfl rfl rfl rfl (lt_of_ble rfl)
              apply Wk.gon 31 rfl rfl
              apply Wk.un rfl (fun w => by simp [go_sem] <;> rfl) (lt_of_ble rfl)
              apply Wk.pckF rfl (by conv => lhs; whnf) (lt_of_ble rfl)
              apply Wk.mv (by conv => lhs; whnf) (lt_of_ble rfl)
              apply Wk.gon 36 rfl rfl
              apply Wk.fad 0 0 false fd42_0 rfl (lt_of_ble rfl)
              apply Wk.gon 36 rfl rfl
              apply Wk.ld (i := 5) 1 false ty3 rfl rfl (by conv => lhs; whnf) (lt_of_ble rfl)
              apply Wk.gon 36 rfl rfl
              apply Wk.bin rfl rfl (r := .bool false) (fun w => by simp [go_sem] <;> omega) (lt_of_ble rfl)
              apply Wk.pckF rfl (by conv => lhs; whnf) (lt_of_ble rfl)
              apply Wk.mv (by conv => lhs; whnf) (lt_of_ble rfl)
              apply Wk.gon 41 rfl rfl
              apply Wk.fad 9 0 false fd27_9 rfl (lt_of_ble rfl)
              apply Wk.gon 41 rfl rfl
              apply Wk.ld (i := 6) 1 false ty4 rfl rfl (by conv => lhs; whnf) (lt_of_ble rfl)
              apply Wk.pckF rfl (by conv => lhs; whnf) (lt_of_ble rfl)
              refine Wk.nil ?_
              refine AW.cond rfl (fun hc => by cases hc) (fun _ => AW.skip (thenA_normal ?_))
              refine AW.seq (AW.seq ?_)
              apply AW.list
              apply Wk.fad 5 0 false fd27_5 rfl (lt_of_ble rfl)
              apply Wk.ld (i := 4) 1 false ty4 rfl rfl (by conv => lhs; whnf) (lt_of_ble rfl)
              refine Wk.nil ?_
              refine AW.cond rfl (fun _ => ?_) (fun hc => by cases hc)
              refine AW.seq ?_
              apply AW.list
              apply Wk.fad 5 0 false fd27_5 rfl (lt_of_ble rfl)
              apply Wk.ld (i := 6) 1 false ty4 rfl rfl (by conv => lhs; whnf) (lt_of_ble rfl)
              apply Wk.fad 4 0 false fd42_4 rfl (lt_of_ble rfl)
              apply Wk.ld (i := 5) 1 false ty4 rfl rfl (by conv => lhs; whnf) (lt_of_ble rfl)
              apply Wk.un rfl (fun w => by simp [go_sem] <;> rfl) (lt_of_ble rfl)
              apply Wk.bin rfl rfl (r := .bool true) (fun w => by simp [go_sem]) (lt_of_ble rfl)
              apply Wk.mv (by conv => lhs; whnf) (lt_of_ble rfl)
              apply Wk.gon 54 rfl rfl
              apply Wk.fad 4 0 false fd42_4 rfl (lt_of_ble rfl)
              apply Wk.gon 54 rfl rfl
              apply Wk.ld (i := 5) 1 false ty4 rfl rfl (by conv => lhs; whnf) (lt_of_ble rfl)
              apply Wk.gon 54 rfl rfl
              apply Wk.un rfl (fun w => by simp [go_sem] <;> rfl) (lt_of_ble rfl)
              apply Wk.gon 54 rfl rfl
              apply Wk.mv (by conv => lhs; whnf) (lt_of_ble rfl)
              apply Wk.goff 58 (ok_faddr fd27_3) rfl rfl (by simp)
              apply Wk.goff 58 (ok_load 6 ty3) rfl rfl (by simp)
              apply Wk.goff 58 (ok_bin _ _ _ _ _) rfl rfl (by simp)
              apply Wk.goff 58 (ok_move _) rfl rfl (by simp)
              apply Wk.goffu 62 (ok_faddr fd27_6) rfl rfl
              apply Wk.goffu 62 (ok_load 6 ty3) rfl rfl
              apply Wk.goffu 62 (ok_bin _ _ _ _ _) rfl rfl
              apply Wk.goff 58 (ok_pick _ _ _) rfl rfl (by simp)
              apply Wk.gon 54 rfl rfl
              apply Wk.pckT rfl (by conv => lhs; whnf) (lt_of_ble rfl)
              apply Wk.pckT rfl (by conv => lhs; whnf) (lt_of_ble rfl)
              apply Wk.asg (by conv => lhs; whnf) (lt_of_ble rfl)
              refine Wk.nil (AW.ret ?_)
              repeat (first | refine thenA_ret ?_ | refine inBlockA_ret ?_)
              exact RetQ.ret [] (.cons rfl .nil) ⟨rfl, rfl⟩ none_kept
            · rfl
            · rfl
          · skip
            have e : rest3 2 1 true s1 false t hh = (0, false, t, false) := by simp [rest3]
            rw [e] at ci cs
            simp only at ci cs
            refine AW.seq ?_
            apply AW.list
            apply Wk.ld (i := 3) 5 true ty24 rfl rfl (by conv => lhs; whnf) (lt_of_ble rfl)
            apply Wk.ld (i := 4) 10 true ty27 rfl rfl (by conv => lhs; whnf) (lt_of_ble rfl)
            apply Wk.ld (i := 5) 9 true ty42 rfl rfl (by conv => lhs; whnf) (lt_of_ble rfl)
            apply Wk.dat ci Try.func31 rfl rfl rfl rfl rfl (lt_of_ble rfl)
            apply Wk.alc 6 [.int .i64 0, .int .i64 0, .slice none 0 0, .int .i64 0, .slice none 0 0, .bool false, .int .i64 0, .bool false, .int .i64 0, .bool false] ze27 rfl rfl (lt_of_ble rfl)
            apply Wk.sto (i := 6) 10 true ty27 rfl rfl rfl rfl (Nat.le_of_ble_eq_true rfl) (lt_of_ble rfl)
            refine Wk.nil ?_
            refine AW.seq (AW.seq ?_)
            apply AW.draw (hm := hmix) (cs := _)
            · apply Wk.ld (i := 6) 10 true ty27 rfl rfl (by conv => lhs; whnf) (lt_of_ble rfl)
              apply Wk.ld (i := 3) 5 true ty24 rfl rfl (by conv => lhs; whnf) (lt_of_ble rfl)
              apply Wk.ld (i := 4) 10 true ty27 rfl rfl (by conv => lhs; whnf) (lt_of_ble rfl)
              apply Wk.ld (i := 5) 9 true ty42 rfl rfl (by conv => lhs; whnf) (lt_of_ble rfl)
              apply Wk.dat cs Try.func32 rfl rfl rfl rfl rfl (lt_of_ble rfl)
              apply Wk.dat (liTxE _) Try.func16 rfl rfl rfl rfl rfl (lt_of_ble rfl)
              apply Wk.un rfl (fun w => by simp [go_sem] <;> rfl) (lt_of_ble rfl)
              refine Wk.nil ?_
              refine AW.cond rfl (fun hc => by cases hc) (fun _ => AW.skip (thenA_normal ?_))
              refine AW.seq (AW.seq ?_)
              apply AW.list
              apply Wk.ld (i := 3) 5 true ty24 rfl rfl (by conv => lhs; whnf) (lt_of_ble rfl)
              apply Wk.ld (i := 4) 10 true ty27 rfl rfl (by conv => lhs; whnf) (lt_of_ble rfl)
              apply Wk.dat (stxb hok) Try.func18 rfl rfl rfl rfl rfl (lt_of_ble rfl)
              apply Wk.un rfl (fun w => by simp [go_sem] <;> rfl) (lt_of_ble rfl)
              apply Wk.mv (by conv => lhs; whnf) (lt_of_ble rfl)
              apply Wk.gon 31 rfl rfl
              apply Wk.ld (i := 5) 9 true ty42 rfl rfl (by conv => lhs; whnf) (lt_of_ble rfl)
              apply Wk.gon 31 rfl rfl
              apply Wk.dat (sfrmY hfr) Try.func33 rfl rfl rfl rfl rfl (lt_of_ble rfl)
              apply Wk.gon 31 rfl rfl
              apply Wk.un rfl (fun w => by simp [go_sem] <;> rfl) (lt_of_ble rfl)
              apply Wk.pckF rfl (by conv => lhs; whnf) (lt_of_ble rfl)
              apply Wk.mv (by conv => lhs; whnf) (lt_of_ble rfl)
              apply Wk.gon 36 rfl rfl
              apply Wk.fad 0 0 false fd42_0 rfl (lt_of_ble rfl)
              apply Wk.gon 36 rfl rfl
              apply Wk.ld (i := 5) 1 false ty3 rfl rfl (by conv => lhs; whnf) (lt_of_ble rfl)
              apply Wk.gon 36 rfl rfl
              apply Wk.bin rfl rfl (r := .bool false) (fun w => by simp [go_sem] <;> omega) (lt_of_ble rfl)
              apply Wk.pckF rfl (by conv => lhs; whnf) (lt_of_ble rfl)
              apply Wk.mv (by conv => lhs; whnf) (lt_of_ble rfl)
              apply Wk.gon 41 rfl rfl
              apply Wk.fad 9 0 false fd27_9 rfl (lt_of_ble rfl)
              apply Wk.gon 41 rfl rfl
              apply Wk.ld (i := 6) 1 false ty4 rfl rfl (by conv => lhs; whnf) (lt_of_ble rfl)
              apply Wk.pckF rfl (by conv => lhs; whnf) (lt_of_ble rfl)
              refine Wk.nil ?_
              refine AW.cond rfl (fun hc => by cases hc) (fun _ => AW.skip (thenA_normal ?_))
              refine AW.seq (AW.seq ?_)
              apply AW.list
              apply Wk.fad 5 0 false fd27_5 rfl (lt_of_ble rfl)
              apply Wk.ld (i := 4) 1 false ty4 rfl rfl (by conv => lhs; whnf) (lt_of_ble rfl)
              refine Wk.nil ?_
              refine AW.cond rfl (fun hc => by cases hc) (fun _ => AW.skip (thenA_normal ?_))
              refine AW.seq (AW.seq ?_)
              apply AW.list
              apply Wk.fad 0 0 false fd42_0 rfl (lt_of_ble rfl)
              apply Wk.ld (i := 5) 1 false ty3 rfl rfl (by conv => lhs; whnf) (lt_of_ble rfl)
              apply Wk.bin rfl rfl (r := .bool true) (fun w => by simp [go_sem]) (lt_of_ble rfl)
              apply Wk.mv (by conv => lhs; whnf) (lt_of_ble rfl)
              apply Wk.gon 72 rfl rfl
              apply Wk.fad 5 0 false fd42_5 rfl (lt_of_ble rfl)
              apply Wk.gon 72 rfl rfl
              apply Wk.ld (i := 5) 1 false ty3 rfl rfl (by conv => lhs; whnf) (lt_of_ble rfl)
              apply Wk.gon 72 rfl rfl
              apply Wk.bin rfl rfl (r := .bool true) (fun w => by simp [go_sem]) (lt_of_ble rfl)
              apply Wk.pckT rfl (by conv => lhs; whnf) (lt_of_ble rfl)
              refine Wk.nil ?_
              refine AW.cond rfl (fun _ => ?_) (fun hc => by cases hc)
              refine AW.seq ?_
              apply AW.list
              apply Wk.fad 3 0 false fd27_3 rfl (lt_of_ble rfl)
              apply Wk.ld (i := 6) 1 false ty3 rfl rfl (by conv => lhs; whnf) (lt_of_ble rfl)
              apply Wk.bin rfl rfl (r := .bool true) (fun w => by simp [go_sem]) (lt_of_ble rfl)
              apply Wk.mv (by conv => lhs; whnf) (lt_of_ble rfl)
              apply Wk.gon 80 rfl rfl
              apply Wk.fad 5 0 false fd27_5 rfl (lt_of_ble rfl)
              apply Wk.gon 80 rfl rfl
              apply Wk.ld (i := 6) 1 false ty4 rfl rfl (by conv => lhs; whnf) (lt_of_ble rfl)
              apply Wk.gon 80 rfl rfl
              apply Wk.un rfl (fun w => by simp [go_sem] <;> rfl) (lt_of_ble rfl)
              apply Wk.pckT rfl (by conv => lhs; whnf) (lt_of_ble rfl)
              apply Wk.asg (by conv => lhs; whnf) (lt_of_ble rfl)
              refine Wk.nil (AW.ret ?_)
              repeat (first | refine thenA_ret ?_ | refine inBlockA_ret ?_)
              exact RetQ.ret [] (.cons rfl .nil) ⟨rfl, rfl⟩ none_kept
            · rfl
            · rfl
          · skip
            have e : rest3 2 1 true s1 true t hh = (0, false, 0, false) := by simp [rest3]
            rw [e] at ci cs
            simp only at ci cs
            refine AW.seq ?_
            apply AW.list
            apply Wk.ld (i := 3) 5 true ty24 rfl rfl (by conv => lhs; whnf) (lt_of_ble rfl)
            apply Wk.ld (i := 4) 10 true ty27 rfl rfl (by conv => lhs; whnf) (lt_of_ble rfl)
            apply Wk.ld (i := 5) 9 true ty42 rfl rfl (by conv => lhs; whnf) (lt_of_ble rfl)
            apply Wk.dat ci Try.func31 rfl rfl rfl rfl rfl (lt_of_ble rfl)
            apply Wk.alc 6 [.int .i64 0, .int .i64 0, .slice none 0 0, .int .i64 0, .slice none 0 0, .bool false, .int .i64 0, .bool false, .int .i64 0, .bool false] ze27 rfl rfl (lt_of_ble rfl)
            apply Wk.sto (i := 6) 10 true ty27 rfl rfl rfl rfl (Nat.le_of_ble_eq_true rfl) (lt_of_ble rfl)
            refine Wk.nil ?_
            refine AW.seq (AW.seq ?_)
            apply AW.draw (hm := hmix) (cs := _)
            · apply Wk.ld (i := 6) 10 true ty27 rfl rfl (by conv => lhs; whnf) (lt_of_ble rfl)
              apply Wk.ld (i := 3) 5 true ty24 rfl rfl (by conv => lhs; whnf) (lt_of_ble rfl)
              apply Wk.ld (i := 4) 10 true ty27 rfl rfl (by conv => lhs; whnf) (lt_of_ble rfl)
              apply Wk.ld (i := 5) 9 true ty42 rfl rfl (by conv => lhs; whnf) (lt_of_ble rfl)
              apply Wk.dat cs Try.func32 rfl rfl rfl rfl rfl (lt_of_ble rfl)
              apply Wk.dat (liTxE _) Try.func16 rfl rfl rfl rfl rfl (lt_of_ble rfl)
              apply Wk.un rfl (fun w => by simp [go_sem] <;> rfl) (lt_of_ble rfl)
              refine Wk.nil ?_
              refine AW.cond rfl (fun hc => by cases hc) (fun _ => AW.skip (thenA_normal ?_))
              refine AW.seq (AW.seq ?_)
              apply AW.list
              apply Wk.ld (i := 3) 5 true ty24 rfl rfl (by conv => lhs; whnf) (lt_of_ble rfl)
              apply Wk.ld (i := 4) 10 true ty27 rfl rfl (by conv => lhs; whnf) (lt_of_ble rfl)
              apply Wk.dat (stxb hok) Try.func18 rfl rfl rfl rfl rfl (lt_of_ble rfl)
              apply Wk.un rfl (fun w => by simp [go_sem] <;> rfl) (lt_of_ble rfl)
              apply Wk.mv (by conv => lhs; whnf) (lt_of_ble rfl)
              apply Wk.gon 31 rfl rfl
              apply Wk.ld (i := 5) 9 true ty42 rfl rfl (by conv => lhs; whnf) (lt_of_ble rfl)
              apply Wk.gon 31 rfl rfl
              apply Wk.dat (sfrmY hfr) Try.func33 rfl rfl rfl rfl rfl (lt_of_ble rfl)
              apply Wk.gon 31 rfl rfl
              apply Wk.un rfl (fun w => by simp [go_sem] <;> rfl) (lt_of_ble rfl)
              apply Wk.pckF rfl (by conv => lhs; whnf) (lt_of_ble rfl)
              apply Wk.mv (by conv => lhs; whnf) (lt_of_ble rfl)
              apply Wk.gon 36 rfl rfl
              apply Wk.fad 0 0 false fd42_0 rfl (lt_of_ble rfl)
              apply Wk.gon 36 rfl rfl
              apply Wk.ld (i := 5) 1 false ty3 rfl rfl (by conv => lhs; whnf) (lt_of_ble rfl)
              apply Wk.gon 36 rfl rfl
              apply Wk.bin rfl rfl (r := .bool false) (fun w => by simp [go_sem] <;> omega) (lt_of_ble rfl)
              apply Wk.pckF rfl (by conv => lhs; whnf) (lt_of_ble rfl)
              apply Wk.mv (by conv => lhs; whnf) (lt_of_ble rfl)
              apply Wk.gon 41 rfl rfl
              apply Wk.fad 9 0 false fd27_9 rfl (lt_of_ble rfl)
              apply Wk.gon 41 rfl rfl
              apply Wk.ld (i := 6) 1 false ty4 rfl rfl (by conv => lhs; whnf) (lt_of_ble rfl)
              apply Wk.pckF rfl (by conv => lhs; whnf) (lt_of_ble rfl)
              refine Wk.nil ?_
              refine AW.cond rfl (fun hc => by cases hc) (fun _ => AW.skip (thenA_normal ?_))
              refine AW.seq (AW.seq ?_)
              apply AW.list
              apply Wk.fad 5 0 false fd27_5 rfl (lt_of_ble rfl)
              apply Wk.ld (i := 4) 1 false ty4 rfl rfl (by conv => lhs; whnf) (lt_of_ble rfl)
              refine Wk.nil ?_
              refine AW.cond rfl (fun _ => ?_) (fun hc => by cases hc)
              refine AW.seq ?_
              apply AW.list
              apply Wk.fad 5 0 false fd27_5 rfl (lt_of_ble rfl)
              apply Wk.ld (i := 6) 1 false ty4 rfl rfl (by conv => lhs; whnf) (lt_of_ble rfl)
              apply Wk.fad 4 0 false fd42_4 rfl (lt_of_ble rfl)
              apply Wk.ld (i := 5) 1 false ty4 rfl rfl (by conv => lhs; whnf) (lt_of_ble rfl)
              apply Wk.un rfl (fun w => by simp [go_sem] <;> rfl) (lt_of_ble rfl)
              apply Wk.bin rfl rfl (r := .bool true) (fun w => by simp [go_sem]) (lt_of_ble rfl)
              apply Wk.mv (by conv => lhs; whnf) (lt_of_ble rfl)
              apply Wk.gon 54 rfl rfl
              apply Wk.fad 4 0 false fd42_4 rfl (lt_of_ble rfl)
              apply Wk.gon 54 rfl rfl
              apply Wk.ld (i := 5) 1 false ty4 rfl rfl (by conv => lhs; whnf) (lt_of_ble rfl)
              apply Wk.gon 54 rfl rfl
              apply Wk.un rfl (fun w => by simp [go_sem] <;> rfl) (lt_of_ble rfl)
              apply Wk.gon 54 rfl rfl
              apply Wk.mv (by conv => lhs; whnf) (lt_of_ble rfl)
              apply Wk.gon 58 rfl rfl
              apply Wk.fad 3 0 false fd27_3 rfl (lt_of_ble rfl)
              apply Wk.gon 58 rfl rfl
              apply Wk.ld (i := 6) 1 false ty3 rfl rfl (by conv => lhs; whnf) (lt_of_ble rfl)
              apply Wk.gon 58 rfl rfl
              apply Wk.bin rfl rfl (r := .bool true) (fun w => by simp [go_sem]) (lt_of_ble rfl)
              apply Wk.gon 58 rfl rfl
              apply Wk.mv (by conv => lhs; whnf) (lt_of_ble rfl)
              apply Wk.gon 62 rfl rfl
              apply Wk.fad 6 0 false fd27_6 rfl (lt_of_ble rfl)
              apply Wk.gon 62 rfl rfl
              apply Wk.ld (i := 6) 1 false ty3 rfl rfl (by conv => lhs; whnf) (lt_of_ble rfl)
              apply Wk.gon 62 rfl rfl
              apply Wk.bin rfl rfl (r := .bool true) (fun w => by simp [go_sem]) (lt_of_ble rfl)
              apply Wk.gon 58 rfl rfl
              apply Wk.pckT rfl (by conv => lhs; whnf) (lt_of_ble rfl)
              apply Wk.gon 54 rfl rfl
              apply Wk.pckF rfl (by conv => lhs; whnf) (lt_of_ble rfl)
              apply Wk.pckT rfl (by conv => lhs; whnf) (lt_of_ble rfl)
              apply Wk.asg (by conv => lhs; whnf) (lt_of_ble rfl)
              refine Wk.nil (AW.ret ?_)
              repeat (first | refine thenA_ret ?_ | refine inBlockA_ret ?_)
              exact RetQ.ret [] (.cons rfl .nil) ⟨rfl, rfl⟩ none_kept
            · rfl
            · rfl
        · cases fi <;> cases q
          · skip
            have e : rest3 2 sy false s1 false t hh = (s1, false, t, decide (sy = 2)) := by simp [rest3, hy]
            rw [e] at ci cs
            simp only at ci cs
            refine AW.seq ?_
            apply AW.list
            apply Wk.ld (i := 3) 5 true ty24 rfl rfl (by conv => lhs; whnf) (lt_of_ble rfl)
            apply Wk.ld (i := 4) 10 true ty27 rfl rfl (by conv => lhs; whnf) (lt_of_ble rfl)
            apply Wk.ld (i := 5) 9 true ty42 rfl rfl (by conv => lhs; whnf) (lt_of_ble rfl)
            apply Wk.dat ci Try.func31 rfl rfl rfl rfl rfl (lt_of_ble rfl)
            apply Wk.alc 6 [.int .i64 0, .int .i64 0, .slice none 0 0, .int .i64 0, .slice none 0 0, .bool false, .int .i64 0, .bool false, .int .i64 0, .bool false] ze27 rfl rfl (lt_of_ble rfl)
            apply Wk.sto (i := 6) 10 true ty27 rfl rfl rfl rfl (Nat.le_of_ble_eq_true rfl) (lt_of_ble rfl)
            refine Wk.nil ?_
            refine AW.seq (AW.seq ?_)
            apply AW.draw (hm := hmix) (cs := _)
            · apply Wk.ld (i := 6) 10 true ty27 rfl rfl (by conv => lhs; whnf) (lt_of_ble rfl)
              apply Wk.ld (i := 3) 5 true ty24 rfl rfl (by conv => lhs; whnf) (lt_of_ble rfl)
              apply Wk.ld (i := 4) 10 true ty27 rfl rfl (by conv => lhs; whnf) (lt_of_ble rfl)
              apply Wk.ld (i := 5) 9 true ty42 rfl rfl (by conv => lhs; whnf) (lt_of_ble rfl)
              apply Wk.dat cs Try.func32 rfl rfl rfl rfl rfl (lt_of_ble rfl)
              apply Wk.dat (liTxE _) Try.func16 rfl rfl rfl rfl rfl (lt_of_ble rfl)
              apply Wk.un rfl (fun w => by simp [go_sem] <;> rfl) (lt_of_ble rfl)
              refine Wk.nil ?_
              refine AW.cond rfl (fun hc => by cases hc) (fun _ => AW.skip (thenA_normal ?_))
              refine AW.seq (AW.seq ?_)
              apply AW.list
              apply Wk.ld (i := 3) 5 true ty24 rfl rfl (by conv => lhs; whnf) (lt_of_ble rfl)
              apply Wk.ld (i := 4) 10 true ty27 rfl rfl (by conv => lhs; whnf) (lt_of_ble rfl)
              apply Wk.dat (stxb hok) Try.func18 rfl rfl rfl rfl rfl (lt_of_ble rfl)
              apply Wk.un rfl (fun w => by simp [go_sem] <;> rfl) (lt_of_ble rfl)
              apply Wk.mv (by conv => lhs; whnf) (lt_of_ble rfl)
              apply Wk.gon 31 rfl rfl
              apply Wk.ld (i := 5) 9 true ty42 rfl rfl (by conv => lhs; whnf) (lt_of_ble rfl)
              apply Wk.gon 31 rfl rfl
              apply Wk.dat (sfrmY hfr) Try.func33 rfl rfl rfl rfl rfl (lt_of_ble rfl)
              apply Wk.gon 31 rfl rfl
              apply Wk.un rfl (fun w => by simp [go_sem] <;> rfl) (lt_of_ble rfl)
              apply Wk.pckF rfl (by conv => lhs; whnf) (lt_of_ble rfl)
              apply Wk.mv (by conv => lhs; whnf) (lt_of_ble rfl)
              apply Wk.gon 36 rfl rfl
              apply Wk.fad 0 0 false fd42_0 rfl (lt_of_ble rfl)
              apply Wk.gon 36 rfl rfl
              apply Wk.ld (i := 5) 1 false ty3 rfl rfl (by conv => lhs; whnf) (lt_of_ble rfl)
              apply Wk.gon 36 rfl rfl
              apply Wk.bin rfl rfl (r := .bool false) (fun w => by simp [go_sem] <;> omega) (lt_of_ble rfl)
              apply Wk.pckF rfl (by conv => lhs; whnf) (lt_of_ble rfl)
              apply Wk.mv (by conv => lhs; whnf) (lt_of_ble rfl)
              apply Wk.gon 41 rfl rfl
              apply Wk.fad 9 0 false fd27_9 rfl (lt_of_ble rfl)
              apply Wk.gon 41 rfl rfl
              apply Wk.ld (i := 6) 1 false ty4 rfl rfl (by conv => lhs; whnf) (lt_of_ble rfl)
              apply Wk.pckF rfl (by conv => lhs; whnf) (lt_of_ble rfl)
              refine Wk.nil ?_
              refine AW.cond rfl (fun hc => by cases hc) (fun _ => AW.skip (thenA_normal ?_))
              refine AW.seq (AW.seq ?_)
              apply AW.list
              apply Wk.fad 5 0 false fd27_5 rfl (lt_of_ble rfl)
              apply Wk.ld (i := 4) 1 false ty4 rfl rfl (by conv => lhs; whnf) (lt_of_ble rfl)
              refine Wk.nil ?_
              refine AW.cond rfl (fun hc => by cases hc) (fun _ => AW.skip (thenA_normal ?_))
              refine AW.seq (AW.seq ?_)
              apply AW.list
              apply Wk.fad 0 0 false fd42_0 rfl (lt_of_ble rfl)
              apply Wk.ld (i := 5) 1 false ty3 rfl rfl (by conv => lhs; whnf) (lt_of_ble rfl)
              apply Wk.bin rfl rfl (r := .bool true) (fun w => by simp [go_sem]) (lt_of_ble rfl)
              apply Wk.mv (by conv => lhs; whnf) (lt_of_ble rfl)
              apply Wk.gon 72 rfl rfl
              apply Wk.fad 5 0 false fd42_5 rfl (lt_of_ble rfl)
              apply Wk.gon 72 rfl rfl
              apply Wk.ld (i := 5) 1 false ty3 rfl rfl (by conv => lhs; whnf) (lt_of_ble rfl)
              apply Wk.gon 72 rfl rfl
              apply Wk.bin rfl rfl (r := .bool false) (fun w => by simp [go_sem, hy]) (lt_of_ble rfl)
              apply Wk.pckT rfl (by conv => lhs; whnf) (lt_of_ble rfl)
              refine Wk.nil ?_
              refine AW.cond rfl (fun hc => by cases hc) (fun _ => AW.skip (thenA_normal ?_))
              refine AW.seq ?_
              apply AW.list
              apply Wk.fad 5 0 false fd27_5 rfl (lt_of_ble rfl)
              apply Wk.ld (i := 6) 1 false ty4 rfl rfl (by conv => lhs; whnf) (lt_of_ble rfl)
              apply Wk.un rfl (fun w => by simp [go_sem] <;> rfl) (lt_of_ble rfl)
              apply Wk.mv (by conv => lhs; whnf) (lt_of_ble rfl)
              apply Wk.gon 88 rfl rfl
              apply Wk.fad 6 0 false fd27_6 rfl (lt_of_ble rfl)
              apply Wk.gon 88 rfl rfl
              apply Wk.ld (i := 6) 1 false ty3 rfl rfl (by conv => lhs; whnf) (lt_of_ble rfl)
              apply Wk.gon 88 rfl rfl
              apply Wk.fad 6 0 false fd27_6 rfl (lt_of_ble rfl)
              apply Wk.gon 88 rfl rfl
              apply Wk.ld (i := 4) 1 false ty3 rfl rfl (by conv => lhs; whnf) (lt_of_ble rfl)
              apply Wk.gon 88 rfl rfl
              apply Wk.bin rfl rfl (r := .bool true) (fun w => by simp [go_sem]) (lt_of_ble rfl)
              apply Wk.pckT rfl (by conv => lhs; whnf) (lt_of_ble rfl)
              apply Wk.asg (by conv => lhs; whnf) (lt_of_ble rfl)
              refine Wk.nil (AW.ret ?_)
              repeat (first | refine thenA_ret ?_ | refine inBlockA_ret ?_)
              exact RetQ.ret [] (.cons rfl .nil) ⟨rfl, rfl⟩ none_kept
            · rfl
            · rfl
          · skip
            have e : rest3 2 sy false s1 true t hh = (s1, true, t, decide (sy = 2)) := by simp [rest3, hy]
            rw [e] at ci cs
            simp only at ci cs
            refine AW.seq ?_
            apply AW.list
            apply Wk.ld (i := 3) 5 true ty24 rfl rfl (by conv => lhs; whnf) (lt_of_ble rfl)
            apply Wk.ld (i := 4) 10 true ty27 rfl rfl (by conv => lhs; whnf) (lt_of_ble rfl)
            apply Wk.ld (i := 5) 9 true ty42 rfl rfl (by conv => lhs; whnf) (lt_of_ble rfl)
            apply Wk.dat ci Try.func31 rfl rfl rfl rfl rfl (lt_of_ble rfl)
            apply Wk.alc 6 [.int .i64 0, .int .i64 0, .slice none 0 0, .int .i64 0, .slice none 0 0, .bool false, .int .i64 0, .bool false, .int .i64 0, .bool false] ze27 rfl rfl (lt_of_ble rfl)
            apply Wk.sto (i := 6) 10 true ty27 rfl rfl rfl rfl (Nat.le_of_ble_eq_true rfl) (lt_of_ble rfl)
            refine Wk.nil ?_
            refine AW.seq (AW.seq ?_)
            apply AW.draw (hm := hmix) (cs := _)
            · apply Wk.ld (i := 6) 10 true ty27 rfl rfl (by conv => lhs; whnf) (lt_of_ble rfl)
              apply Wk.ld (i := 3) 5 true ty24 rfl rfl (by conv => lhs; whnf) (lt_of_ble rfl)
              apply Wk.ld (i := 4) 10 true ty27 rfl rfl (by conv => lhs; whnf) (lt_of_ble rfl)
              apply Wk.ld (i := 5) 9 true ty42 rfl rfl (by conv => lhs; whnf) (lt_of_ble rfl)
              apply Wk.dat cs Try.func32 rfl rfl rfl rfl rfl (lt_of_ble rfl)
              apply Wk.dat (liTxE _) Try.func16 rfl rfl rfl rfl rfl (lt_of_ble rfl)
              apply Wk.un rfl (fun w => by simp [go_sem] <;> rfl) (lt_of_ble rfl)
              refine Wk.nil ?_
              refine AW.cond rfl (fun hc => by cases hc) (fun _ => AW.skip (thenA_normal ?_))
              refine AW.seq (AW.seq ?_)
              apply AW.list
              apply Wk.ld (i := 3) 5 true ty24 rfl rfl (by conv => lhs; whnf) (lt_of_ble rfl)
              apply Wk.ld (i := 4) 10 true ty27 rfl rfl (by conv => lhs; whnf) (lt_of_ble rfl)
              apply Wk.dat (stxb hok) Try.func18 rfl rfl rfl rfl rfl (lt_of_ble rfl)
              apply Wk.un rfl (fun w => by simp [go_sem] <;> rfl) (lt_of_ble rfl)
              apply Wk.mv (by conv => lhs; whnf) (lt_of_ble rfl)
              apply Wk.gon 31 rfl rfl
              apply Wk.ld (i := 5) 9 true ty42 rfl rfl (by conv => lhs; whnf) (lt_of_ble rfl)
              apply Wk.gon 31 rfl rfl
              apply Wk.dat (sfrmY hfr) Try.func33 rfl rfl rfl rfl rfl (lt_of_ble rfl)
              apply Wk.gon 31 rfl rfl
              apply Wk.un rfl (fun w => by simp [go_sem] <;> rfl) (lt_of_ble rfl)
              apply Wk.pckF rfl (by conv => lhs; whnf) (lt_of_ble rfl)
              apply Wk.mv (by conv => lhs; whnf) (lt_of_ble rfl)
              apply Wk.gon 36 rfl rfl
              apply Wk.fad 0 0 false fd42_0 rfl (lt_of_ble rfl)
              apply Wk.gon 36 rfl rfl
              apply Wk.ld (i := 5) 1 false ty3 rfl rfl (by conv => lhs; whnf) (lt_of_ble rfl)
              apply Wk.gon 36 rfl rfl
              apply Wk.bin rfl rfl (r := .bool false) (fun w => by simp [go_sem] <;> omega) (lt_of_ble rfl)
              apply Wk.pckF rfl (by conv => lhs; whnf) (lt_of_ble rfl)
              apply Wk.mv (by conv => lhs; whnf) (lt_of_ble rfl)
              apply Wk.gon 41 rfl rfl
              apply Wk.fad 9 0 false fd27_9 rfl (lt_of_ble rfl)
              apply Wk.gon 41 rfl rfl
              apply Wk.ld (i := 6) 1 false ty4 rfl rfl (by conv => lhs; whnf) (lt_of_ble rfl)
              apply Wk.pckF rfl (by conv => lhs; whnf) (lt_of_ble rfl)
              refine Wk.nil ?_
              refine AW.cond rfl (fun hc => by cases hc) (fun _ => AW.skip (thenA_normal ?_))
              refine AW.seq (AW.seq ?_)
              apply AW.list
              apply Wk.fad 5 0 false fd27_5 rfl (lt_of_ble rfl)
              apply Wk.ld (i := 4) 1 false ty4 rfl rfl (by conv => lhs; whnf) (lt_of_ble rfl)
              refine Wk.nil ?_
              refine AW.cond rfl (fun _ => ?_) (fun hc => by cases hc)
              refine AW.seq ?_
              apply AW.list
              apply Wk.fad 5 0 false fd27_5 rfl (lt_of_ble rfl)
              apply Wk.ld (i := 6) 1 false ty4 rfl rfl (by conv => lhs; whnf) (lt_of_ble rfl)
              apply Wk.fad 4 0 false fd42_4 rfl (lt_of_ble rfl)
              apply Wk.ld (i := 5) 1 false ty4 rfl rfl (by conv => lhs; whnf) (lt_of_ble rfl)
              apply Wk.un rfl (fun w => by simp [go_sem] <;> rfl) (lt_of_ble rfl)
              apply Wk.bin rfl rfl (r := .bool true) (fun w => by simp [go_sem]) (lt_of_ble rfl)
              apply Wk.mv (by conv => lhs; whnf) (lt_of_ble rfl)
              apply Wk.gon 54 rfl rfl
              apply Wk.fad 4 0 false fd42_4 rfl (lt_of_ble rfl)
              apply Wk.gon 54 rfl rfl
              apply Wk.ld (i := 5) 1 false ty4 rfl rfl (by conv => lhs; whnf) (lt_of_ble rfl)
              apply Wk.gon 54 rfl rfl
              apply Wk.un rfl (fun w => by simp [go_sem] <;> rfl) (lt_of_ble rfl)
              apply Wk.gon 54 rfl rfl
              apply Wk.mv (by conv => lhs; whnf) (lt_of_ble rfl)
              apply Wk.goff 58 (ok_faddr fd27_3) rfl rfl (by simp)
              apply Wk.goff 58 (ok_load 6 ty3) rfl rfl (by simp)
              apply Wk.goff 58 (ok_bin _ _ _ _ _) rfl rfl (by simp)
              apply Wk.goff 58 (ok_move _) rfl rfl (by simp)
              apply Wk.goffu 62 (ok_faddr fd27_6) rfl rfl
              apply Wk.goffu 62 (ok_load 6 ty3) rfl rfl
              apply Wk.goffu 62 (ok_bin _ _ _ _ _) rfl rfl
              apply Wk.goff 58 (ok_pick _ _ _) rfl rfl (by simp)
              apply Wk.gon 54 rfl rfl
              apply Wk.pckT rfl (by conv => lhs; whnf) (lt_of_ble rfl)
              apply Wk.pckT rfl (by conv => lhs; whnf) (lt_of_ble rfl)
              apply Wk.asg (by conv => lhs; whnf) (lt_of_ble rfl)
              refine Wk.nil (AW.ret ?_)
              repeat (first | refine thenA_ret ?_ | refine inBlockA_ret ?_)
              exact RetQ.ret [] (.cons rfl .nil) ⟨rfl, rfl⟩ none_kept
            · rfl
            · rfl
          · skip
            have e : rest3 2 sy true s1 false t hh = (s1, false, t, decide (sy = 2)) := by simp [rest3, hy]
            rw [e] at ci cs
            simp only at ci cs
            refine AW.seq ?_
            apply AW.list
            apply Wk.ld (i := 3) 5 true ty24 rfl rfl (by conv => lhs; whnf) (lt_of_ble rfl)
            apply Wk.ld (i := 4) 10 true ty27 rfl rfl (by conv => lhs; whnf) (lt_of_ble rfl)
            apply Wk.ld (i := 5) 9 true ty42 rfl rfl (by conv => lhs; whnf) (lt_of_ble rfl)
            apply Wk.dat ci Try.func31 rfl rfl rfl rfl rfl (lt_of_ble rfl)
            apply Wk.alc 6 [.int .i64 0, .int .i64 0, .slice none 0 0, .int .i64 0, .slice none 0 0, .bool false, .int .i64 0, .bool false, .int .i64 0, .bool false] ze27 rfl rfl (lt_of_ble rfl)
            apply Wk.sto (i := 6) 10 true ty27 rfl rfl rfl rfl (Nat.le_of_ble_eq_true rfl) (lt_of_ble rfl)
            refine Wk.nil ?_
            refine AW.seq (AW.seq ?_)
            apply AW.draw (hm := hmix) (cs := _)
            · apply Wk.ld (i := 6) 10 true ty27 rfl rfl (by conv => lhs; whnf) (lt_of_ble rfl)
              apply Wk.ld (i := 3) 5 true ty24 rfl rfl (by conv => lhs; whnf) (lt_of_ble rfl)
              apply Wk.ld (i := 4) 10 true ty27 rfl rfl (by conv => lhs; whnf) (lt_of_ble rfl)
              apply Wk.ld (i := 5) 9 true ty42 rfl rfl (by conv => lhs; whnf) (lt_of_ble rfl)
              apply Wk.dat cs Try.func32 rfl rfl rfl rfl rfl (lt_of_ble rfl)
              apply Wk.dat (liTxE _) Try.func16 rfl rfl rfl rfl rfl (lt_of_ble rfl)
              apply Wk.un rfl (fun w => by simp [go_sem] <;> rfl) (lt_of_ble rfl)
              refine Wk.nil ?_
              refine AW.cond rfl (fun hc => by cases hc) (fun _ => AW.skip (thenA_normal ?_))
              refine AW.seq (AW.seq ?_)
              apply AW.list
              apply Wk.ld (i := 3) 5 true ty24 rfl rfl (by conv => lhs; whnf) (lt_of_ble rfl)
              apply Wk.ld (i := 4) 10 true ty27 rfl rfl (by conv => lhs; whnf) (lt_of_ble rfl)
              apply Wk.dat (stxb hok) Try.func18 rfl rfl rfl rfl rfl (lt_of_ble rfl)
              apply Wk.un rfl (fun w => by simp [go_sem] <;> rfl) (lt_of_ble rfl)
              apply Wk.mv (by conv => lhs; whnf) (lt_of_ble rfl)
              apply Wk.gon 31 rfl rfl
              apply Wk.ld (i := 5) 9 true ty42 rfl rfl (by conv => lhs; whnf) (lt_of_ble rfl)
              apply Wk.gon 31 rfl rfl
              apply Wk.dat (sfrmY hfr) Try.func33 rfl rfl rfl rfl rfl (lt_of_ble rfl)
              apply Wk.gon 31 rfl rfl
              apply Wk.un rfl (fun w => by simp [go_sem] <;> rfl) (lt_of_ble rfl)
              apply Wk.pckF rfl (by conv => lhs; whnf) (lt_of_ble rfl)
              apply Wk.mv (by conv => lhs; whnf) (lt_of_ble rfl)
              apply Wk.gon 36 rfl rfl
              apply Wk.fad 0 0 false fd42_0 rfl (lt_of_ble rfl)
              apply Wk.gon 36 rfl rfl
              apply Wk.ld (i := 5) 1 false ty3 rfl rfl (by conv => lhs; whnf) (lt_of_ble rfl)
              apply Wk.gon 36 rfl rfl
              apply Wk.bin rfl rfl (r := .bool false) (fun w => by simp [go_sem] <;> omega) (lt_of_ble rfl)
              apply Wk.pckF rfl (by conv => lhs; whnf) (lt_of_ble rfl)
              apply Wk.mv (by conv => lhs; whnf) (lt_of_ble rfl)
              apply Wk.gon 41 rfl rfl
              apply Wk.fad 9 0 false fd27_9 rfl (lt_of_ble rfl)
              apply Wk.gon 41 rfl rfl
              apply Wk.ld (i := 6) 1 false ty4 rfl rfl (by conv => lhs; whnf) (lt_of_ble rfl)
              apply Wk.pckF rfl (by conv => lhs; whnf) (lt_of_ble rfl)
              refine Wk.nil ?_
              refine AW.cond rfl (fun hc => by cases hc) (fun _ => AW.skip (thenA_normal ?_))
              refine AW.seq (AW.seq ?_)
              apply AW.list
              apply Wk.fad 5 0 false fd27_5 rfl (lt_of_ble rfl)
              apply Wk.ld (i := 4) 1 false ty4 rfl rfl (by conv => lhs; whnf) (lt_of_ble rfl)
              refine Wk.nil ?_
              refine AW.cond rfl (fun hc => by cases hc) (fun _ => AW.skip (thenA_normal ?_))
              refine AW.seq (AW.seq ?_)
              apply AW.list
              apply Wk.fad 0 0 false fd42_0 rfl (lt_of_ble rfl)
              apply Wk.ld (i := 5) 1 false ty3 rfl rfl (by conv => lhs; whnf) (lt_of_ble rfl)
              apply Wk.bin rfl rfl (r := .bool true) (fun w => by simp [go_sem]) (lt_of_ble rfl)
              apply Wk.mv (by conv => lhs; whnf) (lt_of_ble rfl)
              apply Wk.gon 72 rfl rfl
              apply Wk.fad 5 0 false fd42_5 rfl (lt_of_ble rfl)
              apply Wk.gon 72 rfl rfl
              apply Wk.ld (i := 5) 1 false ty3 rfl rfl (by conv => lhs; whnf) (lt_of_ble rfl)
              apply Wk.gon 72 rfl rfl
              apply Wk.bin rfl rfl (r := .bool false) (fun w => by simp [go_sem, hy]) (lt_of_ble rfl)
              apply Wk.pckT rfl (by conv => lhs; whnf) (lt_of_ble rfl)
              refine Wk.nil ?_
              refine AW.cond rfl (fun hc => by cases hc) (fun _ => AW.skip (thenA_normal ?_))
              refine AW.seq ?_
              apply AW.list
              apply Wk.fad 5 0 false fd27_5 rfl (lt_of_ble rfl)
              apply Wk.ld (i := 6) 1 false ty4 rfl rfl (by conv => lhs; whnf) (lt_of_ble rfl)
              apply Wk.un rfl (fun w => by simp [go_sem] <;> rfl) (lt_of_ble rfl)
              apply Wk.mv (by conv => lhs; whnf) (lt_of_ble rfl)
              apply Wk.gon 88 rfl rfl
              apply Wk.fad 6 0 false fd27_6 rfl (lt_of_ble rfl)
              apply Wk.gon 88 rfl rfl
              apply Wk.ld (i := 6) 1 false ty3 rfl rfl (by conv => lhs; whnf) (lt_of_ble rfl)
              apply Wk.gon 88 rfl rfl
              apply Wk.fad 6 0 false fd27_6 rfl (lt_of_ble rfl)
              apply Wk.gon 88 rfl rfl
              apply Wk.ld (i := 4) 1 false ty3 rfl rfl (by conv => lhs; whnf) (lt_of_ble rfl)
              apply Wk.gon 88 rfl rfl
              apply Wk.bin rfl rfl (r := .bool true) (fun w => by simp [go_sem]) (lt_of_ble rfl)
              apply Wk.pckT rfl (by conv => lhs; whnf) (lt_of_ble rfl)
              apply Wk.asg (by conv => lhs; whnf) (lt_of_ble rfl)
              refine Wk.nil (AW.ret ?_)
              repeat (first | refine thenA_ret ?_ | refine inBlockA_ret ?_)
              exact RetQ.ret [] (.cons rfl .nil) ⟨rfl, rfl⟩ none_kept
            · rfl
            · rfl
          · skip
            have e : rest3 2 sy true s1 true t hh = (0, false, 0, decide (sy = 2)) := by simp [rest3, hy]
            rw [e] at ci cs
            simp only at ci cs
            refine AW.seq ?_
            apply AW.list
            apply Wk.ld (i := 3) 5 true ty24 rfl rfl (by conv => lhs; whnf) (lt_of_ble rfl)
            apply Wk.ld (i := 4) 10 true ty27 rfl rfl (by conv => lhs; whnf) (lt_of_ble rfl)
            apply Wk.ld (i := 5) 9 true ty42 rfl rfl (by conv => lhs; whnf) (lt_of_ble rfl)
            apply Wk.dat ci Try.func31 rfl rfl rfl rfl rfl (lt_of_ble rfl)
            apply Wk.alc 6 [.int .i64 0, .int .i64 0, .slice none 0 0, .int .i64 0, .slice none 0 0, .bool false, .int .i64 0, .bool false, .int .i64 0, .bool false] ze27 rfl rfl (lt_of_ble rfl)
            apply Wk.sto (i := 6) 10 true ty27 rfl rfl rfl rfl (Nat.le_of_ble_eq_true rfl) (lt_of_ble rfl)
            refine Wk.nil ?_
            refine AW.seq (AW.seq ?_)
            apply AW.draw (hm := hmix) (cs := _)
            · apply Wk.ld (i := 6) 10 true ty27 rfl rfl (by conv => lhs; whnf) (lt_of_ble rfl)
              apply Wk.ld (i := 3) 5 true ty24 rfl rfl (by conv => lhs; whnf) (lt_of_ble rfl)
              apply Wk.ld (i := 4) 10 true ty27 rfl rfl (by conv => lhs; whnf) (lt_of_ble rfl)
              apply Wk.ld (i := 5) 9 true ty42 rfl rfl (by conv => lhs; whnf) (lt_of_ble rfl)
              apply Wk.dat cs Try.func32 rfl rfl rfl rfl rfl (lt_of_ble rfl)
              apply Wk.dat (liTxE _) Try.func16 rfl rfl rfl rfl rfl (lt_of_ble rfl)
              apply Wk.un rfl (fun w => by simp [go_sem] <;> rfl) (lt_of_ble rfl)
              refine Wk.nil ?_
              refine AW.cond rfl (fun hc => by cases hc) (fun _ => AW.skip (thenA_normal ?_))
              refine AW.seq (AW.seq ?_)
              apply AW.list
              apply Wk.ld (i := 3) 5 true ty24 rfl rfl (by conv => lhs; whnf) (lt_of_ble rfl)
              apply Wk.ld (i := 4) 10 true ty27 rfl rfl (by conv => lhs; whnf) (lt_of_ble rfl)
              apply Wk.dat (stxb hok) Try.func18 rfl rfl rfl rfl rfl (lt_of_ble rfl)
              apply Wk.un rfl (fun w => by simp [go_sem] <;> rfl) (lt_of_ble rfl)
              apply Wk.mv (by conv => lhs; whnf) (lt_of_ble rfl)
              apply Wk.gon 31 rfl rfl
              apply Wk.ld (i := 5) 9 true ty42 rfl rfl (by conv => lhs; whnf) (lt_of_ble rfl)
              apply Wk.gon 31 rfl rfl
              apply Wk.dat (sfrmY hfr) Try.func33 rfl rfl rfl rfl rfl (lt_of_ble rfl)
              apply Wk.gon 31 rfl rfl
              apply Wk.un rfl (fun w => by simp [go_sem] <;> rfl) (lt_of_ble rfl)
              apply Wk.pckF rfl (by conv => lhs; whnf) (lt_of_ble rfl)
              apply Wk.mv (by conv => lhs; whnf) (lt_of_ble rfl)
              apply Wk.gon 36 rfl rfl
              apply Wk.fad 0 0 false fd42_0 rfl (lt_of_ble rfl)
              apply Wk.gon 36 rfl rfl
              apply Wk.ld (i := 5) 1 false ty3 rfl rfl (by conv => lhs; whnf) (lt_of_ble rfl)
              apply Wk.gon 36 rfl rfl
              apply Wk.bin rfl rfl (r := .bool false) (fun w => by simp [go_sem] <;> omega) (lt_of_ble rfl)
              apply Wk.pckF rfl (by conv => lhs; whnf) (lt_of_ble rfl)
              apply Wk.mv (by conv => lhs; whnf) (lt_of_ble rfl)
              apply Wk.gon 41 rfl rfl
              apply Wk.fad 9 0 false fd27_9 rfl (lt_of_ble rfl)
              apply Wk.gon 41 rfl rfl
              apply Wk.ld (i := 6) 1 false ty4 rfl rfl (by conv => lhs; whnf) (lt_of_ble rfl)
              apply Wk.pckF rfl (by conv => lhs; whnf) (lt_of_ble rfl)
              refine Wk.nil ?_
              refine AW.cond rfl (fun hc => by cases hc) (fun _ => AW.skip (thenA_normal ?_))
              refine AW.seq (AW.seq ?_)
              apply AW.list
              apply Wk.fad 5 0 false fd27_5 rfl (lt_of_ble rfl)
              apply Wk.ld (i := 4) 1 false ty4 rfl rfl (by conv => lhs; whnf) (lt_of_ble rfl)
              refine Wk.nil ?_
              refine AW.cond rfl (fun _ => ?_) (fun hc => by cases hc)
              refine AW.seq ?_
              apply AW.list
              apply Wk.fad 5 0 false fd27_5 rfl (lt_of_ble rfl)
              apply Wk.ld (i := 6) 1 false ty4 rfl rfl (by conv => lhs; whnf) (lt_of_ble rfl)
              apply Wk.fad 4 0 false fd42_4 rfl (lt_of_ble rfl)
              apply Wk.ld (i := 5) 1 false ty4 rfl rfl (by conv => lhs; whnf) (lt_of_ble rfl)
              apply Wk.un rfl (fun w => by simp [go_sem] <;> rfl) (lt_of_ble rfl)
              apply Wk.bin rfl rfl (r := .bool true) (fun w => by simp [go_sem]) (lt_of_ble rfl)
              apply Wk.mv (by conv => lhs; whnf) (lt_of_ble rfl)
              apply Wk.gon 54 rfl rfl
              apply Wk.fad 4 0 false fd42_4 rfl (lt_of_ble rfl)
              apply Wk.gon 54 rfl rfl
              apply Wk.ld (i := 5) 1 false ty4 rfl rfl (by conv => lhs; whnf) (lt_of_ble rfl)
              apply Wk.gon 54 rfl rfl
              apply Wk.un rfl (fun w => by simp [go_sem] <;> rfl) (lt_of_ble rfl)
              apply Wk.gon 54 rfl rfl
              apply Wk.mv (by conv => lhs; whnf) (lt_of_ble rfl)
              apply Wk.gon 58 rfl rfl
              apply Wk.fad 3 0 false fd27_3 rfl (lt_of_ble rfl)
              apply Wk.gon 58 rfl rfl
              apply Wk.ld (i := 6) 1 false ty3 rfl rfl (by conv => lhs; whnf) (lt_of_ble rfl)
              apply Wk.gon 58 rfl rfl
              apply Wk.bin rfl rfl (r := .bool true) (fun w => by simp [go_sem]) (lt_of_ble rfl)
              apply Wk.gon 58 rfl rfl
              apply Wk.mv (by conv => lhs; whnf) (lt_of_ble rfl)
              apply Wk.gon 62 rfl rfl
              apply Wk.fad 6 0 false fd27_6 rfl (lt_of_ble rfl)
              apply Wk.gon 62 rfl rfl
              apply Wk.ld (i := 6) 1 false ty3 rfl rfl (by conv => lhs; whnf) (lt_of_ble rfl)
              apply Wk.gon 62 rfl rfl
              apply Wk.bin rfl rfl (r := .bool true) (fun w => by simp [go_sem]) (lt_of_ble rfl)
              apply Wk.gon 58 rfl rfl
              apply Wk.pckT rfl (by conv => lhs; whnf) (lt_of_ble rfl)
              apply Wk.gon 54 rfl rfl
              apply Wk.pckF rfl (by conv => lhs; whnf) (lt_of_ble rfl)
              apply Wk.pckT rfl (by conv => lhs; whnf) (lt_of_ble rfl)
              apply Wk.asg (by conv => lhs; whnf) (lt_of_ble rfl)
              refine Wk.nil (AW.ret ?_)
              repeat (first | refine thenA_ret ?_ | refine inBlockA_ret ?_)
              exact RetQ.ret [] (.cons rfl .nil) ⟨rfl, rfl⟩ none_kept
            · rfl
            · rfl
    · have hlt : (fl.length : Int) < (j : Int) := by omega
      have hX : hearX ⟨n, a, fl, s, qu, q, t, hh, c, false⟩ k ack fi sy = ⟨n, a, fl, s, qu, q, t, hh, c, true⟩ := by
        have e1 : ackX ⟨n, a, fl, s, qu, q, t, hh, c, false⟩ ack = ⟨n, a, fl, s, qu, q, t, hh, c, true⟩ := by
          unfold ackX
          rw [if_pos (by simp only [hfar, hj]; exact hlt)]
        simp [hearX, e1]
      rw [hX] at ci cs
      clear hX
      refine AW.seq ?_
      apply AW.list
      apply Wk.ld (i := 3) 5 true ty24 rfl rfl (by conv => lhs; whnf) (lt_of_ble rfl)
      apply Wk.ld (i := 4) 10 true ty27 rfl rfl (by conv => lhs; whnf) (lt_of_ble rfl)
      apply Wk.ld (i := 5) 9 true ty42 rfl rfl (by conv => lhs; whnf) (lt_of_ble rfl)
      apply Wk.dat ci Try.func31 rfl rfl rfl rfl rfl (lt_of_ble rfl)
      apply Wk.alc 6 [.int .i64 0, .int .i64 0, .slice none 0 0, .int .i64 0, .slice none 0 0, .bool false, .int .i64 0, .bool false, .int .i64 0, .bool false] ze27 rfl rfl (lt_of_ble rfl)
      apply Wk.sto (i := 6) 10 true ty27 rfl rfl rfl rfl (Nat.le_of_ble_eq_true rfl) (lt_of_ble rfl)
      refine Wk.nil ?_
      refine AW.seq (AW.seq ?_)
      apply AW.draw (hm := hmix) (cs := _)
      · apply Wk.ld (i := 6) 10 true ty27 rfl rfl (by conv => lhs; whnf) (lt_of_ble rfl)
        apply Wk.ld (i := 3) 5 true ty24 rfl rfl (by conv => lhs; whnf) (lt_of_ble rfl)
        apply Wk.ld (i := 4) 10 true ty27 rfl rfl (by conv => lhs; whnf) (lt_of_ble rfl)
        apply Wk.ld (i := 5) 9 true ty42 rfl rfl (by conv => lhs; whnf) (lt_of_ble rfl)
        apply Wk.dat cs Try.func32 rfl rfl rfl rfl rfl (lt_of_ble rfl)
        apply Wk.dat (liTxE _) Try.func16 rfl rfl rfl rfl rfl (lt_of_ble rfl)
        apply Wk.un rfl (fun w => by simp [go_sem] <;> rfl) (lt_of_ble rfl)
        refine Wk.nil ?_
        refine AW.cond rfl (fun hc => by cases hc) (fun _ => AW.skip (thenA_normal ?_))
        refine AW.seq (AW.seq ?_)
        apply AW.list
        apply Wk.ld (i := 3) 5 true ty24 rfl rfl (by conv => lhs; whnf) (lt_of_ble rfl)
        apply Wk.ld (i := 4) 10 true ty27 rfl rfl (by conv => lhs; whnf) (lt_of_ble rfl)
        apply Wk.dat (stxb hok) Try.func18 rfl rfl rfl rfl rfl (lt_of_ble rfl)
        apply Wk.un rfl (fun w => by simp [go_sem] <;> rfl) (lt_of_ble rfl)
        apply Wk.mv (by conv => lhs; whnf) (lt_of_ble rfl)
        apply Wk.gon 31 rfl rfl
        apply Wk.ld (i := 5) 9 true ty42 rfl rfl (by conv => lhs; whnf) (lt_of_ble rfl)
        apply Wk.gon 31 rfl rfl
        apply Wk.dat (sfrmY hfr) Try.func33 rfl rfl rfl rfl rfl (lt_of_ble rfl)
        apply Wk.gon 31 rfl rfl
        apply Wk.un rfl (fun w => by simp [go_sem] <;> rfl) (lt_of_ble rfl)
        apply Wk.pckF rfl (by conv => lhs; whnf) (lt_of_ble rfl)
        apply Wk.mv (by conv => lhs; whnf) (lt_of_ble rfl)
        apply Wk.gon 36 rfl rfl
        apply Wk.fad 0 0 false fd42_0 rfl (lt_of_ble rfl)
        apply Wk.gon 36 rfl rfl
        apply Wk.ld (i := 5) 1 false ty3 rfl rfl (by conv => lhs; whnf) (lt_of_ble rfl)
        apply Wk.gon 36 rfl rfl
        apply Wk.bin rfl rfl (r := .bool false) (fun w => by simp [go_sem] <;> omega) (lt_of_ble rfl)
        apply Wk.pckF rfl (by conv => lhs; whnf) (lt_of_ble rfl)
        apply Wk.mv (by conv => lhs; whnf) (lt_of_ble rfl)
        apply Wk.gon 41 rfl rfl
        apply Wk.fad 9 0 false fd27_9 rfl (lt_of_ble rfl)
        apply Wk.gon 41 rfl rfl
        apply Wk.ld (i := 6) 1 false ty4 rfl rfl (by conv => lhs; whnf) (lt_of_ble rfl)
        apply Wk.pckF rfl (by conv => lhs; whnf) (lt_of_ble rfl)
        refine Wk.nil ?_
        refine AW.cond rfl (fun _ => ?_) (fun hc => by cases hc)
        refine AW.seq ?_
        apply AW.list
        apply Wk.dat liok_ok Try.func19 rfl rfl rfl rfl rfl (lt_of_ble rfl)
        apply Wk.asg (by conv => lhs; whnf) (lt_of_ble rfl)
        refine Wk.nil (AW.ret ?_)
        repeat (first | refine thenA_ret ?_ | refine inBlockA_ret ?_)
        exact RetQ.ret [] (.cons rfl .nil) ⟨rfl, rfl⟩ none_kept
      · rfl
      · rfl
namespace fnTxFinal
set_option maxRecDepth 100000 in
theorem walk (a0 : Option Addr) (len0 cap0 : Nat) (z0 : List Int) (w : World) (w0 : IsRow .u8 w a0 len0 cap0 z0) :
    Calls Try.prog 7 #[.slice a0 len0 cap0] w fun e w' => e = .returned (.bool true) ∧ Below w.heap.size w w' := by
  by_cases hs0 : (1048576 : Int) < (len0 : Int)
  · go_enter Try.func7, Try.ntmps7
    go_wp2
    go_ret
    exact ⟨rfl, Below.refl _ _⟩
  obtain ⟨cz, hR0, _⟩ := w0.rd (by omega)
  obtain ⟨zs, rfl⟩ := byt_fin hR0.1
  exact (lawTxFinal_ok zs).run hR0
end fnTxFinal
end Go.Proofs.Ytdojkmjamilllaa
