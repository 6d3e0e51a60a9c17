/- The law of TxHear (all has come), promise 77, returns true at every code. Written by tools/mk_WFnTxAll.py. -/
import Derived.Test.YtdojkmjamilllaaMa
import Derived.Test.YtdojkmjamilllaaMb
import Derived.Test.YtdojkmjamilllaaMc
import Derived.Test.YtdojkmjamilllaaMd
import Derived.Test.YtdojkmjamilllaaMe
import Derived.Test.YtdojkmjamilllaaMf
import Derived.Test.YtdojkmjamilllaaMg
import Derived.Test.YtdojkmjamilllaaMh
import Derived.RowKit3
namespace Go.Proofs.Ytdojkmjamilllaa
open Go Go.RowKit
set_option maxHeartbeats 4000000 in
set_option maxRecDepth 100000 in
theorem lawTxAll_ok (zs : List (Fin 256)) : DataOk Try.prog 10 [.d (bytesD (zs.map (·.val)))] (.d (.v (.bool true))) := by
  refine Spec.intro (n := 73) (rv := [.tmp 2]) Try.func10 rfl rfl rfl (by simp) fun C hN hX => ?_
  refine AW.seq ?_
  apply AW.list
  apply Wk.asg (by conv => lhs; whnf) (lt_of_ble rfl)
  refine Wk.nil ?_
  refine AW.seq (AW.seq ?_)
  apply AW.list
  apply Wk.mv (by conv => lhs; whnf) (lt_of_ble rfl)
  apply Wk.len un22 rfl (lt_of_ble rfl)
  apply Wk.bin rfl rfl (fun w => by simp [go_sem] <;> rfl) (lt_of_ble rfl)
  refine Wk.nil ?_
  refine AW.cond rfl (fun hc => ?_) (fun hc => ?_)
  · refine AW.seq ?_
    apply AW.list
    apply Wk.asg (by conv => lhs; whnf) (lt_of_ble rfl)
    refine Wk.nil (AW.ret ?_)
    refine thenA_ret ?_
    exact RetQ.ret [] (.cons rfl .nil) ⟨rfl, rfl⟩ none_kept
  refine AW.skip (thenA_normal ?_)
  refine AW.seq ?_
  apply AW.list
  apply Wk.mv (by conv => lhs; whnf) (lt_of_ble rfl)
  apply Wk.datw (drawTxOk_ok zs) Try.func38 rfl rfl rfl rfl (lt_of_ble rfl)
  rintro _ ⟨m, w, p, u, y, x, rfl, hx⟩
  apply Wk.mv (by conv => lhs; whnf) (lt_of_ble rfl)
  apply Wk.ext rfl rfl (lt_of_ble rfl)
  apply Wk.ext rfl rfl (lt_of_ble rfl)
  apply Wk.alc 3 [.int .i64 0, .int .i64 0, .int .i64 0, .int .i64 0, .int .i64 0] ze24 rfl rfl (lt_of_ble rfl)
  apply Wk.alc 4 [.int .i64 0, .int .i64 0, .slice none 0 0, .int .i64 0, .slice none 0 0, .bool false, .int .i64 0, .bool false, .int .i64 0, .bool false] ze27 rfl rfl (lt_of_ble rfl)
  apply Wk.sto (i := 3) 5 true ty24 rfl rfl rfl rfl (Nat.le_of_ble_eq_true rfl) (lt_of_ble rfl)
  apply Wk.sto (i := 4) 10 true ty27 rfl rfl rfl rfl (Nat.le_of_ble_eq_true rfl) (lt_of_ble rfl)
  refine Wk.nil ?_
  cases hok : txOkB ⟨m, w, p, u, y⟩ x
  · skip
    refine AW.seq (AW.seq ?_)
    apply AW.list
    apply Wk.ld (i := 3) 5 true ty24 rfl rfl (by conv => lhs; whnf) (lt_of_ble rfl)
    apply Wk.ld (i := 4) 10 true ty27 rfl rfl (by conv => lhs; whnf) (lt_of_ble rfl)
    apply Wk.dat (stxb hok) Try.func18 rfl rfl rfl rfl rfl (lt_of_ble rfl)
    apply Wk.un rfl (fun w => by simp [go_sem] <;> rfl) (lt_of_ble rfl)
    apply Wk.mv (by conv => lhs; whnf) (lt_of_ble rfl)
    apply Wk.goff 19 (ok_faddr fd27_9) rfl rfl (by simp)
    apply Wk.goff 19 (ok_load 4 ty4) rfl rfl (by simp)
    apply Wk.pckT rfl (by conv => lhs; whnf) (lt_of_ble rfl)
    refine Wk.nil ?_
    refine AW.cond rfl (fun _ => ?_) (fun hc => by cases hc)
    refine AW.seq ?_
    apply AW.draw (hm := hmix) (cs := _)
    · apply Wk.ld (i := 3) 5 true ty24 rfl rfl (by conv => lhs; whnf) (lt_of_ble rfl)
      apply Wk.ld (i := 4) 10 true ty27 rfl rfl (by conv => lhs; whnf) (lt_of_ble rfl)
      apply Wk.dat (itxb hok) Try.func17 rfl rfl rfl rfl rfl (lt_of_ble rfl)
      apply Wk.ld (i := 3) 5 true ty24 rfl rfl (by conv => lhs; whnf) (lt_of_ble rfl)
      apply Wk.ld (i := 4) 10 true ty27 rfl rfl (by conv => lhs; whnf) (lt_of_ble rfl)
      apply Wk.dat (stxb hok) Try.func18 rfl rfl rfl rfl rfl (lt_of_ble rfl)
      apply Wk.bin rfl rfl (r := .bool true) (fun w => by simp [go_sem]) (lt_of_ble rfl)
      apply Wk.mv (by conv => lhs; whnf) (lt_of_ble rfl)
      apply Wk.gon 30 rfl rfl
      apply Wk.dat liok_ok Try.func19 rfl rfl rfl rfl rfl (lt_of_ble rfl)
      apply Wk.pckT rfl (by conv => lhs; whnf) (lt_of_ble rfl)
      apply Wk.asg (by conv => lhs; whnf) (lt_of_ble rfl)
      refine Wk.nil (AW.ret ?_)
      repeat (first | refine thenA_ret ?_ | refine inBlockA_ret ?_)
      exact RetQ.ret [] (.cons rfl .nil) ⟨rfl, rfl⟩ none_kept
    · rfl
    · rfl
  have f := txOk_facts hok
  have h4 := (txOk_four hok).1
  have hn := txOk_next hok
  have hq := f.2.2.2.2.2.2.2.2.2.2.1
  have hs0 := f.2.2.2.2.2.2.2.2.2.1
  have hc0 := f.2.2.2.2.2.2.2.2.2.2.2.2.1
  have hcw := hx.2.2.2.2.2.2
  have hfa := f.2.2.2.2.2.2.2.2.1
  have hn7 := (inB_iff _ _ _).1 f.2.2.2.2.2.1
  obtain ⟨n, a, fl, s, qu, q, t, hh, c, dd⟩ := x
  simp only at h4 hn hq hs0 hc0 hcw hfa hn7
  cases dd
  case true =>
    refine AW.seq (AW.seq ?_)
    apply AW.list
    apply Wk.ld (i := 3) 5 true ty24 rfl rfl (by conv => lhs; whnf) (lt_of_ble rfl)
    apply Wk.ld (i := 4) 10 true ty27 rfl rfl (by conv => lhs; whnf) (lt_of_ble rfl)
    apply Wk.dat (stxb hok) Try.func18 rfl rfl rfl rfl rfl (lt_of_ble rfl)
    apply Wk.un rfl (fun w => by simp [go_sem] <;> rfl) (lt_of_ble rfl)
    apply Wk.mv (by conv => lhs; whnf) (lt_of_ble rfl)
    apply Wk.gon 19 rfl rfl
    apply Wk.fad 9 0 false fd27_9 rfl (lt_of_ble rfl)
    apply Wk.gon 19 rfl rfl
    apply Wk.ld (i := 4) 1 false ty4 rfl rfl (by conv => lhs; whnf) (lt_of_ble rfl)
    apply Wk.pckF rfl (by conv => lhs; whnf) (lt_of_ble rfl)
    refine Wk.nil ?_
    refine AW.cond rfl (fun _ => ?_) (fun hc => by cases hc)
    refine AW.seq ?_
    apply AW.draw (hm := hmix) (cs := _)
    · apply Wk.ld (i := 3) 5 true ty24 rfl rfl (by conv => lhs; whnf) (lt_of_ble rfl)
      apply Wk.ld (i := 4) 10 true ty27 rfl rfl (by conv => lhs; whnf) (lt_of_ble rfl)
      apply Wk.dat (itxb hok) Try.func17 rfl rfl rfl rfl rfl (lt_of_ble rfl)
      apply Wk.ld (i := 3) 5 true ty24 rfl rfl (by conv => lhs; whnf) (lt_of_ble rfl)
      apply Wk.ld (i := 4) 10 true ty27 rfl rfl (by conv => lhs; whnf) (lt_of_ble rfl)
      apply Wk.dat (stxb hok) Try.func18 rfl rfl rfl rfl rfl (lt_of_ble rfl)
      apply Wk.bin rfl rfl (r := .bool true) (fun w => by simp [go_sem]) (lt_of_ble rfl)
      apply Wk.mv (by conv => lhs; whnf) (lt_of_ble rfl)
      apply Wk.gon 30 rfl rfl
      apply Wk.dat liok_ok Try.func19 rfl rfl rfl rfl rfl (lt_of_ble rfl)
      apply Wk.pckT rfl (by conv => lhs; whnf) (lt_of_ble rfl)
      apply Wk.asg (by conv => lhs; whnf) (lt_of_ble rfl)
      refine Wk.nil (AW.ret ?_)
      repeat (first | refine thenA_ret ?_ | refine inBlockA_ret ?_)
      exact RetQ.ret [] (.cons rfl .nil) ⟨rfl, rfl⟩ none_kept
    · rfl
    · rfl
  case false =>
    have hfr : frmB 2 0 n false false 0 0 0 ([] : List (Fin 256)).length = true := by simp [frmB]; omega
    have ci := itxhear_ok m w p u y ⟨n, a, fl, s, qu, q, t, hh, c, false⟩ 2 0 n false false 0 0 0 [] (by simp) hok (.inr rfl) hfr
    have em : max 0 (s - (fl.length : Int)) = 0 := by omega
    have hX : hearX ⟨n, a, fl, s, qu, q, t, hh, c, false⟩ 2 n false 0 = ⟨n, n, [], 0, qu, q, t, false, c + (fl.length : Int), false⟩ := by
      rw [hearX_far n a fl s qu q t hh c 2 n false 0 fl.length hfa (by omega) (.inr rfl), em]
      simp [rest3]
    rw [hX] at ci
    have ok2 : txOkB ⟨m, w, p, u, y⟩ ⟨n, n, [], 0, qu, q, t, false, c + (fl.length : Int), false⟩ = true := by
      simp only [txOkB, Bool.and_eq_true, decide_eq_true_eq, List.all_eq_true, inB_iff] at hok ⊢
      obtain ⟨h1, h2, h3, h4, h5, h6, h7, h8, h9, h10, h11, h12⟩ := hok
      refine ⟨h1, h2, h2, ?_, ?_, ?_, h7, h8, by omega, by omega, (fun d hd => by cases hd), h12⟩
      · simp only [List.length_nil]; omega
      · rw [farF_in (by omega) (by omega)]; simp
      · simp
    have ci2 := itxhear_ok m w p u y ⟨n, n, [], 0, qu, q, t, false, c + (fl.length : Int), false⟩ 2 0 n false false 0 0 0 [] (by simp) ok2 (.inr rfl) hfr
    have hX2 : hearX ⟨n, n, [], 0, qu, q, t, false, c + (fl.length : Int), false⟩ 2 n false 0 = ⟨n, n, [], 0, qu, q, t, false, c + (fl.length : Int), false⟩ := by
      rw [hearX_far n n [] 0 qu q t false (c + (fl.length : Int)) 2 n false 0 0 (by rw [farF_in (by omega) (by omega)]; simp) (by simp) (.inr rfl)]
      simp [rest3]
    rw [hX2] at ci2
    have e1 : (((fl.map datD).length : Nat) : Int) = (fl.length : Int) := by rw [List.length_map]
    clear hX hX2
    refine AW.seq (AW.seq ?_)
    apply AW.list
    apply Wk.ld (i := 3) 5 true ty24 rfl rfl (by conv => lhs; whnf) (lt_of_ble rfl)
    apply Wk.ld (i := 4) 10 true ty27 rfl rfl (by conv => lhs; whnf) (lt_of_ble rfl)
    apply Wk.dat (stxb hok) Try.func18 rfl rfl rfl rfl rfl (lt_of_ble rfl)
    apply Wk.un rfl (fun w => by simp [go_sem] <;> rfl) (lt_of_ble rfl)
    apply Wk.mv (by conv => lhs; whnf) (lt_of_ble rfl)
    apply Wk.gon 19 rfl rfl
    apply Wk.fad 9 0 false fd27_9 rfl (lt_of_ble rfl)
    apply Wk.gon 19 rfl rfl
    apply Wk.ld (i := 4) 1 false ty4 rfl rfl (by conv => lhs; whnf) (lt_of_ble rfl)
    apply Wk.pckF rfl (by conv => lhs; whnf) (lt_of_ble rfl)
    refine Wk.nil ?_
    refine AW.cond rfl (fun hc => by cases hc) (fun _ => AW.skip (thenA_normal ?_))
    refine AW.seq ?_
    apply AW.list
    apply Wk.fad 0 0 false fd27_0 rfl (lt_of_ble rfl)
    apply Wk.ld (i := 4) 1 false ty3 rfl rfl (by conv => lhs; whnf) (lt_of_ble rfl)
    apply Wk.bld [.int .i64 0, .int .i64 0, .int .i64 0, .bool false, .bool false, .int .i64 0, .int .i64 0, .int .i64 0, .slice none 0 0] [(0, 1), (1, 1), (2, 1), (3, 1), (4, 1), (5, 1), (6, 1), (7, 1), (8, 1)] bl42 rfl (by conv => lhs; whnf) (lt_of_ble rfl)
    apply Wk.alc 5 [.int .i64 0, .int .i64 0, .int .i64 0, .bool false, .bool false, .int .i64 0, .int .i64 0, .int .i64 0, .slice none 0 0] ze42 rfl rfl (lt_of_ble rfl)
    apply Wk.sto (i := 5) 9 true ty42 rfl rfl rfl rfl (Nat.le_of_ble_eq_true rfl) (lt_of_ble rfl)
    refine Wk.nil ?_
    refine AW.seq ?_
    apply AW.list
    apply Wk.ld (i := 3) 5 true ty24 rfl rfl (by conv => lhs; whnf) (lt_of_ble rfl)
    apply Wk.ld (i := 4) 10 true ty27 rfl rfl (by conv => lhs; whnf) (lt_of_ble rfl)
    apply Wk.ld (i := 5) 9 true ty42 rfl rfl (by conv => lhs; whnf) (lt_of_ble rfl)
    apply Wk.dat ci Try.func31 rfl rfl rfl rfl rfl (lt_of_ble rfl)
    apply Wk.alc 6 [.int .i64 0, .int .i64 0, .slice none 0 0, .int .i64 0, .slice none 0 0, .bool false, .int .i64 0, .bool false, .int .i64 0, .bool false] ze27 rfl rfl (lt_of_ble rfl)
    apply Wk.sto (i := 6) 10 true ty27 rfl rfl rfl rfl (Nat.le_of_ble_eq_true rfl) (lt_of_ble rfl)
    refine Wk.nil ?_
    refine AW.seq ?_
    apply AW.draw (hm := hmix) (cs := _)
    · apply Wk.fad 2 0 false fd27_2 rfl (lt_of_ble rfl)
      apply Wk.ld (i := 6) 1 false ty25 rfl rfl (by conv => lhs; whnf) (lt_of_ble rfl)
      apply Wk.len un25 rfl (lt_of_ble rfl)
      apply Wk.bin rfl rfl (r := .bool true) (fun w => by simp [go_sem]) (lt_of_ble rfl)
      apply Wk.mv (by conv => lhs; whnf) (lt_of_ble rfl)
      apply Wk.gon 44 rfl rfl
      apply Wk.fad 3 0 false fd27_3 rfl (lt_of_ble rfl)
      apply Wk.gon 44 rfl rfl
      apply Wk.ld (i := 6) 1 false ty3 rfl rfl (by conv => lhs; whnf) (lt_of_ble rfl)
      apply Wk.gon 44 rfl rfl
      apply Wk.bin rfl rfl (r := .bool true) (fun w => by simp [go_sem]) (lt_of_ble rfl)
      apply Wk.pckT rfl (by conv => lhs; whnf) (lt_of_ble rfl)
      apply Wk.mv (by conv => lhs; whnf) (lt_of_ble rfl)
      apply Wk.gon 49 rfl rfl
      apply Wk.fad 8 0 false fd27_8 rfl (lt_of_ble rfl)
      apply Wk.gon 49 rfl rfl
      apply Wk.ld (i := 6) 1 false ty3 rfl rfl (by conv => lhs; whnf) (lt_of_ble rfl)
      apply Wk.gon 49 rfl rfl
      apply Wk.fad 8 0 false fd27_8 rfl (lt_of_ble rfl)
      apply Wk.gon 49 rfl rfl
      apply Wk.ld (i := 4) 1 false ty3 rfl rfl (by conv => lhs; whnf) (lt_of_ble rfl)
      apply Wk.gon 49 rfl rfl
      apply Wk.fad 2 0 false fd27_2 rfl (lt_of_ble rfl)
      apply Wk.gon 49 rfl rfl
      apply Wk.ld (i := 4) 1 false ty25 rfl rfl (by conv => lhs; whnf) (lt_of_ble rfl)
      apply Wk.gon 49 rfl rfl
      apply Wk.len un25 rfl (lt_of_ble rfl)
      apply Wk.gon 49 rfl rfl
      apply Wk.addi rfl rfl (by rw [e1]; omega) (lt_of_ble rfl)
      apply Wk.gon 49 rfl rfl
      apply Wk.bin rfl rfl (r := .bool true) (fun w => by rw [e1]; simp [go_sem]) (lt_of_ble rfl)
      apply Wk.pckT rfl (by conv => lhs; whnf) (lt_of_ble rfl)
      apply Wk.mv (by conv => lhs; whnf) (lt_of_ble rfl)
      apply Wk.gon 60 rfl rfl
      apply Wk.ld (i := 3) 5 true ty24 rfl rfl (by conv => lhs; whnf) (lt_of_ble rfl)
      apply Wk.gon 60 rfl rfl
      apply Wk.ld (i := 6) 10 true ty27 rfl rfl (by conv => lhs; whnf) (lt_of_ble rfl)
      apply Wk.gon 60 rfl rfl
      apply Wk.ld (i := 5) 9 true ty42 rfl rfl (by conv => lhs; whnf) (lt_of_ble rfl)
      apply Wk.gon 60 rfl rfl
      apply Wk.dat ci2 Try.func31 rfl rfl rfl rfl rfl (lt_of_ble rfl)
      apply Wk.gon 60 rfl rfl
      apply Wk.ld (i := 6) 10 true ty27 rfl rfl (by conv => lhs; whnf) (lt_of_ble rfl)
      apply Wk.gon 60 rfl rfl
      apply Wk.dat (liTxE _) Try.func16 rfl rfl rfl rfl rfl (lt_of_ble rfl)
      apply Wk.pckT rfl (by conv => lhs; whnf) (lt_of_ble rfl)
      apply Wk.mv (by conv => lhs; whnf) (lt_of_ble rfl)
      apply Wk.gon 68 rfl rfl
      apply Wk.fad 7 0 false fd27_7 rfl (lt_of_ble rfl)
      apply Wk.gon 68 rfl rfl
      apply Wk.ld (i := 6) 1 false ty4 rfl rfl (by conv => lhs; whnf) (lt_of_ble rfl)
      apply Wk.gon 68 rfl rfl
      apply Wk.un rfl (fun w => by simp [go_sem] <;> rfl) (lt_of_ble rfl)
      apply Wk.pckT rfl (by conv => lhs; whnf) (lt_of_ble rfl)
      apply Wk.asg (by conv => lhs; whnf) (lt_of_ble rfl)
      refine Wk.nil (AW.ret ?_)
      exact RetQ.ret [] (.cons rfl .nil) ⟨rfl, rfl⟩ none_kept
    · rfl
    · rfl
namespace fnTxAll
set_option maxRecDepth 100000 in
theorem walk (a0 : Option Addr) (len0 cap0 : Nat) (z0 : List Int) (w : World) (w0 : IsRow .u8 w a0 len0 cap0 z0) :
    Calls Try.prog 10 #[.slice a0 len0 cap0] w fun e w' => e = .returned (.bool true) ∧ Below w.heap.size w w' := by
  by_cases hs0 : (1048576 : Int) < (len0 : Int)
  · go_enter Try.func10, Try.ntmps10
    go_wp2
    go_ret
    exact ⟨rfl, Below.refl _ _⟩
  obtain ⟨cz, hR0, _⟩ := w0.rd (by omega)
  obtain ⟨zs, rfl⟩ := byt_fin hR0.1
  exact (lawTxAll_ok zs).run hR0
end fnTxAll
end Go.Proofs.Ytdojkmjamilllaa
