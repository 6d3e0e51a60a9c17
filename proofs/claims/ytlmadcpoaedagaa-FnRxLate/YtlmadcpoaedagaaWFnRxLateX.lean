/- The law FnRxLate (promise 80: what has come once is let be) returns true at every code. -/
import Derived.Test.YtlmadcpoaedagaaMa
import Derived.Test.YtlmadcpoaedagaaMb
import Derived.Test.YtlmadcpoaedagaaMc
import Derived.Test.YtlmadcpoaedagaaMd
import Derived.Test.YtlmadcpoaedagaaMe
import Derived.RowKit3
namespace Go.Proofs.Ytlmadcpoaedagaa
open Go Go.RowKit
set_option maxHeartbeats 8000000 in
set_option maxRecDepth 100000 in
theorem lawRxLate_ok (zs : List (Fin 256)) : DataOk Try.prog 6 [.d (bytesD (zs.map (·.val)))] (.d (.v (.bool true))) := by
  refine Spec.intro (n := 101) (rv := [.tmp 2]) Try.func6 rfl rfl rfl (by simp) fun C hN hX => ?_
  refine AW.seq ?_
  apply AW.list
  apply Wk.asg (by conv => lhs; whnf) (lt_of_ble rfl)
  refine Wk.nil ?_
  refine AW.seq (AW.seq ?_)
  apply AW.list
  apply Wk.mv (by conv => lhs; whnf) (lt_of_ble rfl)
  apply Wk.len un22 rfl (lt_of_ble rfl)
  apply Wk.bin rfl rfl (fun w => by simp [go_sem] <;> rfl) (lt_of_ble rfl)
  refine Wk.nil ?_
  refine AW.cond rfl (fun hc => ?_) (fun hc => ?_)
  · refine AW.seq ?_
    apply AW.list
    apply Wk.asg (by conv => lhs; whnf) (lt_of_ble rfl)
    refine Wk.nil (AW.ret ?_)
    refine thenA_ret ?_
    exact RetQ.ret [] (.cons rfl .nil) ⟨rfl, rfl⟩ none_kept
  refine AW.skip (thenA_normal ?_)
  refine AW.seq ?_
  apply AW.list
  apply Wk.mv (by conv => lhs; whnf) (lt_of_ble rfl)
  apply Wk.datw (drawHear_ok zs) Try.func8 rfl rfl rfl rfl (lt_of_ble rfl)
  rintro _ ⟨⟨m0, w0, s0, t0, y0⟩, ⟨e, c, m, bs, a, u, d⟩, ⟨k, s, k2, p, f, y, g, l, fs⟩, rfl, hbl, hfl, hk, hs, hk2, hy, hg, hl, he, hc9, hm⟩
  apply Wk.mv (by conv => lhs; whnf) (lt_of_ble rfl)
  apply Wk.ext rfl rfl (lt_of_ble rfl)
  apply Wk.ext rfl rfl (lt_of_ble rfl)
  apply Wk.ext rfl rfl (lt_of_ble rfl)
  apply Wk.alc 3 [.int .i64 0, .int .i64 0, .int .i64 0, .int .i64 0, .int .i64 0] ze24 rfl rfl (lt_of_ble rfl)
  apply Wk.alc 4 [.int .i64 0, .int .i64 0, .int .i64 0, .slice none 0 0, .bool false, .bool false, .bool false] ze28 rfl rfl (lt_of_ble rfl)
  apply Wk.alc 5 [.int .i64 0, .int .i64 0, .int .i64 0, .bool false, .bool false, .int .i64 0, .int .i64 0, .int .i64 0, .slice none 0 0] ze30 rfl rfl (lt_of_ble rfl)
  apply Wk.sto (i := 3) 5 true ty24 rfl rfl rfl rfl (Nat.le_of_ble_eq_true rfl) (lt_of_ble rfl)
  apply Wk.sto (i := 4) 7 true ty28 rfl rfl rfl rfl (Nat.le_of_ble_eq_true rfl) (lt_of_ble rfl)
  apply Wk.sto (i := 5) 9 true ty30 rfl rfl rfl rfl (Nat.le_of_ble_eq_true rfl) (lt_of_ble rfl)
  refine Wk.nil ?_
  simp only at hbl hfl he hc9 hm
  have hf : (FR.mk k s k2 p f y g l fs).bs.length ≤ 1000 := by simp only; omega
  obtain ⟨h, hh⟩ : ∃ h, hearF ⟨m0, w0, s0, t0, y0⟩ ⟨e, c, m, bs, a, u, d⟩ ⟨k, s, k2, p, f, y, g, l, fs⟩ = h := ⟨_, rfl⟩
  have hh1 := ihearb ⟨m0, w0, s0, t0, y0⟩ ⟨e, c, m, bs, a, u, d⟩ ⟨k, s, k2, p, f, y, g, l, fs⟩ hbl hf hh
  have hh2 := shearb ⟨m0, w0, s0, t0, y0⟩ ⟨e, c, m, bs, a, u, d⟩ ⟨k, s, k2, p, f, y, g, l, fs⟩ hbl hh
  obtain ⟨⟨e1, c1, m1, bs1, a1, u1, d1⟩, sd, sy⟩ := h
  refine AW.seq ?_
  apply AW.list
  apply Wk.ld (i := 3) 5 true ty24 rfl rfl (by conv => lhs; whnf) (lt_of_ble rfl)
  apply Wk.ld (i := 4) 7 true ty28 rfl rfl (by conv => lhs; whnf) (lt_of_ble rfl)
  apply Wk.ld (i := 5) 9 true ty30 rfl rfl (by conv => lhs; whnf) (lt_of_ble rfl)
  apply Wk.dat hh1 Try.func9 rfl rfl rfl rfl rfl (lt_of_ble rfl)
  apply Wk.mv (by conv => lhs; whnf) (lt_of_ble rfl)
  apply Wk.ext rfl rfl (lt_of_ble rfl)
  apply Wk.ext rfl rfl (lt_of_ble rfl)
  apply Wk.ext rfl rfl (lt_of_ble rfl)
  apply Wk.alc 6 [.int .i64 0, .int .i64 0, .int .i64 0, .slice none 0 0, .bool false, .bool false, .bool false] ze28 rfl rfl (lt_of_ble rfl)
  apply Wk.sto (i := 6) 7 true ty28 rfl rfl rfl rfl (Nat.le_of_ble_eq_true rfl) (lt_of_ble rfl)
  apply Wk.asg (by conv => lhs; whnf) (lt_of_ble rfl)
  apply Wk.asg (by conv => lhs; whnf) (lt_of_ble rfl)
  refine Wk.nil ?_
  refine AW.seq ?_
  apply AW.list
  apply Wk.ld (i := 3) 5 true ty24 rfl rfl (by conv => lhs; whnf) (lt_of_ble rfl)
  apply Wk.ld (i := 4) 7 true ty28 rfl rfl (by conv => lhs; whnf) (lt_of_ble rfl)
  apply Wk.ld (i := 5) 9 true ty30 rfl rfl (by conv => lhs; whnf) (lt_of_ble rfl)
  apply Wk.dat hh2 Try.func10 rfl rfl rfl rfl rfl (lt_of_ble rfl)
  apply Wk.mv (by conv => lhs; whnf) (lt_of_ble rfl)
  apply Wk.ext rfl rfl (lt_of_ble rfl)
  apply Wk.ext rfl rfl (lt_of_ble rfl)
  apply Wk.ext rfl rfl (lt_of_ble rfl)
  apply Wk.alc 9 [.int .i64 0, .int .i64 0, .int .i64 0, .slice none 0 0, .bool false, .bool false, .bool false] ze28 rfl rfl (lt_of_ble rfl)
  apply Wk.sto (i := 9) 7 true ty28 rfl rfl rfl rfl (Nat.le_of_ble_eq_true rfl) (lt_of_ble rfl)
  apply Wk.asg (by conv => lhs; whnf) (lt_of_ble rfl)
  apply Wk.asg (by conv => lhs; whnf) (lt_of_ble rfl)
  refine Wk.nil ?_
  refine AW.seq (AW.seq ?_)
  apply AW.list
  apply Wk.ld (i := 6) 7 true ty28 rfl rfl (by conv => lhs; whnf) (lt_of_ble rfl)
  apply Wk.ld (i := 9) 7 true ty28 rfl rfl (by conv => lhs; whnf) (lt_of_ble rfl)
  apply Wk.dat (liRx_ok e1 c1 m1 bs1 a1 u1 d1) Try.func11 rfl rfl rfl rfl rfl (lt_of_ble rfl)
  apply Wk.un rfl (fun w => by simp [go_sem] <;> rfl) (lt_of_ble rfl)
  refine Wk.nil ?_
  refine AW.cond rfl (fun hc => by cases hc) (fun _ => AW.skip (thenA_normal ?_))
  refine AW.seq (AW.seq ?_)
  cases h1 : Opt.ok ⟨m0, w0, s0, t0, y0⟩
  · apply AW.list
    apply Wk.ld (i := 3) 5 true ty24 rfl rfl (by conv => lhs; whnf) (lt_of_ble rfl)
    apply Wk.dat (scfgb m0 w0 s0 t0 y0 h1) Try.func16 rfl rfl rfl rfl rfl (lt_of_ble rfl)
    apply Wk.un rfl (fun w => by simp [go_sem] <;> rfl) (lt_of_ble rfl)
    apply Wk.mv (by conv => lhs; whnf) (lt_of_ble rfl)
    apply Wk.goff 48 (ok_load 4 ty28) rfl rfl (by decide)
    apply Wk.goff 48 (ok_datw ((srx_ok e c m bs a u d).w rfl) Try.func15 rfl rfl) rfl rfl (by decide)
    apply Wk.goff 48 (ok_un _ _ _) rfl rfl (by decide)
    apply Wk.pckT rfl (by conv => lhs; whnf) (lt_of_ble rfl)
    apply Wk.mv (by conv => lhs; whnf) (lt_of_ble rfl)
    apply Wk.goff 53 (ok_load 5 ty30) rfl rfl (by decide)
    apply Wk.goff 53 (ok_datw ((sfrm_ok k s k2 p f y g l fs).w rfl) Try.func17 rfl rfl) rfl rfl (by decide)
    apply Wk.goff 53 (ok_un _ _ _) rfl rfl (by decide)
    apply Wk.pckT rfl (by conv => lhs; whnf) (lt_of_ble rfl)
    apply Wk.mv (by conv => lhs; whnf) (lt_of_ble rfl)
    apply Wk.goff 58 (ok_faddr fd30_0) rfl rfl (by decide)
    apply Wk.goff 58 (ok_load 5 ty3) rfl rfl (by decide)
    apply Wk.goff 58 (ok_bin _ _ _ _ _) rfl rfl (by decide)
    apply Wk.pckT rfl (by conv => lhs; whnf) (lt_of_ble rfl)
    apply Wk.mv (by conv => lhs; whnf) (lt_of_ble rfl)
    apply Wk.goff 63 (ok_faddr fd28_4) rfl rfl (by decide)
    apply Wk.goff 63 (ok_load 4 ty4) rfl rfl (by decide)
    apply Wk.pckT rfl (by conv => lhs; whnf) (lt_of_ble rfl)
    refine Wk.nil ?_
    refine AW.cond rfl (fun _ => ?_) (fun hc => by cases hc)
    refine AW.seq ?_
    apply AW.list
    apply Wk.dat liok_ok Try.func18 rfl rfl rfl rfl rfl (lt_of_ble rfl)
    apply Wk.asg (by conv => lhs; whnf) (lt_of_ble rfl)
    refine Wk.nil (AW.ret ?_)
    refine thenA_ret ?_
    exact RetQ.ret [] (.cons rfl .nil) ⟨rfl, rfl⟩ none_kept
  cases h2 : rxB e c m bs.length
  · apply AW.list
    apply Wk.ld (i := 3) 5 true ty24 rfl rfl (by conv => lhs; whnf) (lt_of_ble rfl)
    apply Wk.dat (scfgb m0 w0 s0 t0 y0 h1) Try.func16 rfl rfl rfl rfl rfl (lt_of_ble rfl)
    apply Wk.un rfl (fun w => by simp [go_sem] <;> rfl) (lt_of_ble rfl)
    apply Wk.mv (by conv => lhs; whnf) (lt_of_ble rfl)
    apply Wk.gon 48 rfl rfl
    apply Wk.ld (i := 4) 7 true ty28 rfl rfl (by conv => lhs; whnf) (lt_of_ble rfl)
    apply Wk.gon 48 rfl rfl
    apply Wk.dat (srxb a u d h2) Try.func15 rfl rfl rfl rfl rfl (lt_of_ble rfl)
    apply Wk.gon 48 rfl rfl
    apply Wk.un rfl (fun w => by simp [go_sem] <;> rfl) (lt_of_ble rfl)
    apply Wk.pckF rfl (by conv => lhs; whnf) (lt_of_ble rfl)
    apply Wk.mv (by conv => lhs; whnf) (lt_of_ble rfl)
    apply Wk.goff 53 (ok_load 5 ty30) rfl rfl (by decide)
    apply Wk.goff 53 (ok_datw ((sfrm_ok k s k2 p f y g l fs).w rfl) Try.func17 rfl rfl) rfl rfl (by decide)
    apply Wk.goff 53 (ok_un _ _ _) rfl rfl (by decide)
    apply Wk.pckT rfl (by conv => lhs; whnf) (lt_of_ble rfl)
    apply Wk.mv (by conv => lhs; whnf) (lt_of_ble rfl)
    apply Wk.goff 58 (ok_faddr fd30_0) rfl rfl (by decide)
    apply Wk.goff 58 (ok_load 5 ty3) rfl rfl (by decide)
    apply Wk.goff 58 (ok_bin _ _ _ _ _) rfl rfl (by decide)
    apply Wk.pckT rfl (by conv => lhs; whnf) (lt_of_ble rfl)
    apply Wk.mv (by conv => lhs; whnf) (lt_of_ble rfl)
    apply Wk.goff 63 (ok_faddr fd28_4) rfl rfl (by decide)
    apply Wk.goff 63 (ok_load 4 ty4) rfl rfl (by decide)
    apply Wk.pckT rfl (by conv => lhs; whnf) (lt_of_ble rfl)
    refine Wk.nil ?_
    refine AW.cond rfl (fun _ => ?_) (fun hc => by cases hc)
    refine AW.seq ?_
    apply AW.list
    apply Wk.dat liok_ok Try.func18 rfl rfl rfl rfl rfl (lt_of_ble rfl)
    apply Wk.asg (by conv => lhs; whnf) (lt_of_ble rfl)
    refine Wk.nil (AW.ret ?_)
    refine thenA_ret ?_
    exact RetQ.ret [] (.cons rfl .nil) ⟨rfl, rfl⟩ none_kept
  cases h3 : frmB k s k2 p f y g l fs.length
  · apply AW.list
    apply Wk.ld (i := 3) 5 true ty24 rfl rfl (by conv => lhs; whnf) (lt_of_ble rfl)
    apply Wk.dat (scfgb m0 w0 s0 t0 y0 h1) Try.func16 rfl rfl rfl rfl rfl (lt_of_ble rfl)
    apply Wk.un rfl (fun w => by simp [go_sem] <;> rfl) (lt_of_ble rfl)
    apply Wk.mv (by conv => lhs; whnf) (lt_of_ble rfl)
    apply Wk.gon 48 rfl rfl
    apply Wk.ld (i := 4) 7 true ty28 rfl rfl (by conv => lhs; whnf) (lt_of_ble rfl)
    apply Wk.gon 48 rfl rfl
    apply Wk.dat (srxb a u d h2) Try.func15 rfl rfl rfl rfl rfl (lt_of_ble rfl)
    apply Wk.gon 48 rfl rfl
    apply Wk.un rfl (fun w => by simp [go_sem] <;> rfl) (lt_of_ble rfl)
    apply Wk.pckF rfl (by conv => lhs; whnf) (lt_of_ble rfl)
    apply Wk.mv (by conv => lhs; whnf) (lt_of_ble rfl)
    apply Wk.gon 53 rfl rfl
    apply Wk.ld (i := 5) 9 true ty30 rfl rfl (by conv => lhs; whnf) (lt_of_ble rfl)
    apply Wk.gon 53 rfl rfl
    apply Wk.dat (sfrmb k s k2 p f y g l fs h3) Try.func17 rfl rfl rfl rfl rfl (lt_of_ble rfl)
    apply Wk.gon 53 rfl rfl
    apply Wk.un rfl (fun w => by simp [go_sem] <;> rfl) (lt_of_ble rfl)
    apply Wk.pckF rfl (by conv => lhs; whnf) (lt_of_ble rfl)
    apply Wk.mv (by conv => lhs; whnf) (lt_of_ble rfl)
    apply Wk.goff 58 (ok_faddr fd30_0) rfl rfl (by decide)
    apply Wk.goff 58 (ok_load 5 ty3) rfl rfl (by decide)
    apply Wk.goff 58 (ok_bin _ _ _ _ _) rfl rfl (by decide)
    apply Wk.pckT rfl (by conv => lhs; whnf) (lt_of_ble rfl)
    apply Wk.mv (by conv => lhs; whnf) (lt_of_ble rfl)
    apply Wk.goff 63 (ok_faddr fd28_4) rfl rfl (by decide)
    apply Wk.goff 63 (ok_load 4 ty4) rfl rfl (by decide)
    apply Wk.pckT rfl (by conv => lhs; whnf) (lt_of_ble rfl)
    refine Wk.nil ?_
    refine AW.cond rfl (fun _ => ?_) (fun hc => by cases hc)
    refine AW.seq ?_
    apply AW.list
    apply Wk.dat liok_ok Try.func18 rfl rfl rfl rfl rfl (lt_of_ble rfl)
    apply Wk.asg (by conv => lhs; whnf) (lt_of_ble rfl)
    refine Wk.nil (AW.ret ?_)
    refine thenA_ret ?_
    exact RetQ.ret [] (.cons rfl .nil) ⟨rfl, rfl⟩ none_kept
  by_cases h4 : k = 1
  case neg =>
    apply AW.list
    apply Wk.ld (i := 3) 5 true ty24 rfl rfl (by conv => lhs; whnf) (lt_of_ble rfl)
    apply Wk.dat (scfgb m0 w0 s0 t0 y0 h1) Try.func16 rfl rfl rfl rfl rfl (lt_of_ble rfl)
    apply Wk.un rfl (fun w => by simp [go_sem] <;> rfl) (lt_of_ble rfl)
    apply Wk.mv (by conv => lhs; whnf) (lt_of_ble rfl)
    apply Wk.gon 48 rfl rfl
    apply Wk.ld (i := 4) 7 true ty28 rfl rfl (by conv => lhs; whnf) (lt_of_ble rfl)
    apply Wk.gon 48 rfl rfl
    apply Wk.dat (srxb a u d h2) Try.func15 rfl rfl rfl rfl rfl (lt_of_ble rfl)
    apply Wk.gon 48 rfl rfl
    apply Wk.un rfl (fun w => by simp [go_sem] <;> rfl) (lt_of_ble rfl)
    apply Wk.pckF rfl (by conv => lhs; whnf) (lt_of_ble rfl)
    apply Wk.mv (by conv => lhs; whnf) (lt_of_ble rfl)
    apply Wk.gon 53 rfl rfl
    apply Wk.ld (i := 5) 9 true ty30 rfl rfl (by conv => lhs; whnf) (lt_of_ble rfl)
    apply Wk.gon 53 rfl rfl
    apply Wk.dat (sfrmb k s k2 p f y g l fs h3) Try.func17 rfl rfl rfl rfl rfl (lt_of_ble rfl)
    apply Wk.gon 53 rfl rfl
    apply Wk.un rfl (fun w => by simp [go_sem] <;> rfl) (lt_of_ble rfl)
    apply Wk.pckF rfl (by conv => lhs; whnf) (lt_of_ble rfl)
    apply Wk.mv (by conv => lhs; whnf) (lt_of_ble rfl)
    apply Wk.gon 58 rfl rfl
    apply Wk.fad 0 0 false fd30_0 rfl (lt_of_ble rfl)
    apply Wk.gon 58 rfl rfl
    apply Wk.ld (i := 5) 1 false ty3 rfl rfl (by conv => lhs; whnf) (lt_of_ble rfl)
    apply Wk.gon 58 rfl rfl
    apply Wk.bin rfl rfl (r := .bool true) (fun w => by simp [go_sem, h4]) (lt_of_ble rfl)
    apply Wk.pckF rfl (by conv => lhs; whnf) (lt_of_ble rfl)
    apply Wk.mv (by conv => lhs; whnf) (lt_of_ble rfl)
    apply Wk.goff 63 (ok_faddr fd28_4) rfl rfl (by decide)
    apply Wk.goff 63 (ok_load 4 ty4) rfl rfl (by decide)
    apply Wk.pckT rfl (by conv => lhs; whnf) (lt_of_ble rfl)
    refine Wk.nil ?_
    refine AW.cond rfl (fun _ => ?_) (fun hc => by cases hc)
    refine AW.seq ?_
    apply AW.list
    apply Wk.dat liok_ok Try.func18 rfl rfl rfl rfl rfl (lt_of_ble rfl)
    apply Wk.asg (by conv => lhs; whnf) (lt_of_ble rfl)
    refine Wk.nil (AW.ret ?_)
    refine thenA_ret ?_
    exact RetQ.ret [] (.cons rfl .nil) ⟨rfl, rfl⟩ none_kept
  case pos =>
  cases u
  case true =>
    apply AW.list
    apply Wk.ld (i := 3) 5 true ty24 rfl rfl (by conv => lhs; whnf) (lt_of_ble rfl)
    apply Wk.dat (scfgb m0 w0 s0 t0 y0 h1) Try.func16 rfl rfl rfl rfl rfl (lt_of_ble rfl)
    apply Wk.un rfl (fun w => by simp [go_sem] <;> rfl) (lt_of_ble rfl)
    apply Wk.mv (by conv => lhs; whnf) (lt_of_ble rfl)
    apply Wk.gon 48 rfl rfl
    apply Wk.ld (i := 4) 7 true ty28 rfl rfl (by conv => lhs; whnf) (lt_of_ble rfl)
    apply Wk.gon 48 rfl rfl
    apply Wk.dat (srxb a true d h2) Try.func15 rfl rfl rfl rfl rfl (lt_of_ble rfl)
    apply Wk.gon 48 rfl rfl
    apply Wk.un rfl (fun w => by simp [go_sem] <;> rfl) (lt_of_ble rfl)
    apply Wk.pckF rfl (by conv => lhs; whnf) (lt_of_ble rfl)
    apply Wk.mv (by conv => lhs; whnf) (lt_of_ble rfl)
    apply Wk.gon 53 rfl rfl
    apply Wk.ld (i := 5) 9 true ty30 rfl rfl (by conv => lhs; whnf) (lt_of_ble rfl)
    apply Wk.gon 53 rfl rfl
    apply Wk.dat (sfrmb k s k2 p f y g l fs h3) Try.func17 rfl rfl rfl rfl rfl (lt_of_ble rfl)
    apply Wk.gon 53 rfl rfl
    apply Wk.un rfl (fun w => by simp [go_sem] <;> rfl) (lt_of_ble rfl)
    apply Wk.pckF rfl (by conv => lhs; whnf) (lt_of_ble rfl)
    apply Wk.mv (by conv => lhs; whnf) (lt_of_ble rfl)
    apply Wk.gon 58 rfl rfl
    apply Wk.fad 0 0 false fd30_0 rfl (lt_of_ble rfl)
    apply Wk.gon 58 rfl rfl
    apply Wk.ld (i := 5) 1 false ty3 rfl rfl (by conv => lhs; whnf) (lt_of_ble rfl)
    apply Wk.gon 58 rfl rfl
    apply Wk.bin rfl rfl (r := .bool false) (fun w => by simp [go_sem, h4]) (lt_of_ble rfl)
    apply Wk.pckF rfl (by conv => lhs; whnf) (lt_of_ble rfl)
    apply Wk.mv (by conv => lhs; whnf) (lt_of_ble rfl)
    apply Wk.gon 63 rfl rfl
    apply Wk.fad 5 0 false fd28_4 rfl (lt_of_ble rfl)
    apply Wk.gon 63 rfl rfl
    apply Wk.ld (i := 4) 1 false ty4 rfl rfl (by conv => lhs; whnf) (lt_of_ble rfl)
    apply Wk.pckF rfl (by conv => lhs; whnf) (lt_of_ble rfl)
    refine Wk.nil ?_
    refine AW.cond rfl (fun _ => ?_) (fun hc => by cases hc)
    refine AW.seq ?_
    apply AW.list
    apply Wk.dat liok_ok Try.func18 rfl rfl rfl rfl rfl (lt_of_ble rfl)
    apply Wk.asg (by conv => lhs; whnf) (lt_of_ble rfl)
    refine Wk.nil (AW.ret ?_)
    refine thenA_ret ?_
    exact RetQ.ret [] (.cons rfl .nil) ⟨rfl, rfl⟩ none_kept
  case false =>
  have hq : 1 ≤ w0 ∧ w0 ≤ 4 := by
    simp only [Opt.ok, Bool.and_eq_true, inB_iff] at h1
    omega
  have hre := rx_e (x := ⟨e, c, m, bs, a, false, d⟩) h2
  simp only at hre
  have hlate := hearF_late (q := ⟨m0, w0, s0, t0, y0⟩) (x := ⟨e, c, m, bs, a, false, d⟩) h1 h2 h3 h4 rfl
  obtain ⟨wn, rfl⟩ := Int.eq_ofNat_of_zero_le (show 0 ≤ w0 by omega)
  obtain ⟨en, rfl⟩ := Int.eq_ofNat_of_zero_le hre.1
  have hr : zs.length % (8 - wn) < 8 - wn := Nat.mod_lt _ (by omega)
  have hr' : (zs.map (·.val)).length = zs.length := by simp
  have hh3 := ihearb ⟨m0, (wn : Int), s0, t0, y0⟩ ⟨(en : Int), c, m, bs, a, false, d⟩ ⟨k, (((en + 8 - (1 + zs.length % (8 - wn))) % 8 : Nat) : Int), k2, p, f, y, g, l, fs⟩ hbl hf (hlate (((en + 8 - (1 + zs.length % (8 - wn))) % 8 : Nat) : Int) (by omega) (by simp only; omega) (by simp only; omega))
  apply AW.list
  apply Wk.ld (i := 3) 5 true ty24 rfl rfl (by conv => lhs; whnf) (lt_of_ble rfl)
  apply Wk.dat (scfgb m0 (wn : Int) s0 t0 y0 h1) Try.func16 rfl rfl rfl rfl rfl (lt_of_ble rfl)
  apply Wk.un rfl (fun w => by simp [go_sem] <;> rfl) (lt_of_ble rfl)
  apply Wk.mv (by conv => lhs; whnf) (lt_of_ble rfl)
  apply Wk.gon 48 rfl rfl
  apply Wk.ld (i := 4) 7 true ty28 rfl rfl (by conv => lhs; whnf) (lt_of_ble rfl)
  apply Wk.gon 48 rfl rfl
  apply Wk.dat (srxb a false d h2) Try.func15 rfl rfl rfl rfl rfl (lt_of_ble rfl)
  apply Wk.gon 48 rfl rfl
  apply Wk.un rfl (fun w => by simp [go_sem] <;> rfl) (lt_of_ble rfl)
  apply Wk.pckF rfl (by conv => lhs; whnf) (lt_of_ble rfl)
  apply Wk.mv (by conv => lhs; whnf) (lt_of_ble rfl)
  apply Wk.gon 53 rfl rfl
  apply Wk.ld (i := 5) 9 true ty30 rfl rfl (by conv => lhs; whnf) (lt_of_ble rfl)
  apply Wk.gon 53 rfl rfl
  apply Wk.dat (sfrmb k s k2 p f y g l fs h3) Try.func17 rfl rfl rfl rfl rfl (lt_of_ble rfl)
  apply Wk.gon 53 rfl rfl
  apply Wk.un rfl (fun w => by simp [go_sem] <;> rfl) (lt_of_ble rfl)
  apply Wk.pckF rfl (by conv => lhs; whnf) (lt_of_ble rfl)
  apply Wk.mv (by conv => lhs; whnf) (lt_of_ble rfl)
  apply Wk.gon 58 rfl rfl
  apply Wk.fad 0 0 false fd30_0 rfl (lt_of_ble rfl)
  apply Wk.gon 58 rfl rfl
  apply Wk.ld (i := 5) 1 false ty3 rfl rfl (by conv => lhs; whnf) (lt_of_ble rfl)
  apply Wk.gon 58 rfl rfl
  apply Wk.bin rfl rfl (r := .bool false) (fun w => by simp [go_sem, h4]) (lt_of_ble rfl)
  apply Wk.pckF rfl (by conv => lhs; whnf) (lt_of_ble rfl)
  apply Wk.mv (by conv => lhs; whnf) (lt_of_ble rfl)
  apply Wk.gon 63 rfl rfl
  apply Wk.fad 5 0 false fd28_4 rfl (lt_of_ble rfl)
  apply Wk.gon 63 rfl rfl
  apply Wk.ld (i := 4) 1 false ty4 rfl rfl (by conv => lhs; whnf) (lt_of_ble rfl)
  apply Wk.pckF rfl (by conv => lhs; whnf) (lt_of_ble rfl)
  refine Wk.nil ?_
  refine AW.cond rfl (fun hc => by cases hc) (fun _ => AW.skip (thenA_normal ?_))
  refine AW.seq ?_
  apply AW.list
  apply Wk.mv (by conv => lhs; whnf) (lt_of_ble rfl)
  apply Wk.len un22 rfl (lt_of_ble rfl)
  rw [show (((zs.map (·.val)).map fun z : Nat => [D.v (.int .u8 (z : Int))]).length : Int) = ((zs.length : Nat) : Int) by simp]
  apply Wk.fad 1 0 false fd24_1 rfl (lt_of_ble rfl)
  apply Wk.ld (i := 3) 1 false ty3 rfl rfl (by conv => lhs; whnf) (lt_of_ble rfl)
  apply Wk.subn (a := 8) rfl rfl (by omega) (by omega) (lt_of_ble rfl)
  apply Wk.remn rfl rfl (by omega) (lt_of_ble rfl)
  apply Wk.addn (a := 1) rfl rfl (by omega) (lt_of_ble rfl)
  apply Wk.asg (by conv => lhs; whnf) (lt_of_ble rfl)
  refine Wk.nil ?_
  refine AW.seq ?_
  apply AW.list
  apply Wk.fad 0 0 false fd28_0 rfl (lt_of_ble rfl)
  apply Wk.ld (i := 4) 1 false ty3 rfl rfl (by conv => lhs; whnf) (lt_of_ble rfl)
  apply Wk.addn (b := 8) rfl rfl (by omega) (lt_of_ble rfl)
  apply Wk.mv (by conv => lhs; whnf) (lt_of_ble rfl)
  apply Wk.subn rfl rfl (by omega) (by omega) (lt_of_ble rfl)
  apply Wk.remn (b := 8) rfl rfl (by decide) (lt_of_ble rfl)
  apply Wk.fad 1 0 false fd30_1 rfl (lt_of_ble rfl)
  apply Wk.sto (i := 5) 1 false ty3 rfl rfl rfl rfl (Nat.le_of_ble_eq_true rfl) (lt_of_ble rfl)
  refine Wk.nil ?_
  refine AW.seq ?_
  apply AW.list
  apply Wk.ld (i := 3) 5 true ty24 rfl rfl (by conv => lhs; whnf) (lt_of_ble rfl)
  apply Wk.ld (i := 4) 7 true ty28 rfl rfl (by conv => lhs; whnf) (lt_of_ble rfl)
  apply Wk.ld (i := 5) 9 true ty30 rfl rfl (by conv => lhs; whnf) (lt_of_ble rfl)
  apply Wk.dat hh3 Try.func9 rfl rfl rfl rfl rfl (lt_of_ble rfl)
  apply Wk.mv (by conv => lhs; whnf) (lt_of_ble rfl)
  apply Wk.ext rfl rfl (lt_of_ble rfl)
  apply Wk.ext rfl rfl (lt_of_ble rfl)
  apply Wk.ext rfl rfl (lt_of_ble rfl)
  apply Wk.alc 13 [.int .i64 0, .int .i64 0, .int .i64 0, .slice none 0 0, .bool false, .bool false, .bool false] ze28 rfl rfl (lt_of_ble rfl)
  apply Wk.sto (i := 13) 7 true ty28 rfl rfl rfl rfl (Nat.le_of_ble_eq_true rfl) (lt_of_ble rfl)
  apply Wk.asg (by conv => lhs; whnf) (lt_of_ble rfl)
  apply Wk.asg (by conv => lhs; whnf) (lt_of_ble rfl)
  refine Wk.nil ?_
  refine AW.seq ?_
  apply AW.list
  apply Wk.ld (i := 13) 7 true ty28 rfl rfl (by conv => lhs; whnf) (lt_of_ble rfl)
  apply Wk.ld (i := 4) 7 true ty28 rfl rfl (by conv => lhs; whnf) (lt_of_ble rfl)
  apply Wk.dat (liRx_ok (en : Int) c m bs a false d) Try.func11 rfl rfl rfl rfl rfl (lt_of_ble rfl)
  apply Wk.mv (by conv => lhs; whnf) (lt_of_ble rfl)
  apply Wk.gon 93 rfl rfl
  apply Wk.mv (by conv => lhs; whnf) (lt_of_ble rfl)
  apply Wk.gon 93 rfl rfl
  apply Wk.len un33 rfl (lt_of_ble rfl)
  apply Wk.gon 93 rfl rfl
  apply Wk.mv (by conv => lhs; whnf) (lt_of_ble rfl)
  apply Wk.gon 93 rfl rfl
  apply Wk.len un34 rfl (lt_of_ble rfl)
  apply Wk.gon 93 rfl rfl
  apply Wk.addi rfl rfl (by simp) (lt_of_ble rfl)
  apply Wk.gon 93 rfl rfl
  apply Wk.bin rfl rfl (r := .bool true) (fun w => by simp [go_sem]) (lt_of_ble rfl)
  apply Wk.pckT rfl (by conv => lhs; whnf) (lt_of_ble rfl)
  apply Wk.asg (by conv => lhs; whnf) (lt_of_ble rfl)
  refine Wk.nil (AW.ret ?_)
  exact RetQ.ret [] (.cons rfl .nil) ⟨rfl, rfl⟩ none_kept
namespace fnRxLate
set_option maxRecDepth 100000 in
theorem walk (a0 : Option Addr) (len0 cap0 : Nat) (z0 : List Int) (w : World) (w0 : IsRow .u8 w a0 len0 cap0 z0) :
    Calls Try.prog 6 #[.slice a0 len0 cap0] w fun e w' => e = .returned (.bool true) ∧ Below w.heap.size w w' := by
  by_cases hs0 : (1048576 : Int) < (len0 : Int)
  · go_enter Try.func6, Try.ntmps6
    go_wp2
    go_ret
    exact ⟨rfl, Below.refl _ _⟩
  obtain ⟨cz, hR0, _⟩ := w0.rd (by omega)
  obtain ⟨zs, rfl⟩ := byt_fin hR0.1
  exact (lawRxLate_ok zs).run hR0
end fnRxLate
end Go.Proofs.Ytlmadcpoaedagaa
