/- The law FnRxSays (promise 34: who hears says what it must) returns true at every code. -/
import Derived.Test.YtlmadcpoaedagaaMa
import Derived.Test.YtlmadcpoaedagaaMb
import Derived.Test.YtlmadcpoaedagaaMc
import Derived.Test.YtlmadcpoaedagaaMd
import Derived.Test.YtlmadcpoaedagaaMe
import Derived.RowKit3
namespace Go.Proofs.Ytlmadcpoaedagaa
open Go Go.RowKit
set_option maxHeartbeats 8000000 in
set_option maxRecDepth 100000 in
theorem lawRxSays_ok (zs : List (Fin 256)) : DataOk Try.prog 4 [.d (bytesD (zs.map (·.val)))] (.d (.v (.bool true))) := by
  refine Spec.intro (n := 168) (rv := [.tmp 2]) Try.func4 rfl rfl rfl (by simp) fun C hN hX => ?_
  refine AW.seq ?_
  apply AW.list
  apply Wk.asg (by conv => lhs; whnf) (lt_of_ble rfl)
  refine Wk.nil ?_
  refine AW.seq (AW.seq ?_)
  apply AW.list
  apply Wk.mv (by conv => lhs; whnf) (lt_of_ble rfl)
  apply Wk.len un22 rfl (lt_of_ble rfl)
  apply Wk.bin rfl rfl (fun w => by simp [go_sem] <;> rfl) (lt_of_ble rfl)
  refine Wk.nil ?_
  refine AW.cond rfl (fun hc => ?_) (fun hc => ?_)
  · refine AW.seq ?_
    apply AW.list
    apply Wk.asg (by conv => lhs; whnf) (lt_of_ble rfl)
    refine Wk.nil (AW.ret ?_)
    refine thenA_ret ?_
    exact RetQ.ret [] (.cons rfl .nil) ⟨rfl, rfl⟩ none_kept
  refine AW.skip (thenA_normal ?_)
  refine AW.seq ?_
  apply AW.list
  apply Wk.mv (by conv => lhs; whnf) (lt_of_ble rfl)
  apply Wk.datw (drawHear_ok zs) Try.func8 rfl rfl rfl rfl (lt_of_ble rfl)
  rintro _ ⟨⟨m0, w0, s0, t0, y0⟩, ⟨e, c, m, bs, a, u, d⟩, ⟨k, s, k2, p, f, y, g, l, fs⟩, rfl, hbl, hfl, hk, hs, hk2, hy, hg, hl, he, hc9, hm⟩
  apply Wk.mv (by conv => lhs; whnf) (lt_of_ble rfl)
  apply Wk.ext rfl rfl (lt_of_ble rfl)
  apply Wk.ext rfl rfl (lt_of_ble rfl)
  apply Wk.ext rfl rfl (lt_of_ble rfl)
  apply Wk.alc 3 [.int .i64 0, .int .i64 0, .int .i64 0, .int .i64 0, .int .i64 0] ze24 rfl rfl (lt_of_ble rfl)
  apply Wk.alc 4 [.int .i64 0, .int .i64 0, .int .i64 0, .slice none 0 0, .bool false, .bool false, .bool false] ze28 rfl rfl (lt_of_ble rfl)
  apply Wk.alc 5 [.int .i64 0, .int .i64 0, .int .i64 0, .bool false, .bool false, .int .i64 0, .int .i64 0, .int .i64 0, .slice none 0 0] ze30 rfl rfl (lt_of_ble rfl)
  apply Wk.sto (i := 3) 5 true ty24 rfl rfl rfl rfl (Nat.le_of_ble_eq_true rfl) (lt_of_ble rfl)
  apply Wk.sto (i := 4) 7 true ty28 rfl rfl rfl rfl (Nat.le_of_ble_eq_true rfl) (lt_of_ble rfl)
  apply Wk.sto (i := 5) 9 true ty30 rfl rfl rfl rfl (Nat.le_of_ble_eq_true rfl) (lt_of_ble rfl)
  refine Wk.nil ?_
  simp only at hbl hfl he hc9 hm
  have hf : (FR.mk k s k2 p f y g l fs).bs.length ≤ 1000 := by simp only; omega
  cases h1 : Opt.ok ⟨m0, w0, s0, t0, y0⟩
  · have hh : hearF ⟨m0, w0, s0, t0, y0⟩ ⟨e, c, m, bs, a, u, d⟩ ⟨k, s, k2, p, f, y, g, l, fs⟩ = ⟨RX.zero, none, none⟩ := hearF_no (by simp [goesB, CF.ok, h1])
    have hh1 := ihearb ⟨m0, w0, s0, t0, y0⟩ ⟨e, c, m, bs, a, u, d⟩ ⟨k, s, k2, p, f, y, g, l, fs⟩ hbl hf hh
    have hh2 := shearb ⟨m0, w0, s0, t0, y0⟩ ⟨e, c, m, bs, a, u, d⟩ ⟨k, s, k2, p, f, y, g, l, fs⟩ hbl hh
    refine AW.seq ?_
    apply AW.list
    apply Wk.ld (i := 3) 5 true ty24 rfl rfl (by conv => lhs; whnf) (lt_of_ble rfl)
    apply Wk.ld (i := 4) 7 true ty28 rfl rfl (by conv => lhs; whnf) (lt_of_ble rfl)
    apply Wk.ld (i := 5) 9 true ty30 rfl rfl (by conv => lhs; whnf) (lt_of_ble rfl)
    apply Wk.dat hh1 Try.func9 rfl rfl rfl rfl rfl (lt_of_ble rfl)
    apply Wk.mv (by conv => lhs; whnf) (lt_of_ble rfl)
    apply Wk.ext rfl rfl (lt_of_ble rfl)
    apply Wk.ext rfl rfl (lt_of_ble rfl)
    apply Wk.ext rfl rfl (lt_of_ble rfl)
    apply Wk.alc 6 [.int .i64 0, .int .i64 0, .int .i64 0, .slice none 0 0, .bool false, .bool false, .bool false] ze28 rfl rfl (lt_of_ble rfl)
    apply Wk.sto (i := 6) 7 true ty28 rfl rfl rfl rfl (Nat.le_of_ble_eq_true rfl) (lt_of_ble rfl)
    apply Wk.asg (by conv => lhs; whnf) (lt_of_ble rfl)
    apply Wk.asg (by conv => lhs; whnf) (lt_of_ble rfl)
    refine Wk.nil ?_
    refine AW.seq ?_
    apply AW.list
    apply Wk.ld (i := 3) 5 true ty24 rfl rfl (by conv => lhs; whnf) (lt_of_ble rfl)
    apply Wk.ld (i := 4) 7 true ty28 rfl rfl (by conv => lhs; whnf) (lt_of_ble rfl)
    apply Wk.ld (i := 5) 9 true ty30 rfl rfl (by conv => lhs; whnf) (lt_of_ble rfl)
    apply Wk.dat hh2 Try.func10 rfl rfl rfl rfl rfl (lt_of_ble rfl)
    apply Wk.mv (by conv => lhs; whnf) (lt_of_ble rfl)
    apply Wk.ext rfl rfl (lt_of_ble rfl)
    apply Wk.ext rfl rfl (lt_of_ble rfl)
    apply Wk.ext rfl rfl (lt_of_ble rfl)
    apply Wk.alc 9 [.int .i64 0, .int .i64 0, .int .i64 0, .slice none 0 0, .bool false, .bool false, .bool false] ze28 rfl rfl (lt_of_ble rfl)
    apply Wk.sto (i := 9) 7 true ty28 rfl rfl rfl rfl (Nat.le_of_ble_eq_true rfl) (lt_of_ble rfl)
    apply Wk.asg (by conv => lhs; whnf) (lt_of_ble rfl)
    apply Wk.asg (by conv => lhs; whnf) (lt_of_ble rfl)
    refine Wk.nil ?_
    refine AW.seq (AW.seq ?_)
    apply AW.list
    apply Wk.mv (by conv => lhs; whnf) (lt_of_ble rfl)
    apply Wk.mv (by conv => lhs; whnf) (lt_of_ble rfl)
    apply Wk.dat (liFramesR none) Try.func13 rfl rfl rfl rfl rfl (lt_of_ble rfl)
    apply Wk.un rfl (fun w => by simp [go_sem] <;> rfl) (lt_of_ble rfl)
    refine Wk.nil ?_
    refine AW.cond rfl (fun hc => by cases hc) (fun _ => AW.skip (thenA_normal ?_))
    refine AW.seq (AW.seq ?_)
    apply AW.list
    apply Wk.ld (i := 3) 5 true ty24 rfl rfl (by conv => lhs; whnf) (lt_of_ble rfl)
    apply Wk.dat (scfgb m0 w0 s0 t0 y0 h1) Try.func16 rfl rfl rfl rfl rfl (lt_of_ble rfl)
    apply Wk.un rfl (fun w => by simp [go_sem] <;> rfl) (lt_of_ble rfl)
    apply Wk.mv (by conv => lhs; whnf) (lt_of_ble rfl)
    apply Wk.goff 45 (ok_load 4 ty28) rfl rfl (by decide)
    apply Wk.goff 45 (ok_datw ((srx_ok e c m bs a u d).w rfl) Try.func15 rfl rfl) rfl rfl (by decide)
    apply Wk.goff 45 (ok_un _ _ _) rfl rfl (by decide)
    apply Wk.pckT rfl (by conv => lhs; whnf) (lt_of_ble rfl)
    apply Wk.mv (by conv => lhs; whnf) (lt_of_ble rfl)
    apply Wk.goff 50 (ok_load 5 ty30) rfl rfl (by decide)
    apply Wk.goff 50 (ok_datw ((sfrm_ok k s k2 p f y g l fs).w rfl) Try.func17 rfl rfl) rfl rfl (by decide)
    apply Wk.goff 50 (ok_un _ _ _) rfl rfl (by decide)
    apply Wk.pckT rfl (by conv => lhs; whnf) (lt_of_ble rfl)
    apply Wk.mv (by conv => lhs; whnf) (lt_of_ble rfl)
    apply Wk.goff 55 (ok_faddr fd30_0) rfl rfl (by decide)
    apply Wk.goff 55 (ok_load 5 ty3) rfl rfl (by decide)
    apply Wk.goff 55 (ok_bin _ _ _ _ _) rfl rfl (by decide)
    apply Wk.pckT rfl (by conv => lhs; whnf) (lt_of_ble rfl)
    apply Wk.mv (by conv => lhs; whnf) (lt_of_ble rfl)
    apply Wk.goff 60 (ok_faddr fd28_5) rfl rfl (by decide)
    apply Wk.goff 60 (ok_load 4 ty4) rfl rfl (by decide)
    apply Wk.pckT rfl (by conv => lhs; whnf) (lt_of_ble rfl)
    refine Wk.nil ?_
    refine AW.cond rfl (fun _ => ?_) (fun hc => by cases hc)
    refine AW.seq ?_
    apply AW.list
    apply Wk.mv (by conv => lhs; whnf) (lt_of_ble rfl)
    apply Wk.len un34 rfl (lt_of_ble rfl)
    apply Wk.bin rfl rfl (r := .bool true) (fun w => by simp [go_sem]) (lt_of_ble rfl)
    apply Wk.mv (by conv => lhs; whnf) (lt_of_ble rfl)
    apply Wk.gon 67 rfl rfl
    apply Wk.dat liok_ok Try.func18 rfl rfl rfl rfl rfl (lt_of_ble rfl)
    apply Wk.pckT rfl (by conv => lhs; whnf) (lt_of_ble rfl)
    apply Wk.asg (by conv => lhs; whnf) (lt_of_ble rfl)
    refine Wk.nil (AW.ret ?_)
    refine thenA_ret ?_
    exact RetQ.ret [] (.cons rfl .nil) ⟨rfl, rfl⟩ none_kept
  cases h2 : rxB e c m bs.length
  · have hh : hearF ⟨m0, w0, s0, t0, y0⟩ ⟨e, c, m, bs, a, u, d⟩ ⟨k, s, k2, p, f, y, g, l, fs⟩ = ⟨RX.zero, none, none⟩ := hearF_no (by simp [goesB, RX.ok, h2])
    have hh1 := ihearb ⟨m0, w0, s0, t0, y0⟩ ⟨e, c, m, bs, a, u, d⟩ ⟨k, s, k2, p, f, y, g, l, fs⟩ hbl hf hh
    have hh2 := shearb ⟨m0, w0, s0, t0, y0⟩ ⟨e, c, m, bs, a, u, d⟩ ⟨k, s, k2, p, f, y, g, l, fs⟩ hbl hh
    refine AW.seq ?_
    apply AW.list
    apply Wk.ld (i := 3) 5 true ty24 rfl rfl (by conv => lhs; whnf) (lt_of_ble rfl)
    apply Wk.ld (i := 4) 7 true ty28 rfl rfl (by conv => lhs; whnf) (lt_of_ble rfl)
    apply Wk.ld (i := 5) 9 true ty30 rfl rfl (by conv => lhs; whnf) (lt_of_ble rfl)
    apply Wk.dat hh1 Try.func9 rfl rfl rfl rfl rfl (lt_of_ble rfl)
    apply Wk.mv (by conv => lhs; whnf) (lt_of_ble rfl)
    apply Wk.ext rfl rfl (lt_of_ble rfl)
    apply Wk.ext rfl rfl (lt_of_ble rfl)
    apply Wk.ext rfl rfl (lt_of_ble rfl)
    apply Wk.alc 6 [.int .i64 0, .int .i64 0, .int .i64 0, .slice none 0 0, .bool false, .bool false, .bool false] ze28 rfl rfl (lt_of_ble rfl)
    apply Wk.sto (i := 6) 7 true ty28 rfl rfl rfl rfl (Nat.le_of_ble_eq_true rfl) (lt_of_ble rfl)
    apply Wk.asg (by conv => lhs; whnf) (lt_of_ble rfl)
    apply Wk.asg (by conv => lhs; whnf) (lt_of_ble rfl)
    refine Wk.nil ?_
    refine AW.seq ?_
    apply AW.list
    apply Wk.ld (i := 3) 5 true ty24 rfl rfl (by conv => lhs; whnf) (lt_of_ble rfl)
    apply Wk.ld (i := 4) 7 true ty28 rfl rfl (by conv => lhs; whnf) (lt_of_ble rfl)
    apply Wk.ld (i := 5) 9 true ty30 rfl rfl (by conv => lhs; whnf) (lt_of_ble rfl)
    apply Wk.dat hh2 Try.func10 rfl rfl rfl rfl rfl (lt_of_ble rfl)
    apply Wk.mv (by conv => lhs; whnf) (lt_of_ble rfl)
    apply Wk.ext rfl rfl (lt_of_ble rfl)
    apply Wk.ext rfl rfl (lt_of_ble rfl)
    apply Wk.ext rfl rfl (lt_of_ble rfl)
    apply Wk.alc 9 [.int .i64 0, .int .i64 0, .int .i64 0, .slice none 0 0, .bool false, .bool false, .bool false] ze28 rfl rfl (lt_of_ble rfl)
    apply Wk.sto (i := 9) 7 true ty28 rfl rfl rfl rfl (Nat.le_of_ble_eq_true rfl) (lt_of_ble rfl)
    apply Wk.asg (by conv => lhs; whnf) (lt_of_ble rfl)
    apply Wk.asg (by conv => lhs; whnf) (lt_of_ble rfl)
    refine Wk.nil ?_
    refine AW.seq (AW.seq ?_)
    apply AW.list
    apply Wk.mv (by conv => lhs; whnf) (lt_of_ble rfl)
    apply Wk.mv (by conv => lhs; whnf) (lt_of_ble rfl)
    apply Wk.dat (liFramesR none) Try.func13 rfl rfl rfl rfl rfl (lt_of_ble rfl)
    apply Wk.un rfl (fun w => by simp [go_sem] <;> rfl) (lt_of_ble rfl)
    refine Wk.nil ?_
    refine AW.cond rfl (fun hc => by cases hc) (fun _ => AW.skip (thenA_normal ?_))
    refine AW.seq (AW.seq ?_)
    apply AW.list
    apply Wk.ld (i := 3) 5 true ty24 rfl rfl (by conv => lhs; whnf) (lt_of_ble rfl)
    apply Wk.dat (scfgb m0 w0 s0 t0 y0 h1) Try.func16 rfl rfl rfl rfl rfl (lt_of_ble rfl)
    apply Wk.un rfl (fun w => by simp [go_sem] <;> rfl) (lt_of_ble rfl)
    apply Wk.mv (by conv => lhs; whnf) (lt_of_ble rfl)
    apply Wk.gon 45 rfl rfl
    apply Wk.ld (i := 4) 7 true ty28 rfl rfl (by conv => lhs; whnf) (lt_of_ble rfl)
    apply Wk.gon 45 rfl rfl
    apply Wk.dat (srxb a u d h2) Try.func15 rfl rfl rfl rfl rfl (lt_of_ble rfl)
    apply Wk.gon 45 rfl rfl
    apply Wk.un rfl (fun w => by simp [go_sem] <;> rfl) (lt_of_ble rfl)
    apply Wk.pckF rfl (by conv => lhs; whnf) (lt_of_ble rfl)
    apply Wk.mv (by conv => lhs; whnf) (lt_of_ble rfl)
    apply Wk.goff 50 (ok_load 5 ty30) rfl rfl (by decide)
    apply Wk.goff 50 (ok_datw ((sfrm_ok k s k2 p f y g l fs).w rfl) Try.func17 rfl rfl) rfl rfl (by decide)
    apply Wk.goff 50 (ok_un _ _ _) rfl rfl (by decide)
    apply Wk.pckT rfl (by conv => lhs; whnf) (lt_of_ble rfl)
    apply Wk.mv (by conv => lhs; whnf) (lt_of_ble rfl)
    apply Wk.goff 55 (ok_faddr fd30_0) rfl rfl (by decide)
    apply Wk.goff 55 (ok_load 5 ty3) rfl rfl (by decide)
    apply Wk.goff 55 (ok_bin _ _ _ _ _) rfl rfl (by decide)
    apply Wk.pckT rfl (by conv => lhs; whnf) (lt_of_ble rfl)
    apply Wk.mv (by conv => lhs; whnf) (lt_of_ble rfl)
    apply Wk.goff 60 (ok_faddr fd28_5) rfl rfl (by decide)
    apply Wk.goff 60 (ok_load 4 ty4) rfl rfl (by decide)
    apply Wk.pckT rfl (by conv => lhs; whnf) (lt_of_ble rfl)
    refine Wk.nil ?_
    refine AW.cond rfl (fun _ => ?_) (fun hc => by cases hc)
    refine AW.seq ?_
    apply AW.list
    apply Wk.mv (by conv => lhs; whnf) (lt_of_ble rfl)
    apply Wk.len un34 rfl (lt_of_ble rfl)
    apply Wk.bin rfl rfl (r := .bool true) (fun w => by simp [go_sem]) (lt_of_ble rfl)
    apply Wk.mv (by conv => lhs; whnf) (lt_of_ble rfl)
    apply Wk.gon 67 rfl rfl
    apply Wk.dat liok_ok Try.func18 rfl rfl rfl rfl rfl (lt_of_ble rfl)
    apply Wk.pckT rfl (by conv => lhs; whnf) (lt_of_ble rfl)
    apply Wk.asg (by conv => lhs; whnf) (lt_of_ble rfl)
    refine Wk.nil (AW.ret ?_)
    refine thenA_ret ?_
    exact RetQ.ret [] (.cons rfl .nil) ⟨rfl, rfl⟩ none_kept
  cases h3 : frmB k s k2 p f y g l fs.length
  · have hh : hearF ⟨m0, w0, s0, t0, y0⟩ ⟨e, c, m, bs, a, u, d⟩ ⟨k, s, k2, p, f, y, g, l, fs⟩ = ⟨RX.zero, none, none⟩ := hearF_no (by simp [goesB, FR.ok, h3])
    have hh1 := ihearb ⟨m0, w0, s0, t0, y0⟩ ⟨e, c, m, bs, a, u, d⟩ ⟨k, s, k2, p, f, y, g, l, fs⟩ hbl hf hh
    have hh2 := shearb ⟨m0, w0, s0, t0, y0⟩ ⟨e, c, m, bs, a, u, d⟩ ⟨k, s, k2, p, f, y, g, l, fs⟩ hbl hh
    refine AW.seq ?_
    apply AW.list
    apply Wk.ld (i := 3) 5 true ty24 rfl rfl (by conv => lhs; whnf) (lt_of_ble rfl)
    apply Wk.ld (i := 4) 7 true ty28 rfl rfl (by conv => lhs; whnf) (lt_of_ble rfl)
    apply Wk.ld (i := 5) 9 true ty30 rfl rfl (by conv => lhs; whnf) (lt_of_ble rfl)
    apply Wk.dat hh1 Try.func9 rfl rfl rfl rfl rfl (lt_of_ble rfl)
    apply Wk.mv (by conv => lhs; whnf) (lt_of_ble rfl)
    apply Wk.ext rfl rfl (lt_of_ble rfl)
    apply Wk.ext rfl rfl (lt_of_ble rfl)
    apply Wk.ext rfl rfl (lt_of_ble rfl)
    apply Wk.alc 6 [.int .i64 0, .int .i64 0, .int .i64 0, .slice none 0 0, .bool false, .bool false, .bool false] ze28 rfl rfl (lt_of_ble rfl)
    apply Wk.sto (i := 6) 7 true ty28 rfl rfl rfl rfl (Nat.le_of_ble_eq_true rfl) (lt_of_ble rfl)
    apply Wk.asg (by conv => lhs; whnf) (lt_of_ble rfl)
    apply Wk.asg (by conv => lhs; whnf) (lt_of_ble rfl)
    refine Wk.nil ?_
    refine AW.seq ?_
    apply AW.list
    apply Wk.ld (i := 3) 5 true ty24 rfl rfl (by conv => lhs; whnf) (lt_of_ble rfl)
    apply Wk.ld (i := 4) 7 true ty28 rfl rfl (by conv => lhs; whnf) (lt_of_ble rfl)
    apply Wk.ld (i := 5) 9 true ty30 rfl rfl (by conv => lhs; whnf) (lt_of_ble rfl)
    apply Wk.dat hh2 Try.func10 rfl rfl rfl rfl rfl (lt_of_ble rfl)
    apply Wk.mv (by conv => lhs; whnf) (lt_of_ble rfl)
    apply Wk.ext rfl rfl (lt_of_ble rfl)
    apply Wk.ext rfl rfl (lt_of_ble rfl)
    apply Wk.ext rfl rfl (lt_of_ble rfl)
    apply Wk.alc 9 [.int .i64 0, .int .i64 0, .int .i64 0, .slice none 0 0, .bool false, .bool false, .bool false] ze28 rfl rfl (lt_of_ble rfl)
    apply Wk.sto (i := 9) 7 true ty28 rfl rfl rfl rfl (Nat.le_of_ble_eq_true rfl) (lt_of_ble rfl)
    apply Wk.asg (by conv => lhs; whnf) (lt_of_ble rfl)
    apply Wk.asg (by conv => lhs; whnf) (lt_of_ble rfl)
    refine Wk.nil ?_
    refine AW.seq (AW.seq ?_)
    apply AW.list
    apply Wk.mv (by conv => lhs; whnf) (lt_of_ble rfl)
    apply Wk.mv (by conv => lhs; whnf) (lt_of_ble rfl)
    apply Wk.dat (liFramesR none) Try.func13 rfl rfl rfl rfl rfl (lt_of_ble rfl)
    apply Wk.un rfl (fun w => by simp [go_sem] <;> rfl) (lt_of_ble rfl)
    refine Wk.nil ?_
    refine AW.cond rfl (fun hc => by cases hc) (fun _ => AW.skip (thenA_normal ?_))
    refine AW.seq (AW.seq ?_)
    apply AW.list
    apply Wk.ld (i := 3) 5 true ty24 rfl rfl (by conv => lhs; whnf) (lt_of_ble rfl)
    apply Wk.dat (scfgb m0 w0 s0 t0 y0 h1) Try.func16 rfl rfl rfl rfl rfl (lt_of_ble rfl)
    apply Wk.un rfl (fun w => by simp [go_sem] <;> rfl) (lt_of_ble rfl)
    apply Wk.mv (by conv => lhs; whnf) (lt_of_ble rfl)
    apply Wk.gon 45 rfl rfl
    apply Wk.ld (i := 4) 7 true ty28 rfl rfl (by conv => lhs; whnf) (lt_of_ble rfl)
    apply Wk.gon 45 rfl rfl
    apply Wk.dat (srxb a u d h2) Try.func15 rfl rfl rfl rfl rfl (lt_of_ble rfl)
    apply Wk.gon 45 rfl rfl
    apply Wk.un rfl (fun w => by simp [go_sem] <;> rfl) (lt_of_ble rfl)
    apply Wk.pckF rfl (by conv => lhs; whnf) (lt_of_ble rfl)
    apply Wk.mv (by conv => lhs; whnf) (lt_of_ble rfl)
    apply Wk.gon 50 rfl rfl
    apply Wk.ld (i := 5) 9 true ty30 rfl rfl (by conv => lhs; whnf) (lt_of_ble rfl)
    apply Wk.gon 50 rfl rfl
    apply Wk.dat (sfrmb k s k2 p f y g l fs h3) Try.func17 rfl rfl rfl rfl rfl (lt_of_ble rfl)
    apply Wk.gon 50 rfl rfl
    apply Wk.un rfl (fun w => by simp [go_sem] <;> rfl) (lt_of_ble rfl)
    apply Wk.pckF rfl (by conv => lhs; whnf) (lt_of_ble rfl)
    apply Wk.mv (by conv => lhs; whnf) (lt_of_ble rfl)
    apply Wk.goff 55 (ok_faddr fd30_0) rfl rfl (by decide)
    apply Wk.goff 55 (ok_load 5 ty3) rfl rfl (by decide)
    apply Wk.goff 55 (ok_bin _ _ _ _ _) rfl rfl (by decide)
    apply Wk.pckT rfl (by conv => lhs; whnf) (lt_of_ble rfl)
    apply Wk.mv (by conv => lhs; whnf) (lt_of_ble rfl)
    apply Wk.goff 60 (ok_faddr fd28_5) rfl rfl (by decide)
    apply Wk.goff 60 (ok_load 4 ty4) rfl rfl (by decide)
    apply Wk.pckT rfl (by conv => lhs; whnf) (lt_of_ble rfl)
    refine Wk.nil ?_
    refine AW.cond rfl (fun _ => ?_) (fun hc => by cases hc)
    refine AW.seq ?_
    apply AW.list
    apply Wk.mv (by conv => lhs; whnf) (lt_of_ble rfl)
    apply Wk.len un34 rfl (lt_of_ble rfl)
    apply Wk.bin rfl rfl (r := .bool true) (fun w => by simp [go_sem]) (lt_of_ble rfl)
    apply Wk.mv (by conv => lhs; whnf) (lt_of_ble rfl)
    apply Wk.gon 67 rfl rfl
    apply Wk.dat liok_ok Try.func18 rfl rfl rfl rfl rfl (lt_of_ble rfl)
    apply Wk.pckT rfl (by conv => lhs; whnf) (lt_of_ble rfl)
    apply Wk.asg (by conv => lhs; whnf) (lt_of_ble rfl)
    refine Wk.nil (AW.ret ?_)
    refine thenA_ret ?_
    exact RetQ.ret [] (.cons rfl .nil) ⟨rfl, rfl⟩ none_kept
  by_cases h4 : 3 ≤ k
  · have hk1 : ¬ k = 1 := by omega
    have hk2 : ¬ k = 2 := by omega
    have hh : hearF ⟨m0, w0, s0, t0, y0⟩ ⟨e, c, m, bs, a, u, d⟩ ⟨k, s, k2, p, f, y, g, l, fs⟩ = ⟨RX.zero, none, none⟩ := hearF_no (by simp [goesB, hk1, hk2])
    have hh1 := ihearb ⟨m0, w0, s0, t0, y0⟩ ⟨e, c, m, bs, a, u, d⟩ ⟨k, s, k2, p, f, y, g, l, fs⟩ hbl hf hh
    have hh2 := shearb ⟨m0, w0, s0, t0, y0⟩ ⟨e, c, m, bs, a, u, d⟩ ⟨k, s, k2, p, f, y, g, l, fs⟩ hbl hh
    refine AW.seq ?_
    apply AW.list
    apply Wk.ld (i := 3) 5 true ty24 rfl rfl (by conv => lhs; whnf) (lt_of_ble rfl)
    apply Wk.ld (i := 4) 7 true ty28 rfl rfl (by conv => lhs; whnf) (lt_of_ble rfl)
    apply Wk.ld (i := 5) 9 true ty30 rfl rfl (by conv => lhs; whnf) (lt_of_ble rfl)
    apply Wk.dat hh1 Try.func9 rfl rfl rfl rfl rfl (lt_of_ble rfl)
    apply Wk.mv (by conv => lhs; whnf) (lt_of_ble rfl)
    apply Wk.ext rfl rfl (lt_of_ble rfl)
    apply Wk.ext rfl rfl (lt_of_ble rfl)
    apply Wk.ext rfl rfl (lt_of_ble rfl)
    apply Wk.alc 6 [.int .i64 0, .int .i64 0, .int .i64 0, .slice none 0 0, .bool false, .bool false, .bool false] ze28 rfl rfl (lt_of_ble rfl)
    apply Wk.sto (i := 6) 7 true ty28 rfl rfl rfl rfl (Nat.le_of_ble_eq_true rfl) (lt_of_ble rfl)
    apply Wk.asg (by conv => lhs; whnf) (lt_of_ble rfl)
    apply Wk.asg (by conv => lhs; whnf) (lt_of_ble rfl)
    refine Wk.nil ?_
    refine AW.seq ?_
    apply AW.list
    apply Wk.ld (i := 3) 5 true ty24 rfl rfl (by conv => lhs; whnf) (lt_of_ble rfl)
    apply Wk.ld (i := 4) 7 true ty28 rfl rfl (by conv => lhs; whnf) (lt_of_ble rfl)
    apply Wk.ld (i := 5) 9 true ty30 rfl rfl (by conv => lhs; whnf) (lt_of_ble rfl)
    apply Wk.dat hh2 Try.func10 rfl rfl rfl rfl rfl (lt_of_ble rfl)
    apply Wk.mv (by conv => lhs; whnf) (lt_of_ble rfl)
    apply Wk.ext rfl rfl (lt_of_ble rfl)
    apply Wk.ext rfl rfl (lt_of_ble rfl)
    apply Wk.ext rfl rfl (lt_of_ble rfl)
    apply Wk.alc 9 [.int .i64 0, .int .i64 0, .int .i64 0, .slice none 0 0, .bool false, .bool false, .bool false] ze28 rfl rfl (lt_of_ble rfl)
    apply Wk.sto (i := 9) 7 true ty28 rfl rfl rfl rfl (Nat.le_of_ble_eq_true rfl) (lt_of_ble rfl)
    apply Wk.asg (by conv => lhs; whnf) (lt_of_ble rfl)
    apply Wk.asg (by conv => lhs; whnf) (lt_of_ble rfl)
    refine Wk.nil ?_
    refine AW.seq (AW.seq ?_)
    apply AW.list
    apply Wk.mv (by conv => lhs; whnf) (lt_of_ble rfl)
    apply Wk.mv (by conv => lhs; whnf) (lt_of_ble rfl)
    apply Wk.dat (liFramesR none) Try.func13 rfl rfl rfl rfl rfl (lt_of_ble rfl)
    apply Wk.un rfl (fun w => by simp [go_sem] <;> rfl) (lt_of_ble rfl)
    refine Wk.nil ?_
    refine AW.cond rfl (fun hc => by cases hc) (fun _ => AW.skip (thenA_normal ?_))
    refine AW.seq (AW.seq ?_)
    apply AW.list
    apply Wk.ld (i := 3) 5 true ty24 rfl rfl (by conv => lhs; whnf) (lt_of_ble rfl)
    apply Wk.dat (scfgb m0 w0 s0 t0 y0 h1) Try.func16 rfl rfl rfl rfl rfl (lt_of_ble rfl)
    apply Wk.un rfl (fun w => by simp [go_sem] <;> rfl) (lt_of_ble rfl)
    apply Wk.mv (by conv => lhs; whnf) (lt_of_ble rfl)
    apply Wk.gon 45 rfl rfl
    apply Wk.ld (i := 4) 7 true ty28 rfl rfl (by conv => lhs; whnf) (lt_of_ble rfl)
    apply Wk.gon 45 rfl rfl
    apply Wk.dat (srxb a u d h2) Try.func15 rfl rfl rfl rfl rfl (lt_of_ble rfl)
    apply Wk.gon 45 rfl rfl
    apply Wk.un rfl (fun w => by simp [go_sem] <;> rfl) (lt_of_ble rfl)
    apply Wk.pckF rfl (by conv => lhs; whnf) (lt_of_ble rfl)
    apply Wk.mv (by conv => lhs; whnf) (lt_of_ble rfl)
    apply Wk.gon 50 rfl rfl
    apply Wk.ld (i := 5) 9 true ty30 rfl rfl (by conv => lhs; whnf) (lt_of_ble rfl)
    apply Wk.gon 50 rfl rfl
    apply Wk.dat (sfrmb k s k2 p f y g l fs h3) Try.func17 rfl rfl rfl rfl rfl (lt_of_ble rfl)
    apply Wk.gon 50 rfl rfl
    apply Wk.un rfl (fun w => by simp [go_sem] <;> rfl) (lt_of_ble rfl)
    apply Wk.pckF rfl (by conv => lhs; whnf) (lt_of_ble rfl)
    apply Wk.mv (by conv => lhs; whnf) (lt_of_ble rfl)
    apply Wk.gon 55 rfl rfl
    apply Wk.fad 0 0 false fd30_0 rfl (lt_of_ble rfl)
    apply Wk.gon 55 rfl rfl
    apply Wk.ld (i := 5) 1 false ty3 rfl rfl (by conv => lhs; whnf) (lt_of_ble rfl)
    apply Wk.gon 55 rfl rfl
    apply Wk.bin rfl rfl (r := .bool true) (fun w => by simp [go_sem, h4]) (lt_of_ble rfl)
    apply Wk.pckF rfl (by conv => lhs; whnf) (lt_of_ble rfl)
    apply Wk.mv (by conv => lhs; whnf) (lt_of_ble rfl)
    apply Wk.goff 60 (ok_faddr fd28_5) rfl rfl (by decide)
    apply Wk.goff 60 (ok_load 4 ty4) rfl rfl (by decide)
    apply Wk.pckT rfl (by conv => lhs; whnf) (lt_of_ble rfl)
    refine Wk.nil ?_
    refine AW.cond rfl (fun _ => ?_) (fun hc => by cases hc)
    refine AW.seq ?_
    apply AW.list
    apply Wk.mv (by conv => lhs; whnf) (lt_of_ble rfl)
    apply Wk.len un34 rfl (lt_of_ble rfl)
    apply Wk.bin rfl rfl (r := .bool true) (fun w => by simp [go_sem]) (lt_of_ble rfl)
    apply Wk.mv (by conv => lhs; whnf) (lt_of_ble rfl)
    apply Wk.gon 67 rfl rfl
    apply Wk.dat liok_ok Try.func18 rfl rfl rfl rfl rfl (lt_of_ble rfl)
    apply Wk.pckT rfl (by conv => lhs; whnf) (lt_of_ble rfl)
    apply Wk.asg (by conv => lhs; whnf) (lt_of_ble rfl)
    refine Wk.nil (AW.ret ?_)
    refine thenA_ret ?_
    exact RetQ.ret [] (.cons rfl .nil) ⟨rfl, rfl⟩ none_kept
  have hkk : k = 1 ∨ k = 2 := by
    have : k = 1 ∨ k = 2 ∨ k = 3 ∨ k = 4 := by
      simp only [frmB, decide_eq_true_eq] at h3
      omega
    omega
  have hgo : goesB ⟨m0, w0, s0, t0, y0⟩ ⟨e, c, m, bs, a, u, d⟩ ⟨k, s, k2, p, f, y, g, l, fs⟩ = true := goes_iff.2 ⟨h1, h2, h3, hkk⟩
  have hre := rx_e (x := ⟨e, c, m, bs, a, u, d⟩) h2
  simp only at hre
  cases d
  case true =>
    have hh : hearF ⟨m0, w0, s0, t0, y0⟩ ⟨e, c, m, bs, a, u, true⟩ ⟨k, s, k2, p, f, y, g, l, fs⟩ = ⟨⟨e, c, m, bs, a, u, true⟩, none, none⟩ := hearF_dead hgo rfl
    have hh1 := ihearb ⟨m0, w0, s0, t0, y0⟩ ⟨e, c, m, bs, a, u, true⟩ ⟨k, s, k2, p, f, y, g, l, fs⟩ hbl hf hh
    have hh2 := shearb ⟨m0, w0, s0, t0, y0⟩ ⟨e, c, m, bs, a, u, true⟩ ⟨k, s, k2, p, f, y, g, l, fs⟩ hbl hh
    refine AW.seq ?_
    apply AW.list
    apply Wk.ld (i := 3) 5 true ty24 rfl rfl (by conv => lhs; whnf) (lt_of_ble rfl)
    apply Wk.ld (i := 4) 7 true ty28 rfl rfl (by conv => lhs; whnf) (lt_of_ble rfl)
    apply Wk.ld (i := 5) 9 true ty30 rfl rfl (by conv => lhs; whnf) (lt_of_ble rfl)
    apply Wk.dat hh1 Try.func9 rfl rfl rfl rfl rfl (lt_of_ble rfl)
    apply Wk.mv (by conv => lhs; whnf) (lt_of_ble rfl)
    apply Wk.ext rfl rfl (lt_of_ble rfl)
    apply Wk.ext rfl rfl (lt_of_ble rfl)
    apply Wk.ext rfl rfl (lt_of_ble rfl)
    apply Wk.alc 6 [.int .i64 0, .int .i64 0, .int .i64 0, .slice none 0 0, .bool false, .bool false, .bool false] ze28 rfl rfl (lt_of_ble rfl)
    apply Wk.sto (i := 6) 7 true ty28 rfl rfl rfl rfl (Nat.le_of_ble_eq_true rfl) (lt_of_ble rfl)
    apply Wk.asg (by conv => lhs; whnf) (lt_of_ble rfl)
    apply Wk.asg (by conv => lhs; whnf) (lt_of_ble rfl)
    refine Wk.nil ?_
    refine AW.seq ?_
    apply AW.list
    apply Wk.ld (i := 3) 5 true ty24 rfl rfl (by conv => lhs; whnf) (lt_of_ble rfl)
    apply Wk.ld (i := 4) 7 true ty28 rfl rfl (by conv => lhs; whnf) (lt_of_ble rfl)
    apply Wk.ld (i := 5) 9 true ty30 rfl rfl (by conv => lhs; whnf) (lt_of_ble rfl)
    apply Wk.dat hh2 Try.func10 rfl rfl rfl rfl rfl (lt_of_ble rfl)
    apply Wk.mv (by conv => lhs; whnf) (lt_of_ble rfl)
    apply Wk.ext rfl rfl (lt_of_ble rfl)
    apply Wk.ext rfl rfl (lt_of_ble rfl)
    apply Wk.ext rfl rfl (lt_of_ble rfl)
    apply Wk.alc 9 [.int .i64 0, .int .i64 0, .int .i64 0, .slice none 0 0, .bool false, .bool false, .bool false] ze28 rfl rfl (lt_of_ble rfl)
    apply Wk.sto (i := 9) 7 true ty28 rfl rfl rfl rfl (Nat.le_of_ble_eq_true rfl) (lt_of_ble rfl)
    apply Wk.asg (by conv => lhs; whnf) (lt_of_ble rfl)
    apply Wk.asg (by conv => lhs; whnf) (lt_of_ble rfl)
    refine Wk.nil ?_
    refine AW.seq (AW.seq ?_)
    apply AW.list
    apply Wk.mv (by conv => lhs; whnf) (lt_of_ble rfl)
    apply Wk.mv (by conv => lhs; whnf) (lt_of_ble rfl)
    apply Wk.dat (liFramesR none) Try.func13 rfl rfl rfl rfl rfl (lt_of_ble rfl)
    apply Wk.un rfl (fun w => by simp [go_sem] <;> rfl) (lt_of_ble rfl)
    refine Wk.nil ?_
    refine AW.cond rfl (fun hc => by cases hc) (fun _ => AW.skip (thenA_normal ?_))
    refine AW.seq (AW.seq ?_)
    apply AW.list
    apply Wk.ld (i := 3) 5 true ty24 rfl rfl (by conv => lhs; whnf) (lt_of_ble rfl)
    apply Wk.dat (scfgb m0 w0 s0 t0 y0 h1) Try.func16 rfl rfl rfl rfl rfl (lt_of_ble rfl)
    apply Wk.un rfl (fun w => by simp [go_sem] <;> rfl) (lt_of_ble rfl)
    apply Wk.mv (by conv => lhs; whnf) (lt_of_ble rfl)
    apply Wk.gon 45 rfl rfl
    apply Wk.ld (i := 4) 7 true ty28 rfl rfl (by conv => lhs; whnf) (lt_of_ble rfl)
    apply Wk.gon 45 rfl rfl
    apply Wk.dat (srxb a u true h2) Try.func15 rfl rfl rfl rfl rfl (lt_of_ble rfl)
    apply Wk.gon 45 rfl rfl
    apply Wk.un rfl (fun w => by simp [go_sem] <;> rfl) (lt_of_ble rfl)
    apply Wk.pckF rfl (by conv => lhs; whnf) (lt_of_ble rfl)
    apply Wk.mv (by conv => lhs; whnf) (lt_of_ble rfl)
    apply Wk.gon 50 rfl rfl
    apply Wk.ld (i := 5) 9 true ty30 rfl rfl (by conv => lhs; whnf) (lt_of_ble rfl)
    apply Wk.gon 50 rfl rfl
    apply Wk.dat (sfrmb k s k2 p f y g l fs h3) Try.func17 rfl rfl rfl rfl rfl (lt_of_ble rfl)
    apply Wk.gon 50 rfl rfl
    apply Wk.un rfl (fun w => by simp [go_sem] <;> rfl) (lt_of_ble rfl)
    apply Wk.pckF rfl (by conv => lhs; whnf) (lt_of_ble rfl)
    apply Wk.mv (by conv => lhs; whnf) (lt_of_ble rfl)
    apply Wk.gon 55 rfl rfl
    apply Wk.fad 0 0 false fd30_0 rfl (lt_of_ble rfl)
    apply Wk.gon 55 rfl rfl
    apply Wk.ld (i := 5) 1 false ty3 rfl rfl (by conv => lhs; whnf) (lt_of_ble rfl)
    apply Wk.gon 55 rfl rfl
    apply Wk.bin rfl rfl (r := .bool false) (fun w => by simp [go_sem] <;> omega) (lt_of_ble rfl)
    apply Wk.pckF rfl (by conv => lhs; whnf) (lt_of_ble rfl)
    apply Wk.mv (by conv => lhs; whnf) (lt_of_ble rfl)
    apply Wk.gon 60 rfl rfl
    apply Wk.fad 6 0 false fd28_5 rfl (lt_of_ble rfl)
    apply Wk.gon 60 rfl rfl
    apply Wk.ld (i := 4) 1 false ty4 rfl rfl (by conv => lhs; whnf) (lt_of_ble rfl)
    apply Wk.pckF rfl (by conv => lhs; whnf) (lt_of_ble rfl)
    refine Wk.nil ?_
    refine AW.cond rfl (fun _ => ?_) (fun hc => by cases hc)
    refine AW.seq ?_
    apply AW.list
    apply Wk.mv (by conv => lhs; whnf) (lt_of_ble rfl)
    apply Wk.len un34 rfl (lt_of_ble rfl)
    apply Wk.bin rfl rfl (r := .bool true) (fun w => by simp [go_sem]) (lt_of_ble rfl)
    apply Wk.mv (by conv => lhs; whnf) (lt_of_ble rfl)
    apply Wk.gon 67 rfl rfl
    apply Wk.dat liok_ok Try.func18 rfl rfl rfl rfl rfl (lt_of_ble rfl)
    apply Wk.pckT rfl (by conv => lhs; whnf) (lt_of_ble rfl)
    apply Wk.asg (by conv => lhs; whnf) (lt_of_ble rfl)
    refine Wk.nil (AW.ret ?_)
    refine thenA_ret ?_
    exact RetQ.ret [] (.cons rfl .nil) ⟨rfl, rfl⟩ none_kept
  case false =>
  rcases hkk with rfl | rfl
  case inr =>
    cases p
    case false =>
      have hh : hearF ⟨m0, w0, s0, t0, y0⟩ ⟨e, c, m, bs, a, u, false⟩ ⟨2, s, k2, false, f, y, g, l, fs⟩ = ⟨⟨e, c, m, bs, a, u, false⟩, none, none⟩ := (hearF_say hgo rfl rfl).trans (if_neg (by simp))
      have hh1 := ihearb ⟨m0, w0, s0, t0, y0⟩ ⟨e, c, m, bs, a, u, false⟩ ⟨2, s, k2, false, f, y, g, l, fs⟩ hbl hf hh
      have hh2 := shearb ⟨m0, w0, s0, t0, y0⟩ ⟨e, c, m, bs, a, u, false⟩ ⟨2, s, k2, false, f, y, g, l, fs⟩ hbl hh
      refine AW.seq ?_
      apply AW.list
      apply Wk.ld (i := 3) 5 true ty24 rfl rfl (by conv => lhs; whnf) (lt_of_ble rfl)
      apply Wk.ld (i := 4) 7 true ty28 rfl rfl (by conv => lhs; whnf) (lt_of_ble rfl)
      apply Wk.ld (i := 5) 9 true ty30 rfl rfl (by conv => lhs; whnf) (lt_of_ble rfl)
      apply Wk.dat hh1 Try.func9 rfl rfl rfl rfl rfl (lt_of_ble rfl)
      apply Wk.mv (by conv => lhs; whnf) (lt_of_ble rfl)
      apply Wk.ext rfl rfl (lt_of_ble rfl)
      apply Wk.ext rfl rfl (lt_of_ble rfl)
      apply Wk.ext rfl rfl (lt_of_ble rfl)
      apply Wk.alc 6 [.int .i64 0, .int .i64 0, .int .i64 0, .slice none 0 0, .bool false, .bool false, .bool false] ze28 rfl rfl (lt_of_ble rfl)
      apply Wk.sto (i := 6) 7 true ty28 rfl rfl rfl rfl (Nat.le_of_ble_eq_true rfl) (lt_of_ble rfl)
      apply Wk.asg (by conv => lhs; whnf) (lt_of_ble rfl)
      apply Wk.asg (by conv => lhs; whnf) (lt_of_ble rfl)
      refine Wk.nil ?_
      refine AW.seq ?_
      apply AW.list
      apply Wk.ld (i := 3) 5 true ty24 rfl rfl (by conv => lhs; whnf) (lt_of_ble rfl)
      apply Wk.ld (i := 4) 7 true ty28 rfl rfl (by conv => lhs; whnf) (lt_of_ble rfl)
      apply Wk.ld (i := 5) 9 true ty30 rfl rfl (by conv => lhs; whnf) (lt_of_ble rfl)
      apply Wk.dat hh2 Try.func10 rfl rfl rfl rfl rfl (lt_of_ble rfl)
      apply Wk.mv (by conv => lhs; whnf) (lt_of_ble rfl)
      apply Wk.ext rfl rfl (lt_of_ble rfl)
      apply Wk.ext rfl rfl (lt_of_ble rfl)
      apply Wk.ext rfl rfl (lt_of_ble rfl)
      apply Wk.alc 9 [.int .i64 0, .int .i64 0, .int .i64 0, .slice none 0 0, .bool false, .bool false, .bool false] ze28 rfl rfl (lt_of_ble rfl)
      apply Wk.sto (i := 9) 7 true ty28 rfl rfl rfl rfl (Nat.le_of_ble_eq_true rfl) (lt_of_ble rfl)
      apply Wk.asg (by conv => lhs; whnf) (lt_of_ble rfl)
      apply Wk.asg (by conv => lhs; whnf) (lt_of_ble rfl)
      refine Wk.nil ?_
      refine AW.seq (AW.seq ?_)
      apply AW.list
      apply Wk.mv (by conv => lhs; whnf) (lt_of_ble rfl)
      apply Wk.mv (by conv => lhs; whnf) (lt_of_ble rfl)
      apply Wk.dat (liFramesR none) Try.func13 rfl rfl rfl rfl rfl (lt_of_ble rfl)
      apply Wk.un rfl (fun w => by simp [go_sem] <;> rfl) (lt_of_ble rfl)
      refine Wk.nil ?_
      refine AW.cond rfl (fun hc => by cases hc) (fun _ => AW.skip (thenA_normal ?_))
      refine AW.seq (AW.seq ?_)
      apply AW.list
      apply Wk.ld (i := 3) 5 true ty24 rfl rfl (by conv => lhs; whnf) (lt_of_ble rfl)
      apply Wk.dat (scfgb m0 w0 s0 t0 y0 h1) Try.func16 rfl rfl rfl rfl rfl (lt_of_ble rfl)
      apply Wk.un rfl (fun w => by simp [go_sem] <;> rfl) (lt_of_ble rfl)
      apply Wk.mv (by conv => lhs; whnf) (lt_of_ble rfl)
      apply Wk.gon 45 rfl rfl
      apply Wk.ld (i := 4) 7 true ty28 rfl rfl (by conv => lhs; whnf) (lt_of_ble rfl)
      apply Wk.gon 45 rfl rfl
      apply Wk.dat (srxb a u false h2) Try.func15 rfl rfl rfl rfl rfl (lt_of_ble rfl)
      apply Wk.gon 45 rfl rfl
      apply Wk.un rfl (fun w => by simp [go_sem] <;> rfl) (lt_of_ble rfl)
      apply Wk.pckF rfl (by conv => lhs; whnf) (lt_of_ble rfl)
      apply Wk.mv (by conv => lhs; whnf) (lt_of_ble rfl)
      apply Wk.gon 50 rfl rfl
      apply Wk.ld (i := 5) 9 true ty30 rfl rfl (by conv => lhs; whnf) (lt_of_ble rfl)
      apply Wk.gon 50 rfl rfl
      apply Wk.dat (sfrmb 2 s k2 false f y g l fs h3) Try.func17 rfl rfl rfl rfl rfl (lt_of_ble rfl)
      apply Wk.gon 50 rfl rfl
      apply Wk.un rfl (fun w => by simp [go_sem] <;> rfl) (lt_of_ble rfl)
      apply Wk.pckF rfl (by conv => lhs; whnf) (lt_of_ble rfl)
      apply Wk.mv (by conv => lhs; whnf) (lt_of_ble rfl)
      apply Wk.gon 55 rfl rfl
      apply Wk.fad 0 0 false fd30_0 rfl (lt_of_ble rfl)
      apply Wk.gon 55 rfl rfl
      apply Wk.ld (i := 5) 1 false ty3 rfl rfl (by conv => lhs; whnf) (lt_of_ble rfl)
      apply Wk.gon 55 rfl rfl
      apply Wk.bin rfl rfl (r := .bool false) (fun w => by simp [go_sem] <;> omega) (lt_of_ble rfl)
      apply Wk.pckF rfl (by conv => lhs; whnf) (lt_of_ble rfl)
      apply Wk.mv (by conv => lhs; whnf) (lt_of_ble rfl)
      apply Wk.gon 60 rfl rfl
      apply Wk.fad 6 0 false fd28_5 rfl (lt_of_ble rfl)
      apply Wk.gon 60 rfl rfl
      apply Wk.ld (i := 4) 1 false ty4 rfl rfl (by conv => lhs; whnf) (lt_of_ble rfl)
      apply Wk.pckF rfl (by conv => lhs; whnf) (lt_of_ble rfl)
      refine Wk.nil ?_
      refine AW.cond rfl (fun hc => by cases hc) (fun _ => AW.skip (thenA_normal ?_))
      refine AW.seq (AW.seq ?_)
      apply AW.list
      apply Wk.fad 0 0 false fd30_0 rfl (lt_of_ble rfl)
      apply Wk.ld (i := 5) 1 false ty3 rfl rfl (by conv => lhs; whnf) (lt_of_ble rfl)
      apply Wk.bin rfl rfl (fun w => by simp [go_sem] <;> rfl) (lt_of_ble rfl)
      refine Wk.nil ?_
      refine AW.cond rfl (fun _ => ?_) (fun hc => by cases hc)
      refine AW.seq (AW.seq ?_)
      apply AW.list
      apply Wk.fad 3 0 false fd30_3 rfl (lt_of_ble rfl)
      apply Wk.ld (i := 5) 1 false ty4 rfl rfl (by conv => lhs; whnf) (lt_of_ble rfl)
      apply Wk.un rfl (fun w => by simp [go_sem] <;> rfl) (lt_of_ble rfl)
      refine Wk.nil ?_
      refine AW.cond rfl (fun _ => ?_) (fun hc => by cases hc)
      refine AW.seq ?_
      apply AW.list
      apply Wk.mv (by conv => lhs; whnf) (lt_of_ble rfl)
      apply Wk.len un34 rfl (lt_of_ble rfl)
      apply Wk.bin rfl rfl (r := .bool true) (fun w => by simp [go_sem]) (lt_of_ble rfl)
      apply Wk.asg (by conv => lhs; whnf) (lt_of_ble rfl)
      refine Wk.nil (AW.ret ?_)
      repeat (first | refine thenA_ret ?_ | refine inBlockA_ret ?_)
      exact RetQ.ret [] (.cons rfl .nil) ⟨rfl, rfl⟩ none_kept
    case true =>
      have hh : hearF ⟨m0, w0, s0, t0, y0⟩ ⟨e, c, m, bs, a, u, false⟩ ⟨2, s, k2, true, f, y, g, l, fs⟩ = ⟨⟨e, c, m, bs, false, u, false⟩, none, some (e, true, sayOf u)⟩ := (hearF_say hgo rfl rfl).trans (if_pos rfl)
      have hh1 := ihearb ⟨m0, w0, s0, t0, y0⟩ ⟨e, c, m, bs, a, u, false⟩ ⟨2, s, k2, true, f, y, g, l, fs⟩ hbl hf hh
      have hh2 := shearb ⟨m0, w0, s0, t0, y0⟩ ⟨e, c, m, bs, a, u, false⟩ ⟨2, s, k2, true, f, y, g, l, fs⟩ hbl hh
      refine AW.seq ?_
      apply AW.list
      apply Wk.ld (i := 3) 5 true ty24 rfl rfl (by conv => lhs; whnf) (lt_of_ble rfl)
      apply Wk.ld (i := 4) 7 true ty28 rfl rfl (by conv => lhs; whnf) (lt_of_ble rfl)
      apply Wk.ld (i := 5) 9 true ty30 rfl rfl (by conv => lhs; whnf) (lt_of_ble rfl)
      apply Wk.dat hh1 Try.func9 rfl rfl rfl rfl rfl (lt_of_ble rfl)
      apply Wk.mv (by conv => lhs; whnf) (lt_of_ble rfl)
      apply Wk.ext rfl rfl (lt_of_ble rfl)
      apply Wk.ext rfl rfl (lt_of_ble rfl)
      apply Wk.ext rfl rfl (lt_of_ble rfl)
      apply Wk.alc 6 [.int .i64 0, .int .i64 0, .int .i64 0, .slice none 0 0, .bool false, .bool false, .bool false] ze28 rfl rfl (lt_of_ble rfl)
      apply Wk.sto (i := 6) 7 true ty28 rfl rfl rfl rfl (Nat.le_of_ble_eq_true rfl) (lt_of_ble rfl)
      apply Wk.asg (by conv => lhs; whnf) (lt_of_ble rfl)
      apply Wk.asg (by conv => lhs; whnf) (lt_of_ble rfl)
      refine Wk.nil ?_
      refine AW.seq ?_
      apply AW.list
      apply Wk.ld (i := 3) 5 true ty24 rfl rfl (by conv => lhs; whnf) (lt_of_ble rfl)
      apply Wk.ld (i := 4) 7 true ty28 rfl rfl (by conv => lhs; whnf) (lt_of_ble rfl)
      apply Wk.ld (i := 5) 9 true ty30 rfl rfl (by conv => lhs; whnf) (lt_of_ble rfl)
      apply Wk.dat hh2 Try.func10 rfl rfl rfl rfl rfl (lt_of_ble rfl)
      apply Wk.mv (by conv => lhs; whnf) (lt_of_ble rfl)
      apply Wk.ext rfl rfl (lt_of_ble rfl)
      apply Wk.ext rfl rfl (lt_of_ble rfl)
      apply Wk.ext rfl rfl (lt_of_ble rfl)
      apply Wk.alc 9 [.int .i64 0, .int .i64 0, .int .i64 0, .slice none 0 0, .bool false, .bool false, .bool false] ze28 rfl rfl (lt_of_ble rfl)
      apply Wk.sto (i := 9) 7 true ty28 rfl rfl rfl rfl (Nat.le_of_ble_eq_true rfl) (lt_of_ble rfl)
      apply Wk.asg (by conv => lhs; whnf) (lt_of_ble rfl)
      apply Wk.asg (by conv => lhs; whnf) (lt_of_ble rfl)
      refine Wk.nil ?_
      refine AW.seq (AW.seq ?_)
      apply AW.list
      apply Wk.mv (by conv => lhs; whnf) (lt_of_ble rfl)
      apply Wk.mv (by conv => lhs; whnf) (lt_of_ble rfl)
      apply Wk.dat (liFramesR (some (e, true, sayOf u))) Try.func13 rfl rfl rfl rfl rfl (lt_of_ble rfl)
      apply Wk.un rfl (fun w => by simp [go_sem] <;> rfl) (lt_of_ble rfl)
      refine Wk.nil ?_
      refine AW.cond rfl (fun hc => by cases hc) (fun _ => AW.skip (thenA_normal ?_))
      refine AW.seq (AW.seq ?_)
      apply AW.list
      apply Wk.ld (i := 3) 5 true ty24 rfl rfl (by conv => lhs; whnf) (lt_of_ble rfl)
      apply Wk.dat (scfgb m0 w0 s0 t0 y0 h1) Try.func16 rfl rfl rfl rfl rfl (lt_of_ble rfl)
      apply Wk.un rfl (fun w => by simp [go_sem] <;> rfl) (lt_of_ble rfl)
      apply Wk.mv (by conv => lhs; whnf) (lt_of_ble rfl)
      apply Wk.gon 45 rfl rfl
      apply Wk.ld (i := 4) 7 true ty28 rfl rfl (by conv => lhs; whnf) (lt_of_ble rfl)
      apply Wk.gon 45 rfl rfl
      apply Wk.dat (srxb a u false h2) Try.func15 rfl rfl rfl rfl rfl (lt_of_ble rfl)
      apply Wk.gon 45 rfl rfl
      apply Wk.un rfl (fun w => by simp [go_sem] <;> rfl) (lt_of_ble rfl)
      apply Wk.pckF rfl (by conv => lhs; whnf) (lt_of_ble rfl)
      apply Wk.mv (by conv => lhs; whnf) (lt_of_ble rfl)
      apply Wk.gon 50 rfl rfl
      apply Wk.ld (i := 5) 9 true ty30 rfl rfl (by conv => lhs; whnf) (lt_of_ble rfl)
      apply Wk.gon 50 rfl rfl
      apply Wk.dat (sfrmb 2 s k2 true f y g l fs h3) Try.func17 rfl rfl rfl rfl rfl (lt_of_ble rfl)
      apply Wk.gon 50 rfl rfl
      apply Wk.un rfl (fun w => by simp [go_sem] <;> rfl) (lt_of_ble rfl)
      apply Wk.pckF rfl (by conv => lhs; whnf) (lt_of_ble rfl)
      apply Wk.mv (by conv => lhs; whnf) (lt_of_ble rfl)
      apply Wk.gon 55 rfl rfl
      apply Wk.fad 0 0 false fd30_0 rfl (lt_of_ble rfl)
      apply Wk.gon 55 rfl rfl
      apply Wk.ld (i := 5) 1 false ty3 rfl rfl (by conv => lhs; whnf) (lt_of_ble rfl)
      apply Wk.gon 55 rfl rfl
      apply Wk.bin rfl rfl (r := .bool false) (fun w => by simp [go_sem] <;> omega) (lt_of_ble rfl)
      apply Wk.pckF rfl (by conv => lhs; whnf) (lt_of_ble rfl)
      apply Wk.mv (by conv => lhs; whnf) (lt_of_ble rfl)
      apply Wk.gon 60 rfl rfl
      apply Wk.fad 6 0 false fd28_5 rfl (lt_of_ble rfl)
      apply Wk.gon 60 rfl rfl
      apply Wk.ld (i := 4) 1 false ty4 rfl rfl (by conv => lhs; whnf) (lt_of_ble rfl)
      apply Wk.pckF rfl (by conv => lhs; whnf) (lt_of_ble rfl)
      refine Wk.nil ?_
      refine AW.cond rfl (fun hc => by cases hc) (fun _ => AW.skip (thenA_normal ?_))
      refine AW.seq (AW.seq ?_)
      apply AW.list
      apply Wk.fad 0 0 false fd30_0 rfl (lt_of_ble rfl)
      apply Wk.ld (i := 5) 1 false ty3 rfl rfl (by conv => lhs; whnf) (lt_of_ble rfl)
      apply Wk.bin rfl rfl (fun w => by simp [go_sem] <;> rfl) (lt_of_ble rfl)
      refine Wk.nil ?_
      refine AW.cond rfl (fun _ => ?_) (fun hc => by cases hc)
      refine AW.seq (AW.seq ?_)
      apply AW.list
      apply Wk.fad 3 0 false fd30_3 rfl (lt_of_ble rfl)
      apply Wk.ld (i := 5) 1 false ty4 rfl rfl (by conv => lhs; whnf) (lt_of_ble rfl)
      apply Wk.un rfl (fun w => by simp [go_sem] <;> rfl) (lt_of_ble rfl)
      refine Wk.nil ?_
      refine AW.cond rfl (fun hc => by cases hc) (fun _ => AW.skip (thenA_normal ?_))
      refine AW.seq ?_
      apply AW.draw (hm := hmix) (cs := _)
      · apply Wk.mv (by conv => lhs; whnf) (lt_of_ble rfl)
        apply Wk.len un34 rfl (lt_of_ble rfl)
        apply Wk.bin rfl rfl (r := .bool true) (fun w => by simp [go_sem]) (lt_of_ble rfl)
        apply Wk.mv (by conv => lhs; whnf) (lt_of_ble rfl)
        apply Wk.gon 82 rfl rfl
        apply Wk.mv (by conv => lhs; whnf) (lt_of_ble rfl)
        apply Wk.gon 82 rfl rfl
        apply Wk.iad 9 true un34 ty30 rfl rfl (k := 0) (by exact Nat.succ_pos _) (all_len rfl) (lt_of_ble rfl)
        apply Wk.gon 82 rfl rfl
        apply Wk.fad 4 0 false fd30_4 rfl (lt_of_ble rfl)
        apply Wk.gon 82 rfl rfl
        apply Wk.ldr 1 false ty4 rfl rfl (by conv => lhs; whnf) (lt_of_ble rfl)
        apply Wk.pckT rfl (by conv => lhs; whnf) (lt_of_ble rfl)
        apply Wk.mv (by conv => lhs; whnf) (lt_of_ble rfl)
        apply Wk.gon 88 rfl rfl
        apply Wk.mv (by conv => lhs; whnf) (lt_of_ble rfl)
        apply Wk.gon 88 rfl rfl
        apply Wk.iad 9 true un34 ty30 rfl rfl (k := 0) (by exact Nat.succ_pos _) (all_len rfl) (lt_of_ble rfl)
        apply Wk.gon 88 rfl rfl
        apply Wk.fad 2 0 false fd30_2 rfl (lt_of_ble rfl)
        apply Wk.gon 88 rfl rfl
        apply Wk.ldr 1 false ty3 rfl rfl (by conv => lhs; whnf) (lt_of_ble rfl)
        apply Wk.gon 88 rfl rfl
        apply Wk.fad 0 0 false fd28_0 rfl (lt_of_ble rfl)
        apply Wk.gon 88 rfl rfl
        apply Wk.ld (i := 4) 1 false ty3 rfl rfl (by conv => lhs; whnf) (lt_of_ble rfl)
        apply Wk.gon 88 rfl rfl
        apply Wk.bin rfl rfl (r := .bool true) (fun w => by simp [go_sem]) (lt_of_ble rfl)
        apply Wk.pckT rfl (by conv => lhs; whnf) (lt_of_ble rfl)
        apply Wk.mv (by conv => lhs; whnf) (lt_of_ble rfl)
        apply Wk.gon 97 rfl rfl
        apply Wk.mv (by conv => lhs; whnf) (lt_of_ble rfl)
        apply Wk.gon 97 rfl rfl
        apply Wk.iad 9 true un34 ty30 rfl rfl (k := 0) (by exact Nat.succ_pos _) (all_len rfl) (lt_of_ble rfl)
        apply Wk.gon 97 rfl rfl
        apply Wk.fad 5 0 false fd30_5 rfl (lt_of_ble rfl)
        apply Wk.gon 97 rfl rfl
        apply Wk.ldr 1 false ty3 rfl rfl (by conv => lhs; whnf) (lt_of_ble rfl)
        apply Wk.gon 97 rfl rfl
        apply Wk.bin rfl rfl (r := .bool u) (fun w => by cases u <;> simp [go_sem, sayOf]) (lt_of_ble rfl)
        apply Wk.gon 97 rfl rfl
        apply Wk.fad 5 0 false fd28_4 rfl (lt_of_ble rfl)
        apply Wk.gon 97 rfl rfl
        apply Wk.ld (i := 4) 1 false ty4 rfl rfl (by conv => lhs; whnf) (lt_of_ble rfl)
        apply Wk.gon 97 rfl rfl
        apply Wk.bin rfl rfl (r := .bool true) (fun w => by simp [go_sem]) (lt_of_ble rfl)
        apply Wk.pckT rfl (by conv => lhs; whnf) (lt_of_ble rfl)
        apply Wk.asg (by conv => lhs; whnf) (lt_of_ble rfl)
        refine Wk.nil (AW.ret ?_)
        repeat (first | refine thenA_ret ?_ | refine inBlockA_ret ?_)
        exact RetQ.ret [] (.cons rfl .nil) ⟨rfl, rfl⟩ none_kept
      · rfl
      · rfl
  case inl =>
  have hfd := FR.data (f := ⟨1, s, k2, p, f, y, g, l, fs⟩) h3 rfl
  simp only at hfd
  have hne := far_ne hre hfd.1
  have hpo := far_pos hre hfd.1
  cases u
  case true =>
    have hh : hearF ⟨m0, w0, s0, t0, y0⟩ ⟨e, c, m, bs, a, true, false⟩ ⟨1, s, k2, p, f, y, g, l, fs⟩ = ⟨⟨e, c, m, bs, a, true, false⟩, none, some (e, false, 2)⟩ := hearF_busy hgo rfl rfl rfl
    have hh1 := ihearb ⟨m0, w0, s0, t0, y0⟩ ⟨e, c, m, bs, a, true, false⟩ ⟨1, s, k2, p, f, y, g, l, fs⟩ hbl hf hh
    have hh2 := shearb ⟨m0, w0, s0, t0, y0⟩ ⟨e, c, m, bs, a, true, false⟩ ⟨1, s, k2, p, f, y, g, l, fs⟩ hbl hh
    refine AW.seq ?_
    apply AW.list
    apply Wk.ld (i := 3) 5 true ty24 rfl rfl (by conv => lhs; whnf) (lt_of_ble rfl)
    apply Wk.ld (i := 4) 7 true ty28 rfl rfl (by conv => lhs; whnf) (lt_of_ble rfl)
    apply Wk.ld (i := 5) 9 true ty30 rfl rfl (by conv => lhs; whnf) (lt_of_ble rfl)
    apply Wk.dat hh1 Try.func9 rfl rfl rfl rfl rfl (lt_of_ble rfl)
    apply Wk.mv (by conv => lhs; whnf) (lt_of_ble rfl)
    apply Wk.ext rfl rfl (lt_of_ble rfl)
    apply Wk.ext rfl rfl (lt_of_ble rfl)
    apply Wk.ext rfl rfl (lt_of_ble rfl)
    apply Wk.alc 6 [.int .i64 0, .int .i64 0, .int .i64 0, .slice none 0 0, .bool false, .bool false, .bool false] ze28 rfl rfl (lt_of_ble rfl)
    apply Wk.sto (i := 6) 7 true ty28 rfl rfl rfl rfl (Nat.le_of_ble_eq_true rfl) (lt_of_ble rfl)
    apply Wk.asg (by conv => lhs; whnf) (lt_of_ble rfl)
    apply Wk.asg (by conv => lhs; whnf) (lt_of_ble rfl)
    refine Wk.nil ?_
    refine AW.seq ?_
    apply AW.list
    apply Wk.ld (i := 3) 5 true ty24 rfl rfl (by conv => lhs; whnf) (lt_of_ble rfl)
    apply Wk.ld (i := 4) 7 true ty28 rfl rfl (by conv => lhs; whnf) (lt_of_ble rfl)
    apply Wk.ld (i := 5) 9 true ty30 rfl rfl (by conv => lhs; whnf) (lt_of_ble rfl)
    apply Wk.dat hh2 Try.func10 rfl rfl rfl rfl rfl (lt_of_ble rfl)
    apply Wk.mv (by conv => lhs; whnf) (lt_of_ble rfl)
    apply Wk.ext rfl rfl (lt_of_ble rfl)
    apply Wk.ext rfl rfl (lt_of_ble rfl)
    apply Wk.ext rfl rfl (lt_of_ble rfl)
    apply Wk.alc 9 [.int .i64 0, .int .i64 0, .int .i64 0, .slice none 0 0, .bool false, .bool false, .bool false] ze28 rfl rfl (lt_of_ble rfl)
    apply Wk.sto (i := 9) 7 true ty28 rfl rfl rfl rfl (Nat.le_of_ble_eq_true rfl) (lt_of_ble rfl)
    apply Wk.asg (by conv => lhs; whnf) (lt_of_ble rfl)
    apply Wk.asg (by conv => lhs; whnf) (lt_of_ble rfl)
    refine Wk.nil ?_
    refine AW.seq (AW.seq ?_)
    apply AW.list
    apply Wk.mv (by conv => lhs; whnf) (lt_of_ble rfl)
    apply Wk.mv (by conv => lhs; whnf) (lt_of_ble rfl)
    apply Wk.dat (liFramesR (some (e, false, 2))) Try.func13 rfl rfl rfl rfl rfl (lt_of_ble rfl)
    apply Wk.un rfl (fun w => by simp [go_sem] <;> rfl) (lt_of_ble rfl)
    refine Wk.nil ?_
    refine AW.cond rfl (fun hc => by cases hc) (fun _ => AW.skip (thenA_normal ?_))
    refine AW.seq (AW.seq ?_)
    apply AW.list
    apply Wk.ld (i := 3) 5 true ty24 rfl rfl (by conv => lhs; whnf) (lt_of_ble rfl)
    apply Wk.dat (scfgb m0 w0 s0 t0 y0 h1) Try.func16 rfl rfl rfl rfl rfl (lt_of_ble rfl)
    apply Wk.un rfl (fun w => by simp [go_sem] <;> rfl) (lt_of_ble rfl)
    apply Wk.mv (by conv => lhs; whnf) (lt_of_ble rfl)
    apply Wk.gon 45 rfl rfl
    apply Wk.ld (i := 4) 7 true ty28 rfl rfl (by conv => lhs; whnf) (lt_of_ble rfl)
    apply Wk.gon 45 rfl rfl
    apply Wk.dat (srxb a true false h2) Try.func15 rfl rfl rfl rfl rfl (lt_of_ble rfl)
    apply Wk.gon 45 rfl rfl
    apply Wk.un rfl (fun w => by simp [go_sem] <;> rfl) (lt_of_ble rfl)
    apply Wk.pckF rfl (by conv => lhs; whnf) (lt_of_ble rfl)
    apply Wk.mv (by conv => lhs; whnf) (lt_of_ble rfl)
    apply Wk.gon 50 rfl rfl
    apply Wk.ld (i := 5) 9 true ty30 rfl rfl (by conv => lhs; whnf) (lt_of_ble rfl)
    apply Wk.gon 50 rfl rfl
    apply Wk.dat (sfrmb 1 s k2 p f y g l fs h3) Try.func17 rfl rfl rfl rfl rfl (lt_of_ble rfl)
    apply Wk.gon 50 rfl rfl
    apply Wk.un rfl (fun w => by simp [go_sem] <;> rfl) (lt_of_ble rfl)
    apply Wk.pckF rfl (by conv => lhs; whnf) (lt_of_ble rfl)
    apply Wk.mv (by conv => lhs; whnf) (lt_of_ble rfl)
    apply Wk.gon 55 rfl rfl
    apply Wk.fad 0 0 false fd30_0 rfl (lt_of_ble rfl)
    apply Wk.gon 55 rfl rfl
    apply Wk.ld (i := 5) 1 false ty3 rfl rfl (by conv => lhs; whnf) (lt_of_ble rfl)
    apply Wk.gon 55 rfl rfl
    apply Wk.bin rfl rfl (r := .bool false) (fun w => by simp [go_sem] <;> omega) (lt_of_ble rfl)
    apply Wk.pckF rfl (by conv => lhs; whnf) (lt_of_ble rfl)
    apply Wk.mv (by conv => lhs; whnf) (lt_of_ble rfl)
    apply Wk.gon 60 rfl rfl
    apply Wk.fad 6 0 false fd28_5 rfl (lt_of_ble rfl)
    apply Wk.gon 60 rfl rfl
    apply Wk.ld (i := 4) 1 false ty4 rfl rfl (by conv => lhs; whnf) (lt_of_ble rfl)
    apply Wk.pckF rfl (by conv => lhs; whnf) (lt_of_ble rfl)
    refine Wk.nil ?_
    refine AW.cond rfl (fun hc => by cases hc) (fun _ => AW.skip (thenA_normal ?_))
    refine AW.seq (AW.seq ?_)
    apply AW.list
    apply Wk.fad 0 0 false fd30_0 rfl (lt_of_ble rfl)
    apply Wk.ld (i := 5) 1 false ty3 rfl rfl (by conv => lhs; whnf) (lt_of_ble rfl)
    apply Wk.bin rfl rfl (fun w => by simp [go_sem] <;> rfl) (lt_of_ble rfl)
    refine Wk.nil ?_
    refine AW.cond rfl (fun hc => by cases hc) (fun _ => AW.skip (thenA_normal ?_))
    refine AW.seq (AW.seq ?_)
    apply AW.list
    apply Wk.fad 5 0 false fd28_4 rfl (lt_of_ble rfl)
    apply Wk.ld (i := 4) 1 false ty4 rfl rfl (by conv => lhs; whnf) (lt_of_ble rfl)
    refine Wk.nil ?_
    refine AW.cond rfl (fun _ => ?_) (fun hc => by cases hc)
    refine AW.seq ?_
    apply AW.draw (hm := hmix) (cs := _)
    · apply Wk.mv (by conv => lhs; whnf) (lt_of_ble rfl)
      apply Wk.len un34 rfl (lt_of_ble rfl)
      apply Wk.bin rfl rfl (r := .bool true) (fun w => by simp [go_sem]) (lt_of_ble rfl)
      apply Wk.mv (by conv => lhs; whnf) (lt_of_ble rfl)
      apply Wk.gon 112 rfl rfl
      apply Wk.mv (by conv => lhs; whnf) (lt_of_ble rfl)
      apply Wk.gon 112 rfl rfl
      apply Wk.iad 9 true un34 ty30 rfl rfl (k := 0) (by exact Nat.succ_pos _) (all_len rfl) (lt_of_ble rfl)
      apply Wk.gon 112 rfl rfl
      apply Wk.fad 5 0 false fd30_5 rfl (lt_of_ble rfl)
      apply Wk.gon 112 rfl rfl
      apply Wk.ldr 1 false ty3 rfl rfl (by conv => lhs; whnf) (lt_of_ble rfl)
      apply Wk.gon 112 rfl rfl
      apply Wk.bin rfl rfl (r := .bool true) (fun w => by simp [go_sem]) (lt_of_ble rfl)
      apply Wk.pckT rfl (by conv => lhs; whnf) (lt_of_ble rfl)
      apply Wk.mv (by conv => lhs; whnf) (lt_of_ble rfl)
      apply Wk.gon 119 rfl rfl
      apply Wk.mv (by conv => lhs; whnf) (lt_of_ble rfl)
      apply Wk.gon 119 rfl rfl
      apply Wk.iad 9 true un34 ty30 rfl rfl (k := 0) (by exact Nat.succ_pos _) (all_len rfl) (lt_of_ble rfl)
      apply Wk.gon 119 rfl rfl
      apply Wk.fad 2 0 false fd30_2 rfl (lt_of_ble rfl)
      apply Wk.gon 119 rfl rfl
      apply Wk.ldr 1 false ty3 rfl rfl (by conv => lhs; whnf) (lt_of_ble rfl)
      apply Wk.gon 119 rfl rfl
      apply Wk.fad 0 0 false fd28_0 rfl (lt_of_ble rfl)
      apply Wk.gon 119 rfl rfl
      apply Wk.ld (i := 4) 1 false ty3 rfl rfl (by conv => lhs; whnf) (lt_of_ble rfl)
      apply Wk.gon 119 rfl rfl
      apply Wk.bin rfl rfl (r := .bool true) (fun w => by simp [go_sem]) (lt_of_ble rfl)
      apply Wk.pckT rfl (by conv => lhs; whnf) (lt_of_ble rfl)
      apply Wk.asg (by conv => lhs; whnf) (lt_of_ble rfl)
      refine Wk.nil (AW.ret ?_)
      repeat (first | refine thenA_ret ?_ | refine inBlockA_ret ?_)
      exact RetQ.ret [] (.cons rfl .nil) ⟨rfl, rfl⟩ none_kept
    · rfl
    · rfl
  case false =>
  obtain ⟨h, hh0⟩ : ∃ h, hearF ⟨m0, w0, s0, t0, y0⟩ ⟨e, c, m, bs, a, false, false⟩ ⟨1, s, k2, p, f, y, g, l, fs⟩ = h := ⟨_, rfl⟩
  have hdat := (hh0.symm.trans (hearF_data hgo rfl rfl rfl)).symm
  by_cases hse : s = e
  · rw [if_pos hse] at hdat
    have hsy : h.sy = none := by rw [← hdat]; exact takeF_sy _ _ _
    obtain ⟨⟨e1, c1, m1, bs1, a1, u1, d1⟩, sd, sy⟩ := h
    simp only at hsy
    subst hsy
    have hh : hearF ⟨m0, w0, s0, t0, y0⟩ ⟨e, c, m, bs, a, false, false⟩ ⟨1, s, k2, p, f, y, g, l, fs⟩ = ⟨⟨e1, c1, m1, bs1, a1, u1, d1⟩, sd, none⟩ := hh0
    have hh1 := ihearb ⟨m0, w0, s0, t0, y0⟩ ⟨e, c, m, bs, a, false, false⟩ ⟨1, s, k2, p, f, y, g, l, fs⟩ hbl hf hh
    have hh2 := shearb ⟨m0, w0, s0, t0, y0⟩ ⟨e, c, m, bs, a, false, false⟩ ⟨1, s, k2, p, f, y, g, l, fs⟩ hbl hh
    refine AW.seq ?_
    apply AW.list
    apply Wk.ld (i := 3) 5 true ty24 rfl rfl (by conv => lhs; whnf) (lt_of_ble rfl)
    apply Wk.ld (i := 4) 7 true ty28 rfl rfl (by conv => lhs; whnf) (lt_of_ble rfl)
    apply Wk.ld (i := 5) 9 true ty30 rfl rfl (by conv => lhs; whnf) (lt_of_ble rfl)
    apply Wk.dat hh1 Try.func9 rfl rfl rfl rfl rfl (lt_of_ble rfl)
    apply Wk.mv (by conv => lhs; whnf) (lt_of_ble rfl)
    apply Wk.ext rfl rfl (lt_of_ble rfl)
    apply Wk.ext rfl rfl (lt_of_ble rfl)
    apply Wk.ext rfl rfl (lt_of_ble rfl)
    apply Wk.alc 6 [.int .i64 0, .int .i64 0, .int .i64 0, .slice none 0 0, .bool false, .bool false, .bool false] ze28 rfl rfl (lt_of_ble rfl)
    apply Wk.sto (i := 6) 7 true ty28 rfl rfl rfl rfl (Nat.le_of_ble_eq_true rfl) (lt_of_ble rfl)
    apply Wk.asg (by conv => lhs; whnf) (lt_of_ble rfl)
    apply Wk.asg (by conv => lhs; whnf) (lt_of_ble rfl)
    refine Wk.nil ?_
    refine AW.seq ?_
    apply AW.list
    apply Wk.ld (i := 3) 5 true ty24 rfl rfl (by conv => lhs; whnf) (lt_of_ble rfl)
    apply Wk.ld (i := 4) 7 true ty28 rfl rfl (by conv => lhs; whnf) (lt_of_ble rfl)
    apply Wk.ld (i := 5) 9 true ty30 rfl rfl (by conv => lhs; whnf) (lt_of_ble rfl)
    apply Wk.dat hh2 Try.func10 rfl rfl rfl rfl rfl (lt_of_ble rfl)
    apply Wk.mv (by conv => lhs; whnf) (lt_of_ble rfl)
    apply Wk.ext rfl rfl (lt_of_ble rfl)
    apply Wk.ext rfl rfl (lt_of_ble rfl)
    apply Wk.ext rfl rfl (lt_of_ble rfl)
    apply Wk.alc 9 [.int .i64 0, .int .i64 0, .int .i64 0, .slice none 0 0, .bool false, .bool false, .bool false] ze28 rfl rfl (lt_of_ble rfl)
    apply Wk.sto (i := 9) 7 true ty28 rfl rfl rfl rfl (Nat.le_of_ble_eq_true rfl) (lt_of_ble rfl)
    apply Wk.asg (by conv => lhs; whnf) (lt_of_ble rfl)
    apply Wk.asg (by conv => lhs; whnf) (lt_of_ble rfl)
    refine Wk.nil ?_
    refine AW.seq (AW.seq ?_)
    apply AW.list
    apply Wk.mv (by conv => lhs; whnf) (lt_of_ble rfl)
    apply Wk.mv (by conv => lhs; whnf) (lt_of_ble rfl)
    apply Wk.dat (liFramesR none) Try.func13 rfl rfl rfl rfl rfl (lt_of_ble rfl)
    apply Wk.un rfl (fun w => by simp [go_sem] <;> rfl) (lt_of_ble rfl)
    refine Wk.nil ?_
    refine AW.cond rfl (fun hc => by cases hc) (fun _ => AW.skip (thenA_normal ?_))
    refine AW.seq (AW.seq ?_)
    apply AW.list
    apply Wk.ld (i := 3) 5 true ty24 rfl rfl (by conv => lhs; whnf) (lt_of_ble rfl)
    apply Wk.dat (scfgb m0 w0 s0 t0 y0 h1) Try.func16 rfl rfl rfl rfl rfl (lt_of_ble rfl)
    apply Wk.un rfl (fun w => by simp [go_sem] <;> rfl) (lt_of_ble rfl)
    apply Wk.mv (by conv => lhs; whnf) (lt_of_ble rfl)
    apply Wk.gon 45 rfl rfl
    apply Wk.ld (i := 4) 7 true ty28 rfl rfl (by conv => lhs; whnf) (lt_of_ble rfl)
    apply Wk.gon 45 rfl rfl
    apply Wk.dat (srxb a false false h2) Try.func15 rfl rfl rfl rfl rfl (lt_of_ble rfl)
    apply Wk.gon 45 rfl rfl
    apply Wk.un rfl (fun w => by simp [go_sem] <;> rfl) (lt_of_ble rfl)
    apply Wk.pckF rfl (by conv => lhs; whnf) (lt_of_ble rfl)
    apply Wk.mv (by conv => lhs; whnf) (lt_of_ble rfl)
    apply Wk.gon 50 rfl rfl
    apply Wk.ld (i := 5) 9 true ty30 rfl rfl (by conv => lhs; whnf) (lt_of_ble rfl)
    apply Wk.gon 50 rfl rfl
    apply Wk.dat (sfrmb 1 s k2 p f y g l fs h3) Try.func17 rfl rfl rfl rfl rfl (lt_of_ble rfl)
    apply Wk.gon 50 rfl rfl
    apply Wk.un rfl (fun w => by simp [go_sem] <;> rfl) (lt_of_ble rfl)
    apply Wk.pckF rfl (by conv => lhs; whnf) (lt_of_ble rfl)
    apply Wk.mv (by conv => lhs; whnf) (lt_of_ble rfl)
    apply Wk.gon 55 rfl rfl
    apply Wk.fad 0 0 false fd30_0 rfl (lt_of_ble rfl)
    apply Wk.gon 55 rfl rfl
    apply Wk.ld (i := 5) 1 false ty3 rfl rfl (by conv => lhs; whnf) (lt_of_ble rfl)
    apply Wk.gon 55 rfl rfl
    apply Wk.bin rfl rfl (r := .bool false) (fun w => by simp [go_sem] <;> omega) (lt_of_ble rfl)
    apply Wk.pckF rfl (by conv => lhs; whnf) (lt_of_ble rfl)
    apply Wk.mv (by conv => lhs; whnf) (lt_of_ble rfl)
    apply Wk.gon 60 rfl rfl
    apply Wk.fad 6 0 false fd28_5 rfl (lt_of_ble rfl)
    apply Wk.gon 60 rfl rfl
    apply Wk.ld (i := 4) 1 false ty4 rfl rfl (by conv => lhs; whnf) (lt_of_ble rfl)
    apply Wk.pckF rfl (by conv => lhs; whnf) (lt_of_ble rfl)
    refine Wk.nil ?_
    refine AW.cond rfl (fun hc => by cases hc) (fun _ => AW.skip (thenA_normal ?_))
    refine AW.seq (AW.seq ?_)
    apply AW.list
    apply Wk.fad 0 0 false fd30_0 rfl (lt_of_ble rfl)
    apply Wk.ld (i := 5) 1 false ty3 rfl rfl (by conv => lhs; whnf) (lt_of_ble rfl)
    apply Wk.bin rfl rfl (fun w => by simp [go_sem] <;> rfl) (lt_of_ble rfl)
    refine Wk.nil ?_
    refine AW.cond rfl (fun hc => by cases hc) (fun _ => AW.skip (thenA_normal ?_))
    refine AW.seq (AW.seq ?_)
    apply AW.list
    apply Wk.fad 5 0 false fd28_4 rfl (lt_of_ble rfl)
    apply Wk.ld (i := 4) 1 false ty4 rfl rfl (by conv => lhs; whnf) (lt_of_ble rfl)
    refine Wk.nil ?_
    refine AW.cond rfl (fun hc => by cases hc) (fun _ => AW.skip (thenA_normal ?_))
    refine AW.seq ?_
    apply AW.list
    apply Wk.fad 0 0 false fd28_0 rfl (lt_of_ble rfl)
    apply Wk.ld (i := 4) 1 false ty3 rfl rfl (by conv => lhs; whnf) (lt_of_ble rfl)
    apply Wk.fad 1 0 false fd30_1 rfl (lt_of_ble rfl)
    apply Wk.ld (i := 5) 1 false ty3 rfl rfl (by conv => lhs; whnf) (lt_of_ble rfl)
    apply Wk.dat (ifar_ok e s) Try.func23 rfl rfl rfl rfl rfl (lt_of_ble rfl)
    apply Wk.asg (by conv => lhs; whnf) (lt_of_ble rfl)
    refine Wk.nil ?_
    refine AW.seq (AW.seq ?_)
    apply AW.list
    apply Wk.mv (by conv => lhs; whnf) (lt_of_ble rfl)
    apply Wk.bin rfl rfl (r := .bool false) (fun w => by simp [go_sem] <;> omega) (lt_of_ble rfl)
    apply Wk.mv (by conv => lhs; whnf) (lt_of_ble rfl)
    apply Wk.goff 135 (ok_move _) rfl rfl (by decide)
    apply Wk.goff 135 (ok_faddr fd24_1) rfl rfl (by decide)
    apply Wk.goff 135 (ok_load 3 ty3) rfl rfl (by decide)
    apply Wk.goff 135 (ok_bin _ _ _ _ _) rfl rfl (by decide)
    apply Wk.pckF rfl (by conv => lhs; whnf) (lt_of_ble rfl)
    apply Wk.mv (by conv => lhs; whnf) (lt_of_ble rfl)
    apply Wk.goff 141 (ok_faddr fd28_3) rfl rfl (by decide)
    apply Wk.goff 141 (ok_load 4 ty4) rfl rfl (by decide)
    apply Wk.goff 141 (ok_un _ _ _) rfl rfl (by decide)
    apply Wk.pckF rfl (by conv => lhs; whnf) (lt_of_ble rfl)
    refine Wk.nil ?_
    refine AW.cond rfl (fun hc => by cases hc) (fun _ => AW.skip (thenA_normal ?_))
    refine AW.seq ?_
    apply AW.list
    apply Wk.mv (by conv => lhs; whnf) (lt_of_ble rfl)
    apply Wk.len un34 rfl (lt_of_ble rfl)
    apply Wk.bin rfl rfl (r := .bool true) (fun w => by simp [go_sem]) (lt_of_ble rfl)
    apply Wk.asg (by conv => lhs; whnf) (lt_of_ble rfl)
    refine Wk.nil (AW.ret ?_)
    exact RetQ.ret [] (.cons rfl .nil) ⟨rfl, rfl⟩ none_kept
  rw [if_neg hse] at hdat
  by_cases hw : w0 ≤ farF e s
  · rw [if_pos (.inr hw)] at hdat
    have hh : hearF ⟨m0, w0, s0, t0, y0⟩ ⟨e, c, m, bs, a, false, false⟩ ⟨1, s, k2, p, f, y, g, l, fs⟩ = ⟨⟨e, c, m, bs, a, false, false⟩, none, none⟩ := hh0.trans hdat.symm
    have hh1 := ihearb ⟨m0, w0, s0, t0, y0⟩ ⟨e, c, m, bs, a, false, false⟩ ⟨1, s, k2, p, f, y, g, l, fs⟩ hbl hf hh
    have hh2 := shearb ⟨m0, w0, s0, t0, y0⟩ ⟨e, c, m, bs, a, false, false⟩ ⟨1, s, k2, p, f, y, g, l, fs⟩ hbl hh
    refine AW.seq ?_
    apply AW.list
    apply Wk.ld (i := 3) 5 true ty24 rfl rfl (by conv => lhs; whnf) (lt_of_ble rfl)
    apply Wk.ld (i := 4) 7 true ty28 rfl rfl (by conv => lhs; whnf) (lt_of_ble rfl)
    apply Wk.ld (i := 5) 9 true ty30 rfl rfl (by conv => lhs; whnf) (lt_of_ble rfl)
    apply Wk.dat hh1 Try.func9 rfl rfl rfl rfl rfl (lt_of_ble rfl)
    apply Wk.mv (by conv => lhs; whnf) (lt_of_ble rfl)
    apply Wk.ext rfl rfl (lt_of_ble rfl)
    apply Wk.ext rfl rfl (lt_of_ble rfl)
    apply Wk.ext rfl rfl (lt_of_ble rfl)
    apply Wk.alc 6 [.int .i64 0, .int .i64 0, .int .i64 0, .slice none 0 0, .bool false, .bool false, .bool false] ze28 rfl rfl (lt_of_ble rfl)
    apply Wk.sto (i := 6) 7 true ty28 rfl rfl rfl rfl (Nat.le_of_ble_eq_true rfl) (lt_of_ble rfl)
    apply Wk.asg (by conv => lhs; whnf) (lt_of_ble rfl)
    apply Wk.asg (by conv => lhs; whnf) (lt_of_ble rfl)
    refine Wk.nil ?_
    refine AW.seq ?_
    apply AW.list
    apply Wk.ld (i := 3) 5 true ty24 rfl rfl (by conv => lhs; whnf) (lt_of_ble rfl)
    apply Wk.ld (i := 4) 7 true ty28 rfl rfl (by conv => lhs; whnf) (lt_of_ble rfl)
    apply Wk.ld (i := 5) 9 true ty30 rfl rfl (by conv => lhs; whnf) (lt_of_ble rfl)
    apply Wk.dat hh2 Try.func10 rfl rfl rfl rfl rfl (lt_of_ble rfl)
    apply Wk.mv (by conv => lhs; whnf) (lt_of_ble rfl)
    apply Wk.ext rfl rfl (lt_of_ble rfl)
    apply Wk.ext rfl rfl (lt_of_ble rfl)
    apply Wk.ext rfl rfl (lt_of_ble rfl)
    apply Wk.alc 9 [.int .i64 0, .int .i64 0, .int .i64 0, .slice none 0 0, .bool false, .bool false, .bool false] ze28 rfl rfl (lt_of_ble rfl)
    apply Wk.sto (i := 9) 7 true ty28 rfl rfl rfl rfl (Nat.le_of_ble_eq_true rfl) (lt_of_ble rfl)
    apply Wk.asg (by conv => lhs; whnf) (lt_of_ble rfl)
    apply Wk.asg (by conv => lhs; whnf) (lt_of_ble rfl)
    refine Wk.nil ?_
    refine AW.seq (AW.seq ?_)
    apply AW.list
    apply Wk.mv (by conv => lhs; whnf) (lt_of_ble rfl)
    apply Wk.mv (by conv => lhs; whnf) (lt_of_ble rfl)
    apply Wk.dat (liFramesR none) Try.func13 rfl rfl rfl rfl rfl (lt_of_ble rfl)
    apply Wk.un rfl (fun w => by simp [go_sem] <;> rfl) (lt_of_ble rfl)
    refine Wk.nil ?_
    refine AW.cond rfl (fun hc => by cases hc) (fun _ => AW.skip (thenA_normal ?_))
    refine AW.seq (AW.seq ?_)
    apply AW.list
    apply Wk.ld (i := 3) 5 true ty24 rfl rfl (by conv => lhs; whnf) (lt_of_ble rfl)
    apply Wk.dat (scfgb m0 w0 s0 t0 y0 h1) Try.func16 rfl rfl rfl rfl rfl (lt_of_ble rfl)
    apply Wk.un rfl (fun w => by simp [go_sem] <;> rfl) (lt_of_ble rfl)
    apply Wk.mv (by conv => lhs; whnf) (lt_of_ble rfl)
    apply Wk.gon 45 rfl rfl
    apply Wk.ld (i := 4) 7 true ty28 rfl rfl (by conv => lhs; whnf) (lt_of_ble rfl)
    apply Wk.gon 45 rfl rfl
    apply Wk.dat (srxb a false false h2) Try.func15 rfl rfl rfl rfl rfl (lt_of_ble rfl)
    apply Wk.gon 45 rfl rfl
    apply Wk.un rfl (fun w => by simp [go_sem] <;> rfl) (lt_of_ble rfl)
    apply Wk.pckF rfl (by conv => lhs; whnf) (lt_of_ble rfl)
    apply Wk.mv (by conv => lhs; whnf) (lt_of_ble rfl)
    apply Wk.gon 50 rfl rfl
    apply Wk.ld (i := 5) 9 true ty30 rfl rfl (by conv => lhs; whnf) (lt_of_ble rfl)
    apply Wk.gon 50 rfl rfl
    apply Wk.dat (sfrmb 1 s k2 p f y g l fs h3) Try.func17 rfl rfl rfl rfl rfl (lt_of_ble rfl)
    apply Wk.gon 50 rfl rfl
    apply Wk.un rfl (fun w => by simp [go_sem] <;> rfl) (lt_of_ble rfl)
    apply Wk.pckF rfl (by conv => lhs; whnf) (lt_of_ble rfl)
    apply Wk.mv (by conv => lhs; whnf) (lt_of_ble rfl)
    apply Wk.gon 55 rfl rfl
    apply Wk.fad 0 0 false fd30_0 rfl (lt_of_ble rfl)
    apply Wk.gon 55 rfl rfl
    apply Wk.ld (i := 5) 1 false ty3 rfl rfl (by conv => lhs; whnf) (lt_of_ble rfl)
    apply Wk.gon 55 rfl rfl
    apply Wk.bin rfl rfl (r := .bool false) (fun w => by simp [go_sem] <;> omega) (lt_of_ble rfl)
    apply Wk.pckF rfl (by conv => lhs; whnf) (lt_of_ble rfl)
    apply Wk.mv (by conv => lhs; whnf) (lt_of_ble rfl)
    apply Wk.gon 60 rfl rfl
    apply Wk.fad 6 0 false fd28_5 rfl (lt_of_ble rfl)
    apply Wk.gon 60 rfl rfl
    apply Wk.ld (i := 4) 1 false ty4 rfl rfl (by conv => lhs; whnf) (lt_of_ble rfl)
    apply Wk.pckF rfl (by conv => lhs; whnf) (lt_of_ble rfl)
    refine Wk.nil ?_
    refine AW.cond rfl (fun hc => by cases hc) (fun _ => AW.skip (thenA_normal ?_))
    refine AW.seq (AW.seq ?_)
    apply AW.list
    apply Wk.fad 0 0 false fd30_0 rfl (lt_of_ble rfl)
    apply Wk.ld (i := 5) 1 false ty3 rfl rfl (by conv => lhs; whnf) (lt_of_ble rfl)
    apply Wk.bin rfl rfl (fun w => by simp [go_sem] <;> rfl) (lt_of_ble rfl)
    refine Wk.nil ?_
    refine AW.cond rfl (fun hc => by cases hc) (fun _ => AW.skip (thenA_normal ?_))
    refine AW.seq (AW.seq ?_)
    apply AW.list
    apply Wk.fad 5 0 false fd28_4 rfl (lt_of_ble rfl)
    apply Wk.ld (i := 4) 1 false ty4 rfl rfl (by conv => lhs; whnf) (lt_of_ble rfl)
    refine Wk.nil ?_
    refine AW.cond rfl (fun hc => by cases hc) (fun _ => AW.skip (thenA_normal ?_))
    refine AW.seq ?_
    apply AW.list
    apply Wk.fad 0 0 false fd28_0 rfl (lt_of_ble rfl)
    apply Wk.ld (i := 4) 1 false ty3 rfl rfl (by conv => lhs; whnf) (lt_of_ble rfl)
    apply Wk.fad 1 0 false fd30_1 rfl (lt_of_ble rfl)
    apply Wk.ld (i := 5) 1 false ty3 rfl rfl (by conv => lhs; whnf) (lt_of_ble rfl)
    apply Wk.dat (ifar_ok e s) Try.func23 rfl rfl rfl rfl rfl (lt_of_ble rfl)
    apply Wk.asg (by conv => lhs; whnf) (lt_of_ble rfl)
    refine Wk.nil ?_
    refine AW.seq (AW.seq ?_)
    apply AW.list
    apply Wk.mv (by conv => lhs; whnf) (lt_of_ble rfl)
    apply Wk.bin rfl rfl (r := .bool true) (fun w => by simp [go_sem] <;> omega) (lt_of_ble rfl)
    apply Wk.mv (by conv => lhs; whnf) (lt_of_ble rfl)
    apply Wk.gon 135 rfl rfl
    apply Wk.mv (by conv => lhs; whnf) (lt_of_ble rfl)
    apply Wk.gon 135 rfl rfl
    apply Wk.fad 1 0 false fd24_1 rfl (lt_of_ble rfl)
    apply Wk.gon 135 rfl rfl
    apply Wk.ld (i := 3) 1 false ty3 rfl rfl (by conv => lhs; whnf) (lt_of_ble rfl)
    apply Wk.gon 135 rfl rfl
    apply Wk.bin rfl rfl (r := .bool false) (fun w => by simp [go_sem] <;> omega) (lt_of_ble rfl)
    apply Wk.pckT rfl (by conv => lhs; whnf) (lt_of_ble rfl)
    apply Wk.mv (by conv => lhs; whnf) (lt_of_ble rfl)
    apply Wk.goff 141 (ok_faddr fd28_3) rfl rfl (by decide)
    apply Wk.goff 141 (ok_load 4 ty4) rfl rfl (by decide)
    apply Wk.goff 141 (ok_un _ _ _) rfl rfl (by decide)
    apply Wk.pckF rfl (by conv => lhs; whnf) (lt_of_ble rfl)
    refine Wk.nil ?_
    refine AW.cond rfl (fun hc => by cases hc) (fun _ => AW.skip (thenA_normal ?_))
    refine AW.seq ?_
    apply AW.list
    apply Wk.mv (by conv => lhs; whnf) (lt_of_ble rfl)
    apply Wk.len un34 rfl (lt_of_ble rfl)
    apply Wk.bin rfl rfl (r := .bool true) (fun w => by simp [go_sem]) (lt_of_ble rfl)
    apply Wk.asg (by conv => lhs; whnf) (lt_of_ble rfl)
    refine Wk.nil (AW.ret ?_)
    exact RetQ.ret [] (.cons rfl .nil) ⟨rfl, rfl⟩ none_kept
  cases a
  case true =>
    rw [if_pos (.inl rfl)] at hdat
    have hh : hearF ⟨m0, w0, s0, t0, y0⟩ ⟨e, c, m, bs, true, false, false⟩ ⟨1, s, k2, p, f, y, g, l, fs⟩ = ⟨⟨e, c, m, bs, true, false, false⟩, none, none⟩ := hh0.trans hdat.symm
    have hh1 := ihearb ⟨m0, w0, s0, t0, y0⟩ ⟨e, c, m, bs, true, false, false⟩ ⟨1, s, k2, p, f, y, g, l, fs⟩ hbl hf hh
    have hh2 := shearb ⟨m0, w0, s0, t0, y0⟩ ⟨e, c, m, bs, true, false, false⟩ ⟨1, s, k2, p, f, y, g, l, fs⟩ hbl hh
    refine AW.seq ?_
    apply AW.list
    apply Wk.ld (i := 3) 5 true ty24 rfl rfl (by conv => lhs; whnf) (lt_of_ble rfl)
    apply Wk.ld (i := 4) 7 true ty28 rfl rfl (by conv => lhs; whnf) (lt_of_ble rfl)
    apply Wk.ld (i := 5) 9 true ty30 rfl rfl (by conv => lhs; whnf) (lt_of_ble rfl)
    apply Wk.dat hh1 Try.func9 rfl rfl rfl rfl rfl (lt_of_ble rfl)
    apply Wk.mv (by conv => lhs; whnf) (lt_of_ble rfl)
    apply Wk.ext rfl rfl (lt_of_ble rfl)
    apply Wk.ext rfl rfl (lt_of_ble rfl)
    apply Wk.ext rfl rfl (lt_of_ble rfl)
    apply Wk.alc 6 [.int .i64 0, .int .i64 0, .int .i64 0, .slice none 0 0, .bool false, .bool false, .bool false] ze28 rfl rfl (lt_of_ble rfl)
    apply Wk.sto (i := 6) 7 true ty28 rfl rfl rfl rfl (Nat.le_of_ble_eq_true rfl) (lt_of_ble rfl)
    apply Wk.asg (by conv => lhs; whnf) (lt_of_ble rfl)
    apply Wk.asg (by conv => lhs; whnf) (lt_of_ble rfl)
    refine Wk.nil ?_
    refine AW.seq ?_
    apply AW.list
    apply Wk.ld (i := 3) 5 true ty24 rfl rfl (by conv => lhs; whnf) (lt_of_ble rfl)
    apply Wk.ld (i := 4) 7 true ty28 rfl rfl (by conv => lhs; whnf) (lt_of_ble rfl)
    apply Wk.ld (i := 5) 9 true ty30 rfl rfl (by conv => lhs; whnf) (lt_of_ble rfl)
    apply Wk.dat hh2 Try.func10 rfl rfl rfl rfl rfl (lt_of_ble rfl)
    apply Wk.mv (by conv => lhs; whnf) (lt_of_ble rfl)
    apply Wk.ext rfl rfl (lt_of_ble rfl)
    apply Wk.ext rfl rfl (lt_of_ble rfl)
    apply Wk.ext rfl rfl (lt_of_ble rfl)
    apply Wk.alc 9 [.int .i64 0, .int .i64 0, .int .i64 0, .slice none 0 0, .bool false, .bool false, .bool false] ze28 rfl rfl (lt_of_ble rfl)
    apply Wk.sto (i := 9) 7 true ty28 rfl rfl rfl rfl (Nat.le_of_ble_eq_true rfl) (lt_of_ble rfl)
    apply Wk.asg (by conv => lhs; whnf) (lt_of_ble rfl)
    apply Wk.asg (by conv => lhs; whnf) (lt_of_ble rfl)
    refine Wk.nil ?_
    refine AW.seq (AW.seq ?_)
    apply AW.list
    apply Wk.mv (by conv => lhs; whnf) (lt_of_ble rfl)
    apply Wk.mv (by conv => lhs; whnf) (lt_of_ble rfl)
    apply Wk.dat (liFramesR none) Try.func13 rfl rfl rfl rfl rfl (lt_of_ble rfl)
    apply Wk.un rfl (fun w => by simp [go_sem] <;> rfl) (lt_of_ble rfl)
    refine Wk.nil ?_
    refine AW.cond rfl (fun hc => by cases hc) (fun _ => AW.skip (thenA_normal ?_))
    refine AW.seq (AW.seq ?_)
    apply AW.list
    apply Wk.ld (i := 3) 5 true ty24 rfl rfl (by conv => lhs; whnf) (lt_of_ble rfl)
    apply Wk.dat (scfgb m0 w0 s0 t0 y0 h1) Try.func16 rfl rfl rfl rfl rfl (lt_of_ble rfl)
    apply Wk.un rfl (fun w => by simp [go_sem] <;> rfl) (lt_of_ble rfl)
    apply Wk.mv (by conv => lhs; whnf) (lt_of_ble rfl)
    apply Wk.gon 45 rfl rfl
    apply Wk.ld (i := 4) 7 true ty28 rfl rfl (by conv => lhs; whnf) (lt_of_ble rfl)
    apply Wk.gon 45 rfl rfl
    apply Wk.dat (srxb true false false h2) Try.func15 rfl rfl rfl rfl rfl (lt_of_ble rfl)
    apply Wk.gon 45 rfl rfl
    apply Wk.un rfl (fun w => by simp [go_sem] <;> rfl) (lt_of_ble rfl)
    apply Wk.pckF rfl (by conv => lhs; whnf) (lt_of_ble rfl)
    apply Wk.mv (by conv => lhs; whnf) (lt_of_ble rfl)
    apply Wk.gon 50 rfl rfl
    apply Wk.ld (i := 5) 9 true ty30 rfl rfl (by conv => lhs; whnf) (lt_of_ble rfl)
    apply Wk.gon 50 rfl rfl
    apply Wk.dat (sfrmb 1 s k2 p f y g l fs h3) Try.func17 rfl rfl rfl rfl rfl (lt_of_ble rfl)
    apply Wk.gon 50 rfl rfl
    apply Wk.un rfl (fun w => by simp [go_sem] <;> rfl) (lt_of_ble rfl)
    apply Wk.pckF rfl (by conv => lhs; whnf) (lt_of_ble rfl)
    apply Wk.mv (by conv => lhs; whnf) (lt_of_ble rfl)
    apply Wk.gon 55 rfl rfl
    apply Wk.fad 0 0 false fd30_0 rfl (lt_of_ble rfl)
    apply Wk.gon 55 rfl rfl
    apply Wk.ld (i := 5) 1 false ty3 rfl rfl (by conv => lhs; whnf) (lt_of_ble rfl)
    apply Wk.gon 55 rfl rfl
    apply Wk.bin rfl rfl (r := .bool false) (fun w => by simp [go_sem] <;> omega) (lt_of_ble rfl)
    apply Wk.pckF rfl (by conv => lhs; whnf) (lt_of_ble rfl)
    apply Wk.mv (by conv => lhs; whnf) (lt_of_ble rfl)
    apply Wk.gon 60 rfl rfl
    apply Wk.fad 6 0 false fd28_5 rfl (lt_of_ble rfl)
    apply Wk.gon 60 rfl rfl
    apply Wk.ld (i := 4) 1 false ty4 rfl rfl (by conv => lhs; whnf) (lt_of_ble rfl)
    apply Wk.pckF rfl (by conv => lhs; whnf) (lt_of_ble rfl)
    refine Wk.nil ?_
    refine AW.cond rfl (fun hc => by cases hc) (fun _ => AW.skip (thenA_normal ?_))
    refine AW.seq (AW.seq ?_)
    apply AW.list
    apply Wk.fad 0 0 false fd30_0 rfl (lt_of_ble rfl)
    apply Wk.ld (i := 5) 1 false ty3 rfl rfl (by conv => lhs; whnf) (lt_of_ble rfl)
    apply Wk.bin rfl rfl (fun w => by simp [go_sem] <;> rfl) (lt_of_ble rfl)
    refine Wk.nil ?_
    refine AW.cond rfl (fun hc => by cases hc) (fun _ => AW.skip (thenA_normal ?_))
    refine AW.seq (AW.seq ?_)
    apply AW.list
    apply Wk.fad 5 0 false fd28_4 rfl (lt_of_ble rfl)
    apply Wk.ld (i := 4) 1 false ty4 rfl rfl (by conv => lhs; whnf) (lt_of_ble rfl)
    refine Wk.nil ?_
    refine AW.cond rfl (fun hc => by cases hc) (fun _ => AW.skip (thenA_normal ?_))
    refine AW.seq ?_
    apply AW.list
    apply Wk.fad 0 0 false fd28_0 rfl (lt_of_ble rfl)
    apply Wk.ld (i := 4) 1 false ty3 rfl rfl (by conv => lhs; whnf) (lt_of_ble rfl)
    apply Wk.fad 1 0 false fd30_1 rfl (lt_of_ble rfl)
    apply Wk.ld (i := 5) 1 false ty3 rfl rfl (by conv => lhs; whnf) (lt_of_ble rfl)
    apply Wk.dat (ifar_ok e s) Try.func23 rfl rfl rfl rfl rfl (lt_of_ble rfl)
    apply Wk.asg (by conv => lhs; whnf) (lt_of_ble rfl)
    refine Wk.nil ?_
    refine AW.seq (AW.seq ?_)
    apply AW.list
    apply Wk.mv (by conv => lhs; whnf) (lt_of_ble rfl)
    apply Wk.bin rfl rfl (r := .bool true) (fun w => by simp [go_sem] <;> omega) (lt_of_ble rfl)
    apply Wk.mv (by conv => lhs; whnf) (lt_of_ble rfl)
    apply Wk.gon 135 rfl rfl
    apply Wk.mv (by conv => lhs; whnf) (lt_of_ble rfl)
    apply Wk.gon 135 rfl rfl
    apply Wk.fad 1 0 false fd24_1 rfl (lt_of_ble rfl)
    apply Wk.gon 135 rfl rfl
    apply Wk.ld (i := 3) 1 false ty3 rfl rfl (by conv => lhs; whnf) (lt_of_ble rfl)
    apply Wk.gon 135 rfl rfl
    apply Wk.bin rfl rfl (r := .bool true) (fun w => by simp [go_sem] <;> omega) (lt_of_ble rfl)
    apply Wk.pckT rfl (by conv => lhs; whnf) (lt_of_ble rfl)
    apply Wk.mv (by conv => lhs; whnf) (lt_of_ble rfl)
    apply Wk.gon 141 rfl rfl
    apply Wk.fad 4 0 false fd28_3 rfl (lt_of_ble rfl)
    apply Wk.gon 141 rfl rfl
    apply Wk.ld (i := 4) 1 false ty4 rfl rfl (by conv => lhs; whnf) (lt_of_ble rfl)
    apply Wk.gon 141 rfl rfl
    apply Wk.un rfl (fun w => by simp [go_sem] <;> rfl) (lt_of_ble rfl)
    apply Wk.pckT rfl (by conv => lhs; whnf) (lt_of_ble rfl)
    refine Wk.nil ?_
    refine AW.cond rfl (fun hc => by cases hc) (fun _ => AW.skip (thenA_normal ?_))
    refine AW.seq ?_
    apply AW.list
    apply Wk.mv (by conv => lhs; whnf) (lt_of_ble rfl)
    apply Wk.len un34 rfl (lt_of_ble rfl)
    apply Wk.bin rfl rfl (r := .bool true) (fun w => by simp [go_sem]) (lt_of_ble rfl)
    apply Wk.asg (by conv => lhs; whnf) (lt_of_ble rfl)
    refine Wk.nil (AW.ret ?_)
    exact RetQ.ret [] (.cons rfl .nil) ⟨rfl, rfl⟩ none_kept
  case false =>
    rw [if_neg (by simp [hw])] at hdat
    have hh : hearF ⟨m0, w0, s0, t0, y0⟩ ⟨e, c, m, bs, false, false, false⟩ ⟨1, s, k2, p, f, y, g, l, fs⟩ = ⟨⟨e, c, m, bs, true, false, false⟩, none, some (e, false, 1)⟩ := hh0.trans hdat.symm
    have hh1 := ihearb ⟨m0, w0, s0, t0, y0⟩ ⟨e, c, m, bs, false, false, false⟩ ⟨1, s, k2, p, f, y, g, l, fs⟩ hbl hf hh
    have hh2 := shearb ⟨m0, w0, s0, t0, y0⟩ ⟨e, c, m, bs, false, false, false⟩ ⟨1, s, k2, p, f, y, g, l, fs⟩ hbl hh
    refine AW.seq ?_
    apply AW.list
    apply Wk.ld (i := 3) 5 true ty24 rfl rfl (by conv => lhs; whnf) (lt_of_ble rfl)
    apply Wk.ld (i := 4) 7 true ty28 rfl rfl (by conv => lhs; whnf) (lt_of_ble rfl)
    apply Wk.ld (i := 5) 9 true ty30 rfl rfl (by conv => lhs; whnf) (lt_of_ble rfl)
    apply Wk.dat hh1 Try.func9 rfl rfl rfl rfl rfl (lt_of_ble rfl)
    apply Wk.mv (by conv => lhs; whnf) (lt_of_ble rfl)
    apply Wk.ext rfl rfl (lt_of_ble rfl)
    apply Wk.ext rfl rfl (lt_of_ble rfl)
    apply Wk.ext rfl rfl (lt_of_ble rfl)
    apply Wk.alc 6 [.int .i64 0, .int .i64 0, .int .i64 0, .slice none 0 0, .bool false, .bool false, .bool false] ze28 rfl rfl (lt_of_ble rfl)
    apply Wk.sto (i := 6) 7 true ty28 rfl rfl rfl rfl (Nat.le_of_ble_eq_true rfl) (lt_of_ble rfl)
    apply Wk.asg (by conv => lhs; whnf) (lt_of_ble rfl)
    apply Wk.asg (by conv => lhs; whnf) (lt_of_ble rfl)
    refine Wk.nil ?_
    refine AW.seq ?_
    apply AW.list
    apply Wk.ld (i := 3) 5 true ty24 rfl rfl (by conv => lhs; whnf) (lt_of_ble rfl)
    apply Wk.ld (i := 4) 7 true ty28 rfl rfl (by conv => lhs; whnf) (lt_of_ble rfl)
    apply Wk.ld (i := 5) 9 true ty30 rfl rfl (by conv => lhs; whnf) (lt_of_ble rfl)
    apply Wk.dat hh2 Try.func10 rfl rfl rfl rfl rfl (lt_of_ble rfl)
    apply Wk.mv (by conv => lhs; whnf) (lt_of_ble rfl)
    apply Wk.ext rfl rfl (lt_of_ble rfl)
    apply Wk.ext rfl rfl (lt_of_ble rfl)
    apply Wk.ext rfl rfl (lt_of_ble rfl)
    apply Wk.alc 9 [.int .i64 0, .int .i64 0, .int .i64 0, .slice none 0 0, .bool false, .bool false, .bool false] ze28 rfl rfl (lt_of_ble rfl)
    apply Wk.sto (i := 9) 7 true ty28 rfl rfl rfl rfl (Nat.le_of_ble_eq_true rfl) (lt_of_ble rfl)
    apply Wk.asg (by conv => lhs; whnf) (lt_of_ble rfl)
    apply Wk.asg (by conv => lhs; whnf) (lt_of_ble rfl)
    refine Wk.nil ?_
    refine AW.seq (AW.seq ?_)
    apply AW.list
    apply Wk.mv (by conv => lhs; whnf) (lt_of_ble rfl)
    apply Wk.mv (by conv => lhs; whnf) (lt_of_ble rfl)
    apply Wk.dat (liFramesR (some (e, false, 1))) Try.func13 rfl rfl rfl rfl rfl (lt_of_ble rfl)
    apply Wk.un rfl (fun w => by simp [go_sem] <;> rfl) (lt_of_ble rfl)
    refine Wk.nil ?_
    refine AW.cond rfl (fun hc => by cases hc) (fun _ => AW.skip (thenA_normal ?_))
    refine AW.seq (AW.seq ?_)
    apply AW.list
    apply Wk.ld (i := 3) 5 true ty24 rfl rfl (by conv => lhs; whnf) (lt_of_ble rfl)
    apply Wk.dat (scfgb m0 w0 s0 t0 y0 h1) Try.func16 rfl rfl rfl rfl rfl (lt_of_ble rfl)
    apply Wk.un rfl (fun w => by simp [go_sem] <;> rfl) (lt_of_ble rfl)
    apply Wk.mv (by conv => lhs; whnf) (lt_of_ble rfl)
    apply Wk.gon 45 rfl rfl
    apply Wk.ld (i := 4) 7 true ty28 rfl rfl (by conv => lhs; whnf) (lt_of_ble rfl)
    apply Wk.gon 45 rfl rfl
    apply Wk.dat (srxb false false false h2) Try.func15 rfl rfl rfl rfl rfl (lt_of_ble rfl)
    apply Wk.gon 45 rfl rfl
    apply Wk.un rfl (fun w => by simp [go_sem] <;> rfl) (lt_of_ble rfl)
    apply Wk.pckF rfl (by conv => lhs; whnf) (lt_of_ble rfl)
    apply Wk.mv (by conv => lhs; whnf) (lt_of_ble rfl)
    apply Wk.gon 50 rfl rfl
    apply Wk.ld (i := 5) 9 true ty30 rfl rfl (by conv => lhs; whnf) (lt_of_ble rfl)
    apply Wk.gon 50 rfl rfl
    apply Wk.dat (sfrmb 1 s k2 p f y g l fs h3) Try.func17 rfl rfl rfl rfl rfl (lt_of_ble rfl)
    apply Wk.gon 50 rfl rfl
    apply Wk.un rfl (fun w => by simp [go_sem] <;> rfl) (lt_of_ble rfl)
    apply Wk.pckF rfl (by conv => lhs; whnf) (lt_of_ble rfl)
    apply Wk.mv (by conv => lhs; whnf) (lt_of_ble rfl)
    apply Wk.gon 55 rfl rfl
    apply Wk.fad 0 0 false fd30_0 rfl (lt_of_ble rfl)
    apply Wk.gon 55 rfl rfl
    apply Wk.ld (i := 5) 1 false ty3 rfl rfl (by conv => lhs; whnf) (lt_of_ble rfl)
    apply Wk.gon 55 rfl rfl
    apply Wk.bin rfl rfl (r := .bool false) (fun w => by simp [go_sem] <;> omega) (lt_of_ble rfl)
    apply Wk.pckF rfl (by conv => lhs; whnf) (lt_of_ble rfl)
    apply Wk.mv (by conv => lhs; whnf) (lt_of_ble rfl)
    apply Wk.gon 60 rfl rfl
    apply Wk.fad 6 0 false fd28_5 rfl (lt_of_ble rfl)
    apply Wk.gon 60 rfl rfl
    apply Wk.ld (i := 4) 1 false ty4 rfl rfl (by conv => lhs; whnf) (lt_of_ble rfl)
    apply Wk.pckF rfl (by conv => lhs; whnf) (lt_of_ble rfl)
    refine Wk.nil ?_
    refine AW.cond rfl (fun hc => by cases hc) (fun _ => AW.skip (thenA_normal ?_))
    refine AW.seq (AW.seq ?_)
    apply AW.list
    apply Wk.fad 0 0 false fd30_0 rfl (lt_of_ble rfl)
    apply Wk.ld (i := 5) 1 false ty3 rfl rfl (by conv => lhs; whnf) (lt_of_ble rfl)
    apply Wk.bin rfl rfl (fun w => by simp [go_sem] <;> rfl) (lt_of_ble rfl)
    refine Wk.nil ?_
    refine AW.cond rfl (fun hc => by cases hc) (fun _ => AW.skip (thenA_normal ?_))
    refine AW.seq (AW.seq ?_)
    apply AW.list
    apply Wk.fad 5 0 false fd28_4 rfl (lt_of_ble rfl)
    apply Wk.ld (i := 4) 1 false ty4 rfl rfl (by conv => lhs; whnf) (lt_of_ble rfl)
    refine Wk.nil ?_
    refine AW.cond rfl (fun hc => by cases hc) (fun _ => AW.skip (thenA_normal ?_))
    refine AW.seq ?_
    apply AW.list
    apply Wk.fad 0 0 false fd28_0 rfl (lt_of_ble rfl)
    apply Wk.ld (i := 4) 1 false ty3 rfl rfl (by conv => lhs; whnf) (lt_of_ble rfl)
    apply Wk.fad 1 0 false fd30_1 rfl (lt_of_ble rfl)
    apply Wk.ld (i := 5) 1 false ty3 rfl rfl (by conv => lhs; whnf) (lt_of_ble rfl)
    apply Wk.dat (ifar_ok e s) Try.func23 rfl rfl rfl rfl rfl (lt_of_ble rfl)
    apply Wk.asg (by conv => lhs; whnf) (lt_of_ble rfl)
    refine Wk.nil ?_
    refine AW.seq (AW.seq ?_)
    apply AW.list
    apply Wk.mv (by conv => lhs; whnf) (lt_of_ble rfl)
    apply Wk.bin rfl rfl (r := .bool true) (fun w => by simp [go_sem] <;> omega) (lt_of_ble rfl)
    apply Wk.mv (by conv => lhs; whnf) (lt_of_ble rfl)
    apply Wk.gon 135 rfl rfl
    apply Wk.mv (by conv => lhs; whnf) (lt_of_ble rfl)
    apply Wk.gon 135 rfl rfl
    apply Wk.fad 1 0 false fd24_1 rfl (lt_of_ble rfl)
    apply Wk.gon 135 rfl rfl
    apply Wk.ld (i := 3) 1 false ty3 rfl rfl (by conv => lhs; whnf) (lt_of_ble rfl)
    apply Wk.gon 135 rfl rfl
    apply Wk.bin rfl rfl (r := .bool true) (fun w => by simp [go_sem] <;> omega) (lt_of_ble rfl)
    apply Wk.pckT rfl (by conv => lhs; whnf) (lt_of_ble rfl)
    apply Wk.mv (by conv => lhs; whnf) (lt_of_ble rfl)
    apply Wk.gon 141 rfl rfl
    apply Wk.fad 4 0 false fd28_3 rfl (lt_of_ble rfl)
    apply Wk.gon 141 rfl rfl
    apply Wk.ld (i := 4) 1 false ty4 rfl rfl (by conv => lhs; whnf) (lt_of_ble rfl)
    apply Wk.gon 141 rfl rfl
    apply Wk.un rfl (fun w => by simp [go_sem] <;> rfl) (lt_of_ble rfl)
    apply Wk.pckT rfl (by conv => lhs; whnf) (lt_of_ble rfl)
    refine Wk.nil ?_
    refine AW.cond rfl (fun _ => ?_) (fun hc => by cases hc)
    refine AW.seq ?_
    apply AW.draw (hm := hmix) (cs := _)
    · apply Wk.mv (by conv => lhs; whnf) (lt_of_ble rfl)
      apply Wk.len un34 rfl (lt_of_ble rfl)
      apply Wk.bin rfl rfl (r := .bool true) (fun w => by simp [go_sem]) (lt_of_ble rfl)
      apply Wk.mv (by conv => lhs; whnf) (lt_of_ble rfl)
      apply Wk.gon 149 rfl rfl
      apply Wk.mv (by conv => lhs; whnf) (lt_of_ble rfl)
      apply Wk.gon 149 rfl rfl
      apply Wk.iad 9 true un34 ty30 rfl rfl (k := 0) (by exact Nat.succ_pos _) (all_len rfl) (lt_of_ble rfl)
      apply Wk.gon 149 rfl rfl
      apply Wk.fad 5 0 false fd30_5 rfl (lt_of_ble rfl)
      apply Wk.gon 149 rfl rfl
      apply Wk.ldr 1 false ty3 rfl rfl (by conv => lhs; whnf) (lt_of_ble rfl)
      apply Wk.gon 149 rfl rfl
      apply Wk.bin rfl rfl (r := .bool true) (fun w => by simp [go_sem]) (lt_of_ble rfl)
      apply Wk.pckT rfl (by conv => lhs; whnf) (lt_of_ble rfl)
      apply Wk.mv (by conv => lhs; whnf) (lt_of_ble rfl)
      apply Wk.gon 156 rfl rfl
      apply Wk.mv (by conv => lhs; whnf) (lt_of_ble rfl)
      apply Wk.gon 156 rfl rfl
      apply Wk.iad 9 true un34 ty30 rfl rfl (k := 0) (by exact Nat.succ_pos _) (all_len rfl) (lt_of_ble rfl)
      apply Wk.gon 156 rfl rfl
      apply Wk.fad 2 0 false fd30_2 rfl (lt_of_ble rfl)
      apply Wk.gon 156 rfl rfl
      apply Wk.ldr 1 false ty3 rfl rfl (by conv => lhs; whnf) (lt_of_ble rfl)
      apply Wk.gon 156 rfl rfl
      apply Wk.fad 0 0 false fd28_0 rfl (lt_of_ble rfl)
      apply Wk.gon 156 rfl rfl
      apply Wk.ld (i := 4) 1 false ty3 rfl rfl (by conv => lhs; whnf) (lt_of_ble rfl)
      apply Wk.gon 156 rfl rfl
      apply Wk.bin rfl rfl (r := .bool true) (fun w => by simp [go_sem]) (lt_of_ble rfl)
      apply Wk.pckT rfl (by conv => lhs; whnf) (lt_of_ble rfl)
      apply Wk.asg (by conv => lhs; whnf) (lt_of_ble rfl)
      refine Wk.nil (AW.ret ?_)
      repeat (first | refine thenA_ret ?_ | refine inBlockA_ret ?_)
      exact RetQ.ret [] (.cons rfl .nil) ⟨rfl, rfl⟩ none_kept
    · rfl
    · rfl
namespace fnRxSays
set_option maxRecDepth 100000 in
theorem walk (a0 : Option Addr) (len0 cap0 : Nat) (z0 : List Int) (w : World) (w0 : IsRow .u8 w a0 len0 cap0 z0) :
    Calls Try.prog 4 #[.slice a0 len0 cap0] w fun e w' => e = .returned (.bool true) ∧ Below w.heap.size w w' := by
  by_cases hs0 : (1048576 : Int) < (len0 : Int)
  · go_enter Try.func4, Try.ntmps4
    go_wp2
    go_ret
    exact ⟨rfl, Below.refl _ _⟩
  obtain ⟨cz, hR0, _⟩ := w0.rd (by omega)
  obtain ⟨zs, rfl⟩ := byt_fin hR0.1
  exact (lawRxSays_ok zs).run hR0
end fnRxSays
end Go.Proofs.Ytlmadcpoaedagaa
