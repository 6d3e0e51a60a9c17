/- The law of RxHear of what has been taken, promise 35, returns true at every code. -/
import Derived.Test.YtlmadcpoaedagaaMa
import Derived.Test.YtlmadcpoaedagaaMb
import Derived.Test.YtlmadcpoaedagaaMc
import Derived.Test.YtlmadcpoaedagaaMd
import Derived.Test.YtlmadcpoaedagaaMe
import Derived.RowKit3
namespace Go.Proofs.Ytlmadcpoaedagaa
open Go Go.RowKit
set_option maxHeartbeats 2000000 in
set_option maxRecDepth 100000 in
theorem lawRxTwice_ok (zs : List (Fin 256)) : DataOk Try.prog 5 [.d (bytesD (zs.map (·.val)))] (.d (.v (.bool true))) := by
  refine Spec.intro (n := 101) (rv := [.tmp 2]) Try.func5 rfl rfl rfl (by simp) fun C hN hX => ?_
  refine AW.seq ?_
  apply AW.list
  apply Wk.asg (by conv => lhs; whnf) (lt_of_ble rfl)
  refine Wk.nil ?_
  refine AW.seq (AW.seq ?_)
  apply AW.list
  apply Wk.mv (by conv => lhs; whnf) (lt_of_ble rfl)
  apply Wk.len un22 rfl (lt_of_ble rfl)
  apply Wk.bin rfl rfl (fun w => by simp [go_sem] <;> rfl) (lt_of_ble rfl)
  refine Wk.nil ?_
  refine AW.cond rfl (fun hc => ?_) (fun hc => ?_)
  · refine AW.seq ?_
    apply AW.list
    apply Wk.asg (by conv => lhs; whnf) (lt_of_ble rfl)
    refine Wk.nil (AW.ret ?_)
    refine thenA_ret ?_
    exact RetQ.ret [] (.cons rfl .nil) ⟨rfl, rfl⟩ none_kept
  refine AW.skip (thenA_normal ?_)
  refine AW.seq ?_
  apply AW.list
  apply Wk.mv (by conv => lhs; whnf) (lt_of_ble rfl)
  apply Wk.datw (drawHear_ok zs) Try.func8 rfl rfl rfl rfl (lt_of_ble rfl)
  rintro _ ⟨⟨m0, w0, s0, t0, y0⟩, ⟨e, c, m, bs, a, u, d⟩, ⟨k, s, k2, p, f, y, g, l, fs⟩, rfl, hbl, hfl, hk, hs, hk2, hy, hg, hl, he, hc9, hm⟩
  apply Wk.mv (by conv => lhs; whnf) (lt_of_ble rfl)
  apply Wk.ext rfl rfl (lt_of_ble rfl)
  apply Wk.ext rfl rfl (lt_of_ble rfl)
  apply Wk.ext rfl rfl (lt_of_ble rfl)
  apply Wk.alc 3 [.int .i64 0, .int .i64 0, .int .i64 0, .int .i64 0, .int .i64 0] ze24 rfl rfl (lt_of_ble rfl)
  apply Wk.alc 4 [.int .i64 0, .int .i64 0, .int .i64 0, .slice none 0 0, .bool false, .bool false, .bool false] ze28 rfl rfl (lt_of_ble rfl)
  apply Wk.alc 5 [.int .i64 0, .int .i64 0, .int .i64 0, .bool false, .bool false, .int .i64 0, .int .i64 0, .int .i64 0, .slice none 0 0] ze30 rfl rfl (lt_of_ble rfl)
  apply Wk.sto (i := 3) 5 true ty24 rfl rfl rfl rfl (Nat.le_of_ble_eq_true rfl) (lt_of_ble rfl)
  apply Wk.sto (i := 4) 7 true ty28 rfl rfl rfl rfl (Nat.le_of_ble_eq_true rfl) (lt_of_ble rfl)
  apply Wk.sto (i := 5) 9 true ty30 rfl rfl rfl rfl (Nat.le_of_ble_eq_true rfl) (lt_of_ble rfl)
  refine Wk.nil ?_
  simp only at hbl hfl he hc9 hm
  have hf : (FR.mk k s k2 p f y g l fs).bs.length ≤ 1000 := by simp only; omega
  obtain ⟨h, hh⟩ : ∃ h, hearF ⟨m0, w0, s0, t0, y0⟩ ⟨e, c, m, bs, a, u, d⟩ ⟨k, s, k2, p, f, y, g, l, fs⟩ = h := ⟨_, rfl⟩
  have hh1 := ihearb ⟨m0, w0, s0, t0, y0⟩ ⟨e, c, m, bs, a, u, d⟩ ⟨k, s, k2, p, f, y, g, l, fs⟩ hbl hf hh
  have hh2 := shearb ⟨m0, w0, s0, t0, y0⟩ ⟨e, c, m, bs, a, u, d⟩ ⟨k, s, k2, p, f, y, g, l, fs⟩ hbl hh
  have hsm := fun hgo => hear_small (q := ⟨m0, w0, s0, t0, y0⟩) (x := ⟨e, c, m, bs, a, u, d⟩) (f := ⟨k, s, k2, p, f, y, g, l, fs⟩) hgo hbl
  have htw := hearF_twice (q := ⟨m0, w0, s0, t0, y0⟩) (x := ⟨e, c, m, bs, a, u, d⟩) (f := ⟨k, s, k2, p, f, y, g, l, fs⟩)
  rw [hh] at hsm htw
  obtain ⟨⟨e1, c1, m1, bs1, a1, u1, d1⟩, sd, sy⟩ := h
  refine AW.seq ?_
  apply AW.list
  apply Wk.ld (i := 3) 5 true ty24 rfl rfl (by conv => lhs; whnf) (lt_of_ble rfl)
  apply Wk.ld (i := 4) 7 true ty28 rfl rfl (by conv => lhs; whnf) (lt_of_ble rfl)
  apply Wk.ld (i := 5) 9 true ty30 rfl rfl (by conv => lhs; whnf) (lt_of_ble rfl)
  apply Wk.dat hh1 Try.func9 rfl rfl rfl rfl rfl (lt_of_ble rfl)
  apply Wk.mv (by conv => lhs; whnf) (lt_of_ble rfl)
  apply Wk.ext rfl rfl (lt_of_ble rfl)
  apply Wk.ext rfl rfl (lt_of_ble rfl)
  apply Wk.ext rfl rfl (lt_of_ble rfl)
  apply Wk.alc 6 [.int .i64 0, .int .i64 0, .int .i64 0, .slice none 0 0, .bool false, .bool false, .bool false] ze28 rfl rfl (lt_of_ble rfl)
  apply Wk.sto (i := 6) 7 true ty28 rfl rfl rfl rfl (Nat.le_of_ble_eq_true rfl) (lt_of_ble rfl)
  apply Wk.asg (by conv => lhs; whnf) (lt_of_ble rfl)
  apply Wk.asg (by conv => lhs; whnf) (lt_of_ble rfl)
  refine Wk.nil ?_
  refine AW.seq ?_
  apply AW.list
  apply Wk.ld (i := 3) 5 true ty24 rfl rfl (by conv => lhs; whnf) (lt_of_ble rfl)
  apply Wk.ld (i := 4) 7 true ty28 rfl rfl (by conv => lhs; whnf) (lt_of_ble rfl)
  apply Wk.ld (i := 5) 9 true ty30 rfl rfl (by conv => lhs; whnf) (lt_of_ble rfl)
  apply Wk.dat hh2 Try.func10 rfl rfl rfl rfl rfl (lt_of_ble rfl)
  apply Wk.mv (by conv => lhs; whnf) (lt_of_ble rfl)
  apply Wk.ext rfl rfl (lt_of_ble rfl)
  apply Wk.ext rfl rfl (lt_of_ble rfl)
  apply Wk.ext rfl rfl (lt_of_ble rfl)
  apply Wk.alc 9 [.int .i64 0, .int .i64 0, .int .i64 0, .slice none 0 0, .bool false, .bool false, .bool false] ze28 rfl rfl (lt_of_ble rfl)
  apply Wk.sto (i := 9) 7 true ty28 rfl rfl rfl rfl (Nat.le_of_ble_eq_true rfl) (lt_of_ble rfl)
  apply Wk.asg (by conv => lhs; whnf) (lt_of_ble rfl)
  apply Wk.asg (by conv => lhs; whnf) (lt_of_ble rfl)
  refine Wk.nil ?_
  refine AW.seq (AW.seq ?_)
  have hli := liSdusR sd
  rcases sd with _ | sb
  all_goals
    apply AW.list
    apply Wk.mv (by conv => lhs; whnf) (lt_of_ble rfl)
    apply Wk.mv (by conv => lhs; whnf) (lt_of_ble rfl)
    apply Wk.dat hli Try.func12 rfl rfl rfl rfl rfl (lt_of_ble rfl)
    apply Wk.un rfl (fun w => by simp [go_sem] <;> rfl) (lt_of_ble rfl)
    refine Wk.nil ?_
    refine AW.cond rfl (fun hc => by cases hc) (fun _ => AW.skip (thenA_normal ?_))
    refine AW.seq (AW.seq ?_)
    cases h1 : Opt.ok ⟨m0, w0, s0, t0, y0⟩
    · apply AW.list
      apply Wk.ld (i := 3) 5 true ty24 rfl rfl (by conv => lhs; whnf) (lt_of_ble rfl)
      apply Wk.dat (scfgb m0 w0 s0 t0 y0 h1) Try.func16 rfl rfl rfl rfl rfl (lt_of_ble rfl)
      apply Wk.un rfl (fun w => by simp [go_sem] <;> rfl) (lt_of_ble rfl)
      apply Wk.mv (by conv => lhs; whnf) (lt_of_ble rfl)
      apply Wk.goff 47 (ok_load 4 ty28) rfl rfl (by decide)
      apply Wk.goff 47 (ok_datw ((srx_ok e c m bs a u d).w rfl) Try.func15 rfl rfl) rfl rfl (by decide)
      apply Wk.goff 47 (ok_un _ _ _) rfl rfl (by decide)
      apply Wk.pckT rfl (by conv => lhs; whnf) (lt_of_ble rfl)
      apply Wk.mv (by conv => lhs; whnf) (lt_of_ble rfl)
      apply Wk.goff 52 (ok_load 5 ty30) rfl rfl (by decide)
      apply Wk.goff 52 (ok_datw ((sfrm_ok k s k2 p f y g l fs).w rfl) Try.func17 rfl rfl) rfl rfl (by decide)
      apply Wk.goff 52 (ok_un _ _ _) rfl rfl (by decide)
      apply Wk.pckT rfl (by conv => lhs; whnf) (lt_of_ble rfl)
      apply Wk.mv (by conv => lhs; whnf) (lt_of_ble rfl)
      apply Wk.goff 57 (ok_faddr fd30_0) rfl rfl (by decide)
      apply Wk.goff 57 (ok_load 5 ty3) rfl rfl (by decide)
      apply Wk.goff 57 (ok_bin _ _ _ _ _) rfl rfl (by decide)
      apply Wk.pckT rfl (by conv => lhs; whnf) (lt_of_ble rfl)
      apply Wk.mv (by conv => lhs; whnf) (lt_of_ble rfl)
      apply Wk.goff 62 (ok_faddr fd28_1) rfl rfl (by decide)
      apply Wk.goff 62 (ok_load 6 ty3) rfl rfl (by decide)
      apply Wk.goff 62 (ok_faddr fd28_1) rfl rfl (by decide)
      apply Wk.goff 62 (ok_load 4 ty3) rfl rfl (by decide)
      apply Wk.goff 62 (ok_bin _ _ _ _ _) rfl rfl (by decide)
      apply Wk.goff 62 (ok_bin _ _ _ _ _) rfl rfl (by decide)
      apply Wk.pckT rfl (by conv => lhs; whnf) (lt_of_ble rfl)
      refine Wk.nil ?_
      refine AW.cond rfl (fun _ => ?_) (fun hc => by cases hc)
      refine AW.seq ?_
      apply AW.list
      apply Wk.dat liok_ok Try.func18 rfl rfl rfl rfl rfl (lt_of_ble rfl)
      apply Wk.asg (by conv => lhs; whnf) (lt_of_ble rfl)
      refine Wk.nil (AW.ret ?_)
      refine thenA_ret ?_
      exact RetQ.ret [] (.cons rfl .nil) ⟨rfl, rfl⟩ none_kept
    cases h2 : rxB e c m bs.length
    · apply AW.list
      apply Wk.ld (i := 3) 5 true ty24 rfl rfl (by conv => lhs; whnf) (lt_of_ble rfl)
      apply Wk.dat (scfgb m0 w0 s0 t0 y0 h1) Try.func16 rfl rfl rfl rfl rfl (lt_of_ble rfl)
      apply Wk.un rfl (fun w => by simp [go_sem] <;> rfl) (lt_of_ble rfl)
      apply Wk.mv (by conv => lhs; whnf) (lt_of_ble rfl)
      apply Wk.gon 47 rfl rfl
      apply Wk.ld (i := 4) 7 true ty28 rfl rfl (by conv => lhs; whnf) (lt_of_ble rfl)
      apply Wk.gon 47 rfl rfl
      apply Wk.dat (srxb a u d h2) Try.func15 rfl rfl rfl rfl rfl (lt_of_ble rfl)
      apply Wk.gon 47 rfl rfl
      apply Wk.un rfl (fun w => by simp [go_sem] <;> rfl) (lt_of_ble rfl)
      apply Wk.pckF rfl (by conv => lhs; whnf) (lt_of_ble rfl)
      apply Wk.mv (by conv => lhs; whnf) (lt_of_ble rfl)
      apply Wk.goff 52 (ok_load 5 ty30) rfl rfl (by decide)
      apply Wk.goff 52 (ok_datw ((sfrm_ok k s k2 p f y g l fs).w rfl) Try.func17 rfl rfl) rfl rfl (by decide)
      apply Wk.goff 52 (ok_un _ _ _) rfl rfl (by decide)
      apply Wk.pckT rfl (by conv => lhs; whnf) (lt_of_ble rfl)
      apply Wk.mv (by conv => lhs; whnf) (lt_of_ble rfl)
      apply Wk.goff 57 (ok_faddr fd30_0) rfl rfl (by decide)
      apply Wk.goff 57 (ok_load 5 ty3) rfl rfl (by decide)
      apply Wk.goff 57 (ok_bin _ _ _ _ _) rfl rfl (by decide)
      apply Wk.pckT rfl (by conv => lhs; whnf) (lt_of_ble rfl)
      apply Wk.mv (by conv => lhs; whnf) (lt_of_ble rfl)
      apply Wk.goff 62 (ok_faddr fd28_1) rfl rfl (by decide)
      apply Wk.goff 62 (ok_load 6 ty3) rfl rfl (by decide)
      apply Wk.goff 62 (ok_faddr fd28_1) rfl rfl (by decide)
      apply Wk.goff 62 (ok_load 4 ty3) rfl rfl (by decide)
      apply Wk.goff 62 (ok_bin _ _ _ _ _) rfl rfl (by decide)
      apply Wk.goff 62 (ok_bin _ _ _ _ _) rfl rfl (by decide)
      apply Wk.pckT rfl (by conv => lhs; whnf) (lt_of_ble rfl)
      refine Wk.nil ?_
      refine AW.cond rfl (fun _ => ?_) (fun hc => by cases hc)
      refine AW.seq ?_
      apply AW.list
      apply Wk.dat liok_ok Try.func18 rfl rfl rfl rfl rfl (lt_of_ble rfl)
      apply Wk.asg (by conv => lhs; whnf) (lt_of_ble rfl)
      refine Wk.nil (AW.ret ?_)
      refine thenA_ret ?_
      exact RetQ.ret [] (.cons rfl .nil) ⟨rfl, rfl⟩ none_kept
    cases h3 : frmB k s k2 p f y g l fs.length
    · apply AW.list
      apply Wk.ld (i := 3) 5 true ty24 rfl rfl (by conv => lhs; whnf) (lt_of_ble rfl)
      apply Wk.dat (scfgb m0 w0 s0 t0 y0 h1) Try.func16 rfl rfl rfl rfl rfl (lt_of_ble rfl)
      apply Wk.un rfl (fun w => by simp [go_sem] <;> rfl) (lt_of_ble rfl)
      apply Wk.mv (by conv => lhs; whnf) (lt_of_ble rfl)
      apply Wk.gon 47 rfl rfl
      apply Wk.ld (i := 4) 7 true ty28 rfl rfl (by conv => lhs; whnf) (lt_of_ble rfl)
      apply Wk.gon 47 rfl rfl
      apply Wk.dat (srxb a u d h2) Try.func15 rfl rfl rfl rfl rfl (lt_of_ble rfl)
      apply Wk.gon 47 rfl rfl
      apply Wk.un rfl (fun w => by simp [go_sem] <;> rfl) (lt_of_ble rfl)
      apply Wk.pckF rfl (by conv => lhs; whnf) (lt_of_ble rfl)
      apply Wk.mv (by conv => lhs; whnf) (lt_of_ble rfl)
      apply Wk.gon 52 rfl rfl
      apply Wk.ld (i := 5) 9 true ty30 rfl rfl (by conv => lhs; whnf) (lt_of_ble rfl)
      apply Wk.gon 52 rfl rfl
      apply Wk.dat (sfrmb k s k2 p f y g l fs h3) Try.func17 rfl rfl rfl rfl rfl (lt_of_ble rfl)
      apply Wk.gon 52 rfl rfl
      apply Wk.un rfl (fun w => by simp [go_sem] <;> rfl) (lt_of_ble rfl)
      apply Wk.pckF rfl (by conv => lhs; whnf) (lt_of_ble rfl)
      apply Wk.mv (by conv => lhs; whnf) (lt_of_ble rfl)
      apply Wk.goff 57 (ok_faddr fd30_0) rfl rfl (by decide)
      apply Wk.goff 57 (ok_load 5 ty3) rfl rfl (by decide)
      apply Wk.goff 57 (ok_bin _ _ _ _ _) rfl rfl (by decide)
      apply Wk.pckT rfl (by conv => lhs; whnf) (lt_of_ble rfl)
      apply Wk.mv (by conv => lhs; whnf) (lt_of_ble rfl)
      apply Wk.goff 62 (ok_faddr fd28_1) rfl rfl (by decide)
      apply Wk.goff 62 (ok_load 6 ty3) rfl rfl (by decide)
      apply Wk.goff 62 (ok_faddr fd28_1) rfl rfl (by decide)
      apply Wk.goff 62 (ok_load 4 ty3) rfl rfl (by decide)
      apply Wk.goff 62 (ok_bin _ _ _ _ _) rfl rfl (by decide)
      apply Wk.goff 62 (ok_bin _ _ _ _ _) rfl rfl (by decide)
      apply Wk.pckT rfl (by conv => lhs; whnf) (lt_of_ble rfl)
      refine Wk.nil ?_
      refine AW.cond rfl (fun _ => ?_) (fun hc => by cases hc)
      refine AW.seq ?_
      apply AW.list
      apply Wk.dat liok_ok Try.func18 rfl rfl rfl rfl rfl (lt_of_ble rfl)
      apply Wk.asg (by conv => lhs; whnf) (lt_of_ble rfl)
      refine Wk.nil (AW.ret ?_)
      refine thenA_ret ?_
      exact RetQ.ret [] (.cons rfl .nil) ⟨rfl, rfl⟩ none_kept
    by_cases h4 : k = 1
    case neg =>
      apply AW.list
      apply Wk.ld (i := 3) 5 true ty24 rfl rfl (by conv => lhs; whnf) (lt_of_ble rfl)
      apply Wk.dat (scfgb m0 w0 s0 t0 y0 h1) Try.func16 rfl rfl rfl rfl rfl (lt_of_ble rfl)
      apply Wk.un rfl (fun w => by simp [go_sem] <;> rfl) (lt_of_ble rfl)
      apply Wk.mv (by conv => lhs; whnf) (lt_of_ble rfl)
      apply Wk.gon 47 rfl rfl
      apply Wk.ld (i := 4) 7 true ty28 rfl rfl (by conv => lhs; whnf) (lt_of_ble rfl)
      apply Wk.gon 47 rfl rfl
      apply Wk.dat (srxb a u d h2) Try.func15 rfl rfl rfl rfl rfl (lt_of_ble rfl)
      apply Wk.gon 47 rfl rfl
      apply Wk.un rfl (fun w => by simp [go_sem] <;> rfl) (lt_of_ble rfl)
      apply Wk.pckF rfl (by conv => lhs; whnf) (lt_of_ble rfl)
      apply Wk.mv (by conv => lhs; whnf) (lt_of_ble rfl)
      apply Wk.gon 52 rfl rfl
      apply Wk.ld (i := 5) 9 true ty30 rfl rfl (by conv => lhs; whnf) (lt_of_ble rfl)
      apply Wk.gon 52 rfl rfl
      apply Wk.dat (sfrmb k s k2 p f y g l fs h3) Try.func17 rfl rfl rfl rfl rfl (lt_of_ble rfl)
      apply Wk.gon 52 rfl rfl
      apply Wk.un rfl (fun w => by simp [go_sem] <;> rfl) (lt_of_ble rfl)
      apply Wk.pckF rfl (by conv => lhs; whnf) (lt_of_ble rfl)
      apply Wk.mv (by conv => lhs; whnf) (lt_of_ble rfl)
      apply Wk.gon 57 rfl rfl
      apply Wk.fad 0 0 false fd30_0 rfl (lt_of_ble rfl)
      apply Wk.gon 57 rfl rfl
      apply Wk.ld (i := 5) 1 false ty3 rfl rfl (by conv => lhs; whnf) (lt_of_ble rfl)
      apply Wk.gon 57 rfl rfl
      apply Wk.bin rfl rfl (r := .bool true) (fun w => by simp [go_sem, h4]) (lt_of_ble rfl)
      apply Wk.pckF rfl (by conv => lhs; whnf) (lt_of_ble rfl)
      apply Wk.mv (by conv => lhs; whnf) (lt_of_ble rfl)
      apply Wk.goff 62 (ok_faddr fd28_1) rfl rfl (by decide)
      apply Wk.goff 62 (ok_load 6 ty3) rfl rfl (by decide)
      apply Wk.goff 62 (ok_faddr fd28_1) rfl rfl (by decide)
      apply Wk.goff 62 (ok_load 4 ty3) rfl rfl (by decide)
      apply Wk.goff 62 (ok_bin _ _ _ _ _) rfl rfl (by decide)
      apply Wk.goff 62 (ok_bin _ _ _ _ _) rfl rfl (by decide)
      apply Wk.pckT rfl (by conv => lhs; whnf) (lt_of_ble rfl)
      refine Wk.nil ?_
      refine AW.cond rfl (fun _ => ?_) (fun hc => by cases hc)
      refine AW.seq ?_
      apply AW.list
      apply Wk.dat liok_ok Try.func18 rfl rfl rfl rfl rfl (lt_of_ble rfl)
      apply Wk.asg (by conv => lhs; whnf) (lt_of_ble rfl)
      refine Wk.nil (AW.ret ?_)
      refine thenA_ret ?_
      exact RetQ.ret [] (.cons rfl .nil) ⟨rfl, rfl⟩ none_kept
    case pos =>
    by_cases h5 : c1 = c + 1
    case neg =>
      apply AW.list
      apply Wk.ld (i := 3) 5 true ty24 rfl rfl (by conv => lhs; whnf) (lt_of_ble rfl)
      apply Wk.dat (scfgb m0 w0 s0 t0 y0 h1) Try.func16 rfl rfl rfl rfl rfl (lt_of_ble rfl)
      apply Wk.un rfl (fun w => by simp [go_sem] <;> rfl) (lt_of_ble rfl)
      apply Wk.mv (by conv => lhs; whnf) (lt_of_ble rfl)
      apply Wk.gon 47 rfl rfl
      apply Wk.ld (i := 4) 7 true ty28 rfl rfl (by conv => lhs; whnf) (lt_of_ble rfl)
      apply Wk.gon 47 rfl rfl
      apply Wk.dat (srxb a u d h2) Try.func15 rfl rfl rfl rfl rfl (lt_of_ble rfl)
      apply Wk.gon 47 rfl rfl
      apply Wk.un rfl (fun w => by simp [go_sem] <;> rfl) (lt_of_ble rfl)
      apply Wk.pckF rfl (by conv => lhs; whnf) (lt_of_ble rfl)
      apply Wk.mv (by conv => lhs; whnf) (lt_of_ble rfl)
      apply Wk.gon 52 rfl rfl
      apply Wk.ld (i := 5) 9 true ty30 rfl rfl (by conv => lhs; whnf) (lt_of_ble rfl)
      apply Wk.gon 52 rfl rfl
      apply Wk.dat (sfrmb k s k2 p f y g l fs h3) Try.func17 rfl rfl rfl rfl rfl (lt_of_ble rfl)
      apply Wk.gon 52 rfl rfl
      apply Wk.un rfl (fun w => by simp [go_sem] <;> rfl) (lt_of_ble rfl)
      apply Wk.pckF rfl (by conv => lhs; whnf) (lt_of_ble rfl)
      apply Wk.mv (by conv => lhs; whnf) (lt_of_ble rfl)
      apply Wk.gon 57 rfl rfl
      apply Wk.fad 0 0 false fd30_0 rfl (lt_of_ble rfl)
      apply Wk.gon 57 rfl rfl
      apply Wk.ld (i := 5) 1 false ty3 rfl rfl (by conv => lhs; whnf) (lt_of_ble rfl)
      apply Wk.gon 57 rfl rfl
      apply Wk.bin rfl rfl (r := .bool false) (fun w => by simp [go_sem, h4]) (lt_of_ble rfl)
      apply Wk.pckF rfl (by conv => lhs; whnf) (lt_of_ble rfl)
      apply Wk.mv (by conv => lhs; whnf) (lt_of_ble rfl)
      apply Wk.gon 62 rfl rfl
      apply Wk.fad 1 0 false fd28_1 rfl (lt_of_ble rfl)
      apply Wk.gon 62 rfl rfl
      apply Wk.ld (i := 6) 1 false ty3 rfl rfl (by conv => lhs; whnf) (lt_of_ble rfl)
      apply Wk.gon 62 rfl rfl
      apply Wk.fad 1 0 false fd28_1 rfl (lt_of_ble rfl)
      apply Wk.gon 62 rfl rfl
      apply Wk.ld (i := 4) 1 false ty3 rfl rfl (by conv => lhs; whnf) (lt_of_ble rfl)
      apply Wk.gon 62 rfl rfl
      apply Wk.addi rfl rfl (by dsimp only; omega) (lt_of_ble rfl)
      apply Wk.gon 62 rfl rfl
      apply Wk.bin rfl rfl (r := .bool true) (fun w => by simp [go_sem, h5]) (lt_of_ble rfl)
      apply Wk.pckF rfl (by conv => lhs; whnf) (lt_of_ble rfl)
      refine Wk.nil ?_
      refine AW.cond rfl (fun _ => ?_) (fun hc => by cases hc)
      refine AW.seq ?_
      apply AW.list
      apply Wk.dat liok_ok Try.func18 rfl rfl rfl rfl rfl (lt_of_ble rfl)
      apply Wk.asg (by conv => lhs; whnf) (lt_of_ble rfl)
      refine Wk.nil (AW.ret ?_)
      refine thenA_ret ?_
      exact RetQ.ret [] (.cons rfl .nil) ⟨rfl, rfl⟩ none_kept
    case pos =>
    obtain ⟨t1, t2, t3, t4, t5⟩ := htw h1 h2 h3 h4 h5
    have hb1 := (hsm (goes_iff.2 ⟨h1, h2, h3, .inl h4⟩)).1
    obtain ⟨h6, hh6⟩ : ∃ h, hearF ⟨m0, w0, s0, t0, y0⟩ ⟨e1, c1, m1, bs1, a1, u1, d1⟩ ⟨k, s, k2, p, f, y, g, l, fs⟩ = h := ⟨_, rfl⟩
    have hh3 := ihearb ⟨m0, w0, s0, t0, y0⟩ ⟨e1, c1, m1, bs1, a1, u1, d1⟩ ⟨k, s, k2, p, f, y, g, l, fs⟩ hb1 hf hh6
    simp only at t1 t2 t3 t4 t5
    rw [hh6] at t1 t2 t3 t4 t5
    obtain ⟨⟨e2, c2, m2, bs2, a2, u2, d2⟩, sd2, sy2⟩ := h6
    simp only at t1 t2 t3 t4 t5
    subst t2
    apply AW.list
    apply Wk.ld (i := 3) 5 true ty24 rfl rfl (by conv => lhs; whnf) (lt_of_ble rfl)
    apply Wk.dat (scfgb m0 w0 s0 t0 y0 h1) Try.func16 rfl rfl rfl rfl rfl (lt_of_ble rfl)
    apply Wk.un rfl (fun w => by simp [go_sem] <;> rfl) (lt_of_ble rfl)
    apply Wk.mv (by conv => lhs; whnf) (lt_of_ble rfl)
    apply Wk.gon 47 rfl rfl
    apply Wk.ld (i := 4) 7 true ty28 rfl rfl (by conv => lhs; whnf) (lt_of_ble rfl)
    apply Wk.gon 47 rfl rfl
    apply Wk.dat (srxb a u d h2) Try.func15 rfl rfl rfl rfl rfl (lt_of_ble rfl)
    apply Wk.gon 47 rfl rfl
    apply Wk.un rfl (fun w => by simp [go_sem] <;> rfl) (lt_of_ble rfl)
    apply Wk.pckF rfl (by conv => lhs; whnf) (lt_of_ble rfl)
    apply Wk.mv (by conv => lhs; whnf) (lt_of_ble rfl)
    apply Wk.gon 52 rfl rfl
    apply Wk.ld (i := 5) 9 true ty30 rfl rfl (by conv => lhs; whnf) (lt_of_ble rfl)
    apply Wk.gon 52 rfl rfl
    apply Wk.dat (sfrmb k s k2 p f y g l fs h3) Try.func17 rfl rfl rfl rfl rfl (lt_of_ble rfl)
    apply Wk.gon 52 rfl rfl
    apply Wk.un rfl (fun w => by simp [go_sem] <;> rfl) (lt_of_ble rfl)
    apply Wk.pckF rfl (by conv => lhs; whnf) (lt_of_ble rfl)
    apply Wk.mv (by conv => lhs; whnf) (lt_of_ble rfl)
    apply Wk.gon 57 rfl rfl
    apply Wk.fad 0 0 false fd30_0 rfl (lt_of_ble rfl)
    apply Wk.gon 57 rfl rfl
    apply Wk.ld (i := 5) 1 false ty3 rfl rfl (by conv => lhs; whnf) (lt_of_ble rfl)
    apply Wk.gon 57 rfl rfl
    apply Wk.bin rfl rfl (r := .bool false) (fun w => by simp [go_sem, h4]) (lt_of_ble rfl)
    apply Wk.pckF rfl (by conv => lhs; whnf) (lt_of_ble rfl)
    apply Wk.mv (by conv => lhs; whnf) (lt_of_ble rfl)
    apply Wk.gon 62 rfl rfl
    apply Wk.fad 1 0 false fd28_1 rfl (lt_of_ble rfl)
    apply Wk.gon 62 rfl rfl
    apply Wk.ld (i := 6) 1 false ty3 rfl rfl (by conv => lhs; whnf) (lt_of_ble rfl)
    apply Wk.gon 62 rfl rfl
    apply Wk.fad 1 0 false fd28_1 rfl (lt_of_ble rfl)
    apply Wk.gon 62 rfl rfl
    apply Wk.ld (i := 4) 1 false ty3 rfl rfl (by conv => lhs; whnf) (lt_of_ble rfl)
    apply Wk.gon 62 rfl rfl
    apply Wk.addi rfl rfl (by dsimp only; omega) (lt_of_ble rfl)
    apply Wk.gon 62 rfl rfl
    apply Wk.bin rfl rfl (r := .bool false) (fun w => by simp [go_sem, h5]) (lt_of_ble rfl)
    apply Wk.pckF rfl (by conv => lhs; whnf) (lt_of_ble rfl)
    refine Wk.nil ?_
    refine AW.cond rfl (fun hc => by cases hc) (fun _ => AW.skip (thenA_normal ?_))
    refine AW.seq ?_
    apply AW.list
    apply Wk.ld (i := 3) 5 true ty24 rfl rfl (by conv => lhs; whnf) (lt_of_ble rfl)
    apply Wk.ld (i := 6) 7 true ty28 rfl rfl (by conv => lhs; whnf) (lt_of_ble rfl)
    apply Wk.ld (i := 5) 9 true ty30 rfl rfl (by conv => lhs; whnf) (lt_of_ble rfl)
    apply Wk.dat hh3 Try.func9 rfl rfl rfl rfl rfl (lt_of_ble rfl)
    apply Wk.mv (by conv => lhs; whnf) (lt_of_ble rfl)
    apply Wk.ext rfl rfl (lt_of_ble rfl)
    apply Wk.ext rfl rfl (lt_of_ble rfl)
    apply Wk.ext rfl rfl (lt_of_ble rfl)
    apply Wk.alc 12 [.int .i64 0, .int .i64 0, .int .i64 0, .slice none 0 0, .bool false, .bool false, .bool false] ze28 rfl rfl (lt_of_ble rfl)
    apply Wk.sto (i := 12) 7 true ty28 rfl rfl rfl rfl (Nat.le_of_ble_eq_true rfl) (lt_of_ble rfl)
    apply Wk.asg (by conv => lhs; whnf) (lt_of_ble rfl)
    apply Wk.asg (by conv => lhs; whnf) (lt_of_ble rfl)
    refine Wk.nil ?_
    refine AW.seq ?_
    apply AW.list
    apply Wk.fad 1 0 false fd28_1 rfl (lt_of_ble rfl)
    apply Wk.ld (i := 12) 1 false ty3 rfl rfl (by conv => lhs; whnf) (lt_of_ble rfl)
    apply Wk.fad 1 0 false fd28_1 rfl (lt_of_ble rfl)
    apply Wk.ld (i := 6) 1 false ty3 rfl rfl (by conv => lhs; whnf) (lt_of_ble rfl)
    apply Wk.bin rfl rfl (r := .bool true) (fun w => by simp [go_sem, t1]) (lt_of_ble rfl)
    apply Wk.mv (by conv => lhs; whnf) (lt_of_ble rfl)
    apply Wk.gon 84 rfl rfl
    apply Wk.mv (by conv => lhs; whnf) (lt_of_ble rfl)
    apply Wk.gon 84 rfl rfl
    apply Wk.len un33 rfl (lt_of_ble rfl)
    apply Wk.gon 84 rfl rfl
    apply Wk.bin rfl rfl (r := .bool true) (fun w => by simp [go_sem]) (lt_of_ble rfl)
    apply Wk.pckT rfl (by conv => lhs; whnf) (lt_of_ble rfl)
    apply Wk.mv (by conv => lhs; whnf) (lt_of_ble rfl)
    apply Wk.gon 89 rfl rfl
    apply Wk.fad 2 1 true fd28_2 rfl (lt_of_ble rfl)
    apply Wk.gon 89 rfl rfl
    apply Wk.ld (i := 12) 2 true ty26 rfl rfl (by conv => lhs; whnf) (lt_of_ble rfl)
    apply Wk.gon 89 rfl rfl
    apply Wk.fad 2 1 true fd28_2 rfl (lt_of_ble rfl)
    apply Wk.gon 89 rfl rfl
    apply Wk.ld (i := 6) 2 true ty26 rfl rfl (by conv => lhs; whnf) (lt_of_ble rfl)
    apply Wk.gon 89 rfl rfl
    apply Wk.dat (liJoinE t3 t4) Try.func19 rfl rfl rfl rfl rfl (lt_of_ble rfl)
    apply Wk.pckT rfl (by conv => lhs; whnf) (lt_of_ble rfl)
    apply Wk.mv (by conv => lhs; whnf) (lt_of_ble rfl)
    apply Wk.gon 96 rfl rfl
    apply Wk.fad 6 0 false fd28_5 rfl (lt_of_ble rfl)
    apply Wk.gon 96 rfl rfl
    apply Wk.ld (i := 12) 1 false ty4 rfl rfl (by conv => lhs; whnf) (lt_of_ble rfl)
    apply Wk.gon 96 rfl rfl
    apply Wk.un rfl (r := .bool true) (fun w => by simp [go_sem, t5]) (lt_of_ble rfl)
    apply Wk.pckT rfl (by conv => lhs; whnf) (lt_of_ble rfl)
    apply Wk.asg (by conv => lhs; whnf) (lt_of_ble rfl)
    refine Wk.nil (AW.ret ?_)
    exact RetQ.ret [] (.cons rfl .nil) ⟨rfl, rfl⟩ none_kept
namespace fnRxTwice
set_option maxRecDepth 100000 in
theorem walk (a0 : Option Addr) (len0 cap0 : Nat) (z0 : List Int) (w : World) (w0 : IsRow .u8 w a0 len0 cap0 z0) :
    Calls Try.prog 5 #[.slice a0 len0 cap0] w fun e w' => e = .returned (.bool true) ∧ Below w.heap.size w w' := by
  by_cases hs0 : (1048576 : Int) < (len0 : Int)
  · go_enter Try.func5, Try.ntmps5
    go_wp2
    go_ret
    exact ⟨rfl, Below.refl _ _⟩
  obtain ⟨cz, hR0, _⟩ := w0.rd (by omega)
  obtain ⟨zs, rfl⟩ := byt_fin hR0.1
  exact (lawRxTwice_ok zs).run hR0
end fnRxTwice
end Go.Proofs.Ytlmadcpoaedagaa
