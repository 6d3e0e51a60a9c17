/- The law FnRxMany (promise 100: who hears nothing that comes next takes nothing) returns true at every two codes. -/
import Derived.Test.YtlmadcpoaedagaaMa
import Derived.Test.YtlmadcpoaedagaaMb
import Derived.Test.YtlmadcpoaedagaaMc
import Derived.Test.YtlmadcpoaedagaaMd
import Derived.Test.YtlmadcpoaedagaaMe
import Derived.RowKit3
namespace Go.Proofs.Ytlmadcpoaedagaa
open Go Go.RowKit
theorem DataOk.run2 {P : Program} {f : FuncId} {s u v : Value} {w : World} {zs ys : List Nat} (h : DataOk P f [.d (bytesD zs), .d (bytesD ys)] (.d (.v v))) (hR : Rd w s zs) (hR' : Rd w u ys) : Calls P f #[s, u] w fun e w' => e = .returned v ∧ Below w.heap.size w w' := by
  have hpo : PreOk w (· < w.heap.size) (fun _ => none) (fun _ _ => none) [] :=
    ⟨fun b hb => hb, (fun i x hx => by cases hx), (fun i x b hx => by cases hx), (fun i j x y b _ hx => by cases hx), fun i _ => ⟨rfl, fun _ => rfl⟩⟩
  refine (h w (· < w.heap.size) (fun _ => none) (fun _ _ => none) #[s, u] hpo rfl (fun i a ha => ?_)).mono ?_
  · match i with
    | 0 => obtain rfl := Option.some.inj ha; exact .d _ _ (rd_den hR fun b hb => hb)
    | 1 => obtain rfl := Option.some.inj ha; exact .d _ _ (rd_den hR' fun b hb => hb)
    | _ + 2 => simp at ha
  · rintro e w' ⟨v', r, bs', F', E', H', rfl, ⟨rfl, rfl⟩, po, hden⟩
    rw [den_v hden]
    exact ⟨rfl, po.os, po.tape, po.output, po.size, fun b hb => po.old b hb (fun i x hx => by cases hx)⟩
def cfgC (m w s t y : Int) : List A := [.d (.v (.int .i64 m)), .d (.v (.int .i64 w)), .d (.v (.int .i64 s)), .d (.v (.int .i64 t)), .d (.v (.int .i64 y))]
def frC (f : FR) : List A := frmO f.k f.s f.c f.p f.f f.y f.g f.l (.d (fbytes f.bs))
set_option maxHeartbeats 8000000 in
set_option maxRecDepth 100000 in
theorem lawRxMany_ok (zs ys : List (Fin 256)) (hz : zs.length ≤ 1048576) (hz' : ys.length ≤ 1048576) : DataOk Try.prog 7 [.d (bytesD (zs.map (·.val))), .d (bytesD (ys.map (·.val)))] (.d (.v (.bool true))) := by
  refine Spec.intro (n := 154) (rv := [.tmp 4]) Try.func7 rfl rfl rfl (by simp) fun C hN hX => ?_
  refine AW.seq ?_
  apply AW.list
  apply Wk.asg (by conv => lhs; whnf) (lt_of_ble rfl)
  refine Wk.nil ?_
  refine AW.seq (AW.seq ?_)
  apply AW.list
  apply Wk.mv (by conv => lhs; whnf) (lt_of_ble rfl)
  apply Wk.len un22 rfl (lt_of_ble rfl)
  apply Wk.bin rfl rfl (r := .bool false) (fun w => by simp [go_sem] <;> omega) (lt_of_ble rfl)
  apply Wk.mv (by conv => lhs; whnf) (lt_of_ble rfl)
  apply Wk.gon 27 rfl rfl
  apply Wk.mv (by conv => lhs; whnf) (lt_of_ble rfl)
  apply Wk.gon 27 rfl rfl
  apply Wk.len un22 rfl (lt_of_ble rfl)
  apply Wk.gon 27 rfl rfl
  apply Wk.bin rfl rfl (r := .bool false) (fun w => by simp [go_sem] <;> omega) (lt_of_ble rfl)
  apply Wk.pckF rfl (by conv => lhs; whnf) (lt_of_ble rfl)
  refine Wk.nil ?_
  refine AW.cond rfl (fun hc => by cases hc) (fun _ => AW.skip (thenA_normal ?_))
  refine AW.seq ?_
  apply AW.list
  apply Wk.mv (by conv => lhs; whnf) (lt_of_ble rfl)
  apply Wk.datw (drawHear_ok zs) Try.func8 rfl rfl rfl rfl (lt_of_ble rfl)
  rintro _ ⟨⟨m0, w0, s0, t0, y0⟩, ⟨e, c, m, bs, a, u, d⟩, ⟨k, s, k2, p, f, y, g, l, fs⟩, rfl, hbl, hfl, hk, hs, hk2, hy, hg, hl, he, hc9, hm⟩
  apply Wk.mv (by conv => lhs; whnf) (lt_of_ble rfl)
  apply Wk.ext rfl rfl (lt_of_ble rfl)
  apply Wk.ext rfl rfl (lt_of_ble rfl)
  apply Wk.ext rfl rfl (lt_of_ble rfl)
  apply Wk.alc 5 [.int .i64 0, .int .i64 0, .int .i64 0, .int .i64 0, .int .i64 0] ze24 rfl rfl (lt_of_ble rfl)
  apply Wk.alc 6 [.int .i64 0, .int .i64 0, .int .i64 0, .slice none 0 0, .bool false, .bool false, .bool false] ze28 rfl rfl (lt_of_ble rfl)
  apply Wk.alc 7 [.int .i64 0, .int .i64 0, .int .i64 0, .bool false, .bool false, .int .i64 0, .int .i64 0, .int .i64 0, .slice none 0 0] ze30 rfl rfl (lt_of_ble rfl)
  apply Wk.sto (i := 5) 5 true ty24 rfl rfl rfl rfl (Nat.le_of_ble_eq_true rfl) (lt_of_ble rfl)
  apply Wk.sto (i := 6) 7 true ty28 rfl rfl rfl rfl (Nat.le_of_ble_eq_true rfl) (lt_of_ble rfl)
  apply Wk.sto (i := 7) 9 true ty30 rfl rfl rfl rfl (Nat.le_of_ble_eq_true rfl) (lt_of_ble rfl)
  refine Wk.nil ?_
  simp only at hbl hfl he hc9 hm
  have hf : (FR.mk k s k2 p f y g l fs).bs.length ≤ 1000 := by simp only; omega
  refine AW.seq ?_
  apply AW.list
  apply Wk.mv (by conv => lhs; whnf) (lt_of_ble rfl)
  apply Wk.datw (drawHear_ok ys) Try.func8 rfl rfl rfl rfl (lt_of_ble rfl)
  rintro _ ⟨⟨m9, w9, v9, t9, z9⟩, ⟨e9, q9, n9, bs9, a9, u9, d9⟩, ⟨k9, s9, c9, p9, f9, y9, g9, l9, gs⟩, rfl, _, hgl, _⟩
  apply Wk.mv (by conv => lhs; whnf) (lt_of_ble rfl)
  apply Wk.ext rfl rfl (lt_of_ble rfl)
  apply Wk.ext rfl rfl (lt_of_ble rfl)
  apply Wk.ext rfl rfl (lt_of_ble rfl)
  apply Wk.alc 8 [.int .i64 0, .int .i64 0, .int .i64 0, .int .i64 0, .int .i64 0] ze24 rfl rfl (lt_of_ble rfl)
  apply Wk.alc 9 [.int .i64 0, .int .i64 0, .int .i64 0, .slice none 0 0, .bool false, .bool false, .bool false] ze28 rfl rfl (lt_of_ble rfl)
  apply Wk.alc 10 [.int .i64 0, .int .i64 0, .int .i64 0, .bool false, .bool false, .int .i64 0, .int .i64 0, .int .i64 0, .slice none 0 0] ze30 rfl rfl (lt_of_ble rfl)
  apply Wk.sto (i := 8) 5 true ty24 rfl rfl rfl rfl (Nat.le_of_ble_eq_true rfl) (lt_of_ble rfl)
  apply Wk.sto (i := 9) 7 true ty28 rfl rfl rfl rfl (Nat.le_of_ble_eq_true rfl) (lt_of_ble rfl)
  apply Wk.sto (i := 10) 9 true ty30 rfl rfl rfl rfl (Nat.le_of_ble_eq_true rfl) (lt_of_ble rfl)
  refine Wk.nil ?_
  simp only at hgl
  have hgf : (FR.mk k9 s9 c9 p9 f9 y9 g9 l9 gs).bs.length ≤ 1000 := by simp only; omega
  obtain ⟨h, hh⟩ : ∃ h, hearF ⟨m0, w0, s0, t0, y0⟩ ⟨e, c, m, bs, a, u, d⟩ ⟨k, s, k2, p, f, y, g, l, fs⟩ = h := ⟨_, rfl⟩
  have hh1 := ihearb ⟨m0, w0, s0, t0, y0⟩ ⟨e, c, m, bs, a, u, d⟩ ⟨k, s, k2, p, f, y, g, l, fs⟩ hbl hf hh
  have hh2 := shearb ⟨m0, w0, s0, t0, y0⟩ ⟨e, c, m, bs, a, u, d⟩ ⟨k, s, k2, p, f, y, g, l, fs⟩ hbl hh
  obtain ⟨⟨e1, c1, m1, bs1, a1, u1, d1⟩, sd, sy⟩ := h
  refine AW.seq ?_
  apply AW.list
  apply Wk.ld (i := 5) 5 true ty24 rfl rfl (by conv => lhs; whnf) (lt_of_ble rfl)
  apply Wk.ld (i := 6) 7 true ty28 rfl rfl (by conv => lhs; whnf) (lt_of_ble rfl)
  apply Wk.ld (i := 7) 9 true ty30 rfl rfl (by conv => lhs; whnf) (lt_of_ble rfl)
  apply Wk.dat hh1 Try.func9 rfl rfl rfl rfl rfl (lt_of_ble rfl)
  apply Wk.mv (by conv => lhs; whnf) (lt_of_ble rfl)
  apply Wk.ext rfl rfl (lt_of_ble rfl)
  apply Wk.ext rfl rfl (lt_of_ble rfl)
  apply Wk.ext rfl rfl (lt_of_ble rfl)
  apply Wk.alc 11 [.int .i64 0, .int .i64 0, .int .i64 0, .slice none 0 0, .bool false, .bool false, .bool false] ze28 rfl rfl (lt_of_ble rfl)
  apply Wk.sto (i := 11) 7 true ty28 rfl rfl rfl rfl (Nat.le_of_ble_eq_true rfl) (lt_of_ble rfl)
  apply Wk.asg (by conv => lhs; whnf) (lt_of_ble rfl)
  apply Wk.asg (by conv => lhs; whnf) (lt_of_ble rfl)
  refine Wk.nil ?_
  refine AW.seq ?_
  apply AW.list
  apply Wk.ld (i := 5) 5 true ty24 rfl rfl (by conv => lhs; whnf) (lt_of_ble rfl)
  apply Wk.ld (i := 6) 7 true ty28 rfl rfl (by conv => lhs; whnf) (lt_of_ble rfl)
  apply Wk.ld (i := 7) 9 true ty30 rfl rfl (by conv => lhs; whnf) (lt_of_ble rfl)
  apply Wk.dat hh2 Try.func10 rfl rfl rfl rfl rfl (lt_of_ble rfl)
  apply Wk.mv (by conv => lhs; whnf) (lt_of_ble rfl)
  apply Wk.ext rfl rfl (lt_of_ble rfl)
  apply Wk.ext rfl rfl (lt_of_ble rfl)
  apply Wk.ext rfl rfl (lt_of_ble rfl)
  apply Wk.alc 14 [.int .i64 0, .int .i64 0, .int .i64 0, .slice none 0 0, .bool false, .bool false, .bool false] ze28 rfl rfl (lt_of_ble rfl)
  apply Wk.sto (i := 14) 7 true ty28 rfl rfl rfl rfl (Nat.le_of_ble_eq_true rfl) (lt_of_ble rfl)
  apply Wk.asg (by conv => lhs; whnf) (lt_of_ble rfl)
  apply Wk.asg (by conv => lhs; whnf) (lt_of_ble rfl)
  refine Wk.nil ?_
  refine AW.seq (AW.seq ?_)
  apply AW.list
  apply Wk.ld (i := 11) 7 true ty28 rfl rfl (by conv => lhs; whnf) (lt_of_ble rfl)
  apply Wk.ld (i := 14) 7 true ty28 rfl rfl (by conv => lhs; whnf) (lt_of_ble rfl)
  apply Wk.dat (liRx_ok e1 c1 m1 bs1 a1 u1 d1) Try.func11 rfl rfl rfl rfl rfl (lt_of_ble rfl)
  apply Wk.un rfl (fun w => by simp [go_sem] <;> rfl) (lt_of_ble rfl)
  refine Wk.nil ?_
  refine AW.cond rfl (fun hc => by cases hc) (fun _ => AW.skip (thenA_normal ?_))
  refine AW.seq (AW.seq ?_)
  cases h1 : Opt.ok ⟨m0, w0, s0, t0, y0⟩
  · apply AW.list
    apply Wk.ld (i := 5) 5 true ty24 rfl rfl (by conv => lhs; whnf) (lt_of_ble rfl)
    apply Wk.dat (scfgb m0 w0 s0 t0 y0 h1) Try.func16 rfl rfl rfl rfl rfl (lt_of_ble rfl)
    apply Wk.un rfl (fun w => by simp [go_sem] <;> rfl) (lt_of_ble rfl)
    apply Wk.mv (by conv => lhs; whnf) (lt_of_ble rfl)
    apply Wk.goff 67 (ok_load 6 ty28) rfl rfl (by simp)
    apply Wk.goff 67 (ok_datw ((srx_ok e c m bs a u d).w rfl) Try.func15 rfl rfl) rfl rfl (by simp)
    apply Wk.goff 67 (ok_un _ _ _) rfl rfl (by simp)
    apply Wk.pckT rfl (by conv => lhs; whnf) (lt_of_ble rfl)
    apply Wk.mv (by conv => lhs; whnf) (lt_of_ble rfl)
    apply Wk.goff 72 (ok_faddr fd28_4) rfl rfl (by simp)
    apply Wk.goff 72 (ok_load 6 ty4) rfl rfl (by simp)
    apply Wk.pckT rfl (by conv => lhs; whnf) (lt_of_ble rfl)
    apply Wk.mv (by conv => lhs; whnf) (lt_of_ble rfl)
    apply Wk.goff 76 (ok_load 7 ty30) rfl rfl (by simp)
    apply Wk.goff 76 (ok_datw ((sfrm_ok k s k2 p f y g l fs).w rfl) Try.func17 rfl rfl) rfl rfl (by simp)
    apply Wk.goff 76 (ok_un _ _ _) rfl rfl (by simp)
    apply Wk.pckT rfl (by conv => lhs; whnf) (lt_of_ble rfl)
    apply Wk.mv (by conv => lhs; whnf) (lt_of_ble rfl)
    apply Wk.goff 81 (ok_load 10 ty30) rfl rfl (by simp)
    apply Wk.goff 81 (ok_datw ((sfrm_ok k9 s9 c9 p9 f9 y9 g9 l9 gs).w rfl) Try.func17 rfl rfl) rfl rfl (by simp)
    apply Wk.goff 81 (ok_un _ _ _) rfl rfl (by simp)
    apply Wk.pckT rfl (by conv => lhs; whnf) (lt_of_ble rfl)
    apply Wk.mv (by conv => lhs; whnf) (lt_of_ble rfl)
    apply Wk.goff 86 (ok_faddr fd30_0) rfl rfl (by simp)
    apply Wk.goff 86 (ok_load 7 ty3) rfl rfl (by simp)
    apply Wk.goff 86 (ok_bin _ _ _ _ _) rfl rfl (by simp)
    apply Wk.pckT rfl (by conv => lhs; whnf) (lt_of_ble rfl)
    apply Wk.mv (by conv => lhs; whnf) (lt_of_ble rfl)
    apply Wk.goff 91 (ok_faddr fd30_0) rfl rfl (by simp)
    apply Wk.goff 91 (ok_load 10 ty3) rfl rfl (by simp)
    apply Wk.goff 91 (ok_bin _ _ _ _ _) rfl rfl (by simp)
    apply Wk.pckT rfl (by conv => lhs; whnf) (lt_of_ble rfl)
    apply Wk.mv (by conv => lhs; whnf) (lt_of_ble rfl)
    apply Wk.goff 96 (ok_faddr fd30_1) rfl rfl (by simp)
    apply Wk.goff 96 (ok_load 7 ty3) rfl rfl (by simp)
    apply Wk.goff 96 (ok_faddr fd28_0) rfl rfl (by simp)
    apply Wk.goff 96 (ok_load 6 ty3) rfl rfl (by simp)
    apply Wk.goff 96 (ok_bin _ _ _ _ _) rfl rfl (by simp)
    apply Wk.pckT rfl (by conv => lhs; whnf) (lt_of_ble rfl)
    apply Wk.mv (by conv => lhs; whnf) (lt_of_ble rfl)
    apply Wk.goff 103 (ok_faddr fd30_1) rfl rfl (by simp)
    apply Wk.goff 103 (ok_load 10 ty3) rfl rfl (by simp)
    apply Wk.goff 103 (ok_faddr fd28_0) rfl rfl (by simp)
    apply Wk.goff 103 (ok_load 6 ty3) rfl rfl (by simp)
    apply Wk.goff 103 (ok_bin _ _ _ _ _) rfl rfl (by simp)
    apply Wk.pckT rfl (by conv => lhs; whnf) (lt_of_ble rfl)
    refine Wk.nil ?_
    refine AW.cond rfl (fun _ => ?_) (fun hc => by cases hc)
    refine AW.seq ?_
    apply AW.list
    apply Wk.dat liok_ok Try.func18 rfl rfl rfl rfl rfl (lt_of_ble rfl)
    apply Wk.asg (by conv => lhs; whnf) (lt_of_ble rfl)
    refine Wk.nil (AW.ret ?_)
    refine thenA_ret ?_
    exact RetQ.ret [] (.cons rfl .nil) ⟨rfl, rfl⟩ none_kept
  cases h2 : rxB e c m bs.length
  · apply AW.list
    apply Wk.ld (i := 5) 5 true ty24 rfl rfl (by conv => lhs; whnf) (lt_of_ble rfl)
    apply Wk.dat (scfgb m0 w0 s0 t0 y0 h1) Try.func16 rfl rfl rfl rfl rfl (lt_of_ble rfl)
    apply Wk.un rfl (fun w => by simp [go_sem] <;> rfl) (lt_of_ble rfl)
    apply Wk.mv (by conv => lhs; whnf) (lt_of_ble rfl)
    apply Wk.gon 67 rfl rfl
    apply Wk.ld (i := 6) 7 true ty28 rfl rfl (by conv => lhs; whnf) (lt_of_ble rfl)
    apply Wk.gon 67 rfl rfl
    apply Wk.dat (srxb a u d h2) Try.func15 rfl rfl rfl rfl rfl (lt_of_ble rfl)
    apply Wk.gon 67 rfl rfl
    apply Wk.un rfl (fun w => by simp [go_sem] <;> rfl) (lt_of_ble rfl)
    apply Wk.pckF rfl (by conv => lhs; whnf) (lt_of_ble rfl)
    apply Wk.mv (by conv => lhs; whnf) (lt_of_ble rfl)
    apply Wk.goff 72 (ok_faddr fd28_4) rfl rfl (by simp)
    apply Wk.goff 72 (ok_load 6 ty4) rfl rfl (by simp)
    apply Wk.pckT rfl (by conv => lhs; whnf) (lt_of_ble rfl)
    apply Wk.mv (by conv => lhs; whnf) (lt_of_ble rfl)
    apply Wk.goff 76 (ok_load 7 ty30) rfl rfl (by simp)
    apply Wk.goff 76 (ok_datw ((sfrm_ok k s k2 p f y g l fs).w rfl) Try.func17 rfl rfl) rfl rfl (by simp)
    apply Wk.goff 76 (ok_un _ _ _) rfl rfl (by simp)
    apply Wk.pckT rfl (by conv => lhs; whnf) (lt_of_ble rfl)
    apply Wk.mv (by conv => lhs; whnf) (lt_of_ble rfl)
    apply Wk.goff 81 (ok_load 10 ty30) rfl rfl (by simp)
    apply Wk.goff 81 (ok_datw ((sfrm_ok k9 s9 c9 p9 f9 y9 g9 l9 gs).w rfl) Try.func17 rfl rfl) rfl rfl (by simp)
    apply Wk.goff 81 (ok_un _ _ _) rfl rfl (by simp)
    apply Wk.pckT rfl (by conv => lhs; whnf) (lt_of_ble rfl)
    apply Wk.mv (by conv => lhs; whnf) (lt_of_ble rfl)
    apply Wk.goff 86 (ok_faddr fd30_0) rfl rfl (by simp)
    apply Wk.goff 86 (ok_load 7 ty3) rfl rfl (by simp)
    apply Wk.goff 86 (ok_bin _ _ _ _ _) rfl rfl (by simp)
    apply Wk.pckT rfl (by conv => lhs; whnf) (lt_of_ble rfl)
    apply Wk.mv (by conv => lhs; whnf) (lt_of_ble rfl)
    apply Wk.goff 91 (ok_faddr fd30_0) rfl rfl (by simp)
    apply Wk.goff 91 (ok_load 10 ty3) rfl rfl (by simp)
    apply Wk.goff 91 (ok_bin _ _ _ _ _) rfl rfl (by simp)
    apply Wk.pckT rfl (by conv => lhs; whnf) (lt_of_ble rfl)
    apply Wk.mv (by conv => lhs; whnf) (lt_of_ble rfl)
    apply Wk.goff 96 (ok_faddr fd30_1) rfl rfl (by simp)
    apply Wk.goff 96 (ok_load 7 ty3) rfl rfl (by simp)
    apply Wk.goff 96 (ok_faddr fd28_0) rfl rfl (by simp)
    apply Wk.goff 96 (ok_load 6 ty3) rfl rfl (by simp)
    apply Wk.goff 96 (ok_bin _ _ _ _ _) rfl rfl (by simp)
    apply Wk.pckT rfl (by conv => lhs; whnf) (lt_of_ble rfl)
    apply Wk.mv (by conv => lhs; whnf) (lt_of_ble rfl)
    apply Wk.goff 103 (ok_faddr fd30_1) rfl rfl (by simp)
    apply Wk.goff 103 (ok_load 10 ty3) rfl rfl (by simp)
    apply Wk.goff 103 (ok_faddr fd28_0) rfl rfl (by simp)
    apply Wk.goff 103 (ok_load 6 ty3) rfl rfl (by simp)
    apply Wk.goff 103 (ok_bin _ _ _ _ _) rfl rfl (by simp)
    apply Wk.pckT rfl (by conv => lhs; whnf) (lt_of_ble rfl)
    refine Wk.nil ?_
    refine AW.cond rfl (fun _ => ?_) (fun hc => by cases hc)
    refine AW.seq ?_
    apply AW.list
    apply Wk.dat liok_ok Try.func18 rfl rfl rfl rfl rfl (lt_of_ble rfl)
    apply Wk.asg (by conv => lhs; whnf) (lt_of_ble rfl)
    refine Wk.nil (AW.ret ?_)
    refine thenA_ret ?_
    exact RetQ.ret [] (.cons rfl .nil) ⟨rfl, rfl⟩ none_kept
  cases u
  case true =>
    apply AW.list
    apply Wk.ld (i := 5) 5 true ty24 rfl rfl (by conv => lhs; whnf) (lt_of_ble rfl)
    apply Wk.dat (scfgb m0 w0 s0 t0 y0 h1) Try.func16 rfl rfl rfl rfl rfl (lt_of_ble rfl)
    apply Wk.un rfl (fun w => by simp [go_sem] <;> rfl) (lt_of_ble rfl)
    apply Wk.mv (by conv => lhs; whnf) (lt_of_ble rfl)
    apply Wk.gon 67 rfl rfl
    apply Wk.ld (i := 6) 7 true ty28 rfl rfl (by conv => lhs; whnf) (lt_of_ble rfl)
    apply Wk.gon 67 rfl rfl
    apply Wk.dat (srxb a true d h2) Try.func15 rfl rfl rfl rfl rfl (lt_of_ble rfl)
    apply Wk.gon 67 rfl rfl
    apply Wk.un rfl (fun w => by simp [go_sem] <;> rfl) (lt_of_ble rfl)
    apply Wk.pckF rfl (by conv => lhs; whnf) (lt_of_ble rfl)
    apply Wk.mv (by conv => lhs; whnf) (lt_of_ble rfl)
    apply Wk.gon 72 rfl rfl
    apply Wk.fad 5 0 false fd28_4 rfl (lt_of_ble rfl)
    apply Wk.gon 72 rfl rfl
    apply Wk.ld (i := 6) 1 false ty4 rfl rfl (by conv => lhs; whnf) (lt_of_ble rfl)
    apply Wk.pckF rfl (by conv => lhs; whnf) (lt_of_ble rfl)
    apply Wk.mv (by conv => lhs; whnf) (lt_of_ble rfl)
    apply Wk.goff 76 (ok_load 7 ty30) rfl rfl (by simp)
    apply Wk.goff 76 (ok_datw ((sfrm_ok k s k2 p f y g l fs).w rfl) Try.func17 rfl rfl) rfl rfl (by simp)
    apply Wk.goff 76 (ok_un _ _ _) rfl rfl (by simp)
    apply Wk.pckT rfl (by conv => lhs; whnf) (lt_of_ble rfl)
    apply Wk.mv (by conv => lhs; whnf) (lt_of_ble rfl)
    apply Wk.goff 81 (ok_load 10 ty30) rfl rfl (by simp)
    apply Wk.goff 81 (ok_datw ((sfrm_ok k9 s9 c9 p9 f9 y9 g9 l9 gs).w rfl) Try.func17 rfl rfl) rfl rfl (by simp)
    apply Wk.goff 81 (ok_un _ _ _) rfl rfl (by simp)
    apply Wk.pckT rfl (by conv => lhs; whnf) (lt_of_ble rfl)
    apply Wk.mv (by conv => lhs; whnf) (lt_of_ble rfl)
    apply Wk.goff 86 (ok_faddr fd30_0) rfl rfl (by simp)
    apply Wk.goff 86 (ok_load 7 ty3) rfl rfl (by simp)
    apply Wk.goff 86 (ok_bin _ _ _ _ _) rfl rfl (by simp)
    apply Wk.pckT rfl (by conv => lhs; whnf) (lt_of_ble rfl)
    apply Wk.mv (by conv => lhs; whnf) (lt_of_ble rfl)
    apply Wk.goff 91 (ok_faddr fd30_0) rfl rfl (by simp)
    apply Wk.goff 91 (ok_load 10 ty3) rfl rfl (by simp)
    apply Wk.goff 91 (ok_bin _ _ _ _ _) rfl rfl (by simp)
    apply Wk.pckT rfl (by conv => lhs; whnf) (lt_of_ble rfl)
    apply Wk.mv (by conv => lhs; whnf) (lt_of_ble rfl)
    apply Wk.goff 96 (ok_faddr fd30_1) rfl rfl (by simp)
    apply Wk.goff 96 (ok_load 7 ty3) rfl rfl (by simp)
    apply Wk.goff 96 (ok_faddr fd28_0) rfl rfl (by simp)
    apply Wk.goff 96 (ok_load 6 ty3) rfl rfl (by simp)
    apply Wk.goff 96 (ok_bin _ _ _ _ _) rfl rfl (by simp)
    apply Wk.pckT rfl (by conv => lhs; whnf) (lt_of_ble rfl)
    apply Wk.mv (by conv => lhs; whnf) (lt_of_ble rfl)
    apply Wk.goff 103 (ok_faddr fd30_1) rfl rfl (by simp)
    apply Wk.goff 103 (ok_load 10 ty3) rfl rfl (by simp)
    apply Wk.goff 103 (ok_faddr fd28_0) rfl rfl (by simp)
    apply Wk.goff 103 (ok_load 6 ty3) rfl rfl (by simp)
    apply Wk.goff 103 (ok_bin _ _ _ _ _) rfl rfl (by simp)
    apply Wk.pckT rfl (by conv => lhs; whnf) (lt_of_ble rfl)
    refine Wk.nil ?_
    refine AW.cond rfl (fun _ => ?_) (fun hc => by cases hc)
    refine AW.seq ?_
    apply AW.list
    apply Wk.dat liok_ok Try.func18 rfl rfl rfl rfl rfl (lt_of_ble rfl)
    apply Wk.asg (by conv => lhs; whnf) (lt_of_ble rfl)
    refine Wk.nil (AW.ret ?_)
    refine thenA_ret ?_
    exact RetQ.ret [] (.cons rfl .nil) ⟨rfl, rfl⟩ none_kept
  case false =>
  cases h3 : frmB k s k2 p f y g l fs.length
  · apply AW.list
    apply Wk.ld (i := 5) 5 true ty24 rfl rfl (by conv => lhs; whnf) (lt_of_ble rfl)
    apply Wk.dat (scfgb m0 w0 s0 t0 y0 h1) Try.func16 rfl rfl rfl rfl rfl (lt_of_ble rfl)
    apply Wk.un rfl (fun w => by simp [go_sem] <;> rfl) (lt_of_ble rfl)
    apply Wk.mv (by conv => lhs; whnf) (lt_of_ble rfl)
    apply Wk.gon 67 rfl rfl
    apply Wk.ld (i := 6) 7 true ty28 rfl rfl (by conv => lhs; whnf) (lt_of_ble rfl)
    apply Wk.gon 67 rfl rfl
    apply Wk.dat (srxb a false d h2) Try.func15 rfl rfl rfl rfl rfl (lt_of_ble rfl)
    apply Wk.gon 67 rfl rfl
    apply Wk.un rfl (fun w => by simp [go_sem] <;> rfl) (lt_of_ble rfl)
    apply Wk.pckF rfl (by conv => lhs; whnf) (lt_of_ble rfl)
    apply Wk.mv (by conv => lhs; whnf) (lt_of_ble rfl)
    apply Wk.gon 72 rfl rfl
    apply Wk.fad 5 0 false fd28_4 rfl (lt_of_ble rfl)
    apply Wk.gon 72 rfl rfl
    apply Wk.ld (i := 6) 1 false ty4 rfl rfl (by conv => lhs; whnf) (lt_of_ble rfl)
    apply Wk.pckF rfl (by conv => lhs; whnf) (lt_of_ble rfl)
    apply Wk.mv (by conv => lhs; whnf) (lt_of_ble rfl)
    apply Wk.gon 76 rfl rfl
    apply Wk.ld (i := 7) 9 true ty30 rfl rfl (by conv => lhs; whnf) (lt_of_ble rfl)
    apply Wk.gon 76 rfl rfl
    apply Wk.dat (sfrmb k s k2 p f y g l fs h3) Try.func17 rfl rfl rfl rfl rfl (lt_of_ble rfl)
    apply Wk.gon 76 rfl rfl
    apply Wk.un rfl (fun w => by simp [go_sem] <;> rfl) (lt_of_ble rfl)
    apply Wk.pckF rfl (by conv => lhs; whnf) (lt_of_ble rfl)
    apply Wk.mv (by conv => lhs; whnf) (lt_of_ble rfl)
    apply Wk.goff 81 (ok_load 10 ty30) rfl rfl (by simp)
    apply Wk.goff 81 (ok_datw ((sfrm_ok k9 s9 c9 p9 f9 y9 g9 l9 gs).w rfl) Try.func17 rfl rfl) rfl rfl (by simp)
    apply Wk.goff 81 (ok_un _ _ _) rfl rfl (by simp)
    apply Wk.pckT rfl (by conv => lhs; whnf) (lt_of_ble rfl)
    apply Wk.mv (by conv => lhs; whnf) (lt_of_ble rfl)
    apply Wk.goff 86 (ok_faddr fd30_0) rfl rfl (by simp)
    apply Wk.goff 86 (ok_load 7 ty3) rfl rfl (by simp)
    apply Wk.goff 86 (ok_bin _ _ _ _ _) rfl rfl (by simp)
    apply Wk.pckT rfl (by conv => lhs; whnf) (lt_of_ble rfl)
    apply Wk.mv (by conv => lhs; whnf) (lt_of_ble rfl)
    apply Wk.goff 91 (ok_faddr fd30_0) rfl rfl (by simp)
    apply Wk.goff 91 (ok_load 10 ty3) rfl rfl (by simp)
    apply Wk.goff 91 (ok_bin _ _ _ _ _) rfl rfl (by simp)
    apply Wk.pckT rfl (by conv => lhs; whnf) (lt_of_ble rfl)
    apply Wk.mv (by conv => lhs; whnf) (lt_of_ble rfl)
    apply Wk.goff 96 (ok_faddr fd30_1) rfl rfl (by simp)
    apply Wk.goff 96 (ok_load 7 ty3) rfl rfl (by simp)
    apply Wk.goff 96 (ok_faddr fd28_0) rfl rfl (by simp)
    apply Wk.goff 96 (ok_load 6 ty3) rfl rfl (by simp)
    apply Wk.goff 96 (ok_bin _ _ _ _ _) rfl rfl (by simp)
    apply Wk.pckT rfl (by conv => lhs; whnf) (lt_of_ble rfl)
    apply Wk.mv (by conv => lhs; whnf) (lt_of_ble rfl)
    apply Wk.goff 103 (ok_faddr fd30_1) rfl rfl (by simp)
    apply Wk.goff 103 (ok_load 10 ty3) rfl rfl (by simp)
    apply Wk.goff 103 (ok_faddr fd28_0) rfl rfl (by simp)
    apply Wk.goff 103 (ok_load 6 ty3) rfl rfl (by simp)
    apply Wk.goff 103 (ok_bin _ _ _ _ _) rfl rfl (by simp)
    apply Wk.pckT rfl (by conv => lhs; whnf) (lt_of_ble rfl)
    refine Wk.nil ?_
    refine AW.cond rfl (fun _ => ?_) (fun hc => by cases hc)
    refine AW.seq ?_
    apply AW.list
    apply Wk.dat liok_ok Try.func18 rfl rfl rfl rfl rfl (lt_of_ble rfl)
    apply Wk.asg (by conv => lhs; whnf) (lt_of_ble rfl)
    refine Wk.nil (AW.ret ?_)
    refine thenA_ret ?_
    exact RetQ.ret [] (.cons rfl .nil) ⟨rfl, rfl⟩ none_kept
  cases h4 : frmB k9 s9 c9 p9 f9 y9 g9 l9 gs.length
  · apply AW.list
    apply Wk.ld (i := 5) 5 true ty24 rfl rfl (by conv => lhs; whnf) (lt_of_ble rfl)
    apply Wk.dat (scfgb m0 w0 s0 t0 y0 h1) Try.func16 rfl rfl rfl rfl rfl (lt_of_ble rfl)
    apply Wk.un rfl (fun w => by simp [go_sem] <;> rfl) (lt_of_ble rfl)
    apply Wk.mv (by conv => lhs; whnf) (lt_of_ble rfl)
    apply Wk.gon 67 rfl rfl
    apply Wk.ld (i := 6) 7 true ty28 rfl rfl (by conv => lhs; whnf) (lt_of_ble rfl)
    apply Wk.gon 67 rfl rfl
    apply Wk.dat (srxb a false d h2) Try.func15 rfl rfl rfl rfl rfl (lt_of_ble rfl)
    apply Wk.gon 67 rfl rfl
    apply Wk.un rfl (fun w => by simp [go_sem] <;> rfl) (lt_of_ble rfl)
    apply Wk.pckF rfl (by conv => lhs; whnf) (lt_of_ble rfl)
    apply Wk.mv (by conv => lhs; whnf) (lt_of_ble rfl)
    apply Wk.gon 72 rfl rfl
    apply Wk.fad 5 0 false fd28_4 rfl (lt_of_ble rfl)
    apply Wk.gon 72 rfl rfl
    apply Wk.ld (i := 6) 1 false ty4 rfl rfl (by conv => lhs; whnf) (lt_of_ble rfl)
    apply Wk.pckF rfl (by conv => lhs; whnf) (lt_of_ble rfl)
    apply Wk.mv (by conv => lhs; whnf) (lt_of_ble rfl)
    apply Wk.gon 76 rfl rfl
    apply Wk.ld (i := 7) 9 true ty30 rfl rfl (by conv => lhs; whnf) (lt_of_ble rfl)
    apply Wk.gon 76 rfl rfl
    apply Wk.dat (sfrmb k s k2 p f y g l fs h3) Try.func17 rfl rfl rfl rfl rfl (lt_of_ble rfl)
    apply Wk.gon 76 rfl rfl
    apply Wk.un rfl (fun w => by simp [go_sem] <;> rfl) (lt_of_ble rfl)
    apply Wk.pckF rfl (by conv => lhs; whnf) (lt_of_ble rfl)
    apply Wk.mv (by conv => lhs; whnf) (lt_of_ble rfl)
    apply Wk.gon 81 rfl rfl
    apply Wk.ld (i := 10) 9 true ty30 rfl rfl (by conv => lhs; whnf) (lt_of_ble rfl)
    apply Wk.gon 81 rfl rfl
    apply Wk.dat (sfrmb k9 s9 c9 p9 f9 y9 g9 l9 gs h4) Try.func17 rfl rfl rfl rfl rfl (lt_of_ble rfl)
    apply Wk.gon 81 rfl rfl
    apply Wk.un rfl (fun w => by simp [go_sem] <;> rfl) (lt_of_ble rfl)
    apply Wk.pckF rfl (by conv => lhs; whnf) (lt_of_ble rfl)
    apply Wk.mv (by conv => lhs; whnf) (lt_of_ble rfl)
    apply Wk.goff 86 (ok_faddr fd30_0) rfl rfl (by simp)
    apply Wk.goff 86 (ok_load 7 ty3) rfl rfl (by simp)
    apply Wk.goff 86 (ok_bin _ _ _ _ _) rfl rfl (by simp)
    apply Wk.pckT rfl (by conv => lhs; whnf) (lt_of_ble rfl)
    apply Wk.mv (by conv => lhs; whnf) (lt_of_ble rfl)
    apply Wk.goff 91 (ok_faddr fd30_0) rfl rfl (by simp)
    apply Wk.goff 91 (ok_load 10 ty3) rfl rfl (by simp)
    apply Wk.goff 91 (ok_bin _ _ _ _ _) rfl rfl (by simp)
    apply Wk.pckT rfl (by conv => lhs; whnf) (lt_of_ble rfl)
    apply Wk.mv (by conv => lhs; whnf) (lt_of_ble rfl)
    apply Wk.goff 96 (ok_faddr fd30_1) rfl rfl (by simp)
    apply Wk.goff 96 (ok_load 7 ty3) rfl rfl (by simp)
    apply Wk.goff 96 (ok_faddr fd28_0) rfl rfl (by simp)
    apply Wk.goff 96 (ok_load 6 ty3) rfl rfl (by simp)
    apply Wk.goff 96 (ok_bin _ _ _ _ _) rfl rfl (by simp)
    apply Wk.pckT rfl (by conv => lhs; whnf) (lt_of_ble rfl)
    apply Wk.mv (by conv => lhs; whnf) (lt_of_ble rfl)
    apply Wk.goff 103 (ok_faddr fd30_1) rfl rfl (by simp)
    apply Wk.goff 103 (ok_load 10 ty3) rfl rfl (by simp)
    apply Wk.goff 103 (ok_faddr fd28_0) rfl rfl (by simp)
    apply Wk.goff 103 (ok_load 6 ty3) rfl rfl (by simp)
    apply Wk.goff 103 (ok_bin _ _ _ _ _) rfl rfl (by simp)
    apply Wk.pckT rfl (by conv => lhs; whnf) (lt_of_ble rfl)
    refine Wk.nil ?_
    refine AW.cond rfl (fun _ => ?_) (fun hc => by cases hc)
    refine AW.seq ?_
    apply AW.list
    apply Wk.dat liok_ok Try.func18 rfl rfl rfl rfl rfl (lt_of_ble rfl)
    apply Wk.asg (by conv => lhs; whnf) (lt_of_ble rfl)
    refine Wk.nil (AW.ret ?_)
    refine thenA_ret ?_
    exact RetQ.ret [] (.cons rfl .nil) ⟨rfl, rfl⟩ none_kept
  by_cases h5 : k = 1
  case neg =>
    apply AW.list
    apply Wk.ld (i := 5) 5 true ty24 rfl rfl (by conv => lhs; whnf) (lt_of_ble rfl)
    apply Wk.dat (scfgb m0 w0 s0 t0 y0 h1) Try.func16 rfl rfl rfl rfl rfl (lt_of_ble rfl)
    apply Wk.un rfl (fun w => by simp [go_sem] <;> rfl) (lt_of_ble rfl)
    apply Wk.mv (by conv => lhs; whnf) (lt_of_ble rfl)
    apply Wk.gon 67 rfl rfl
    apply Wk.ld (i := 6) 7 true ty28 rfl rfl (by conv => lhs; whnf) (lt_of_ble rfl)
    apply Wk.gon 67 rfl rfl
    apply Wk.dat (srxb a false d h2) Try.func15 rfl rfl rfl rfl rfl (lt_of_ble rfl)
    apply Wk.gon 67 rfl rfl
    apply Wk.un rfl (fun w => by simp [go_sem] <;> rfl) (lt_of_ble rfl)
    apply Wk.pckF rfl (by conv => lhs; whnf) (lt_of_ble rfl)
    apply Wk.mv (by conv => lhs; whnf) (lt_of_ble rfl)
    apply Wk.gon 72 rfl rfl
    apply Wk.fad 5 0 false fd28_4 rfl (lt_of_ble rfl)
    apply Wk.gon 72 rfl rfl
    apply Wk.ld (i := 6) 1 false ty4 rfl rfl (by conv => lhs; whnf) (lt_of_ble rfl)
    apply Wk.pckF rfl (by conv => lhs; whnf) (lt_of_ble rfl)
    apply Wk.mv (by conv => lhs; whnf) (lt_of_ble rfl)
    apply Wk.gon 76 rfl rfl
    apply Wk.ld (i := 7) 9 true ty30 rfl rfl (by conv => lhs; whnf) (lt_of_ble rfl)
    apply Wk.gon 76 rfl rfl
    apply Wk.dat (sfrmb k s k2 p f y g l fs h3) Try.func17 rfl rfl rfl rfl rfl (lt_of_ble rfl)
    apply Wk.gon 76 rfl rfl
    apply Wk.un rfl (fun w => by simp [go_sem] <;> rfl) (lt_of_ble rfl)
    apply Wk.pckF rfl (by conv => lhs; whnf) (lt_of_ble rfl)
    apply Wk.mv (by conv => lhs; whnf) (lt_of_ble rfl)
    apply Wk.gon 81 rfl rfl
    apply Wk.ld (i := 10) 9 true ty30 rfl rfl (by conv => lhs; whnf) (lt_of_ble rfl)
    apply Wk.gon 81 rfl rfl
    apply Wk.dat (sfrmb k9 s9 c9 p9 f9 y9 g9 l9 gs h4) Try.func17 rfl rfl rfl rfl rfl (lt_of_ble rfl)
    apply Wk.gon 81 rfl rfl
    apply Wk.un rfl (fun w => by simp [go_sem] <;> rfl) (lt_of_ble rfl)
    apply Wk.pckF rfl (by conv => lhs; whnf) (lt_of_ble rfl)
    apply Wk.mv (by conv => lhs; whnf) (lt_of_ble rfl)
    apply Wk.gon 86 rfl rfl
    apply Wk.fad 0 0 false fd30_0 rfl (lt_of_ble rfl)
    apply Wk.gon 86 rfl rfl
    apply Wk.ld (i := 7) 1 false ty3 rfl rfl (by conv => lhs; whnf) (lt_of_ble rfl)
    apply Wk.gon 86 rfl rfl
    apply Wk.bin rfl rfl (r := .bool true) (fun w => by simp [go_sem, h5]) (lt_of_ble rfl)
    apply Wk.pckF rfl (by conv => lhs; whnf) (lt_of_ble rfl)
    apply Wk.mv (by conv => lhs; whnf) (lt_of_ble rfl)
    apply Wk.goff 91 (ok_faddr fd30_0) rfl rfl (by simp)
    apply Wk.goff 91 (ok_load 10 ty3) rfl rfl (by simp)
    apply Wk.goff 91 (ok_bin _ _ _ _ _) rfl rfl (by simp)
    apply Wk.pckT rfl (by conv => lhs; whnf) (lt_of_ble rfl)
    apply Wk.mv (by conv => lhs; whnf) (lt_of_ble rfl)
    apply Wk.goff 96 (ok_faddr fd30_1) rfl rfl (by simp)
    apply Wk.goff 96 (ok_load 7 ty3) rfl rfl (by simp)
    apply Wk.goff 96 (ok_faddr fd28_0) rfl rfl (by simp)
    apply Wk.goff 96 (ok_load 6 ty3) rfl rfl (by simp)
    apply Wk.goff 96 (ok_bin _ _ _ _ _) rfl rfl (by simp)
    apply Wk.pckT rfl (by conv => lhs; whnf) (lt_of_ble rfl)
    apply Wk.mv (by conv => lhs; whnf) (lt_of_ble rfl)
    apply Wk.goff 103 (ok_faddr fd30_1) rfl rfl (by simp)
    apply Wk.goff 103 (ok_load 10 ty3) rfl rfl (by simp)
    apply Wk.goff 103 (ok_faddr fd28_0) rfl rfl (by simp)
    apply Wk.goff 103 (ok_load 6 ty3) rfl rfl (by simp)
    apply Wk.goff 103 (ok_bin _ _ _ _ _) rfl rfl (by simp)
    apply Wk.pckT rfl (by conv => lhs; whnf) (lt_of_ble rfl)
    refine Wk.nil ?_
    refine AW.cond rfl (fun _ => ?_) (fun hc => by cases hc)
    refine AW.seq ?_
    apply AW.list
    apply Wk.dat liok_ok Try.func18 rfl rfl rfl rfl rfl (lt_of_ble rfl)
    apply Wk.asg (by conv => lhs; whnf) (lt_of_ble rfl)
    refine Wk.nil (AW.ret ?_)
    refine thenA_ret ?_
    exact RetQ.ret [] (.cons rfl .nil) ⟨rfl, rfl⟩ none_kept
  case pos =>
  by_cases h6 : k9 = 1
  case neg =>
    apply AW.list
    apply Wk.ld (i := 5) 5 true ty24 rfl rfl (by conv => lhs; whnf) (lt_of_ble rfl)
    apply Wk.dat (scfgb m0 w0 s0 t0 y0 h1) Try.func16 rfl rfl rfl rfl rfl (lt_of_ble rfl)
    apply Wk.un rfl (fun w => by simp [go_sem] <;> rfl) (lt_of_ble rfl)
    apply Wk.mv (by conv => lhs; whnf) (lt_of_ble rfl)
    apply Wk.gon 67 rfl rfl
    apply Wk.ld (i := 6) 7 true ty28 rfl rfl (by conv => lhs; whnf) (lt_of_ble rfl)
    apply Wk.gon 67 rfl rfl
    apply Wk.dat (srxb a false d h2) Try.func15 rfl rfl rfl rfl rfl (lt_of_ble rfl)
    apply Wk.gon 67 rfl rfl
    apply Wk.un rfl (fun w => by simp [go_sem] <;> rfl) (lt_of_ble rfl)
    apply Wk.pckF rfl (by conv => lhs; whnf) (lt_of_ble rfl)
    apply Wk.mv (by conv => lhs; whnf) (lt_of_ble rfl)
    apply Wk.gon 72 rfl rfl
    apply Wk.fad 5 0 false fd28_4 rfl (lt_of_ble rfl)
    apply Wk.gon 72 rfl rfl
    apply Wk.ld (i := 6) 1 false ty4 rfl rfl (by conv => lhs; whnf) (lt_of_ble rfl)
    apply Wk.pckF rfl (by conv => lhs; whnf) (lt_of_ble rfl)
    apply Wk.mv (by conv => lhs; whnf) (lt_of_ble rfl)
    apply Wk.gon 76 rfl rfl
    apply Wk.ld (i := 7) 9 true ty30 rfl rfl (by conv => lhs; whnf) (lt_of_ble rfl)
    apply Wk.gon 76 rfl rfl
    apply Wk.dat (sfrmb k s k2 p f y g l fs h3) Try.func17 rfl rfl rfl rfl rfl (lt_of_ble rfl)
    apply Wk.gon 76 rfl rfl
    apply Wk.un rfl (fun w => by simp [go_sem] <;> rfl) (lt_of_ble rfl)
    apply Wk.pckF rfl (by conv => lhs; whnf) (lt_of_ble rfl)
    apply Wk.mv (by conv => lhs; whnf) (lt_of_ble rfl)
    apply Wk.gon 81 rfl rfl
    apply Wk.ld (i := 10) 9 true ty30 rfl rfl (by conv => lhs; whnf) (lt_of_ble rfl)
    apply Wk.gon 81 rfl rfl
    apply Wk.dat (sfrmb k9 s9 c9 p9 f9 y9 g9 l9 gs h4) Try.func17 rfl rfl rfl rfl rfl (lt_of_ble rfl)
    apply Wk.gon 81 rfl rfl
    apply Wk.un rfl (fun w => by simp [go_sem] <;> rfl) (lt_of_ble rfl)
    apply Wk.pckF rfl (by conv => lhs; whnf) (lt_of_ble rfl)
    apply Wk.mv (by conv => lhs; whnf) (lt_of_ble rfl)
    apply Wk.gon 86 rfl rfl
    apply Wk.fad 0 0 false fd30_0 rfl (lt_of_ble rfl)
    apply Wk.gon 86 rfl rfl
    apply Wk.ld (i := 7) 1 false ty3 rfl rfl (by conv => lhs; whnf) (lt_of_ble rfl)
    apply Wk.gon 86 rfl rfl
    apply Wk.bin rfl rfl (r := .bool false) (fun w => by simp [go_sem, h5]) (lt_of_ble rfl)
    apply Wk.pckF rfl (by conv => lhs; whnf) (lt_of_ble rfl)
    apply Wk.mv (by conv => lhs; whnf) (lt_of_ble rfl)
    apply Wk.gon 91 rfl rfl
    apply Wk.fad 0 0 false fd30_0 rfl (lt_of_ble rfl)
    apply Wk.gon 91 rfl rfl
    apply Wk.ld (i := 10) 1 false ty3 rfl rfl (by conv => lhs; whnf) (lt_of_ble rfl)
    apply Wk.gon 91 rfl rfl
    apply Wk.bin rfl rfl (r := .bool true) (fun w => by simp [go_sem, h6]) (lt_of_ble rfl)
    apply Wk.pckF rfl (by conv => lhs; whnf) (lt_of_ble rfl)
    apply Wk.mv (by conv => lhs; whnf) (lt_of_ble rfl)
    apply Wk.goff 96 (ok_faddr fd30_1) rfl rfl (by simp)
    apply Wk.goff 96 (ok_load 7 ty3) rfl rfl (by simp)
    apply Wk.goff 96 (ok_faddr fd28_0) rfl rfl (by simp)
    apply Wk.goff 96 (ok_load 6 ty3) rfl rfl (by simp)
    apply Wk.goff 96 (ok_bin _ _ _ _ _) rfl rfl (by simp)
    apply Wk.pckT rfl (by conv => lhs; whnf) (lt_of_ble rfl)
    apply Wk.mv (by conv => lhs; whnf) (lt_of_ble rfl)
    apply Wk.goff 103 (ok_faddr fd30_1) rfl rfl (by simp)
    apply Wk.goff 103 (ok_load 10 ty3) rfl rfl (by simp)
    apply Wk.goff 103 (ok_faddr fd28_0) rfl rfl (by simp)
    apply Wk.goff 103 (ok_load 6 ty3) rfl rfl (by simp)
    apply Wk.goff 103 (ok_bin _ _ _ _ _) rfl rfl (by simp)
    apply Wk.pckT rfl (by conv => lhs; whnf) (lt_of_ble rfl)
    refine Wk.nil ?_
    refine AW.cond rfl (fun _ => ?_) (fun hc => by cases hc)
    refine AW.seq ?_
    apply AW.list
    apply Wk.dat liok_ok Try.func18 rfl rfl rfl rfl rfl (lt_of_ble rfl)
    apply Wk.asg (by conv => lhs; whnf) (lt_of_ble rfl)
    refine Wk.nil (AW.ret ?_)
    refine thenA_ret ?_
    exact RetQ.ret [] (.cons rfl .nil) ⟨rfl, rfl⟩ none_kept
  case pos =>
  by_cases h7 : s = e
  case pos =>
    apply AW.list
    apply Wk.ld (i := 5) 5 true ty24 rfl rfl (by conv => lhs; whnf) (lt_of_ble rfl)
    apply Wk.dat (scfgb m0 w0 s0 t0 y0 h1) Try.func16 rfl rfl rfl rfl rfl (lt_of_ble rfl)
    apply Wk.un rfl (fun w => by simp [go_sem] <;> rfl) (lt_of_ble rfl)
    apply Wk.mv (by conv => lhs; whnf) (lt_of_ble rfl)
    apply Wk.gon 67 rfl rfl
    apply Wk.ld (i := 6) 7 true ty28 rfl rfl (by conv => lhs; whnf) (lt_of_ble rfl)
    apply Wk.gon 67 rfl rfl
    apply Wk.dat (srxb a false d h2) Try.func15 rfl rfl rfl rfl rfl (lt_of_ble rfl)
    apply Wk.gon 67 rfl rfl
    apply Wk.un rfl (fun w => by simp [go_sem] <;> rfl) (lt_of_ble rfl)
    apply Wk.pckF rfl (by conv => lhs; whnf) (lt_of_ble rfl)
    apply Wk.mv (by conv => lhs; whnf) (lt_of_ble rfl)
    apply Wk.gon 72 rfl rfl
    apply Wk.fad 5 0 false fd28_4 rfl (lt_of_ble rfl)
    apply Wk.gon 72 rfl rfl
    apply Wk.ld (i := 6) 1 false ty4 rfl rfl (by conv => lhs; whnf) (lt_of_ble rfl)
    apply Wk.pckF rfl (by conv => lhs; whnf) (lt_of_ble rfl)
    apply Wk.mv (by conv => lhs; whnf) (lt_of_ble rfl)
    apply Wk.gon 76 rfl rfl
    apply Wk.ld (i := 7) 9 true ty30 rfl rfl (by conv => lhs; whnf) (lt_of_ble rfl)
    apply Wk.gon 76 rfl rfl
    apply Wk.dat (sfrmb k s k2 p f y g l fs h3) Try.func17 rfl rfl rfl rfl rfl (lt_of_ble rfl)
    apply Wk.gon 76 rfl rfl
    apply Wk.un rfl (fun w => by simp [go_sem] <;> rfl) (lt_of_ble rfl)
    apply Wk.pckF rfl (by conv => lhs; whnf) (lt_of_ble rfl)
    apply Wk.mv (by conv => lhs; whnf) (lt_of_ble rfl)
    apply Wk.gon 81 rfl rfl
    apply Wk.ld (i := 10) 9 true ty30 rfl rfl (by conv => lhs; whnf) (lt_of_ble rfl)
    apply Wk.gon 81 rfl rfl
    apply Wk.dat (sfrmb k9 s9 c9 p9 f9 y9 g9 l9 gs h4) Try.func17 rfl rfl rfl rfl rfl (lt_of_ble rfl)
    apply Wk.gon 81 rfl rfl
    apply Wk.un rfl (fun w => by simp [go_sem] <;> rfl) (lt_of_ble rfl)
    apply Wk.pckF rfl (by conv => lhs; whnf) (lt_of_ble rfl)
    apply Wk.mv (by conv => lhs; whnf) (lt_of_ble rfl)
    apply Wk.gon 86 rfl rfl
    apply Wk.fad 0 0 false fd30_0 rfl (lt_of_ble rfl)
    apply Wk.gon 86 rfl rfl
    apply Wk.ld (i := 7) 1 false ty3 rfl rfl (by conv => lhs; whnf) (lt_of_ble rfl)
    apply Wk.gon 86 rfl rfl
    apply Wk.bin rfl rfl (r := .bool false) (fun w => by simp [go_sem, h5]) (lt_of_ble rfl)
    apply Wk.pckF rfl (by conv => lhs; whnf) (lt_of_ble rfl)
    apply Wk.mv (by conv => lhs; whnf) (lt_of_ble rfl)
    apply Wk.gon 91 rfl rfl
    apply Wk.fad 0 0 false fd30_0 rfl (lt_of_ble rfl)
    apply Wk.gon 91 rfl rfl
    apply Wk.ld (i := 10) 1 false ty3 rfl rfl (by conv => lhs; whnf) (lt_of_ble rfl)
    apply Wk.gon 91 rfl rfl
    apply Wk.bin rfl rfl (r := .bool false) (fun w => by simp [go_sem, h6]) (lt_of_ble rfl)
    apply Wk.pckF rfl (by conv => lhs; whnf) (lt_of_ble rfl)
    apply Wk.mv (by conv => lhs; whnf) (lt_of_ble rfl)
    apply Wk.gon 96 rfl rfl
    apply Wk.fad 1 0 false fd30_1 rfl (lt_of_ble rfl)
    apply Wk.gon 96 rfl rfl
    apply Wk.ld (i := 7) 1 false ty3 rfl rfl (by conv => lhs; whnf) (lt_of_ble rfl)
    apply Wk.gon 96 rfl rfl
    apply Wk.fad 0 0 false fd28_0 rfl (lt_of_ble rfl)
    apply Wk.gon 96 rfl rfl
    apply Wk.ld (i := 6) 1 false ty3 rfl rfl (by conv => lhs; whnf) (lt_of_ble rfl)
    apply Wk.gon 96 rfl rfl
    apply Wk.bin rfl rfl (r := .bool true) (fun w => by simp [go_sem, h7]) (lt_of_ble rfl)
    apply Wk.pckF rfl (by conv => lhs; whnf) (lt_of_ble rfl)
    apply Wk.mv (by conv => lhs; whnf) (lt_of_ble rfl)
    apply Wk.goff 103 (ok_faddr fd30_1) rfl rfl (by simp)
    apply Wk.goff 103 (ok_load 10 ty3) rfl rfl (by simp)
    apply Wk.goff 103 (ok_faddr fd28_0) rfl rfl (by simp)
    apply Wk.goff 103 (ok_load 6 ty3) rfl rfl (by simp)
    apply Wk.goff 103 (ok_bin _ _ _ _ _) rfl rfl (by simp)
    apply Wk.pckT rfl (by conv => lhs; whnf) (lt_of_ble rfl)
    refine Wk.nil ?_
    refine AW.cond rfl (fun _ => ?_) (fun hc => by cases hc)
    refine AW.seq ?_
    apply AW.list
    apply Wk.dat liok_ok Try.func18 rfl rfl rfl rfl rfl (lt_of_ble rfl)
    apply Wk.asg (by conv => lhs; whnf) (lt_of_ble rfl)
    refine Wk.nil (AW.ret ?_)
    refine thenA_ret ?_
    exact RetQ.ret [] (.cons rfl .nil) ⟨rfl, rfl⟩ none_kept
  case neg =>
  by_cases h8 : s9 = e
  case pos =>
    apply AW.list
    apply Wk.ld (i := 5) 5 true ty24 rfl rfl (by conv => lhs; whnf) (lt_of_ble rfl)
    apply Wk.dat (scfgb m0 w0 s0 t0 y0 h1) Try.func16 rfl rfl rfl rfl rfl (lt_of_ble rfl)
    apply Wk.un rfl (fun w => by simp [go_sem] <;> rfl) (lt_of_ble rfl)
    apply Wk.mv (by conv => lhs; whnf) (lt_of_ble rfl)
    apply Wk.gon 67 rfl rfl
    apply Wk.ld (i := 6) 7 true ty28 rfl rfl (by conv => lhs; whnf) (lt_of_ble rfl)
    apply Wk.gon 67 rfl rfl
    apply Wk.dat (srxb a false d h2) Try.func15 rfl rfl rfl rfl rfl (lt_of_ble rfl)
    apply Wk.gon 67 rfl rfl
    apply Wk.un rfl (fun w => by simp [go_sem] <;> rfl) (lt_of_ble rfl)
    apply Wk.pckF rfl (by conv => lhs; whnf) (lt_of_ble rfl)
    apply Wk.mv (by conv => lhs; whnf) (lt_of_ble rfl)
    apply Wk.gon 72 rfl rfl
    apply Wk.fad 5 0 false fd28_4 rfl (lt_of_ble rfl)
    apply Wk.gon 72 rfl rfl
    apply Wk.ld (i := 6) 1 false ty4 rfl rfl (by conv => lhs; whnf) (lt_of_ble rfl)
    apply Wk.pckF rfl (by conv => lhs; whnf) (lt_of_ble rfl)
    apply Wk.mv (by conv => lhs; whnf) (lt_of_ble rfl)
    apply Wk.gon 76 rfl rfl
    apply Wk.ld (i := 7) 9 true ty30 rfl rfl (by conv => lhs; whnf) (lt_of_ble rfl)
    apply Wk.gon 76 rfl rfl
    apply Wk.dat (sfrmb k s k2 p f y g l fs h3) Try.func17 rfl rfl rfl rfl rfl (lt_of_ble rfl)
    apply Wk.gon 76 rfl rfl
    apply Wk.un rfl (fun w => by simp [go_sem] <;> rfl) (lt_of_ble rfl)
    apply Wk.pckF rfl (by conv => lhs; whnf) (lt_of_ble rfl)
    apply Wk.mv (by conv => lhs; whnf) (lt_of_ble rfl)
    apply Wk.gon 81 rfl rfl
    apply Wk.ld (i := 10) 9 true ty30 rfl rfl (by conv => lhs; whnf) (lt_of_ble rfl)
    apply Wk.gon 81 rfl rfl
    apply Wk.dat (sfrmb k9 s9 c9 p9 f9 y9 g9 l9 gs h4) Try.func17 rfl rfl rfl rfl rfl (lt_of_ble rfl)
    apply Wk.gon 81 rfl rfl
    apply Wk.un rfl (fun w => by simp [go_sem] <;> rfl) (lt_of_ble rfl)
    apply Wk.pckF rfl (by conv => lhs; whnf) (lt_of_ble rfl)
    apply Wk.mv (by conv => lhs; whnf) (lt_of_ble rfl)
    apply Wk.gon 86 rfl rfl
    apply Wk.fad 0 0 false fd30_0 rfl (lt_of_ble rfl)
    apply Wk.gon 86 rfl rfl
    apply Wk.ld (i := 7) 1 false ty3 rfl rfl (by conv => lhs; whnf) (lt_of_ble rfl)
    apply Wk.gon 86 rfl rfl
    apply Wk.bin rfl rfl (r := .bool false) (fun w => by simp [go_sem, h5]) (lt_of_ble rfl)
    apply Wk.pckF rfl (by conv => lhs; whnf) (lt_of_ble rfl)
    apply Wk.mv (by conv => lhs; whnf) (lt_of_ble rfl)
    apply Wk.gon 91 rfl rfl
    apply Wk.fad 0 0 false fd30_0 rfl (lt_of_ble rfl)
    apply Wk.gon 91 rfl rfl
    apply Wk.ld (i := 10) 1 false ty3 rfl rfl (by conv => lhs; whnf) (lt_of_ble rfl)
    apply Wk.gon 91 rfl rfl
    apply Wk.bin rfl rfl (r := .bool false) (fun w => by simp [go_sem, h6]) (lt_of_ble rfl)
    apply Wk.pckF rfl (by conv => lhs; whnf) (lt_of_ble rfl)
    apply Wk.mv (by conv => lhs; whnf) (lt_of_ble rfl)
    apply Wk.gon 96 rfl rfl
    apply Wk.fad 1 0 false fd30_1 rfl (lt_of_ble rfl)
    apply Wk.gon 96 rfl rfl
    apply Wk.ld (i := 7) 1 false ty3 rfl rfl (by conv => lhs; whnf) (lt_of_ble rfl)
    apply Wk.gon 96 rfl rfl
    apply Wk.fad 0 0 false fd28_0 rfl (lt_of_ble rfl)
    apply Wk.gon 96 rfl rfl
    apply Wk.ld (i := 6) 1 false ty3 rfl rfl (by conv => lhs; whnf) (lt_of_ble rfl)
    apply Wk.gon 96 rfl rfl
    apply Wk.bin rfl rfl (r := .bool false) (fun w => by simp [go_sem, h7]) (lt_of_ble rfl)
    apply Wk.pckF rfl (by conv => lhs; whnf) (lt_of_ble rfl)
    apply Wk.mv (by conv => lhs; whnf) (lt_of_ble rfl)
    apply Wk.gon 103 rfl rfl
    apply Wk.fad 1 0 false fd30_1 rfl (lt_of_ble rfl)
    apply Wk.gon 103 rfl rfl
    apply Wk.ld (i := 10) 1 false ty3 rfl rfl (by conv => lhs; whnf) (lt_of_ble rfl)
    apply Wk.gon 103 rfl rfl
    apply Wk.fad 0 0 false fd28_0 rfl (lt_of_ble rfl)
    apply Wk.gon 103 rfl rfl
    apply Wk.ld (i := 6) 1 false ty3 rfl rfl (by conv => lhs; whnf) (lt_of_ble rfl)
    apply Wk.gon 103 rfl rfl
    apply Wk.bin rfl rfl (r := .bool true) (fun w => by simp [go_sem, h8]) (lt_of_ble rfl)
    apply Wk.pckF rfl (by conv => lhs; whnf) (lt_of_ble rfl)
    refine Wk.nil ?_
    refine AW.cond rfl (fun _ => ?_) (fun hc => by cases hc)
    refine AW.seq ?_
    apply AW.list
    apply Wk.dat liok_ok Try.func18 rfl rfl rfl rfl rfl (lt_of_ble rfl)
    apply Wk.asg (by conv => lhs; whnf) (lt_of_ble rfl)
    refine Wk.nil (AW.ret ?_)
    refine thenA_ret ?_
    exact RetQ.ret [] (.cons rfl .nil) ⟨rfl, rfl⟩ none_kept
  case neg =>
  apply AW.list
  apply Wk.ld (i := 5) 5 true ty24 rfl rfl (by conv => lhs; whnf) (lt_of_ble rfl)
  apply Wk.dat (scfgb m0 w0 s0 t0 y0 h1) Try.func16 rfl rfl rfl rfl rfl (lt_of_ble rfl)
  apply Wk.un rfl (fun w => by simp [go_sem] <;> rfl) (lt_of_ble rfl)
  apply Wk.mv (by conv => lhs; whnf) (lt_of_ble rfl)
  apply Wk.gon 67 rfl rfl
  apply Wk.ld (i := 6) 7 true ty28 rfl rfl (by conv => lhs; whnf) (lt_of_ble rfl)
  apply Wk.gon 67 rfl rfl
  apply Wk.dat (srxb a false d h2) Try.func15 rfl rfl rfl rfl rfl (lt_of_ble rfl)
  apply Wk.gon 67 rfl rfl
  apply Wk.un rfl (fun w => by simp [go_sem] <;> rfl) (lt_of_ble rfl)
  apply Wk.pckF rfl (by conv => lhs; whnf) (lt_of_ble rfl)
  apply Wk.mv (by conv => lhs; whnf) (lt_of_ble rfl)
  apply Wk.gon 72 rfl rfl
  apply Wk.fad 5 0 false fd28_4 rfl (lt_of_ble rfl)
  apply Wk.gon 72 rfl rfl
  apply Wk.ld (i := 6) 1 false ty4 rfl rfl (by conv => lhs; whnf) (lt_of_ble rfl)
  apply Wk.pckF rfl (by conv => lhs; whnf) (lt_of_ble rfl)
  apply Wk.mv (by conv => lhs; whnf) (lt_of_ble rfl)
  apply Wk.gon 76 rfl rfl
  apply Wk.ld (i := 7) 9 true ty30 rfl rfl (by conv => lhs; whnf) (lt_of_ble rfl)
  apply Wk.gon 76 rfl rfl
  apply Wk.dat (sfrmb k s k2 p f y g l fs h3) Try.func17 rfl rfl rfl rfl rfl (lt_of_ble rfl)
  apply Wk.gon 76 rfl rfl
  apply Wk.un rfl (fun w => by simp [go_sem] <;> rfl) (lt_of_ble rfl)
  apply Wk.pckF rfl (by conv => lhs; whnf) (lt_of_ble rfl)
  apply Wk.mv (by conv => lhs; whnf) (lt_of_ble rfl)
  apply Wk.gon 81 rfl rfl
  apply Wk.ld (i := 10) 9 true ty30 rfl rfl (by conv => lhs; whnf) (lt_of_ble rfl)
  apply Wk.gon 81 rfl rfl
  apply Wk.dat (sfrmb k9 s9 c9 p9 f9 y9 g9 l9 gs h4) Try.func17 rfl rfl rfl rfl rfl (lt_of_ble rfl)
  apply Wk.gon 81 rfl rfl
  apply Wk.un rfl (fun w => by simp [go_sem] <;> rfl) (lt_of_ble rfl)
  apply Wk.pckF rfl (by conv => lhs; whnf) (lt_of_ble rfl)
  apply Wk.mv (by conv => lhs; whnf) (lt_of_ble rfl)
  apply Wk.gon 86 rfl rfl
  apply Wk.fad 0 0 false fd30_0 rfl (lt_of_ble rfl)
  apply Wk.gon 86 rfl rfl
  apply Wk.ld (i := 7) 1 false ty3 rfl rfl (by conv => lhs; whnf) (lt_of_ble rfl)
  apply Wk.gon 86 rfl rfl
  apply Wk.bin rfl rfl (r := .bool false) (fun w => by simp [go_sem, h5]) (lt_of_ble rfl)
  apply Wk.pckF rfl (by conv => lhs; whnf) (lt_of_ble rfl)
  apply Wk.mv (by conv => lhs; whnf) (lt_of_ble rfl)
  apply Wk.gon 91 rfl rfl
  apply Wk.fad 0 0 false fd30_0 rfl (lt_of_ble rfl)
  apply Wk.gon 91 rfl rfl
  apply Wk.ld (i := 10) 1 false ty3 rfl rfl (by conv => lhs; whnf) (lt_of_ble rfl)
  apply Wk.gon 91 rfl rfl
  apply Wk.bin rfl rfl (r := .bool false) (fun w => by simp [go_sem, h6]) (lt_of_ble rfl)
  apply Wk.pckF rfl (by conv => lhs; whnf) (lt_of_ble rfl)
  apply Wk.mv (by conv => lhs; whnf) (lt_of_ble rfl)
  apply Wk.gon 96 rfl rfl
  apply Wk.fad 1 0 false fd30_1 rfl (lt_of_ble rfl)
  apply Wk.gon 96 rfl rfl
  apply Wk.ld (i := 7) 1 false ty3 rfl rfl (by conv => lhs; whnf) (lt_of_ble rfl)
  apply Wk.gon 96 rfl rfl
  apply Wk.fad 0 0 false fd28_0 rfl (lt_of_ble rfl)
  apply Wk.gon 96 rfl rfl
  apply Wk.ld (i := 6) 1 false ty3 rfl rfl (by conv => lhs; whnf) (lt_of_ble rfl)
  apply Wk.gon 96 rfl rfl
  apply Wk.bin rfl rfl (r := .bool false) (fun w => by simp [go_sem, h7]) (lt_of_ble rfl)
  apply Wk.pckF rfl (by conv => lhs; whnf) (lt_of_ble rfl)
  apply Wk.mv (by conv => lhs; whnf) (lt_of_ble rfl)
  apply Wk.gon 103 rfl rfl
  apply Wk.fad 1 0 false fd30_1 rfl (lt_of_ble rfl)
  apply Wk.gon 103 rfl rfl
  apply Wk.ld (i := 10) 1 false ty3 rfl rfl (by conv => lhs; whnf) (lt_of_ble rfl)
  apply Wk.gon 103 rfl rfl
  apply Wk.fad 0 0 false fd28_0 rfl (lt_of_ble rfl)
  apply Wk.gon 103 rfl rfl
  apply Wk.ld (i := 6) 1 false ty3 rfl rfl (by conv => lhs; whnf) (lt_of_ble rfl)
  apply Wk.gon 103 rfl rfl
  apply Wk.bin rfl rfl (r := .bool false) (fun w => by simp [go_sem, h8]) (lt_of_ble rfl)
  apply Wk.pckF rfl (by conv => lhs; whnf) (lt_of_ble rfl)
  refine Wk.nil ?_
  refine AW.cond rfl (fun hc => by cases hc) (fun _ => AW.skip (thenA_normal ?_))
  refine AW.seq ?_
  apply AW.list
  apply Wk.asg (by conv => lhs; whnf) (lt_of_ble rfl)
  refine Wk.nil ?_
  refine AW.seq ?_
  apply AW.list
  apply Wk.ld (i := 6) 7 true ty28 rfl rfl (by conv => lhs; whnf) (lt_of_ble rfl)
  apply Wk.alc 18 [.int .i64 0, .int .i64 0, .int .i64 0, .slice none 0 0, .bool false, .bool false, .bool false] ze28 rfl rfl (lt_of_ble rfl)
  apply Wk.sto (i := 18) 7 true ty28 rfl rfl rfl rfl (Nat.le_of_ble_eq_true rfl) (lt_of_ble rfl)
  refine Wk.nil ?_
  refine AW.seq (AW.seq ?_)
  apply AW.list
  apply Wk.asg (by conv => lhs; whnf) (lt_of_ble rfl)
  refine Wk.nil (AW.block ?_)
  refine AW.loop (fun x : Nat × Nat × Bool => St.of 154 [(5, .ptr 5 0), (6, .ptr 6 0), (7, .ptr 7 0), (10, .ptr 10 0), (17, .d (.v (.int .i64 (x.2.1 : Int)))), (18, .ptr 18 0), (19, .d (.v (.int .i64 (x.1 : Int))))] [(5, .var (cfgC m0 w0 s0 t0 y0)), (6, .var (rxC e c m bs a false d)), (7, .var (frC ⟨k, s, k2, p, f, y, g, l, fs⟩)), (10, .var (frC ⟨k9, s9, c9, p9, f9, y9, g9, l9, gs⟩)), (18, .var (rxC e c m bs x.2.2 false d))]) (fun x => x.1 ≤ 6 ∧ x.2.1 ≤ 1 ∧ (x.2.1 = 1 → x.2.2 = true)) (fun x => 6 - x.1) (0, 0, a) (by simp) ?_ ?_
  · exact fun a w => Rel.keep ⟨rfl, .cons rfl rfl (.cons rfl rfl (.cons rfl rfl (.cons rfl rfl (.cons rfl rfl (.cons rfl rfl (.cons rfl rfl .nil)))))), .cons rfl rfl (.cons rfl rfl (.cons rfl rfl (.cons rfl rfl (.cons rfl rfl .nil)))), hN.mono (by simp [keys])⟩
  rintro ⟨n, sn, a2⟩ ⟨hn, hsn, hsa⟩
  simp only at hn hsn hsa
  show AW Try.prog C _ _ (St.of 154 [(5, .ptr 5 0), (6, .ptr 6 0), (7, .ptr 7 0), (10, .ptr 10 0), (17, .d (.v (.int .i64 (sn : Int)))), (18, .ptr 18 0), (19, .d (.v (.int .i64 (n : Int))))] [(5, .var (cfgC m0 w0 s0 t0 y0)), (6, .var (rxC e c m bs a false d)), (7, .var (frC ⟨k, s, k2, p, f, y, g, l, fs⟩)), (10, .var (frC ⟨k9, s9, c9, p9, f9, y9, g9, l9, gs⟩)), (18, .var (rxC e c m bs a2 false d))])
  refine AW.seq (AW.seq ?_)
  apply AW.list
  apply Wk.mv (by conv => lhs; whnf) (lt_of_ble rfl)
  apply Wk.bin rfl rfl (fun w => by simp [go_sem] <;> rfl) (lt_of_ble rfl)
  refine Wk.nil ?_
  refine AW.cond rfl (fun hc => ?_) (fun hc => ?_)
  · have hn6 : n < 6 := by simp at hc; omega
    refine AW.skip ?_
    repeat (first | refine thenA_normal ?_ | refine inBlockA_normal ?_)
    refine AW.seq (AW.block (AW.seq ?_))
    apply AW.list
    apply Wk.ld (i := 7) 9 true ty30 rfl rfl (by conv => lhs; whnf) (lt_of_ble rfl)
    apply Wk.alc 20 [.int .i64 0, .int .i64 0, .int .i64 0, .bool false, .bool false, .int .i64 0, .int .i64 0, .int .i64 0, .slice none 0 0] ze30 rfl rfl (lt_of_ble rfl)
    apply Wk.sto (i := 20) 9 true ty30 rfl rfl rfl rfl (Nat.le_of_ble_eq_true rfl) (lt_of_ble rfl)
    refine Wk.nil ?_
    refine AW.via (fun h : FR => St.of 154 [(5, .ptr 5 0), (6, .ptr 6 0), (7, .ptr 7 0), (10, .ptr 10 0), (17, .d (.v (.int .i64 (sn : Int)))), (18, .ptr 18 0), (19, .d (.v (.int .i64 (n : Int)))), (20, .ptr 20 0)] [(5, .var (cfgC m0 w0 s0 t0 y0)), (6, .var (rxC e c m bs a false d)), (7, .var (frC ⟨k, s, k2, p, f, y, g, l, fs⟩)), (10, .var (frC ⟨k9, s9, c9, p9, f9, y9, g9, l9, gs⟩)), (18, .var (rxC e c m bs a2 false d)), (20, .var (frC h))]) (fun h => h = ⟨k, s, k2, p, f, y, g, l, fs⟩ ∨ h = ⟨k9, s9, c9, p9, f9, y9, g9, l9, gs⟩) ?_ ?_
    · refine AW.seq ?_
      apply AW.list
      apply Wk.mv (by conv => lhs; whnf) (lt_of_ble rfl)
      apply Wk.remn (b := 2) rfl rfl (by decide) (lt_of_ble rfl)
      apply Wk.bin rfl rfl (fun w => by simp [go_sem] <;> rfl) (lt_of_ble rfl)
      refine Wk.nil ?_
      refine AW.cond rfl (fun hc => ?_) (fun hc => AW.skip (thenA_normal ?_))
      · apply AW.list
        apply Wk.ld (i := 10) 9 true ty30 rfl rfl (by conv => lhs; whnf) (lt_of_ble rfl)
        apply Wk.sto (i := 20) 9 true ty30 rfl rfl rfl rfl (Nat.le_of_ble_eq_true rfl) (lt_of_ble rfl)
        refine Wk.nil (thenA_normal ?_)
        exact ⟨⟨k9, s9, c9, p9, f9, y9, g9, l9, gs⟩, .inr rfl, fun a w => Rel.keep ⟨rfl, .cons rfl rfl (.cons rfl rfl (.cons rfl rfl (.cons rfl rfl (.cons rfl rfl (.cons rfl rfl (.cons rfl rfl (.cons rfl rfl .nil))))))), .cons rfl rfl (.cons rfl rfl (.cons rfl rfl (.cons rfl rfl (.cons rfl rfl (.cons rfl rfl .nil))))), hN.mono (by simp [keys])⟩⟩
      · exact ⟨⟨k, s, k2, p, f, y, g, l, fs⟩, .inl rfl, fun a w => Rel.keep ⟨rfl, .cons rfl rfl (.cons rfl rfl (.cons rfl rfl (.cons rfl rfl (.cons rfl rfl (.cons rfl rfl (.cons rfl rfl (.cons rfl rfl .nil))))))), .cons rfl rfl (.cons rfl rfl (.cons rfl rfl (.cons rfl rfl (.cons rfl rfl (.cons rfl rfl .nil))))), hN.mono (by simp [keys])⟩⟩
    · intro hF hor
      have hFk : hF.k = 1 ∧ hF.s ≠ e ∧ hF.ok = true ∧ hF.bs.length ≤ 1000 := by
        rcases hor with rfl | rfl
        · exact ⟨h5, h7, h3, hf⟩
        · exact ⟨h6, h8, h4, hgf⟩
      clear hor
      have hgo : goesB ⟨m0, w0, s0, t0, y0⟩ ⟨e, c, m, bs, a2, false, d⟩ hF = true := goes_iff.2 ⟨h1, h2, hFk.2.2.1, .inl hFk.1⟩
      obtain ⟨a3, g1, g2, g3⟩ := hearF_many hgo hFk.1 rfl hFk.2.1
      obtain ⟨h9, hh9⟩ : ∃ h, hearF ⟨m0, w0, s0, t0, y0⟩ ⟨e, c, m, bs, a2, false, d⟩ hF = h := ⟨_, rfl⟩
      have hd9 := ihearb ⟨m0, w0, s0, t0, y0⟩ ⟨e, c, m, bs, a2, false, d⟩ hF hbl hFk.2.2.2 hh9
      rw [hh9] at g1 g2 g3
      obtain ⟨x9, sd9, sy9⟩ := h9
      simp only at g1 g2 g3
      subst g1 g2
      obtain ⟨k1, s1, c1, p1, f1, y1, g1, l1, fs1⟩ := hF
      show AW Try.prog C _ _ (St.of 154 [(5, .ptr 5 0), (6, .ptr 6 0), (7, .ptr 7 0), (10, .ptr 10 0), (17, .d (.v (.int .i64 (sn : Int)))), (18, .ptr 18 0), (19, .d (.v (.int .i64 (n : Int)))), (20, .ptr 20 0)] [(5, .var (cfgC m0 w0 s0 t0 y0)), (6, .var (rxC e c m bs a false d)), (7, .var (frC ⟨k, s, k2, p, f, y, g, l, fs⟩)), (10, .var (frC ⟨k9, s9, c9, p9, f9, y9, g9, l9, gs⟩)), (18, .var (rxC e c m bs a2 false d)), (20, .var (frC ⟨k1, s1, c1, p1, f1, y1, g1, l1, fs1⟩))])
      obtain ⟨sn2, hsn2, hsy⟩ : ∃ sn2 : Nat, ((sy9 = none ∧ sn2 = sn) ∨ ((∃ z, sy9 = some z) ∧ sn2 = sn + 1)) ∧ sn2 ≤ 1 ∧ (sn2 = 1 → a3 = true) := by
        rcases g3 with ⟨r1, r2⟩ | ⟨r1, r2, r3⟩
        · exact ⟨sn, .inl ⟨r2, rfl⟩, hsn, fun h => by rw [r1]; exact hsa h⟩
        · have hs0 : sn = 0 := by
            refine Classical.byContradiction fun hne => ?_
            have := hsa (by omega)
            rw [this] at r1
            cases r1
          exact ⟨sn + 1, .inr ⟨⟨_, r3⟩, rfl⟩, by omega, fun _ => r2⟩
      rcases hsn2 with ⟨rfl, rfl⟩ | ⟨⟨⟨z1, z2, z3⟩, rfl⟩, rfl⟩
      all_goals
        refine AW.seq ?_
        apply AW.list
        apply Wk.ld (i := 5) 5 true ty24 rfl rfl (by conv => lhs; whnf) (lt_of_ble rfl)
        apply Wk.ld (i := 18) 7 true ty28 rfl rfl (by conv => lhs; whnf) (lt_of_ble rfl)
        apply Wk.ld (i := 20) 9 true ty30 rfl rfl (by conv => lhs; whnf) (lt_of_ble rfl)
        apply Wk.dat hd9 Try.func9 rfl rfl rfl rfl rfl (lt_of_ble rfl)
        apply Wk.mv (by conv => lhs; whnf) (lt_of_ble rfl)
        apply Wk.ext rfl rfl (lt_of_ble rfl)
        apply Wk.ext rfl rfl (lt_of_ble rfl)
        apply Wk.ext rfl rfl (lt_of_ble rfl)
        apply Wk.alc 21 [.int .i64 0, .int .i64 0, .int .i64 0, .slice none 0 0, .bool false, .bool false, .bool false] ze28 rfl rfl (lt_of_ble rfl)
        apply Wk.sto (i := 21) 7 true ty28 rfl rfl rfl rfl (Nat.le_of_ble_eq_true rfl) (lt_of_ble rfl)
        apply Wk.asg (by conv => lhs; whnf) (lt_of_ble rfl)
        apply Wk.asg (by conv => lhs; whnf) (lt_of_ble rfl)
        refine Wk.nil ?_
        refine AW.seq ?_
        apply AW.list
        apply Wk.mv (by conv => lhs; whnf) (lt_of_ble rfl)
        apply Wk.mv (by conv => lhs; whnf) (lt_of_ble rfl)
        apply Wk.len un34 rfl (lt_of_ble rfl)
        apply Wk.addi rfl rfl (by simp <;> omega) (lt_of_ble rfl)
        apply Wk.asg (by conv => lhs; whnf) (lt_of_ble rfl)
        refine Wk.nil ?_
        refine AW.seq (AW.seq ?_)
        apply AW.list
        apply Wk.mv (by conv => lhs; whnf) (lt_of_ble rfl)
        apply Wk.len un33 rfl (lt_of_ble rfl)
        apply Wk.bin rfl rfl (r := .bool false) (fun w => by simp [go_sem]) (lt_of_ble rfl)
        apply Wk.mv (by conv => lhs; whnf) (lt_of_ble rfl)
        apply Wk.gon 136 rfl rfl
        apply Wk.fad 1 0 false fd28_1 rfl (lt_of_ble rfl)
        apply Wk.gon 136 rfl rfl
        apply Wk.ld (i := 21) 1 false ty3 rfl rfl (by conv => lhs; whnf) (lt_of_ble rfl)
        apply Wk.gon 136 rfl rfl
        apply Wk.fad 1 0 false fd28_1 rfl (lt_of_ble rfl)
        apply Wk.gon 136 rfl rfl
        apply Wk.ld (i := 6) 1 false ty3 rfl rfl (by conv => lhs; whnf) (lt_of_ble rfl)
        apply Wk.gon 136 rfl rfl
        apply Wk.bin rfl rfl (r := .bool false) (fun w => by simp [go_sem]) (lt_of_ble rfl)
        apply Wk.pckF rfl (by conv => lhs; whnf) (lt_of_ble rfl)
        apply Wk.mv (by conv => lhs; whnf) (lt_of_ble rfl)
        apply Wk.gon 143 rfl rfl
        apply Wk.fad 2 1 true fd28_2 rfl (lt_of_ble rfl)
        apply Wk.gon 143 rfl rfl
        apply Wk.ld (i := 21) 2 true ty26 rfl rfl (by conv => lhs; whnf) (lt_of_ble rfl)
        apply Wk.gon 143 rfl rfl
        apply Wk.fad 2 1 true fd28_2 rfl (lt_of_ble rfl)
        apply Wk.gon 143 rfl rfl
        apply Wk.ld (i := 6) 2 true ty26 rfl rfl (by conv => lhs; whnf) (lt_of_ble rfl)
        apply Wk.gon 143 rfl rfl
        apply Wk.dat (liJoin_ok m bs) Try.func19 rfl rfl rfl rfl rfl (lt_of_ble rfl)
        apply Wk.gon 143 rfl rfl
        apply Wk.un rfl (fun w => by simp [go_sem] <;> rfl) (lt_of_ble rfl)
        apply Wk.pckF rfl (by conv => lhs; whnf) (lt_of_ble rfl)
        refine Wk.nil ?_
        refine AW.cond rfl (fun hc => by cases hc) (fun _ => AW.skip (thenA_normal ?_))
        apply AW.list
        apply Wk.ld (i := 21) 7 true ty28 rfl rfl (by conv => lhs; whnf) (lt_of_ble rfl)
        apply Wk.sto (i := 18) 7 true ty28 rfl rfl rfl rfl (Nat.le_of_ble_eq_true rfl) (lt_of_ble rfl)
        refine Wk.nil ?_
        repeat (first | refine thenA_normal ?_ | refine inBlockA_normal ?_)
        apply AW.list
        apply Wk.mv (by conv => lhs; whnf) (lt_of_ble rfl)
        apply Wk.addi rfl rfl (by omega) (lt_of_ble rfl)
        apply Wk.asg (by conv => lhs; whnf) (lt_of_ble rfl)
        refine Wk.nil ?_
        refine ⟨(n + 1, _, a3), ⟨by simp only; omega, hsy⟩, by simp only; omega, ?_⟩
        exact fun a w => Rel.keep ⟨rfl, .cons rfl rfl (.cons rfl rfl (.cons rfl rfl (.cons rfl rfl (.cons rfl rfl (.cons rfl rfl (.cons rfl rfl .nil)))))), .cons rfl rfl (.cons rfl rfl (.cons rfl rfl (.cons rfl rfl (.cons rfl rfl .nil)))), hN.mono (by simp [keys])⟩
  · refine AW.exit ?_
    repeat (first | refine inBlockA_same ?_ | refine thenA_exit ?_)
    repeat (first | refine thenA_normal ?_ | refine inBlockA_normal ?_)
    refine AW.seq ?_
    apply AW.list
    apply Wk.mv (by conv => lhs; whnf) (lt_of_ble rfl)
    apply Wk.bin rfl rfl (r := .bool true) (fun w => by simp [go_sem] <;> omega) (lt_of_ble rfl)
    apply Wk.asg (by conv => lhs; whnf) (lt_of_ble rfl)
    refine Wk.nil (AW.ret ?_)
    repeat (first | refine thenA_ret ?_ | refine inBlockA_ret ?_)
    exact RetQ.ret [] (.cons rfl .nil) ⟨rfl, rfl⟩ none_kept
namespace fnRxMany
set_option maxRecDepth 100000 in
theorem walk (a0 : Option Addr) (len0 cap0 : Nat) (z0 : List Int) (a1 : Option Addr) (len1 cap1 : Nat) (z1 : List Int) (w : World) (w0 : IsRow .u8 w a0 len0 cap0 z0) (w1 : IsRow .u8 w a1 len1 cap1 z1) :
    Calls Try.prog 7 #[.slice a0 len0 cap0, .slice a1 len1 cap1] w fun e w' => e = .returned (.bool true) ∧ Below w.heap.size w w' := by
  by_cases hs0 : (1048576 : Int) < (len0 : Int)
  · go_enter Try.func7, Try.ntmps7
    go_wp2
    go_ret
    exact ⟨rfl, Below.refl _ _⟩
  · by_cases hs1 : (1048576 : Int) < (len1 : Int)
    · go_enter Try.func7, Try.ntmps7
      go_wp2
      go_ret
      exact ⟨rfl, Below.refl _ _⟩
    · obtain ⟨cz, hR0, e0⟩ := w0.rd (by omega)
      obtain ⟨mz, hR1, e1⟩ := w1.rd (by omega)
      obtain ⟨zs, rfl⟩ := byt_fin hR0.1
      obtain ⟨ys, rfl⟩ := byt_fin hR1.1
      refine (lawRxMany_ok zs ys ?_ ?_).run2 hR0 hR1
      · simp at e0; omega
      · simp at e1; omega
end fnRxMany
end Go.Proofs.Ytlmadcpoaedagaa
