/- Laws and contracts that the proof stands on: AbsWldOk, LiParts, AbsLiTx, AbsLiCtx, LiSdus, AbsLiWd, AbsCfgEq, AbsLiWd2. -/
import Derived.Test.YtdjadeegjbhihaaMa
import Derived.Test.YtdjadeegjbhihaaMb
import Derived.Test.YtdjadeegjbhihaaMc
import Derived.Test.YtdjadeegjbhihaaMd
import Derived.Test.YtdjadeegjbhihaaMe
import Derived.RowKit3
/- WldOk over what values read as. Written by tools/mk_AbsWldOk.py. -/
namespace Go.Proofs.Ytdjadeegjbhihaa
open Go Go.RowKit
theorem DataOk.fnc {P : Program} {f g : FuncId} {x r : A} (h : DataOk P f [x, .fn (.func g) [] []] r) : DataOk P f [x, .d (.v (.func (.func g) #[] #[]))] r := Spec.fnc h
def sduB (z : List (Fin 256)) : Bool := decide (24 < z.length)
def sdusB (ms : List (List (Fin 256))) : Bool := decide (ms.length ≤ 60) && !ms.any sduB
def msgB (x : MSG) : Bool := decide (15 < x.bs.length)
def netB (l : List MSG) : Bool := decide (l.length ≤ 30) && !l.any msgB
def EN.okB (o : Opt) (e : EN) : Bool := txOkB o e.tx && (rxB e.rx.e e.rx.c e.rx.m e.rx.bs.length && (crdOkB o e.cx && (crxB e.kx.v e.kx.m e.kx.bs.length && (sdusB e.put && sdusB e.got))))
def WD.okB (x : WD) : Bool := Opt.ok ⟨x.m, x.w, x.p, x.u, x.y⟩ && (decide (x.ends.length = 2) && (decide (x.net.length = 2) && (inB x.link 0 1 && (x.ends.all (EN.okB ⟨x.m, x.w, x.p, x.u, x.y⟩) && x.net.all netB))))
theorem bs_one (ms : List (List (Fin 256))) : ∀ e ∈ ms.map bsC, e.length = 1 := by
  intro e he
  obtain ⟨a, _, rfl⟩ := List.mem_map.1 he
  rfl
theorem net_one (ms : List (List MSG)) : ∀ e ∈ (ms.map fun l => [D.row (l.map msgC)]), e.length = 1 := by
  intro e he
  obtain ⟨a, _, rfl⟩ := List.mem_map.1 he
  rfl
theorem msg_two (ms : List MSG) : ∀ e ∈ ms.map msgC, e.length = 2 := by
  intro e he
  obtain ⟨a, _, rfl⟩ := List.mem_map.1 he
  rfl
theorem fb_len (z : List (Fin 256)) : ((((z.map (·.val)).map (fun z : Nat => [D.v (.int .u8 (z : Int))])).length : Nat) : Int) = (z.length : Int) := by simp
theorem imsg1_ok (z : List (Fin 256)) : DataOk Try.prog 127 [.d (fbytes z)] (.d (.v (.bool (sduB z)))) := by
  by_cases h : 24 < z.length
  · rw [show sduB z = true from decide_eq_true h]
    refine Spec.intro (n := 6) (rv := [.tmp 2]) Try.func127 rfl rfl rfl (by simp) fun C hN hX => ?_
    refine AW.seq ?_
    apply AW.list
    apply Wk.asg (by conv => lhs; whnf) (lt_of_ble rfl)
    refine Wk.nil ?_
    refine AW.seq ?_
    apply AW.list
    apply Wk.mv (by conv => lhs; whnf) (lt_of_ble rfl)
    apply Wk.len un64 rfl (lt_of_ble rfl)
    apply Wk.bin rfl rfl (r := .bool true) (fun w => by rw [fb_len]; simp [go_sem]; omega) (lt_of_ble rfl)
    apply Wk.asg (by conv => lhs; whnf) (lt_of_ble rfl)
    refine Wk.nil (AW.ret ?_)
    repeat (first | refine thenA_ret ?_ | refine inBlockA_ret ?_)
    exact RetQ.ret [] (.cons rfl .nil) ⟨rfl, rfl⟩ none_kept
  · rw [show sduB z = false from decide_eq_false h]
    refine Spec.intro (n := 6) (rv := [.tmp 2]) Try.func127 rfl rfl rfl (by simp) fun C hN hX => ?_
    refine AW.seq ?_
    apply AW.list
    apply Wk.asg (by conv => lhs; whnf) (lt_of_ble rfl)
    refine Wk.nil ?_
    refine AW.seq ?_
    apply AW.list
    apply Wk.mv (by conv => lhs; whnf) (lt_of_ble rfl)
    apply Wk.len un64 rfl (lt_of_ble rfl)
    apply Wk.bin rfl rfl (r := .bool false) (fun w => by rw [fb_len]; simp [go_sem]; omega) (lt_of_ble rfl)
    apply Wk.asg (by conv => lhs; whnf) (lt_of_ble rfl)
    refine Wk.nil (AW.ret ?_)
    repeat (first | refine thenA_ret ?_ | refine inBlockA_ret ?_)
    exact RetQ.ret [] (.cons rfl .nil) ⟨rfl, rfl⟩ none_kept
theorem inet1_ok (x : MSG) : DataOk Try.prog 94 [.agg ((msgC x).map A.d)] (.d (.v (.bool (msgB x)))) := by
  obtain ⟨bt, bs⟩ := x
  by_cases h : 15 < bs.length
  · rw [show msgB ⟨bt, bs⟩ = true from decide_eq_true h]
    refine Spec.intro (n := 7) (rv := [.tmp 2]) Try.func94 rfl rfl rfl (by simp) fun C hN hX => ?_
    refine AW.seq ?_
    apply AW.list
    apply Wk.bx 1 rfl rfl (lt_of_ble rfl)
    apply Wk.asg (by conv => lhs; whnf) (lt_of_ble rfl)
    refine Wk.nil ?_
    refine AW.seq ?_
    apply AW.list
    apply Wk.fad 1 0 false fd92_1 rfl (lt_of_ble rfl)
    apply Wk.ld (i := 1) 1 false ty64 rfl rfl (by conv => lhs; whnf) (lt_of_ble rfl)
    apply Wk.len un64 rfl (lt_of_ble rfl)
    apply Wk.bin rfl rfl (r := .bool true) (fun w => by rw [fb_len]; simp [go_sem]; omega) (lt_of_ble rfl)
    apply Wk.asg (by conv => lhs; whnf) (lt_of_ble rfl)
    refine Wk.nil (AW.ret ?_)
    repeat (first | refine thenA_ret ?_ | refine inBlockA_ret ?_)
    exact RetQ.ret [] (.cons rfl .nil) ⟨rfl, rfl⟩ none_kept
  · rw [show msgB ⟨bt, bs⟩ = false from decide_eq_false h]
    refine Spec.intro (n := 7) (rv := [.tmp 2]) Try.func94 rfl rfl rfl (by simp) fun C hN hX => ?_
    refine AW.seq ?_
    apply AW.list
    apply Wk.bx 1 rfl rfl (lt_of_ble rfl)
    apply Wk.asg (by conv => lhs; whnf) (lt_of_ble rfl)
    refine Wk.nil ?_
    refine AW.seq ?_
    apply AW.list
    apply Wk.fad 1 0 false fd92_1 rfl (lt_of_ble rfl)
    apply Wk.ld (i := 1) 1 false ty64 rfl rfl (by conv => lhs; whnf) (lt_of_ble rfl)
    apply Wk.len un64 rfl (lt_of_ble rfl)
    apply Wk.bin rfl rfl (r := .bool false) (fun w => by rw [fb_len]; simp [go_sem]; omega) (lt_of_ble rfl)
    apply Wk.asg (by conv => lhs; whnf) (lt_of_ble rfl)
    refine Wk.nil (AW.ret ?_)
    repeat (first | refine thenA_ret ?_ | refine inBlockA_ret ?_)
    exact RetQ.ret [] (.cons rfl .nil) ⟨rfl, rfl⟩ none_kept
theorem imsgs_ok (ms : List (List (Fin 256))) : DataOk Try.prog 93 [.d (.row (ms.map bsC))] (.d (.v (.bool (sdusB ms)))) := by
  have hh := DataOk.fnc (hasMs_ok ms sduB fun z _ => imsg1_ok z)
  have el : (((ms.map bsC).length : Nat) : Int) = (ms.length : Int) := by rw [List.length_map]
  by_cases h : ms.length ≤ 60
  · rw [show sdusB ms = !ms.any sduB from by simp [sdusB, h]]
    refine Spec.intro (n := 13) (rv := [.tmp 2]) Try.func93 rfl rfl rfl (by simp) fun C hN hX => ?_
    refine AW.seq ?_
    apply AW.list
    apply Wk.asg (by conv => lhs; whnf) (lt_of_ble rfl)
    refine Wk.nil ?_
    refine AW.seq ?_
    apply AW.list
    apply Wk.asg (by conv => lhs; whnf) (lt_of_ble rfl)
    refine Wk.nil ?_
    refine AW.seq ?_
    apply AW.list
    apply Wk.mv (by conv => lhs; whnf) (lt_of_ble rfl)
    apply Wk.len un75 rfl (lt_of_ble rfl)
    apply Wk.bin rfl rfl (r := .bool true) (fun w => by rw [el]; simp [go_sem]; omega) (lt_of_ble rfl)
    apply Wk.mv (by conv => lhs; whnf) (lt_of_ble rfl)
    apply Wk.gon 7 rfl rfl
    apply Wk.mv (by conv => lhs; whnf) (lt_of_ble rfl)
    apply Wk.gon 7 rfl rfl
    apply Wk.mv (by conv => lhs; whnf) (lt_of_ble rfl)
    apply Wk.gon 7 rfl rfl
    apply Wk.dat hh Try.func128 rfl rfl rfl rfl rfl (lt_of_ble rfl)
    apply Wk.gon 7 rfl rfl
    apply Wk.un rfl (r := .bool (!ms.any sduB)) (fun w => by simp [go_sem]) (lt_of_ble rfl)
    apply Wk.pckT rfl (by conv => lhs; whnf) (lt_of_ble rfl)
    apply Wk.asg (by conv => lhs; whnf) (lt_of_ble rfl)
    refine Wk.nil (AW.ret ?_)
    repeat (first | refine thenA_ret ?_ | refine inBlockA_ret ?_)
    exact RetQ.ret [] (.cons rfl .nil) ⟨rfl, rfl⟩ none_kept
  · rw [show sdusB ms = false from by simp [sdusB, h]]
    refine Spec.intro (n := 13) (rv := [.tmp 2]) Try.func93 rfl rfl rfl (by simp) fun C hN hX => ?_
    refine AW.seq ?_
    apply AW.list
    apply Wk.asg (by conv => lhs; whnf) (lt_of_ble rfl)
    refine Wk.nil ?_
    refine AW.seq ?_
    apply AW.list
    apply Wk.asg (by conv => lhs; whnf) (lt_of_ble rfl)
    refine Wk.nil ?_
    refine AW.seq ?_
    apply AW.list
    apply Wk.mv (by conv => lhs; whnf) (lt_of_ble rfl)
    apply Wk.len un75 rfl (lt_of_ble rfl)
    apply Wk.bin rfl rfl (r := .bool false) (fun w => by rw [el]; simp [go_sem]; omega) (lt_of_ble rfl)
    apply Wk.mv (by conv => lhs; whnf) (lt_of_ble rfl)
    apply Wk.goff 7 (ok_move _) rfl rfl (by simp)
    apply Wk.goff 7 (ok_move _) rfl rfl (by simp)
    apply Wk.goff 7 (ok_datw (hh.w rfl) Try.func128 rfl rfl) rfl rfl (by simp)
    apply Wk.goff 7 (ok_un _ _ _) rfl rfl (by simp)
    apply Wk.pckF rfl (by conv => lhs; whnf) (lt_of_ble rfl)
    apply Wk.asg (by conv => lhs; whnf) (lt_of_ble rfl)
    refine Wk.nil (AW.ret ?_)
    repeat (first | refine thenA_ret ?_ | refine inBlockA_ret ?_)
    exact RetQ.ret [] (.cons rfl .nil) ⟨rfl, rfl⟩ none_kept
theorem inets_ok (ms : List MSG) : DataOk Try.prog 58 [.d (.row (ms.map msgC))] (.d (.v (.bool (netB ms)))) := by
  have hh := DataOk.fnc (hasNm_ok ms msgB fun x _ => inet1_ok x)
  have el : (((ms.map msgC).length : Nat) : Int) = (ms.length : Int) := by rw [List.length_map]
  by_cases h : ms.length ≤ 30
  · rw [show netB ms = !ms.any msgB from by simp [netB, h]]
    refine Spec.intro (n := 13) (rv := [.tmp 2]) Try.func58 rfl rfl rfl (by simp) fun C hN hX => ?_
    refine AW.seq ?_
    apply AW.list
    apply Wk.asg (by conv => lhs; whnf) (lt_of_ble rfl)
    refine Wk.nil ?_
    refine AW.seq ?_
    apply AW.list
    apply Wk.asg (by conv => lhs; whnf) (lt_of_ble rfl)
    refine Wk.nil ?_
    refine AW.seq ?_
    apply AW.list
    apply Wk.mv (by conv => lhs; whnf) (lt_of_ble rfl)
    apply Wk.len un78 rfl (lt_of_ble rfl)
    apply Wk.bin rfl rfl (r := .bool true) (fun w => by rw [el]; simp [go_sem]; omega) (lt_of_ble rfl)
    apply Wk.mv (by conv => lhs; whnf) (lt_of_ble rfl)
    apply Wk.gon 7 rfl rfl
    apply Wk.mv (by conv => lhs; whnf) (lt_of_ble rfl)
    apply Wk.gon 7 rfl rfl
    apply Wk.mv (by conv => lhs; whnf) (lt_of_ble rfl)
    apply Wk.gon 7 rfl rfl
    apply Wk.dat hh Try.func95 rfl rfl rfl rfl rfl (lt_of_ble rfl)
    apply Wk.gon 7 rfl rfl
    apply Wk.un rfl (r := .bool (!ms.any msgB)) (fun w => by simp [go_sem]) (lt_of_ble rfl)
    apply Wk.pckT rfl (by conv => lhs; whnf) (lt_of_ble rfl)
    apply Wk.asg (by conv => lhs; whnf) (lt_of_ble rfl)
    refine Wk.nil (AW.ret ?_)
    repeat (first | refine thenA_ret ?_ | refine inBlockA_ret ?_)
    exact RetQ.ret [] (.cons rfl .nil) ⟨rfl, rfl⟩ none_kept
  · rw [show netB ms = false from by simp [netB, h]]
    refine Spec.intro (n := 13) (rv := [.tmp 2]) Try.func58 rfl rfl rfl (by simp) fun C hN hX => ?_
    refine AW.seq ?_
    apply AW.list
    apply Wk.asg (by conv => lhs; whnf) (lt_of_ble rfl)
    refine Wk.nil ?_
    refine AW.seq ?_
    apply AW.list
    apply Wk.asg (by conv => lhs; whnf) (lt_of_ble rfl)
    refine Wk.nil ?_
    refine AW.seq ?_
    apply AW.list
    apply Wk.mv (by conv => lhs; whnf) (lt_of_ble rfl)
    apply Wk.len un78 rfl (lt_of_ble rfl)
    apply Wk.bin rfl rfl (r := .bool false) (fun w => by rw [el]; simp [go_sem]; omega) (lt_of_ble rfl)
    apply Wk.mv (by conv => lhs; whnf) (lt_of_ble rfl)
    apply Wk.goff 7 (ok_move _) rfl rfl (by simp)
    apply Wk.goff 7 (ok_move _) rfl rfl (by simp)
    apply Wk.goff 7 (ok_datw (hh.w rfl) Try.func95 rfl rfl) rfl rfl (by simp)
    apply Wk.goff 7 (ok_un _ _ _) rfl rfl (by simp)
    apply Wk.pckF rfl (by conv => lhs; whnf) (lt_of_ble rfl)
    apply Wk.asg (by conv => lhs; whnf) (lt_of_ble rfl)
    refine Wk.nil (AW.ret ?_)
    repeat (first | refine thenA_ret ?_ | refine inBlockA_ret ?_)
    exact RetQ.ret [] (.cons rfl .nil) ⟨rfl, rfl⟩ none_kept
theorem ione_ok (n : Int) : DataOk Try.prog 56 [.d (.v (.int .i64 n))] (.d (.v (.bool (inB n 0 1)))) := by
  by_cases h : 0 ≤ n
  · by_cases h2 : n < 2
    · rw [show inB n 0 1 = true from (inB_iff _ _ _).2 ⟨h, by omega⟩]
      refine Spec.intro (n := 9) (rv := [.tmp 2]) Try.func56 rfl rfl rfl (by simp) fun C hN hX => ?_
      refine AW.seq ?_
      apply AW.list
      apply Wk.asg (by conv => lhs; whnf) (lt_of_ble rfl)
      refine Wk.nil ?_
      refine AW.seq ?_
      apply AW.list
      apply Wk.mv (by conv => lhs; whnf) (lt_of_ble rfl)
      apply Wk.bin rfl rfl (r := .bool true) (fun w => by simp [go_sem]; omega) (lt_of_ble rfl)
      apply Wk.mv (by conv => lhs; whnf) (lt_of_ble rfl)
      apply Wk.gon 5 rfl rfl
      apply Wk.mv (by conv => lhs; whnf) (lt_of_ble rfl)
      apply Wk.gon 5 rfl rfl
      apply Wk.bin rfl rfl (r := .bool true) (fun w => by simp [go_sem]; omega) (lt_of_ble rfl)
      apply Wk.pckT rfl (by conv => lhs; whnf) (lt_of_ble rfl)
      apply Wk.asg (by conv => lhs; whnf) (lt_of_ble rfl)
      refine Wk.nil (AW.ret ?_)
      repeat (first | refine thenA_ret ?_ | refine inBlockA_ret ?_)
      exact RetQ.ret [] (.cons rfl .nil) ⟨rfl, rfl⟩ none_kept
    · rw [show inB n 0 1 = false from by cases hb : inB n 0 1 with | false => rfl | true => exact absurd ((inB_iff _ _ _).1 hb).2 (by omega)]
      refine Spec.intro (n := 9) (rv := [.tmp 2]) Try.func56 rfl rfl rfl (by simp) fun C hN hX => ?_
      refine AW.seq ?_
      apply AW.list
      apply Wk.asg (by conv => lhs; whnf) (lt_of_ble rfl)
      refine Wk.nil ?_
      refine AW.seq ?_
      apply AW.list
      apply Wk.mv (by conv => lhs; whnf) (lt_of_ble rfl)
      apply Wk.bin rfl rfl (r := .bool true) (fun w => by simp [go_sem]; omega) (lt_of_ble rfl)
      apply Wk.mv (by conv => lhs; whnf) (lt_of_ble rfl)
      apply Wk.gon 5 rfl rfl
      apply Wk.mv (by conv => lhs; whnf) (lt_of_ble rfl)
      apply Wk.gon 5 rfl rfl
      apply Wk.bin rfl rfl (r := .bool false) (fun w => by simp [go_sem]; omega) (lt_of_ble rfl)
      apply Wk.pckT rfl (by conv => lhs; whnf) (lt_of_ble rfl)
      apply Wk.asg (by conv => lhs; whnf) (lt_of_ble rfl)
      refine Wk.nil (AW.ret ?_)
      repeat (first | refine thenA_ret ?_ | refine inBlockA_ret ?_)
      exact RetQ.ret [] (.cons rfl .nil) ⟨rfl, rfl⟩ none_kept
  · rw [show inB n 0 1 = false from by cases hb : inB n 0 1 with | false => rfl | true => exact absurd ((inB_iff _ _ _).1 hb).1 (by omega)]
    refine Spec.intro (n := 9) (rv := [.tmp 2]) Try.func56 rfl rfl rfl (by simp) fun C hN hX => ?_
    refine AW.seq ?_
    apply AW.list
    apply Wk.asg (by conv => lhs; whnf) (lt_of_ble rfl)
    refine Wk.nil ?_
    refine AW.seq ?_
    apply AW.list
    apply Wk.mv (by conv => lhs; whnf) (lt_of_ble rfl)
    apply Wk.bin rfl rfl (r := .bool false) (fun w => by simp [go_sem]; omega) (lt_of_ble rfl)
    apply Wk.mv (by conv => lhs; whnf) (lt_of_ble rfl)
    apply Wk.goff 5 (ok_move _) rfl rfl (by simp)
    apply Wk.goff 5 (ok_bin _ _ _ _ _) rfl rfl (by simp)
    apply Wk.pckF rfl (by conv => lhs; whnf) (lt_of_ble rfl)
    apply Wk.asg (by conv => lhs; whnf) (lt_of_ble rfl)
    refine Wk.nil (AW.ret ?_)
    repeat (first | refine thenA_ret ?_ | refine inBlockA_ret ?_)
    exact RetQ.ret [] (.cons rfl .nil) ⟨rfl, rfl⟩ none_kept
set_option maxHeartbeats 4000000 in
set_option maxRecDepth 100000 in
theorem iend_ok (m w p u y : Int) (e : EN) : DataOk Try.prog 57 [cfgA m w p u y, .agg ((enD e).map A.d)] (.d (.v (.bool (EN.okB ⟨m, w, p, u, y⟩ e)))) := by
  have k0 := itx_ok m w p u y e.tx
  have k1 := irx_ok e.rx.e e.rx.c e.rx.m e.rx.bs e.rx.a e.rx.u e.rx.d
  have k2 := icx_ok m w p u y e.cx
  have k3 := icrx_ok e.kx.v e.kx.m e.kx.bs e.kx.d
  have k4 := imsgs_ok e.put
  have k5 := imsgs_ok e.got
  unfold EN.okB
  generalize txOkB ⟨m, w, p, u, y⟩ e.tx = b0 at *
  generalize rxB e.rx.e e.rx.c e.rx.m e.rx.bs.length = b1 at *
  generalize crdOkB ⟨m, w, p, u, y⟩ e.cx = b2 at *
  generalize crxB e.kx.v e.kx.m e.kx.bs.length = b3 at *
  generalize sdusB e.put = b4 at *
  generalize sdusB e.got = b5 at *
  obtain ⟨⟨n, a, fl, s, qu, q, t, h, c, d0⟩, ⟨e1, c1, m1, z1, a1, u1, d1⟩, ⟨v2, q2, g2, s2, d2⟩, ⟨v3, m3, z3, d3⟩, put, got⟩ := e
  cases b0
  · skip
    refine Spec.intro (n := 35) (rv := [.tmp 4]) Try.func57 rfl rfl rfl (by simp) fun C hN hX => ?_
    refine AW.seq ?_
    apply AW.list
    apply Wk.bx 2 rfl rfl (lt_of_ble rfl)
    apply Wk.bx 3 rfl rfl (lt_of_ble rfl)
    apply Wk.asg (by conv => lhs; whnf) (lt_of_ble rfl)
    refine Wk.nil ?_
    refine AW.seq ?_
    apply AW.list
    apply Wk.ld (i := 2) 5 true ty29 rfl rfl (by conv => lhs; whnf) (lt_of_ble rfl)
    apply Wk.fad 0 9 true fd77_0 rfl (lt_of_ble rfl)
    apply Wk.ld (i := 3) 10 true ty33 rfl rfl (by conv => lhs; whnf) (lt_of_ble rfl)
    apply Wk.dat k0 Try.func14 rfl rfl rfl rfl rfl (lt_of_ble rfl)
    apply Wk.mv (by conv => lhs; whnf) (lt_of_ble rfl)
    apply Wk.goff 9 (ok_faddr fd77_1) rfl rfl (by simp)
    apply Wk.goff 9 (ok_load 3 ty72) rfl rfl (by simp)
    apply Wk.goff 9 (ok_datw (k1.w rfl) Try.func91 rfl rfl) rfl rfl (by simp)
    apply Wk.pckF rfl (by conv => lhs; whnf) (lt_of_ble rfl)
    apply Wk.mv (by conv => lhs; whnf) (lt_of_ble rfl)
    apply Wk.goff 14 (ok_load 2 ty29) rfl rfl (by simp)
    apply Wk.goff 14 (ok_faddr fd77_2) rfl rfl (by simp)
    apply Wk.goff 14 (ok_load 3 ty44) rfl rfl (by simp)
    apply Wk.goff 14 (ok_datw (k2.w rfl) Try.func21 rfl rfl) rfl rfl (by simp)
    apply Wk.pckF rfl (by conv => lhs; whnf) (lt_of_ble rfl)
    apply Wk.mv (by conv => lhs; whnf) (lt_of_ble rfl)
    apply Wk.goff 20 (ok_faddr fd77_3) rfl rfl (by simp)
    apply Wk.goff 20 (ok_load 3 ty74) rfl rfl (by simp)
    apply Wk.goff 20 (ok_datw (k3.w rfl) Try.func92 rfl rfl) rfl rfl (by simp)
    apply Wk.pckF rfl (by conv => lhs; whnf) (lt_of_ble rfl)
    apply Wk.mv (by conv => lhs; whnf) (lt_of_ble rfl)
    apply Wk.goff 25 (ok_faddr fd77_4) rfl rfl (by simp)
    apply Wk.goff 25 (ok_load 3 ty75) rfl rfl (by simp)
    apply Wk.goff 25 (ok_datw (k4.w rfl) Try.func93 rfl rfl) rfl rfl (by simp)
    apply Wk.pckF rfl (by conv => lhs; whnf) (lt_of_ble rfl)
    apply Wk.mv (by conv => lhs; whnf) (lt_of_ble rfl)
    apply Wk.goff 30 (ok_faddr fd77_5) rfl rfl (by simp)
    apply Wk.goff 30 (ok_load 3 ty75) rfl rfl (by simp)
    apply Wk.goff 30 (ok_datw (k5.w rfl) Try.func93 rfl rfl) rfl rfl (by simp)
    apply Wk.pckF rfl (by conv => lhs; whnf) (lt_of_ble rfl)
    apply Wk.asg (by conv => lhs; whnf) (lt_of_ble rfl)
    refine Wk.nil (AW.ret ?_)
    repeat (first | refine thenA_ret ?_ | refine inBlockA_ret ?_)
    exact RetQ.ret [] (.cons rfl .nil) ⟨rfl, rfl⟩ none_kept
  · skip
    cases b1
    · skip
      refine Spec.intro (n := 35) (rv := [.tmp 4]) Try.func57 rfl rfl rfl (by simp) fun C hN hX => ?_
      refine AW.seq ?_
      apply AW.list
      apply Wk.bx 2 rfl rfl (lt_of_ble rfl)
      apply Wk.bx 3 rfl rfl (lt_of_ble rfl)
      apply Wk.asg (by conv => lhs; whnf) (lt_of_ble rfl)
      refine Wk.nil ?_
      refine AW.seq ?_
      apply AW.list
      apply Wk.ld (i := 2) 5 true ty29 rfl rfl (by conv => lhs; whnf) (lt_of_ble rfl)
      apply Wk.fad 0 9 true fd77_0 rfl (lt_of_ble rfl)
      apply Wk.ld (i := 3) 10 true ty33 rfl rfl (by conv => lhs; whnf) (lt_of_ble rfl)
      apply Wk.dat k0 Try.func14 rfl rfl rfl rfl rfl (lt_of_ble rfl)
      apply Wk.mv (by conv => lhs; whnf) (lt_of_ble rfl)
      apply Wk.gon 9 rfl rfl
      apply Wk.fad 10 6 true fd77_1 rfl (lt_of_ble rfl)
      apply Wk.gon 9 rfl rfl
      apply Wk.ld (i := 3) 7 true ty72 rfl rfl (by conv => lhs; whnf) (lt_of_ble rfl)
      apply Wk.gon 9 rfl rfl
      apply Wk.dat k1 Try.func91 rfl rfl rfl rfl rfl (lt_of_ble rfl)
      apply Wk.pckT rfl (by conv => lhs; whnf) (lt_of_ble rfl)
      apply Wk.mv (by conv => lhs; whnf) (lt_of_ble rfl)
      apply Wk.goff 14 (ok_load 2 ty29) rfl rfl (by simp)
      apply Wk.goff 14 (ok_faddr fd77_2) rfl rfl (by simp)
      apply Wk.goff 14 (ok_load 3 ty44) rfl rfl (by simp)
      apply Wk.goff 14 (ok_datw (k2.w rfl) Try.func21 rfl rfl) rfl rfl (by simp)
      apply Wk.pckF rfl (by conv => lhs; whnf) (lt_of_ble rfl)
      apply Wk.mv (by conv => lhs; whnf) (lt_of_ble rfl)
      apply Wk.goff 20 (ok_faddr fd77_3) rfl rfl (by simp)
      apply Wk.goff 20 (ok_load 3 ty74) rfl rfl (by simp)
      apply Wk.goff 20 (ok_datw (k3.w rfl) Try.func92 rfl rfl) rfl rfl (by simp)
      apply Wk.pckF rfl (by conv => lhs; whnf) (lt_of_ble rfl)
      apply Wk.mv (by conv => lhs; whnf) (lt_of_ble rfl)
      apply Wk.goff 25 (ok_faddr fd77_4) rfl rfl (by simp)
      apply Wk.goff 25 (ok_load 3 ty75) rfl rfl (by simp)
      apply Wk.goff 25 (ok_datw (k4.w rfl) Try.func93 rfl rfl) rfl rfl (by simp)
      apply Wk.pckF rfl (by conv => lhs; whnf) (lt_of_ble rfl)
      apply Wk.mv (by conv => lhs; whnf) (lt_of_ble rfl)
      apply Wk.goff 30 (ok_faddr fd77_5) rfl rfl (by simp)
      apply Wk.goff 30 (ok_load 3 ty75) rfl rfl (by simp)
      apply Wk.goff 30 (ok_datw (k5.w rfl) Try.func93 rfl rfl) rfl rfl (by simp)
      apply Wk.pckF rfl (by conv => lhs; whnf) (lt_of_ble rfl)
      apply Wk.asg (by conv => lhs; whnf) (lt_of_ble rfl)
      refine Wk.nil (AW.ret ?_)
      repeat (first | refine thenA_ret ?_ | refine inBlockA_ret ?_)
      exact RetQ.ret [] (.cons rfl .nil) ⟨rfl, rfl⟩ none_kept
    · skip
      cases b2
      · skip
        refine Spec.intro (n := 35) (rv := [.tmp 4]) Try.func57 rfl rfl rfl (by simp) fun C hN hX => ?_
        refine AW.seq ?_
        apply AW.list
        apply Wk.bx 2 rfl rfl (lt_of_ble rfl)
        apply Wk.bx 3 rfl rfl (lt_of_ble rfl)
        apply Wk.asg (by conv => lhs; whnf) (lt_of_ble rfl)
        refine Wk.nil ?_
        refine AW.seq ?_
        apply AW.list
        apply Wk.ld (i := 2) 5 true ty29 rfl rfl (by conv => lhs; whnf) (lt_of_ble rfl)
        apply Wk.fad 0 9 true fd77_0 rfl (lt_of_ble rfl)
        apply Wk.ld (i := 3) 10 true ty33 rfl rfl (by conv => lhs; whnf) (lt_of_ble rfl)
        apply Wk.dat k0 Try.func14 rfl rfl rfl rfl rfl (lt_of_ble rfl)
        apply Wk.mv (by conv => lhs; whnf) (lt_of_ble rfl)
        apply Wk.gon 9 rfl rfl
        apply Wk.fad 10 6 true fd77_1 rfl (lt_of_ble rfl)
        apply Wk.gon 9 rfl rfl
        apply Wk.ld (i := 3) 7 true ty72 rfl rfl (by conv => lhs; whnf) (lt_of_ble rfl)
        apply Wk.gon 9 rfl rfl
        apply Wk.dat k1 Try.func91 rfl rfl rfl rfl rfl (lt_of_ble rfl)
        apply Wk.pckT rfl (by conv => lhs; whnf) (lt_of_ble rfl)
        apply Wk.mv (by conv => lhs; whnf) (lt_of_ble rfl)
        apply Wk.gon 14 rfl rfl
        apply Wk.ld (i := 2) 5 true ty29 rfl rfl (by conv => lhs; whnf) (lt_of_ble rfl)
        apply Wk.gon 14 rfl rfl
        apply Wk.fad 17 4 true fd77_2 rfl (lt_of_ble rfl)
        apply Wk.gon 14 rfl rfl
        apply Wk.ld (i := 3) 5 true ty44 rfl rfl (by conv => lhs; whnf) (lt_of_ble rfl)
        apply Wk.gon 14 rfl rfl
        apply Wk.dat k2 Try.func21 rfl rfl rfl rfl rfl (lt_of_ble rfl)
        apply Wk.pckT rfl (by conv => lhs; whnf) (lt_of_ble rfl)
        apply Wk.mv (by conv => lhs; whnf) (lt_of_ble rfl)
        apply Wk.goff 20 (ok_faddr fd77_3) rfl rfl (by simp)
        apply Wk.goff 20 (ok_load 3 ty74) rfl rfl (by simp)
        apply Wk.goff 20 (ok_datw (k3.w rfl) Try.func92 rfl rfl) rfl rfl (by simp)
        apply Wk.pckF rfl (by conv => lhs; whnf) (lt_of_ble rfl)
        apply Wk.mv (by conv => lhs; whnf) (lt_of_ble rfl)
        apply Wk.goff 25 (ok_faddr fd77_4) rfl rfl (by simp)
        apply Wk.goff 25 (ok_load 3 ty75) rfl rfl (by simp)
        apply Wk.goff 25 (ok_datw (k4.w rfl) Try.func93 rfl rfl) rfl rfl (by simp)
        apply Wk.pckF rfl (by conv => lhs; whnf) (lt_of_ble rfl)
        apply Wk.mv (by conv => lhs; whnf) (lt_of_ble rfl)
        apply Wk.goff 30 (ok_faddr fd77_5) rfl rfl (by simp)
        apply Wk.goff 30 (ok_load 3 ty75) rfl rfl (by simp)
        apply Wk.goff 30 (ok_datw (k5.w rfl) Try.func93 rfl rfl) rfl rfl (by simp)
        apply Wk.pckF rfl (by conv => lhs; whnf) (lt_of_ble rfl)
        apply Wk.asg (by conv => lhs; whnf) (lt_of_ble rfl)
        refine Wk.nil (AW.ret ?_)
        repeat (first | refine thenA_ret ?_ | refine inBlockA_ret ?_)
        exact RetQ.ret [] (.cons rfl .nil) ⟨rfl, rfl⟩ none_kept
      · skip
        cases b3
        · skip
          refine Spec.intro (n := 35) (rv := [.tmp 4]) Try.func57 rfl rfl rfl (by simp) fun C hN hX => ?_
          refine AW.seq ?_
          apply AW.list
          apply Wk.bx 2 rfl rfl (lt_of_ble rfl)
          apply Wk.bx 3 rfl rfl (lt_of_ble rfl)
          apply Wk.asg (by conv => lhs; whnf) (lt_of_ble rfl)
          refine Wk.nil ?_
          refine AW.seq ?_
          apply AW.list
          apply Wk.ld (i := 2) 5 true ty29 rfl rfl (by conv => lhs; whnf) (lt_of_ble rfl)
          apply Wk.fad 0 9 true fd77_0 rfl (lt_of_ble rfl)
          apply Wk.ld (i := 3) 10 true ty33 rfl rfl (by conv => lhs; whnf) (lt_of_ble rfl)
          apply Wk.dat k0 Try.func14 rfl rfl rfl rfl rfl (lt_of_ble rfl)
          apply Wk.mv (by conv => lhs; whnf) (lt_of_ble rfl)
          apply Wk.gon 9 rfl rfl
          apply Wk.fad 10 6 true fd77_1 rfl (lt_of_ble rfl)
          apply Wk.gon 9 rfl rfl
          apply Wk.ld (i := 3) 7 true ty72 rfl rfl (by conv => lhs; whnf) (lt_of_ble rfl)
          apply Wk.gon 9 rfl rfl
          apply Wk.dat k1 Try.func91 rfl rfl rfl rfl rfl (lt_of_ble rfl)
          apply Wk.pckT rfl (by conv => lhs; whnf) (lt_of_ble rfl)
          apply Wk.mv (by conv => lhs; whnf) (lt_of_ble rfl)
          apply Wk.gon 14 rfl rfl
          apply Wk.ld (i := 2) 5 true ty29 rfl rfl (by conv => lhs; whnf) (lt_of_ble rfl)
          apply Wk.gon 14 rfl rfl
          apply Wk.fad 17 4 true fd77_2 rfl (lt_of_ble rfl)
          apply Wk.gon 14 rfl rfl
          apply Wk.ld (i := 3) 5 true ty44 rfl rfl (by conv => lhs; whnf) (lt_of_ble rfl)
          apply Wk.gon 14 rfl rfl
          apply Wk.dat k2 Try.func21 rfl rfl rfl rfl rfl (lt_of_ble rfl)
          apply Wk.pckT rfl (by conv => lhs; whnf) (lt_of_ble rfl)
          apply Wk.mv (by conv => lhs; whnf) (lt_of_ble rfl)
          apply Wk.gon 20 rfl rfl
          apply Wk.fad 22 3 true fd77_3 rfl (lt_of_ble rfl)
          apply Wk.gon 20 rfl rfl
          apply Wk.ld (i := 3) 4 true ty74 rfl rfl (by conv => lhs; whnf) (lt_of_ble rfl)
          apply Wk.gon 20 rfl rfl
          apply Wk.dat k3 Try.func92 rfl rfl rfl rfl rfl (lt_of_ble rfl)
          apply Wk.pckT rfl (by conv => lhs; whnf) (lt_of_ble rfl)
          apply Wk.mv (by conv => lhs; whnf) (lt_of_ble rfl)
          apply Wk.goff 25 (ok_faddr fd77_4) rfl rfl (by simp)
          apply Wk.goff 25 (ok_load 3 ty75) rfl rfl (by simp)
          apply Wk.goff 25 (ok_datw (k4.w rfl) Try.func93 rfl rfl) rfl rfl (by simp)
          apply Wk.pckF rfl (by conv => lhs; whnf) (lt_of_ble rfl)
          apply Wk.mv (by conv => lhs; whnf) (lt_of_ble rfl)
          apply Wk.goff 30 (ok_faddr fd77_5) rfl rfl (by simp)
          apply Wk.goff 30 (ok_load 3 ty75) rfl rfl (by simp)
          apply Wk.goff 30 (ok_datw (k5.w rfl) Try.func93 rfl rfl) rfl rfl (by simp)
          apply Wk.pckF rfl (by conv => lhs; whnf) (lt_of_ble rfl)
          apply Wk.asg (by conv => lhs; whnf) (lt_of_ble rfl)
          refine Wk.nil (AW.ret ?_)
          repeat (first | refine thenA_ret ?_ | refine inBlockA_ret ?_)
          exact RetQ.ret [] (.cons rfl .nil) ⟨rfl, rfl⟩ none_kept
        · skip
          cases b4
          · skip
            refine Spec.intro (n := 35) (rv := [.tmp 4]) Try.func57 rfl rfl rfl (by simp) fun C hN hX => ?_
            refine AW.seq ?_
            apply AW.list
            apply Wk.bx 2 rfl rfl (lt_of_ble rfl)
            apply Wk.bx 3 rfl rfl (lt_of_ble rfl)
            apply Wk.asg (by conv => lhs; whnf) (lt_of_ble rfl)
            refine Wk.nil ?_
            refine AW.seq ?_
            apply AW.list
            apply Wk.ld (i := 2) 5 true ty29 rfl rfl (by conv => lhs; whnf) (lt_of_ble rfl)
            apply Wk.fad 0 9 true fd77_0 rfl (lt_of_ble rfl)
            apply Wk.ld (i := 3) 10 true ty33 rfl rfl (by conv => lhs; whnf) (lt_of_ble rfl)
            apply Wk.dat k0 Try.func14 rfl rfl rfl rfl rfl (lt_of_ble rfl)
            apply Wk.mv (by conv => lhs; whnf) (lt_of_ble rfl)
            apply Wk.gon 9 rfl rfl
            apply Wk.fad 10 6 true fd77_1 rfl (lt_of_ble rfl)
            apply Wk.gon 9 rfl rfl
            apply Wk.ld (i := 3) 7 true ty72 rfl rfl (by conv => lhs; whnf) (lt_of_ble rfl)
            apply Wk.gon 9 rfl rfl
            apply Wk.dat k1 Try.func91 rfl rfl rfl rfl rfl (lt_of_ble rfl)
            apply Wk.pckT rfl (by conv => lhs; whnf) (lt_of_ble rfl)
            apply Wk.mv (by conv => lhs; whnf) (lt_of_ble rfl)
            apply Wk.gon 14 rfl rfl
            apply Wk.ld (i := 2) 5 true ty29 rfl rfl (by conv => lhs; whnf) (lt_of_ble rfl)
            apply Wk.gon 14 rfl rfl
            apply Wk.fad 17 4 true fd77_2 rfl (lt_of_ble rfl)
            apply Wk.gon 14 rfl rfl
            apply Wk.ld (i := 3) 5 true ty44 rfl rfl (by conv => lhs; whnf) (lt_of_ble rfl)
            apply Wk.gon 14 rfl rfl
            apply Wk.dat k2 Try.func21 rfl rfl rfl rfl rfl (lt_of_ble rfl)
            apply Wk.pckT rfl (by conv => lhs; whnf) (lt_of_ble rfl)
            apply Wk.mv (by conv => lhs; whnf) (lt_of_ble rfl)
            apply Wk.gon 20 rfl rfl
            apply Wk.fad 22 3 true fd77_3 rfl (lt_of_ble rfl)
            apply Wk.gon 20 rfl rfl
            apply Wk.ld (i := 3) 4 true ty74 rfl rfl (by conv => lhs; whnf) (lt_of_ble rfl)
            apply Wk.gon 20 rfl rfl
            apply Wk.dat k3 Try.func92 rfl rfl rfl rfl rfl (lt_of_ble rfl)
            apply Wk.pckT rfl (by conv => lhs; whnf) (lt_of_ble rfl)
            apply Wk.mv (by conv => lhs; whnf) (lt_of_ble rfl)
            apply Wk.gon 25 rfl rfl
            apply Wk.fad 26 0 false fd77_4 rfl (lt_of_ble rfl)
            apply Wk.gon 25 rfl rfl
            apply Wk.ld (i := 3) 1 false ty75 rfl rfl (by conv => lhs; whnf) (lt_of_ble rfl)
            apply Wk.gon 25 rfl rfl
            apply Wk.dat k4 Try.func93 rfl rfl rfl rfl rfl (lt_of_ble rfl)
            apply Wk.pckT rfl (by conv => lhs; whnf) (lt_of_ble rfl)
            apply Wk.mv (by conv => lhs; whnf) (lt_of_ble rfl)
            apply Wk.goff 30 (ok_faddr fd77_5) rfl rfl (by simp)
            apply Wk.goff 30 (ok_load 3 ty75) rfl rfl (by simp)
            apply Wk.goff 30 (ok_datw (k5.w rfl) Try.func93 rfl rfl) rfl rfl (by simp)
            apply Wk.pckF rfl (by conv => lhs; whnf) (lt_of_ble rfl)
            apply Wk.asg (by conv => lhs; whnf) (lt_of_ble rfl)
            refine Wk.nil (AW.ret ?_)
            repeat (first | refine thenA_ret ?_ | refine inBlockA_ret ?_)
            exact RetQ.ret [] (.cons rfl .nil) ⟨rfl, rfl⟩ none_kept
          · skip
            cases b5
            · skip
              refine Spec.intro (n := 35) (rv := [.tmp 4]) Try.func57 rfl rfl rfl (by simp) fun C hN hX => ?_
              refine AW.seq ?_
              apply AW.list
              apply Wk.bx 2 rfl rfl (lt_of_ble rfl)
              apply Wk.bx 3 rfl rfl (lt_of_ble rfl)
              apply Wk.asg (by conv => lhs; whnf) (lt_of_ble rfl)
              refine Wk.nil ?_
              refine AW.seq ?_
              apply AW.list
              apply Wk.ld (i := 2) 5 true ty29 rfl rfl (by conv => lhs; whnf) (lt_of_ble rfl)
              apply Wk.fad 0 9 true fd77_0 rfl (lt_of_ble rfl)
              apply Wk.ld (i := 3) 10 true ty33 rfl rfl (by conv => lhs; whnf) (lt_of_ble rfl)
              apply Wk.dat k0 Try.func14 rfl rfl rfl rfl rfl (lt_of_ble rfl)
              apply Wk.mv (by conv => lhs; whnf) (lt_of_ble rfl)
              apply Wk.gon 9 rfl rfl
              apply Wk.fad 10 6 true fd77_1 rfl (lt_of_ble rfl)
              apply Wk.gon 9 rfl rfl
              apply Wk.ld (i := 3) 7 true ty72 rfl rfl (by conv => lhs; whnf) (lt_of_ble rfl)
              apply Wk.gon 9 rfl rfl
              apply Wk.dat k1 Try.func91 rfl rfl rfl rfl rfl (lt_of_ble rfl)
              apply Wk.pckT rfl (by conv => lhs; whnf) (lt_of_ble rfl)
              apply Wk.mv (by conv => lhs; whnf) (lt_of_ble rfl)
              apply Wk.gon 14 rfl rfl
              apply Wk.ld (i := 2) 5 true ty29 rfl rfl (by conv => lhs; whnf) (lt_of_ble rfl)
              apply Wk.gon 14 rfl rfl
              apply Wk.fad 17 4 true fd77_2 rfl (lt_of_ble rfl)
              apply Wk.gon 14 rfl rfl
              apply Wk.ld (i := 3) 5 true ty44 rfl rfl (by conv => lhs; whnf) (lt_of_ble rfl)
              apply Wk.gon 14 rfl rfl
              apply Wk.dat k2 Try.func21 rfl rfl rfl rfl rfl (lt_of_ble rfl)
              apply Wk.pckT rfl (by conv => lhs; whnf) (lt_of_ble rfl)
              apply Wk.mv (by conv => lhs; whnf) (lt_of_ble rfl)
              apply Wk.gon 20 rfl rfl
              apply Wk.fad 22 3 true fd77_3 rfl (lt_of_ble rfl)
              apply Wk.gon 20 rfl rfl
              apply Wk.ld (i := 3) 4 true ty74 rfl rfl (by conv => lhs; whnf) (lt_of_ble rfl)
              apply Wk.gon 20 rfl rfl
              apply Wk.dat k3 Try.func92 rfl rfl rfl rfl rfl (lt_of_ble rfl)
              apply Wk.pckT rfl (by conv => lhs; whnf) (lt_of_ble rfl)
              apply Wk.mv (by conv => lhs; whnf) (lt_of_ble rfl)
              apply Wk.gon 25 rfl rfl
              apply Wk.fad 26 0 false fd77_4 rfl (lt_of_ble rfl)
              apply Wk.gon 25 rfl rfl
              apply Wk.ld (i := 3) 1 false ty75 rfl rfl (by conv => lhs; whnf) (lt_of_ble rfl)
              apply Wk.gon 25 rfl rfl
              apply Wk.dat k4 Try.func93 rfl rfl rfl rfl rfl (lt_of_ble rfl)
              apply Wk.pckT rfl (by conv => lhs; whnf) (lt_of_ble rfl)
              apply Wk.mv (by conv => lhs; whnf) (lt_of_ble rfl)
              apply Wk.gon 30 rfl rfl
              apply Wk.fad 27 0 false fd77_5 rfl (lt_of_ble rfl)
              apply Wk.gon 30 rfl rfl
              apply Wk.ld (i := 3) 1 false ty75 rfl rfl (by conv => lhs; whnf) (lt_of_ble rfl)
              apply Wk.gon 30 rfl rfl
              apply Wk.dat k5 Try.func93 rfl rfl rfl rfl rfl (lt_of_ble rfl)
              apply Wk.pckT rfl (by conv => lhs; whnf) (lt_of_ble rfl)
              apply Wk.asg (by conv => lhs; whnf) (lt_of_ble rfl)
              refine Wk.nil (AW.ret ?_)
              repeat (first | refine thenA_ret ?_ | refine inBlockA_ret ?_)
              exact RetQ.ret [] (.cons rfl .nil) ⟨rfl, rfl⟩ none_kept
            · skip
              refine Spec.intro (n := 35) (rv := [.tmp 4]) Try.func57 rfl rfl rfl (by simp) fun C hN hX => ?_
              refine AW.seq ?_
              apply AW.list
              apply Wk.bx 2 rfl rfl (lt_of_ble rfl)
              apply Wk.bx 3 rfl rfl (lt_of_ble rfl)
              apply Wk.asg (by conv => lhs; whnf) (lt_of_ble rfl)
              refine Wk.nil ?_
              refine AW.seq ?_
              apply AW.list
              apply Wk.ld (i := 2) 5 true ty29 rfl rfl (by conv => lhs; whnf) (lt_of_ble rfl)
              apply Wk.fad 0 9 true fd77_0 rfl (lt_of_ble rfl)
              apply Wk.ld (i := 3) 10 true ty33 rfl rfl (by conv => lhs; whnf) (lt_of_ble rfl)
              apply Wk.dat k0 Try.func14 rfl rfl rfl rfl rfl (lt_of_ble rfl)
              apply Wk.mv (by conv => lhs; whnf) (lt_of_ble rfl)
              apply Wk.gon 9 rfl rfl
              apply Wk.fad 10 6 true fd77_1 rfl (lt_of_ble rfl)
              apply Wk.gon 9 rfl rfl
              apply Wk.ld (i := 3) 7 true ty72 rfl rfl (by conv => lhs; whnf) (lt_of_ble rfl)
              apply Wk.gon 9 rfl rfl
              apply Wk.dat k1 Try.func91 rfl rfl rfl rfl rfl (lt_of_ble rfl)
              apply Wk.pckT rfl (by conv => lhs; whnf) (lt_of_ble rfl)
              apply Wk.mv (by conv => lhs; whnf) (lt_of_ble rfl)
              apply Wk.gon 14 rfl rfl
              apply Wk.ld (i := 2) 5 true ty29 rfl rfl (by conv => lhs; whnf) (lt_of_ble rfl)
              apply Wk.gon 14 rfl rfl
              apply Wk.fad 17 4 true fd77_2 rfl (lt_of_ble rfl)
              apply Wk.gon 14 rfl rfl
              apply Wk.ld (i := 3) 5 true ty44 rfl rfl (by conv => lhs; whnf) (lt_of_ble rfl)
              apply Wk.gon 14 rfl rfl
              apply Wk.dat k2 Try.func21 rfl rfl rfl rfl rfl (lt_of_ble rfl)
              apply Wk.pckT rfl (by conv => lhs; whnf) (lt_of_ble rfl)
              apply Wk.mv (by conv => lhs; whnf) (lt_of_ble rfl)
              apply Wk.gon 20 rfl rfl
              apply Wk.fad 22 3 true fd77_3 rfl (lt_of_ble rfl)
              apply Wk.gon 20 rfl rfl
              apply Wk.ld (i := 3) 4 true ty74 rfl rfl (by conv => lhs; whnf) (lt_of_ble rfl)
              apply Wk.gon 20 rfl rfl
              apply Wk.dat k3 Try.func92 rfl rfl rfl rfl rfl (lt_of_ble rfl)
              apply Wk.pckT rfl (by conv => lhs; whnf) (lt_of_ble rfl)
              apply Wk.mv (by conv => lhs; whnf) (lt_of_ble rfl)
              apply Wk.gon 25 rfl rfl
              apply Wk.fad 26 0 false fd77_4 rfl (lt_of_ble rfl)
              apply Wk.gon 25 rfl rfl
              apply Wk.ld (i := 3) 1 false ty75 rfl rfl (by conv => lhs; whnf) (lt_of_ble rfl)
              apply Wk.gon 25 rfl rfl
              apply Wk.dat k4 Try.func93 rfl rfl rfl rfl rfl (lt_of_ble rfl)
              apply Wk.pckT rfl (by conv => lhs; whnf) (lt_of_ble rfl)
              apply Wk.mv (by conv => lhs; whnf) (lt_of_ble rfl)
              apply Wk.gon 30 rfl rfl
              apply Wk.fad 27 0 false fd77_5 rfl (lt_of_ble rfl)
              apply Wk.gon 30 rfl rfl
              apply Wk.ld (i := 3) 1 false ty75 rfl rfl (by conv => lhs; whnf) (lt_of_ble rfl)
              apply Wk.gon 30 rfl rfl
              apply Wk.dat k5 Try.func93 rfl rfl rfl rfl rfl (lt_of_ble rfl)
              apply Wk.pckT rfl (by conv => lhs; whnf) (lt_of_ble rfl)
              apply Wk.asg (by conv => lhs; whnf) (lt_of_ble rfl)
              refine Wk.nil (AW.ret ?_)
              repeat (first | refine thenA_ret ?_ | refine inBlockA_ret ?_)
              exact RetQ.ret [] (.cons rfl .nil) ⟨rfl, rfl⟩ none_kept
set_option maxHeartbeats 4000000 in
set_option maxRecDepth 100000 in
theorem iwok_ok (x : WD) : DataOk Try.prog 26 [wdA x] (.d (.v (.bool x.okB))) := by
  obtain ⟨m, w, p, u, y, ends, net, link⟩ := x
  have el : (((ends.map enD).length : Nat) : Int) = (ends.length : Int) := by rw [List.length_map]
  have nl : (((net.map fun l => [D.row (l.map msgC)]).length : Nat) : Int) = (net.length : Int) := by rw [List.length_map]
  have k1 := ione_ok link
  by_cases he : ends.length = 2
  rotate_left
  · skip
    rw [show WD.okB ⟨m, w, p, u, y, ends, net, link⟩ = false from by simp [WD.okB, he]]
    refine Spec.intro (n := 42) (rv := [.tmp 2]) Try.func26 rfl rfl rfl (by simp) fun C hN hX => ?_
    refine AW.seq ?_
    apply AW.list
    apply Wk.bx 1 rfl rfl (lt_of_ble rfl)
    apply Wk.asg (by conv => lhs; whnf) (lt_of_ble rfl)
    refine Wk.nil ?_
    refine AW.seq (AW.seq ?_)
    apply AW.list
    apply Wk.fad 5 0 false fd57_1 rfl (lt_of_ble rfl)
    apply Wk.ld (i := 1) 1 false ty54 rfl rfl (by conv => lhs; whnf) (lt_of_ble rfl)
    apply Wk.len un54 rfl (lt_of_ble rfl)
    apply Wk.bin rfl rfl (r := .bool true) (fun w => by rw [el]; simp [go_sem]; omega) (lt_of_ble rfl)
    apply Wk.mv (by conv => lhs; whnf) (lt_of_ble rfl)
    apply Wk.goff 8 (ok_faddr fd57_2) rfl rfl (by simp)
    apply Wk.goff 8 (ok_load 1 ty55) rfl rfl (by simp)
    apply Wk.goff 8 (ok_len un55) rfl rfl (by simp)
    apply Wk.goff 8 (ok_bin _ _ _ _ _) rfl rfl (by simp)
    apply Wk.pckT rfl (by conv => lhs; whnf) (lt_of_ble rfl)
    apply Wk.mv (by conv => lhs; whnf) (lt_of_ble rfl)
    apply Wk.goff 14 (ok_faddr fd57_3) rfl rfl (by simp)
    apply Wk.goff 14 (ok_load 1 ty3) rfl rfl (by simp)
    apply Wk.goff 14 (ok_datw (k1.w rfl) Try.func56 rfl rfl) rfl rfl (by simp)
    apply Wk.goff 14 (ok_un _ _ _) rfl rfl (by simp)
    apply Wk.pckT rfl (by conv => lhs; whnf) (lt_of_ble rfl)
    refine Wk.nil ?_
    refine AW.cond rfl (fun _ => ?_) (fun hc => by cases hc)
    refine AW.seq ?_
    apply AW.list
    apply Wk.asg (by conv => lhs; whnf) (lt_of_ble rfl)
    refine Wk.nil (AW.ret ?_)
    repeat (first | refine thenA_ret ?_ | refine inBlockA_ret ?_)
    exact RetQ.ret [] (.cons rfl .nil) ⟨rfl, rfl⟩ none_kept
  by_cases hn : net.length = 2
  rotate_left
  · skip
    rw [show WD.okB ⟨m, w, p, u, y, ends, net, link⟩ = false from by simp [WD.okB, hn]]
    refine Spec.intro (n := 42) (rv := [.tmp 2]) Try.func26 rfl rfl rfl (by simp) fun C hN hX => ?_
    refine AW.seq ?_
    apply AW.list
    apply Wk.bx 1 rfl rfl (lt_of_ble rfl)
    apply Wk.asg (by conv => lhs; whnf) (lt_of_ble rfl)
    refine Wk.nil ?_
    refine AW.seq (AW.seq ?_)
    apply AW.list
    apply Wk.fad 5 0 false fd57_1 rfl (lt_of_ble rfl)
    apply Wk.ld (i := 1) 1 false ty54 rfl rfl (by conv => lhs; whnf) (lt_of_ble rfl)
    apply Wk.len un54 rfl (lt_of_ble rfl)
    apply Wk.bin rfl rfl (r := .bool false) (fun w => by rw [el]; simp [go_sem]; omega) (lt_of_ble rfl)
    apply Wk.mv (by conv => lhs; whnf) (lt_of_ble rfl)
    apply Wk.gon 8 rfl rfl
    apply Wk.fad 6 0 false fd57_2 rfl (lt_of_ble rfl)
    apply Wk.gon 8 rfl rfl
    apply Wk.ld (i := 1) 1 false ty55 rfl rfl (by conv => lhs; whnf) (lt_of_ble rfl)
    apply Wk.gon 8 rfl rfl
    apply Wk.len un55 rfl (lt_of_ble rfl)
    apply Wk.gon 8 rfl rfl
    apply Wk.bin rfl rfl (r := .bool true) (fun w => by rw [nl]; simp [go_sem]; omega) (lt_of_ble rfl)
    apply Wk.pckF rfl (by conv => lhs; whnf) (lt_of_ble rfl)
    apply Wk.mv (by conv => lhs; whnf) (lt_of_ble rfl)
    apply Wk.goff 14 (ok_faddr fd57_3) rfl rfl (by simp)
    apply Wk.goff 14 (ok_load 1 ty3) rfl rfl (by simp)
    apply Wk.goff 14 (ok_datw (k1.w rfl) Try.func56 rfl rfl) rfl rfl (by simp)
    apply Wk.goff 14 (ok_un _ _ _) rfl rfl (by simp)
    apply Wk.pckT rfl (by conv => lhs; whnf) (lt_of_ble rfl)
    refine Wk.nil ?_
    refine AW.cond rfl (fun _ => ?_) (fun hc => by cases hc)
    refine AW.seq ?_
    apply AW.list
    apply Wk.asg (by conv => lhs; whnf) (lt_of_ble rfl)
    refine Wk.nil (AW.ret ?_)
    repeat (first | refine thenA_ret ?_ | refine inBlockA_ret ?_)
    exact RetQ.ret [] (.cons rfl .nil) ⟨rfl, rfl⟩ none_kept
  cases hk : inB link 0 1
  · rw [hk] at k1
    rw [show WD.okB ⟨m, w, p, u, y, ends, net, link⟩ = false from by simp [WD.okB, hk]]
    refine Spec.intro (n := 42) (rv := [.tmp 2]) Try.func26 rfl rfl rfl (by simp) fun C hN hX => ?_
    refine AW.seq ?_
    apply AW.list
    apply Wk.bx 1 rfl rfl (lt_of_ble rfl)
    apply Wk.asg (by conv => lhs; whnf) (lt_of_ble rfl)
    refine Wk.nil ?_
    refine AW.seq (AW.seq ?_)
    apply AW.list
    apply Wk.fad 5 0 false fd57_1 rfl (lt_of_ble rfl)
    apply Wk.ld (i := 1) 1 false ty54 rfl rfl (by conv => lhs; whnf) (lt_of_ble rfl)
    apply Wk.len un54 rfl (lt_of_ble rfl)
    apply Wk.bin rfl rfl (r := .bool false) (fun w => by rw [el]; simp [go_sem]; omega) (lt_of_ble rfl)
    apply Wk.mv (by conv => lhs; whnf) (lt_of_ble rfl)
    apply Wk.gon 8 rfl rfl
    apply Wk.fad 6 0 false fd57_2 rfl (lt_of_ble rfl)
    apply Wk.gon 8 rfl rfl
    apply Wk.ld (i := 1) 1 false ty55 rfl rfl (by conv => lhs; whnf) (lt_of_ble rfl)
    apply Wk.gon 8 rfl rfl
    apply Wk.len un55 rfl (lt_of_ble rfl)
    apply Wk.gon 8 rfl rfl
    apply Wk.bin rfl rfl (r := .bool false) (fun w => by rw [nl]; simp [go_sem]; omega) (lt_of_ble rfl)
    apply Wk.pckF rfl (by conv => lhs; whnf) (lt_of_ble rfl)
    apply Wk.mv (by conv => lhs; whnf) (lt_of_ble rfl)
    apply Wk.gon 14 rfl rfl
    apply Wk.fad 7 0 false fd57_3 rfl (lt_of_ble rfl)
    apply Wk.gon 14 rfl rfl
    apply Wk.ld (i := 1) 1 false ty3 rfl rfl (by conv => lhs; whnf) (lt_of_ble rfl)
    apply Wk.gon 14 rfl rfl
    apply Wk.dat k1 Try.func56 rfl rfl rfl rfl rfl (lt_of_ble rfl)
    apply Wk.gon 14 rfl rfl
    apply Wk.un rfl (fun w => by simp [go_sem] <;> rfl) (lt_of_ble rfl)
    apply Wk.pckF rfl (by conv => lhs; whnf) (lt_of_ble rfl)
    refine Wk.nil ?_
    refine AW.cond rfl (fun _ => ?_) (fun hc => by cases hc)
    refine AW.seq ?_
    apply AW.list
    apply Wk.asg (by conv => lhs; whnf) (lt_of_ble rfl)
    refine Wk.nil (AW.ret ?_)
    repeat (first | refine thenA_ret ?_ | refine inBlockA_ret ?_)
    exact RetQ.ret [] (.cons rfl .nil) ⟨rfl, rfl⟩ none_kept
  rw [hk] at k1
  refine Spec.intro (n := 42) (rv := [.tmp 2]) Try.func26 rfl rfl rfl (by simp) fun C hN hX => ?_
  refine AW.seq ?_
  apply AW.list
  apply Wk.bx 1 rfl rfl (lt_of_ble rfl)
  apply Wk.asg (by conv => lhs; whnf) (lt_of_ble rfl)
  refine Wk.nil ?_
  refine AW.seq (AW.seq ?_)
  apply AW.list
  apply Wk.fad 5 0 false fd57_1 rfl (lt_of_ble rfl)
  apply Wk.ld (i := 1) 1 false ty54 rfl rfl (by conv => lhs; whnf) (lt_of_ble rfl)
  apply Wk.len un54 rfl (lt_of_ble rfl)
  apply Wk.bin rfl rfl (r := .bool false) (fun w => by rw [el]; simp [go_sem]; omega) (lt_of_ble rfl)
  apply Wk.mv (by conv => lhs; whnf) (lt_of_ble rfl)
  apply Wk.gon 8 rfl rfl
  apply Wk.fad 6 0 false fd57_2 rfl (lt_of_ble rfl)
  apply Wk.gon 8 rfl rfl
  apply Wk.ld (i := 1) 1 false ty55 rfl rfl (by conv => lhs; whnf) (lt_of_ble rfl)
  apply Wk.gon 8 rfl rfl
  apply Wk.len un55 rfl (lt_of_ble rfl)
  apply Wk.gon 8 rfl rfl
  apply Wk.bin rfl rfl (r := .bool false) (fun w => by rw [nl]; simp [go_sem]; omega) (lt_of_ble rfl)
  apply Wk.pckF rfl (by conv => lhs; whnf) (lt_of_ble rfl)
  apply Wk.mv (by conv => lhs; whnf) (lt_of_ble rfl)
  apply Wk.gon 14 rfl rfl
  apply Wk.fad 7 0 false fd57_3 rfl (lt_of_ble rfl)
  apply Wk.gon 14 rfl rfl
  apply Wk.ld (i := 1) 1 false ty3 rfl rfl (by conv => lhs; whnf) (lt_of_ble rfl)
  apply Wk.gon 14 rfl rfl
  apply Wk.dat k1 Try.func56 rfl rfl rfl rfl rfl (lt_of_ble rfl)
  apply Wk.gon 14 rfl rfl
  apply Wk.un rfl (fun w => by simp [go_sem] <;> rfl) (lt_of_ble rfl)
  apply Wk.pckF rfl (by conv => lhs; whnf) (lt_of_ble rfl)
  refine Wk.nil ?_
  refine AW.cond rfl (fun hc => by cases hc) (fun _ => AW.skip (thenA_normal ?_))
  refine AW.seq (AW.seq ?_)
  apply AW.list
  apply Wk.mv (by conv => lhs; whnf) (lt_of_ble rfl)
  refine Wk.nil (AW.block ?_)
  refine AW.loop (fun k : Nat => St.of 42 [(1, .ptr 1 0), (20, .d (.v (.int .i64 (k : Int))))] [(1, .var ((wdD ⟨m, w, p, u, y, ends, net, link⟩).map A.d))]) (fun k => k ≤ 2 ∧ (∀ a ∈ ends.take k, EN.okB ⟨m, w, p, u, y⟩ a = true) ∧ ∀ a ∈ net.take k, netB a = true) (fun k => 2 - k) 0 ⟨by omega, by simp, by simp⟩ ?_ ?_
  · exact fun a w => Rel.keep ⟨rfl, .cons rfl rfl (.cons rfl rfl .nil), .cons rfl rfl .nil, hN.mono (by simp [keys])⟩
  rintro k ⟨hk2, hke, hkn⟩
  show AW Try.prog C _ _ (St.of 42 [(1, .ptr 1 0), (20, .d (.v (.int .i64 (k : Int))))] [(1, .var ((wdD ⟨m, w, p, u, y, ends, net, link⟩).map A.d))])
  refine AW.seq ?_
  by_cases hlt : k < 2
  · skip
    apply AW.list
    apply Wk.bin rfl rfl (r := .bool true) (fun w => by simp [go_sem]; omega) (lt_of_ble rfl)
    refine Wk.nil ?_
    refine AW.seq ?_
    refine AW.cond rfl (fun _ => AW.skip ?_) (fun hc => by cases hc)
    repeat (first | refine thenA_normal ?_ | refine inBlockA_normal ?_)
    obtain ⟨e, hd⟩ : ∃ d, ends[k]? = some d := ⟨_, List.getElem?_eq_getElem (by omega)⟩
    obtain ⟨l, hl⟩ : ∃ d, net[k]? = some d := ⟨_, List.getElem?_eq_getElem (by omega)⟩
    have hget : (ends.map enD)[k]? = some (enD e) := by simp [hd]
    have hklt : k < (ends.map enD).length := by simp; omega
    have nget : (net.map fun l => [D.row (l.map msgC)])[k]? = some [D.row (l.map msgC)] := by simp [hl]
    have nklt : k < (net.map fun l => [D.row (l.map msgC)]).length := by simp; omega
    have next : EN.okB ⟨m, w, p, u, y⟩ e = true → netB l = true → k + 1 ≤ 2 ∧ (∀ a ∈ ends.take (k + 1), EN.okB ⟨m, w, p, u, y⟩ a = true) ∧ ∀ a ∈ net.take (k + 1), netB a = true := fun hb hb2 => ⟨by omega, fun a ha => by
      rw [List.take_add_one, hd] at ha
      rcases List.mem_append.1 ha with h | h
      · exact hke a h
      · obtain rfl : a = e := by simpa using h
        exact hb, fun a ha => by
      rw [List.take_add_one, hl] at ha
      rcases List.mem_append.1 ha with h | h
      · exact hkn a h
      · obtain rfl : a = l := by simpa using h
        exact hb2⟩
    have done : EN.okB ⟨m, w, p, u, y⟩ e = false ∨ netB l = false → WD.okB ⟨m, w, p, u, y, ends, net, link⟩ = false := fun hb => by
      cases hw : WD.okB ⟨m, w, p, u, y, ends, net, link⟩ with
      | false => rfl
      | true =>
        simp only [WD.okB, Bool.and_eq_true, List.all_eq_true] at hw
        rcases hb with hb | hb
        · rw [hw.2.2.2.2.1 e (List.mem_of_getElem? hd)] at hb; cases hb
        · rw [hw.2.2.2.2.2 l (List.mem_of_getElem? hl)] at hb; cases hb
    have ce := iend_ok m w p u y e
    have cn := inets_ok l
    refine AW.seq (AW.block (AW.seq ?_))
    apply AW.list
    apply Wk.mv (by conv => lhs; whnf) (lt_of_ble rfl)
    apply Wk.asg (by conv => lhs; whnf) (lt_of_ble rfl)
    refine Wk.nil ?_
    refine AW.seq ?_
    obtain ⟨be, hbe⟩ : ∃ b, EN.okB ⟨m, w, p, u, y⟩ e = b := ⟨_, rfl⟩
    obtain ⟨bn, hbn⟩ : ∃ b, netB l = b := ⟨_, rfl⟩
    rw [hbe] at ce next done
    rw [hbn] at cn next done
    clear hbe hbn
    cases be
    · skip
      apply AW.draw (hm := hmix) (cs := _)
      · apply Wk.fad 0 4 true fd57_0 rfl (lt_of_ble rfl)
        apply Wk.ld (i := 1) 5 true ty29 rfl rfl (by conv => lhs; whnf) (lt_of_ble rfl)
        apply Wk.fad 5 0 false fd57_1 rfl (lt_of_ble rfl)
        apply Wk.ld (i := 1) 1 false ty54 rfl rfl (by conv => lhs; whnf) (lt_of_ble rfl)
        apply Wk.mv (by conv => lhs; whnf) (lt_of_ble rfl)
        apply Wk.iad 28 true un54 ty77 rfl rfl hklt (enD_len _) (lt_of_ble rfl)
        apply Wk.ldr 28 true ty77 rfl hget (by conv => lhs; whnf) (lt_of_ble rfl)
        apply Wk.dat ce Try.func57 rfl rfl rfl rfl rfl (lt_of_ble rfl)
        apply Wk.un rfl (fun w => by simp [go_sem] <;> rfl) (lt_of_ble rfl)
        apply Wk.mv (by conv => lhs; whnf) (lt_of_ble rfl)
        apply Wk.goff 32 (ok_faddr fd57_2) rfl rfl (by simp)
        apply Wk.goff 32 (ok_load 1 ty55) rfl rfl (by simp)
        apply Wk.goff 32 (ok_move _) rfl rfl (by simp)
        apply Wk.goff 32 (ok_iaddr un55 ty78) rfl rfl (by simp)
        apply Wk.goff 32 (ok_loadr ty78) rfl rfl (by simp)
        apply Wk.goff 32 (ok_datw (cn.w rfl) Try.func58 rfl rfl) rfl rfl (by simp)
        apply Wk.goff 32 (ok_un _ _ _) rfl rfl (by simp)
        apply Wk.pckT rfl (by conv => lhs; whnf) (lt_of_ble rfl)
        refine Wk.nil ?_
        refine AW.cond rfl (fun _ => ?_) (fun hc => by cases hc)
        rw [done (by simp)]
        refine AW.seq ?_
        apply AW.list
        apply Wk.asg (by conv => lhs; whnf) (lt_of_ble rfl)
        refine Wk.nil (AW.ret ?_)
        repeat (first | refine thenA_ret ?_ | refine inBlockA_ret ?_)
        exact RetQ.ret [] (.cons rfl .nil) ⟨rfl, rfl⟩ none_kept
      · rfl
      · rfl
    · cases bn
      · skip
        apply AW.draw (hm := hmix) (cs := _)
        · apply Wk.fad 0 4 true fd57_0 rfl (lt_of_ble rfl)
          apply Wk.ld (i := 1) 5 true ty29 rfl rfl (by conv => lhs; whnf) (lt_of_ble rfl)
          apply Wk.fad 5 0 false fd57_1 rfl (lt_of_ble rfl)
          apply Wk.ld (i := 1) 1 false ty54 rfl rfl (by conv => lhs; whnf) (lt_of_ble rfl)
          apply Wk.mv (by conv => lhs; whnf) (lt_of_ble rfl)
          apply Wk.iad 28 true un54 ty77 rfl rfl hklt (enD_len _) (lt_of_ble rfl)
          apply Wk.ldr 28 true ty77 rfl hget (by conv => lhs; whnf) (lt_of_ble rfl)
          apply Wk.dat ce Try.func57 rfl rfl rfl rfl rfl (lt_of_ble rfl)
          apply Wk.un rfl (fun w => by simp [go_sem] <;> rfl) (lt_of_ble rfl)
          apply Wk.mv (by conv => lhs; whnf) (lt_of_ble rfl)
          apply Wk.gon 32 rfl rfl
          apply Wk.fad 6 0 false fd57_2 rfl (lt_of_ble rfl)
          apply Wk.gon 32 rfl rfl
          apply Wk.ld (i := 1) 1 false ty55 rfl rfl (by conv => lhs; whnf) (lt_of_ble rfl)
          apply Wk.gon 32 rfl rfl
          apply Wk.mv (by conv => lhs; whnf) (lt_of_ble rfl)
          apply Wk.gon 32 rfl rfl
          apply Wk.iad 1 false un55 ty78 rfl rfl nklt (net_one _) (lt_of_ble rfl)
          apply Wk.gon 32 rfl rfl
          apply Wk.ldr 1 false ty78 rfl nget (by conv => lhs; whnf) (lt_of_ble rfl)
          apply Wk.gon 32 rfl rfl
          apply Wk.dat cn Try.func58 rfl rfl rfl rfl rfl (lt_of_ble rfl)
          apply Wk.gon 32 rfl rfl
          apply Wk.un rfl (fun w => by simp [go_sem] <;> rfl) (lt_of_ble rfl)
          apply Wk.pckF rfl (by conv => lhs; whnf) (lt_of_ble rfl)
          refine Wk.nil ?_
          refine AW.cond rfl (fun _ => ?_) (fun hc => by cases hc)
          rw [done (by simp)]
          refine AW.seq ?_
          apply AW.list
          apply Wk.asg (by conv => lhs; whnf) (lt_of_ble rfl)
          refine Wk.nil (AW.ret ?_)
          repeat (first | refine thenA_ret ?_ | refine inBlockA_ret ?_)
          exact RetQ.ret [] (.cons rfl .nil) ⟨rfl, rfl⟩ none_kept
        · rfl
        · rfl
      · skip
        apply AW.draw (hm := hmix) (cs := _)
        · apply Wk.fad 0 4 true fd57_0 rfl (lt_of_ble rfl)
          apply Wk.ld (i := 1) 5 true ty29 rfl rfl (by conv => lhs; whnf) (lt_of_ble rfl)
          apply Wk.fad 5 0 false fd57_1 rfl (lt_of_ble rfl)
          apply Wk.ld (i := 1) 1 false ty54 rfl rfl (by conv => lhs; whnf) (lt_of_ble rfl)
          apply Wk.mv (by conv => lhs; whnf) (lt_of_ble rfl)
          apply Wk.iad 28 true un54 ty77 rfl rfl hklt (enD_len _) (lt_of_ble rfl)
          apply Wk.ldr 28 true ty77 rfl hget (by conv => lhs; whnf) (lt_of_ble rfl)
          apply Wk.dat ce Try.func57 rfl rfl rfl rfl rfl (lt_of_ble rfl)
          apply Wk.un rfl (fun w => by simp [go_sem] <;> rfl) (lt_of_ble rfl)
          apply Wk.mv (by conv => lhs; whnf) (lt_of_ble rfl)
          apply Wk.gon 32 rfl rfl
          apply Wk.fad 6 0 false fd57_2 rfl (lt_of_ble rfl)
          apply Wk.gon 32 rfl rfl
          apply Wk.ld (i := 1) 1 false ty55 rfl rfl (by conv => lhs; whnf) (lt_of_ble rfl)
          apply Wk.gon 32 rfl rfl
          apply Wk.mv (by conv => lhs; whnf) (lt_of_ble rfl)
          apply Wk.gon 32 rfl rfl
          apply Wk.iad 1 false un55 ty78 rfl rfl nklt (net_one _) (lt_of_ble rfl)
          apply Wk.gon 32 rfl rfl
          apply Wk.ldr 1 false ty78 rfl nget (by conv => lhs; whnf) (lt_of_ble rfl)
          apply Wk.gon 32 rfl rfl
          apply Wk.dat cn Try.func58 rfl rfl rfl rfl rfl (lt_of_ble rfl)
          apply Wk.gon 32 rfl rfl
          apply Wk.un rfl (fun w => by simp [go_sem] <;> rfl) (lt_of_ble rfl)
          apply Wk.pckF rfl (by conv => lhs; whnf) (lt_of_ble rfl)
          refine Wk.nil ?_
          refine AW.cond rfl (fun hc => by cases hc) (fun _ => AW.skip ?_)
          repeat (first | refine thenA_normal ?_ | refine inBlockA_normal ?_)
          apply AW.list
          apply Wk.addn (b := 1) rfl rfl (by omega) (lt_of_ble rfl)
          apply Wk.mv (by conv => lhs; whnf) (lt_of_ble rfl)
          refine Wk.nil ?_
          repeat (first | refine thenA_normal ?_ | refine inBlockA_normal ?_)
          exact ⟨k + 1, next rfl rfl, by omega, fun a w => Rel.keep ⟨rfl, .cons rfl rfl (.cons rfl rfl .nil), .cons rfl rfl .nil, hN.mono (by simp [keys])⟩⟩
        · rfl
        · rfl
  · skip
    have hk3 : k = 2 := by omega
    subst hk3
    apply AW.list
    apply Wk.bin rfl rfl (r := .bool false) (fun w => by simp [go_sem]) (lt_of_ble rfl)
    refine Wk.nil ?_
    refine AW.seq ?_
    refine AW.cond rfl (fun hc => by cases hc) (fun _ => AW.exit ?_)
    repeat (first | refine inBlockA_same ?_ | refine thenA_exit ?_)
    repeat (first | refine thenA_normal ?_ | refine inBlockA_normal ?_)
    rw [List.take_of_length_le (by omega)] at hke hkn
    rw [show WD.okB ⟨m, w, p, u, y, ends, net, link⟩ = true from by
      obtain ⟨e, hd⟩ : ∃ d, ends[0]? = some d := ⟨_, List.getElem?_eq_getElem (by omega)⟩
      have h0 := hke e (List.mem_of_getElem? hd)
      simp only [EN.okB, Bool.and_eq_true] at h0
      have h1 := (crdOk_facts h0.2.2.1).1
      simp only [WD.okB, Bool.and_eq_true, List.all_eq_true, decide_eq_true_eq]
      exact ⟨h1, he, hn, hk, hke, hkn⟩]
    refine AW.seq ?_
    apply AW.list
    apply Wk.asg (by conv => lhs; whnf) (lt_of_ble rfl)
    refine Wk.nil (AW.ret ?_)
    repeat (first | refine thenA_ret ?_ | refine inBlockA_ret ?_)
    exact RetQ.ret [] (.cons rfl .nil) ⟨rfl, rfl⟩ none_kept
set_option maxHeartbeats 4000000 in
set_option maxRecDepth 100000 in
theorem send_ok (m w p u y : Int) (e : EN) : DataOk Try.prog 53 [cfgA m w p u y, .agg ((enD e).map A.d)] (.d (.v (.bool (EN.okB ⟨m, w, p, u, y⟩ e)))) := by
  have k0 := stx_ok m w p u y e.tx
  have k1 := srx_ok e.rx.e e.rx.c e.rx.m e.rx.bs e.rx.a e.rx.u e.rx.d
  have k2 := scx_ok m w p u y e.cx
  have k3 := scrx_ok e.kx.v e.kx.m e.kx.bs e.kx.d
  unfold EN.okB
  generalize txOkB ⟨m, w, p, u, y⟩ e.tx = b0 at *
  generalize rxB e.rx.e e.rx.c e.rx.m e.rx.bs.length = b1 at *
  generalize crdOkB ⟨m, w, p, u, y⟩ e.cx = b2 at *
  generalize crxB e.kx.v e.kx.m e.kx.bs.length = b3 at *
  obtain ⟨⟨n, a, fl, s, qu, q, t, h, c, d0⟩, ⟨e1, c1, m1, z1, a1, u1, d1⟩, ⟨v2, q2, g2, s2, d2⟩, ⟨v3, m3, z3, d3⟩, put, got⟩ := e
  have pl : (((put.map bsC).length : Nat) : Int) = (put.length : Int) := by rw [List.length_map]
  have gl : (((got.map bsC).length : Nat) : Int) = (got.length : Int) := by rw [List.length_map]
  cases b0
  · skip
    refine Spec.intro (n := 71) (rv := [.tmp 4]) Try.func53 rfl rfl rfl (by simp) fun C hN hX => ?_
    refine AW.seq ?_
    apply AW.list
    apply Wk.bx 2 rfl rfl (lt_of_ble rfl)
    apply Wk.bx 3 rfl rfl (lt_of_ble rfl)
    apply Wk.asg (by conv => lhs; whnf) (lt_of_ble rfl)
    refine Wk.nil ?_
    refine AW.seq (AW.seq ?_)
    apply AW.list
    apply Wk.ld (i := 2) 5 true ty29 rfl rfl (by conv => lhs; whnf) (lt_of_ble rfl)
    apply Wk.fad 0 9 true fd77_0 rfl (lt_of_ble rfl)
    apply Wk.ld (i := 3) 10 true ty33 rfl rfl (by conv => lhs; whnf) (lt_of_ble rfl)
    apply Wk.dat k0 Try.func11 rfl rfl rfl rfl rfl (lt_of_ble rfl)
    apply Wk.un rfl (fun w => by simp [go_sem] <;> rfl) (lt_of_ble rfl)
    apply Wk.mv (by conv => lhs; whnf) (lt_of_ble rfl)
    apply Wk.goff 12 (ok_faddr fd77_1) rfl rfl (by simp)
    apply Wk.goff 12 (ok_load 3 ty72) rfl rfl (by simp)
    apply Wk.goff 12 (ok_datw (k1.w rfl) Try.func87 rfl rfl) rfl rfl (by simp)
    apply Wk.goff 12 (ok_un _ _ _) rfl rfl (by simp)
    apply Wk.pckT rfl (by conv => lhs; whnf) (lt_of_ble rfl)
    apply Wk.mv (by conv => lhs; whnf) (lt_of_ble rfl)
    apply Wk.goff 18 (ok_load 2 ty29) rfl rfl (by simp)
    apply Wk.goff 18 (ok_faddr fd77_2) rfl rfl (by simp)
    apply Wk.goff 18 (ok_load 3 ty44) rfl rfl (by simp)
    apply Wk.goff 18 (ok_datw (k2.w rfl) Try.func19 rfl rfl) rfl rfl (by simp)
    apply Wk.goff 18 (ok_un _ _ _) rfl rfl (by simp)
    apply Wk.pckT rfl (by conv => lhs; whnf) (lt_of_ble rfl)
    apply Wk.mv (by conv => lhs; whnf) (lt_of_ble rfl)
    apply Wk.goff 25 (ok_faddr fd77_3) rfl rfl (by simp)
    apply Wk.goff 25 (ok_load 3 ty74) rfl rfl (by simp)
    apply Wk.goff 25 (ok_datw (k3.w rfl) Try.func88 rfl rfl) rfl rfl (by simp)
    apply Wk.goff 25 (ok_un _ _ _) rfl rfl (by simp)
    apply Wk.pckT rfl (by conv => lhs; whnf) (lt_of_ble rfl)
    apply Wk.mv (by conv => lhs; whnf) (lt_of_ble rfl)
    apply Wk.goff 31 (ok_faddr fd77_4) rfl rfl (by simp)
    apply Wk.goff 31 (ok_load 3 ty75) rfl rfl (by simp)
    apply Wk.goff 31 (ok_len un75) rfl rfl (by simp)
    apply Wk.goff 31 (ok_bin _ _ _ _ _) rfl rfl (by simp)
    apply Wk.pckT rfl (by conv => lhs; whnf) (lt_of_ble rfl)
    apply Wk.mv (by conv => lhs; whnf) (lt_of_ble rfl)
    apply Wk.goff 37 (ok_faddr fd77_5) rfl rfl (by simp)
    apply Wk.goff 37 (ok_load 3 ty75) rfl rfl (by simp)
    apply Wk.goff 37 (ok_len un75) rfl rfl (by simp)
    apply Wk.goff 37 (ok_bin _ _ _ _ _) rfl rfl (by simp)
    apply Wk.pckT rfl (by conv => lhs; whnf) (lt_of_ble rfl)
    refine Wk.nil ?_
    refine AW.cond rfl (fun _ => ?_) (fun hc => by cases hc)
    refine AW.seq ?_
    apply AW.list
    apply Wk.asg (by conv => lhs; whnf) (lt_of_ble rfl)
    refine Wk.nil (AW.ret ?_)
    repeat (first | refine thenA_ret ?_ | refine inBlockA_ret ?_)
    exact RetQ.ret [] (.cons rfl .nil) ⟨rfl, rfl⟩ none_kept
  · skip
    cases b1
    · skip
      refine Spec.intro (n := 71) (rv := [.tmp 4]) Try.func53 rfl rfl rfl (by simp) fun C hN hX => ?_
      refine AW.seq ?_
      apply AW.list
      apply Wk.bx 2 rfl rfl (lt_of_ble rfl)
      apply Wk.bx 3 rfl rfl (lt_of_ble rfl)
      apply Wk.asg (by conv => lhs; whnf) (lt_of_ble rfl)
      refine Wk.nil ?_
      refine AW.seq (AW.seq ?_)
      apply AW.list
      apply Wk.ld (i := 2) 5 true ty29 rfl rfl (by conv => lhs; whnf) (lt_of_ble rfl)
      apply Wk.fad 0 9 true fd77_0 rfl (lt_of_ble rfl)
      apply Wk.ld (i := 3) 10 true ty33 rfl rfl (by conv => lhs; whnf) (lt_of_ble rfl)
      apply Wk.dat k0 Try.func11 rfl rfl rfl rfl rfl (lt_of_ble rfl)
      apply Wk.un rfl (fun w => by simp [go_sem] <;> rfl) (lt_of_ble rfl)
      apply Wk.mv (by conv => lhs; whnf) (lt_of_ble rfl)
      apply Wk.gon 12 rfl rfl
      apply Wk.fad 10 6 true fd77_1 rfl (lt_of_ble rfl)
      apply Wk.gon 12 rfl rfl
      apply Wk.ld (i := 3) 7 true ty72 rfl rfl (by conv => lhs; whnf) (lt_of_ble rfl)
      apply Wk.gon 12 rfl rfl
      apply Wk.dat k1 Try.func87 rfl rfl rfl rfl rfl (lt_of_ble rfl)
      apply Wk.gon 12 rfl rfl
      apply Wk.un rfl (fun w => by simp [go_sem] <;> rfl) (lt_of_ble rfl)
      apply Wk.pckF rfl (by conv => lhs; whnf) (lt_of_ble rfl)
      apply Wk.mv (by conv => lhs; whnf) (lt_of_ble rfl)
      apply Wk.goff 18 (ok_load 2 ty29) rfl rfl (by simp)
      apply Wk.goff 18 (ok_faddr fd77_2) rfl rfl (by simp)
      apply Wk.goff 18 (ok_load 3 ty44) rfl rfl (by simp)
      apply Wk.goff 18 (ok_datw (k2.w rfl) Try.func19 rfl rfl) rfl rfl (by simp)
      apply Wk.goff 18 (ok_un _ _ _) rfl rfl (by simp)
      apply Wk.pckT rfl (by conv => lhs; whnf) (lt_of_ble rfl)
      apply Wk.mv (by conv => lhs; whnf) (lt_of_ble rfl)
      apply Wk.goff 25 (ok_faddr fd77_3) rfl rfl (by simp)
      apply Wk.goff 25 (ok_load 3 ty74) rfl rfl (by simp)
      apply Wk.goff 25 (ok_datw (k3.w rfl) Try.func88 rfl rfl) rfl rfl (by simp)
      apply Wk.goff 25 (ok_un _ _ _) rfl rfl (by simp)
      apply Wk.pckT rfl (by conv => lhs; whnf) (lt_of_ble rfl)
      apply Wk.mv (by conv => lhs; whnf) (lt_of_ble rfl)
      apply Wk.goff 31 (ok_faddr fd77_4) rfl rfl (by simp)
      apply Wk.goff 31 (ok_load 3 ty75) rfl rfl (by simp)
      apply Wk.goff 31 (ok_len un75) rfl rfl (by simp)
      apply Wk.goff 31 (ok_bin _ _ _ _ _) rfl rfl (by simp)
      apply Wk.pckT rfl (by conv => lhs; whnf) (lt_of_ble rfl)
      apply Wk.mv (by conv => lhs; whnf) (lt_of_ble rfl)
      apply Wk.goff 37 (ok_faddr fd77_5) rfl rfl (by simp)
      apply Wk.goff 37 (ok_load 3 ty75) rfl rfl (by simp)
      apply Wk.goff 37 (ok_len un75) rfl rfl (by simp)
      apply Wk.goff 37 (ok_bin _ _ _ _ _) rfl rfl (by simp)
      apply Wk.pckT rfl (by conv => lhs; whnf) (lt_of_ble rfl)
      refine Wk.nil ?_
      refine AW.cond rfl (fun _ => ?_) (fun hc => by cases hc)
      refine AW.seq ?_
      apply AW.list
      apply Wk.asg (by conv => lhs; whnf) (lt_of_ble rfl)
      refine Wk.nil (AW.ret ?_)
      repeat (first | refine thenA_ret ?_ | refine inBlockA_ret ?_)
      exact RetQ.ret [] (.cons rfl .nil) ⟨rfl, rfl⟩ none_kept
    · skip
      cases b2
      · skip
        refine Spec.intro (n := 71) (rv := [.tmp 4]) Try.func53 rfl rfl rfl (by simp) fun C hN hX => ?_
        refine AW.seq ?_
        apply AW.list
        apply Wk.bx 2 rfl rfl (lt_of_ble rfl)
        apply Wk.bx 3 rfl rfl (lt_of_ble rfl)
        apply Wk.asg (by conv => lhs; whnf) (lt_of_ble rfl)
        refine Wk.nil ?_
        refine AW.seq (AW.seq ?_)
        apply AW.list
        apply Wk.ld (i := 2) 5 true ty29 rfl rfl (by conv => lhs; whnf) (lt_of_ble rfl)
        apply Wk.fad 0 9 true fd77_0 rfl (lt_of_ble rfl)
        apply Wk.ld (i := 3) 10 true ty33 rfl rfl (by conv => lhs; whnf) (lt_of_ble rfl)
        apply Wk.dat k0 Try.func11 rfl rfl rfl rfl rfl (lt_of_ble rfl)
        apply Wk.un rfl (fun w => by simp [go_sem] <;> rfl) (lt_of_ble rfl)
        apply Wk.mv (by conv => lhs; whnf) (lt_of_ble rfl)
        apply Wk.gon 12 rfl rfl
        apply Wk.fad 10 6 true fd77_1 rfl (lt_of_ble rfl)
        apply Wk.gon 12 rfl rfl
        apply Wk.ld (i := 3) 7 true ty72 rfl rfl (by conv => lhs; whnf) (lt_of_ble rfl)
        apply Wk.gon 12 rfl rfl
        apply Wk.dat k1 Try.func87 rfl rfl rfl rfl rfl (lt_of_ble rfl)
        apply Wk.gon 12 rfl rfl
        apply Wk.un rfl (fun w => by simp [go_sem] <;> rfl) (lt_of_ble rfl)
        apply Wk.pckF rfl (by conv => lhs; whnf) (lt_of_ble rfl)
        apply Wk.mv (by conv => lhs; whnf) (lt_of_ble rfl)
        apply Wk.gon 18 rfl rfl
        apply Wk.ld (i := 2) 5 true ty29 rfl rfl (by conv => lhs; whnf) (lt_of_ble rfl)
        apply Wk.gon 18 rfl rfl
        apply Wk.fad 17 4 true fd77_2 rfl (lt_of_ble rfl)
        apply Wk.gon 18 rfl rfl
        apply Wk.ld (i := 3) 5 true ty44 rfl rfl (by conv => lhs; whnf) (lt_of_ble rfl)
        apply Wk.gon 18 rfl rfl
        apply Wk.dat k2 Try.func19 rfl rfl rfl rfl rfl (lt_of_ble rfl)
        apply Wk.gon 18 rfl rfl
        apply Wk.un rfl (fun w => by simp [go_sem] <;> rfl) (lt_of_ble rfl)
        apply Wk.pckF rfl (by conv => lhs; whnf) (lt_of_ble rfl)
        apply Wk.mv (by conv => lhs; whnf) (lt_of_ble rfl)
        apply Wk.goff 25 (ok_faddr fd77_3) rfl rfl (by simp)
        apply Wk.goff 25 (ok_load 3 ty74) rfl rfl (by simp)
        apply Wk.goff 25 (ok_datw (k3.w rfl) Try.func88 rfl rfl) rfl rfl (by simp)
        apply Wk.goff 25 (ok_un _ _ _) rfl rfl (by simp)
        apply Wk.pckT rfl (by conv => lhs; whnf) (lt_of_ble rfl)
        apply Wk.mv (by conv => lhs; whnf) (lt_of_ble rfl)
        apply Wk.goff 31 (ok_faddr fd77_4) rfl rfl (by simp)
        apply Wk.goff 31 (ok_load 3 ty75) rfl rfl (by simp)
        apply Wk.goff 31 (ok_len un75) rfl rfl (by simp)
        apply Wk.goff 31 (ok_bin _ _ _ _ _) rfl rfl (by simp)
        apply Wk.pckT rfl (by conv => lhs; whnf) (lt_of_ble rfl)
        apply Wk.mv (by conv => lhs; whnf) (lt_of_ble rfl)
        apply Wk.goff 37 (ok_faddr fd77_5) rfl rfl (by simp)
        apply Wk.goff 37 (ok_load 3 ty75) rfl rfl (by simp)
        apply Wk.goff 37 (ok_len un75) rfl rfl (by simp)
        apply Wk.goff 37 (ok_bin _ _ _ _ _) rfl rfl (by simp)
        apply Wk.pckT rfl (by conv => lhs; whnf) (lt_of_ble rfl)
        refine Wk.nil ?_
        refine AW.cond rfl (fun _ => ?_) (fun hc => by cases hc)
        refine AW.seq ?_
        apply AW.list
        apply Wk.asg (by conv => lhs; whnf) (lt_of_ble rfl)
        refine Wk.nil (AW.ret ?_)
        repeat (first | refine thenA_ret ?_ | refine inBlockA_ret ?_)
        exact RetQ.ret [] (.cons rfl .nil) ⟨rfl, rfl⟩ none_kept
      · skip
        cases b3
        · skip
          refine Spec.intro (n := 71) (rv := [.tmp 4]) Try.func53 rfl rfl rfl (by simp) fun C hN hX => ?_
          refine AW.seq ?_
          apply AW.list
          apply Wk.bx 2 rfl rfl (lt_of_ble rfl)
          apply Wk.bx 3 rfl rfl (lt_of_ble rfl)
          apply Wk.asg (by conv => lhs; whnf) (lt_of_ble rfl)
          refine Wk.nil ?_
          refine AW.seq (AW.seq ?_)
          apply AW.list
          apply Wk.ld (i := 2) 5 true ty29 rfl rfl (by conv => lhs; whnf) (lt_of_ble rfl)
          apply Wk.fad 0 9 true fd77_0 rfl (lt_of_ble rfl)
          apply Wk.ld (i := 3) 10 true ty33 rfl rfl (by conv => lhs; whnf) (lt_of_ble rfl)
          apply Wk.dat k0 Try.func11 rfl rfl rfl rfl rfl (lt_of_ble rfl)
          apply Wk.un rfl (fun w => by simp [go_sem] <;> rfl) (lt_of_ble rfl)
          apply Wk.mv (by conv => lhs; whnf) (lt_of_ble rfl)
          apply Wk.gon 12 rfl rfl
          apply Wk.fad 10 6 true fd77_1 rfl (lt_of_ble rfl)
          apply Wk.gon 12 rfl rfl
          apply Wk.ld (i := 3) 7 true ty72 rfl rfl (by conv => lhs; whnf) (lt_of_ble rfl)
          apply Wk.gon 12 rfl rfl
          apply Wk.dat k1 Try.func87 rfl rfl rfl rfl rfl (lt_of_ble rfl)
          apply Wk.gon 12 rfl rfl
          apply Wk.un rfl (fun w => by simp [go_sem] <;> rfl) (lt_of_ble rfl)
          apply Wk.pckF rfl (by conv => lhs; whnf) (lt_of_ble rfl)
          apply Wk.mv (by conv => lhs; whnf) (lt_of_ble rfl)
          apply Wk.gon 18 rfl rfl
          apply Wk.ld (i := 2) 5 true ty29 rfl rfl (by conv => lhs; whnf) (lt_of_ble rfl)
          apply Wk.gon 18 rfl rfl
          apply Wk.fad 17 4 true fd77_2 rfl (lt_of_ble rfl)
          apply Wk.gon 18 rfl rfl
          apply Wk.ld (i := 3) 5 true ty44 rfl rfl (by conv => lhs; whnf) (lt_of_ble rfl)
          apply Wk.gon 18 rfl rfl
          apply Wk.dat k2 Try.func19 rfl rfl rfl rfl rfl (lt_of_ble rfl)
          apply Wk.gon 18 rfl rfl
          apply Wk.un rfl (fun w => by simp [go_sem] <;> rfl) (lt_of_ble rfl)
          apply Wk.pckF rfl (by conv => lhs; whnf) (lt_of_ble rfl)
          apply Wk.mv (by conv => lhs; whnf) (lt_of_ble rfl)
          apply Wk.gon 25 rfl rfl
          apply Wk.fad 22 3 true fd77_3 rfl (lt_of_ble rfl)
          apply Wk.gon 25 rfl rfl
          apply Wk.ld (i := 3) 4 true ty74 rfl rfl (by conv => lhs; whnf) (lt_of_ble rfl)
          apply Wk.gon 25 rfl rfl
          apply Wk.dat k3 Try.func88 rfl rfl rfl rfl rfl (lt_of_ble rfl)
          apply Wk.gon 25 rfl rfl
          apply Wk.un rfl (fun w => by simp [go_sem] <;> rfl) (lt_of_ble rfl)
          apply Wk.pckF rfl (by conv => lhs; whnf) (lt_of_ble rfl)
          apply Wk.mv (by conv => lhs; whnf) (lt_of_ble rfl)
          apply Wk.goff 31 (ok_faddr fd77_4) rfl rfl (by simp)
          apply Wk.goff 31 (ok_load 3 ty75) rfl rfl (by simp)
          apply Wk.goff 31 (ok_len un75) rfl rfl (by simp)
          apply Wk.goff 31 (ok_bin _ _ _ _ _) rfl rfl (by simp)
          apply Wk.pckT rfl (by conv => lhs; whnf) (lt_of_ble rfl)
          apply Wk.mv (by conv => lhs; whnf) (lt_of_ble rfl)
          apply Wk.goff 37 (ok_faddr fd77_5) rfl rfl (by simp)
          apply Wk.goff 37 (ok_load 3 ty75) rfl rfl (by simp)
          apply Wk.goff 37 (ok_len un75) rfl rfl (by simp)
          apply Wk.goff 37 (ok_bin _ _ _ _ _) rfl rfl (by simp)
          apply Wk.pckT rfl (by conv => lhs; whnf) (lt_of_ble rfl)
          refine Wk.nil ?_
          refine AW.cond rfl (fun _ => ?_) (fun hc => by cases hc)
          refine AW.seq ?_
          apply AW.list
          apply Wk.asg (by conv => lhs; whnf) (lt_of_ble rfl)
          refine Wk.nil (AW.ret ?_)
          repeat (first | refine thenA_ret ?_ | refine inBlockA_ret ?_)
          exact RetQ.ret [] (.cons rfl .nil) ⟨rfl, rfl⟩ none_kept
        · skip
          by_cases hp : put.length ≤ 60
          rotate_left
          · rw [show sdusB put = false from by simp [sdusB, hp]]
            refine Spec.intro (n := 71) (rv := [.tmp 4]) Try.func53 rfl rfl rfl (by simp) fun C hN hX => ?_
            refine AW.seq ?_
            apply AW.list
            apply Wk.bx 2 rfl rfl (lt_of_ble rfl)
            apply Wk.bx 3 rfl rfl (lt_of_ble rfl)
            apply Wk.asg (by conv => lhs; whnf) (lt_of_ble rfl)
            refine Wk.nil ?_
            refine AW.seq (AW.seq ?_)
            apply AW.list
            apply Wk.ld (i := 2) 5 true ty29 rfl rfl (by conv => lhs; whnf) (lt_of_ble rfl)
            apply Wk.fad 0 9 true fd77_0 rfl (lt_of_ble rfl)
            apply Wk.ld (i := 3) 10 true ty33 rfl rfl (by conv => lhs; whnf) (lt_of_ble rfl)
            apply Wk.dat k0 Try.func11 rfl rfl rfl rfl rfl (lt_of_ble rfl)
            apply Wk.un rfl (fun w => by simp [go_sem] <;> rfl) (lt_of_ble rfl)
            apply Wk.mv (by conv => lhs; whnf) (lt_of_ble rfl)
            apply Wk.gon 12 rfl rfl
            apply Wk.fad 10 6 true fd77_1 rfl (lt_of_ble rfl)
            apply Wk.gon 12 rfl rfl
            apply Wk.ld (i := 3) 7 true ty72 rfl rfl (by conv => lhs; whnf) (lt_of_ble rfl)
            apply Wk.gon 12 rfl rfl
            apply Wk.dat k1 Try.func87 rfl rfl rfl rfl rfl (lt_of_ble rfl)
            apply Wk.gon 12 rfl rfl
            apply Wk.un rfl (fun w => by simp [go_sem] <;> rfl) (lt_of_ble rfl)
            apply Wk.pckF rfl (by conv => lhs; whnf) (lt_of_ble rfl)
            apply Wk.mv (by conv => lhs; whnf) (lt_of_ble rfl)
            apply Wk.gon 18 rfl rfl
            apply Wk.ld (i := 2) 5 true ty29 rfl rfl (by conv => lhs; whnf) (lt_of_ble rfl)
            apply Wk.gon 18 rfl rfl
            apply Wk.fad 17 4 true fd77_2 rfl (lt_of_ble rfl)
            apply Wk.gon 18 rfl rfl
            apply Wk.ld (i := 3) 5 true ty44 rfl rfl (by conv => lhs; whnf) (lt_of_ble rfl)
            apply Wk.gon 18 rfl rfl
            apply Wk.dat k2 Try.func19 rfl rfl rfl rfl rfl (lt_of_ble rfl)
            apply Wk.gon 18 rfl rfl
            apply Wk.un rfl (fun w => by simp [go_sem] <;> rfl) (lt_of_ble rfl)
            apply Wk.pckF rfl (by conv => lhs; whnf) (lt_of_ble rfl)
            apply Wk.mv (by conv => lhs; whnf) (lt_of_ble rfl)
            apply Wk.gon 25 rfl rfl
            apply Wk.fad 22 3 true fd77_3 rfl (lt_of_ble rfl)
            apply Wk.gon 25 rfl rfl
            apply Wk.ld (i := 3) 4 true ty74 rfl rfl (by conv => lhs; whnf) (lt_of_ble rfl)
            apply Wk.gon 25 rfl rfl
            apply Wk.dat k3 Try.func88 rfl rfl rfl rfl rfl (lt_of_ble rfl)
            apply Wk.gon 25 rfl rfl
            apply Wk.un rfl (fun w => by simp [go_sem] <;> rfl) (lt_of_ble rfl)
            apply Wk.pckF rfl (by conv => lhs; whnf) (lt_of_ble rfl)
            apply Wk.mv (by conv => lhs; whnf) (lt_of_ble rfl)
            apply Wk.gon 31 rfl rfl
            apply Wk.fad 26 0 false fd77_4 rfl (lt_of_ble rfl)
            apply Wk.gon 31 rfl rfl
            apply Wk.ld (i := 3) 1 false ty75 rfl rfl (by conv => lhs; whnf) (lt_of_ble rfl)
            apply Wk.gon 31 rfl rfl
            apply Wk.len un75 rfl (lt_of_ble rfl)
            apply Wk.gon 31 rfl rfl
            apply Wk.bin rfl rfl (r := .bool true) (fun w => by rw [pl]; simp [go_sem]; omega) (lt_of_ble rfl)
            apply Wk.pckF rfl (by conv => lhs; whnf) (lt_of_ble rfl)
            apply Wk.mv (by conv => lhs; whnf) (lt_of_ble rfl)
            apply Wk.goff 37 (ok_faddr fd77_5) rfl rfl (by simp)
            apply Wk.goff 37 (ok_load 3 ty75) rfl rfl (by simp)
            apply Wk.goff 37 (ok_len un75) rfl rfl (by simp)
            apply Wk.goff 37 (ok_bin _ _ _ _ _) rfl rfl (by simp)
            apply Wk.pckT rfl (by conv => lhs; whnf) (lt_of_ble rfl)
            refine Wk.nil ?_
            refine AW.cond rfl (fun _ => ?_) (fun hc => by cases hc)
            refine AW.seq ?_
            apply AW.list
            apply Wk.asg (by conv => lhs; whnf) (lt_of_ble rfl)
            refine Wk.nil (AW.ret ?_)
            repeat (first | refine thenA_ret ?_ | refine inBlockA_ret ?_)
            exact RetQ.ret [] (.cons rfl .nil) ⟨rfl, rfl⟩ none_kept
          by_cases hg : got.length ≤ 60
          rotate_left
          · rw [show sdusB put = !put.any sduB from by simp [sdusB, hp], show sdusB got = false from by simp [sdusB, hg]]
            rw [show (true && (true && (true && (true && (!put.any sduB && false))))) = false from by simp]
            refine Spec.intro (n := 71) (rv := [.tmp 4]) Try.func53 rfl rfl rfl (by simp) fun C hN hX => ?_
            refine AW.seq ?_
            apply AW.list
            apply Wk.bx 2 rfl rfl (lt_of_ble rfl)
            apply Wk.bx 3 rfl rfl (lt_of_ble rfl)
            apply Wk.asg (by conv => lhs; whnf) (lt_of_ble rfl)
            refine Wk.nil ?_
            refine AW.seq (AW.seq ?_)
            apply AW.list
            apply Wk.ld (i := 2) 5 true ty29 rfl rfl (by conv => lhs; whnf) (lt_of_ble rfl)
            apply Wk.fad 0 9 true fd77_0 rfl (lt_of_ble rfl)
            apply Wk.ld (i := 3) 10 true ty33 rfl rfl (by conv => lhs; whnf) (lt_of_ble rfl)
            apply Wk.dat k0 Try.func11 rfl rfl rfl rfl rfl (lt_of_ble rfl)
            apply Wk.un rfl (fun w => by simp [go_sem] <;> rfl) (lt_of_ble rfl)
            apply Wk.mv (by conv => lhs; whnf) (lt_of_ble rfl)
            apply Wk.gon 12 rfl rfl
            apply Wk.fad 10 6 true fd77_1 rfl (lt_of_ble rfl)
            apply Wk.gon 12 rfl rfl
            apply Wk.ld (i := 3) 7 true ty72 rfl rfl (by conv => lhs; whnf) (lt_of_ble rfl)
            apply Wk.gon 12 rfl rfl
            apply Wk.dat k1 Try.func87 rfl rfl rfl rfl rfl (lt_of_ble rfl)
            apply Wk.gon 12 rfl rfl
            apply Wk.un rfl (fun w => by simp [go_sem] <;> rfl) (lt_of_ble rfl)
            apply Wk.pckF rfl (by conv => lhs; whnf) (lt_of_ble rfl)
            apply Wk.mv (by conv => lhs; whnf) (lt_of_ble rfl)
            apply Wk.gon 18 rfl rfl
            apply Wk.ld (i := 2) 5 true ty29 rfl rfl (by conv => lhs; whnf) (lt_of_ble rfl)
            apply Wk.gon 18 rfl rfl
            apply Wk.fad 17 4 true fd77_2 rfl (lt_of_ble rfl)
            apply Wk.gon 18 rfl rfl
            apply Wk.ld (i := 3) 5 true ty44 rfl rfl (by conv => lhs; whnf) (lt_of_ble rfl)
            apply Wk.gon 18 rfl rfl
            apply Wk.dat k2 Try.func19 rfl rfl rfl rfl rfl (lt_of_ble rfl)
            apply Wk.gon 18 rfl rfl
            apply Wk.un rfl (fun w => by simp [go_sem] <;> rfl) (lt_of_ble rfl)
            apply Wk.pckF rfl (by conv => lhs; whnf) (lt_of_ble rfl)
            apply Wk.mv (by conv => lhs; whnf) (lt_of_ble rfl)
            apply Wk.gon 25 rfl rfl
            apply Wk.fad 22 3 true fd77_3 rfl (lt_of_ble rfl)
            apply Wk.gon 25 rfl rfl
            apply Wk.ld (i := 3) 4 true ty74 rfl rfl (by conv => lhs; whnf) (lt_of_ble rfl)
            apply Wk.gon 25 rfl rfl
            apply Wk.dat k3 Try.func88 rfl rfl rfl rfl rfl (lt_of_ble rfl)
            apply Wk.gon 25 rfl rfl
            apply Wk.un rfl (fun w => by simp [go_sem] <;> rfl) (lt_of_ble rfl)
            apply Wk.pckF rfl (by conv => lhs; whnf) (lt_of_ble rfl)
            apply Wk.mv (by conv => lhs; whnf) (lt_of_ble rfl)
            apply Wk.gon 31 rfl rfl
            apply Wk.fad 26 0 false fd77_4 rfl (lt_of_ble rfl)
            apply Wk.gon 31 rfl rfl
            apply Wk.ld (i := 3) 1 false ty75 rfl rfl (by conv => lhs; whnf) (lt_of_ble rfl)
            apply Wk.gon 31 rfl rfl
            apply Wk.len un75 rfl (lt_of_ble rfl)
            apply Wk.gon 31 rfl rfl
            apply Wk.bin rfl rfl (r := .bool false) (fun w => by rw [pl]; simp [go_sem]; omega) (lt_of_ble rfl)
            apply Wk.pckF rfl (by conv => lhs; whnf) (lt_of_ble rfl)
            apply Wk.mv (by conv => lhs; whnf) (lt_of_ble rfl)
            apply Wk.gon 37 rfl rfl
            apply Wk.fad 27 0 false fd77_5 rfl (lt_of_ble rfl)
            apply Wk.gon 37 rfl rfl
            apply Wk.ld (i := 3) 1 false ty75 rfl rfl (by conv => lhs; whnf) (lt_of_ble rfl)
            apply Wk.gon 37 rfl rfl
            apply Wk.len un75 rfl (lt_of_ble rfl)
            apply Wk.gon 37 rfl rfl
            apply Wk.bin rfl rfl (r := .bool true) (fun w => by rw [gl]; simp [go_sem]; omega) (lt_of_ble rfl)
            apply Wk.pckF rfl (by conv => lhs; whnf) (lt_of_ble rfl)
            refine Wk.nil ?_
            refine AW.cond rfl (fun _ => ?_) (fun hc => by cases hc)
            refine AW.seq ?_
            apply AW.list
            apply Wk.asg (by conv => lhs; whnf) (lt_of_ble rfl)
            refine Wk.nil (AW.ret ?_)
            repeat (first | refine thenA_ret ?_ | refine inBlockA_ret ?_)
            exact RetQ.ret [] (.cons rfl .nil) ⟨rfl, rfl⟩ none_kept
          rw [show sdusB put = !put.any sduB from by simp [sdusB, hp], show sdusB got = !got.any sduB from by simp [sdusB, hg]]
          refine Spec.intro (n := 71) (rv := [.tmp 4]) Try.func53 rfl rfl rfl (by simp) fun C hN hX => ?_
          refine AW.seq ?_
          apply AW.list
          apply Wk.bx 2 rfl rfl (lt_of_ble rfl)
          apply Wk.bx 3 rfl rfl (lt_of_ble rfl)
          apply Wk.asg (by conv => lhs; whnf) (lt_of_ble rfl)
          refine Wk.nil ?_
          refine AW.seq (AW.seq ?_)
          apply AW.list
          apply Wk.ld (i := 2) 5 true ty29 rfl rfl (by conv => lhs; whnf) (lt_of_ble rfl)
          apply Wk.fad 0 9 true fd77_0 rfl (lt_of_ble rfl)
          apply Wk.ld (i := 3) 10 true ty33 rfl rfl (by conv => lhs; whnf) (lt_of_ble rfl)
          apply Wk.dat k0 Try.func11 rfl rfl rfl rfl rfl (lt_of_ble rfl)
          apply Wk.un rfl (fun w => by simp [go_sem] <;> rfl) (lt_of_ble rfl)
          apply Wk.mv (by conv => lhs; whnf) (lt_of_ble rfl)
          apply Wk.gon 12 rfl rfl
          apply Wk.fad 10 6 true fd77_1 rfl (lt_of_ble rfl)
          apply Wk.gon 12 rfl rfl
          apply Wk.ld (i := 3) 7 true ty72 rfl rfl (by conv => lhs; whnf) (lt_of_ble rfl)
          apply Wk.gon 12 rfl rfl
          apply Wk.dat k1 Try.func87 rfl rfl rfl rfl rfl (lt_of_ble rfl)
          apply Wk.gon 12 rfl rfl
          apply Wk.un rfl (fun w => by simp [go_sem] <;> rfl) (lt_of_ble rfl)
          apply Wk.pckF rfl (by conv => lhs; whnf) (lt_of_ble rfl)
          apply Wk.mv (by conv => lhs; whnf) (lt_of_ble rfl)
          apply Wk.gon 18 rfl rfl
          apply Wk.ld (i := 2) 5 true ty29 rfl rfl (by conv => lhs; whnf) (lt_of_ble rfl)
          apply Wk.gon 18 rfl rfl
          apply Wk.fad 17 4 true fd77_2 rfl (lt_of_ble rfl)
          apply Wk.gon 18 rfl rfl
          apply Wk.ld (i := 3) 5 true ty44 rfl rfl (by conv => lhs; whnf) (lt_of_ble rfl)
          apply Wk.gon 18 rfl rfl
          apply Wk.dat k2 Try.func19 rfl rfl rfl rfl rfl (lt_of_ble rfl)
          apply Wk.gon 18 rfl rfl
          apply Wk.un rfl (fun w => by simp [go_sem] <;> rfl) (lt_of_ble rfl)
          apply Wk.pckF rfl (by conv => lhs; whnf) (lt_of_ble rfl)
          apply Wk.mv (by conv => lhs; whnf) (lt_of_ble rfl)
          apply Wk.gon 25 rfl rfl
          apply Wk.fad 22 3 true fd77_3 rfl (lt_of_ble rfl)
          apply Wk.gon 25 rfl rfl
          apply Wk.ld (i := 3) 4 true ty74 rfl rfl (by conv => lhs; whnf) (lt_of_ble rfl)
          apply Wk.gon 25 rfl rfl
          apply Wk.dat k3 Try.func88 rfl rfl rfl rfl rfl (lt_of_ble rfl)
          apply Wk.gon 25 rfl rfl
          apply Wk.un rfl (fun w => by simp [go_sem] <;> rfl) (lt_of_ble rfl)
          apply Wk.pckF rfl (by conv => lhs; whnf) (lt_of_ble rfl)
          apply Wk.mv (by conv => lhs; whnf) (lt_of_ble rfl)
          apply Wk.gon 31 rfl rfl
          apply Wk.fad 26 0 false fd77_4 rfl (lt_of_ble rfl)
          apply Wk.gon 31 rfl rfl
          apply Wk.ld (i := 3) 1 false ty75 rfl rfl (by conv => lhs; whnf) (lt_of_ble rfl)
          apply Wk.gon 31 rfl rfl
          apply Wk.len un75 rfl (lt_of_ble rfl)
          apply Wk.gon 31 rfl rfl
          apply Wk.bin rfl rfl (r := .bool false) (fun w => by rw [pl]; simp [go_sem]; omega) (lt_of_ble rfl)
          apply Wk.pckF rfl (by conv => lhs; whnf) (lt_of_ble rfl)
          apply Wk.mv (by conv => lhs; whnf) (lt_of_ble rfl)
          apply Wk.gon 37 rfl rfl
          apply Wk.fad 27 0 false fd77_5 rfl (lt_of_ble rfl)
          apply Wk.gon 37 rfl rfl
          apply Wk.ld (i := 3) 1 false ty75 rfl rfl (by conv => lhs; whnf) (lt_of_ble rfl)
          apply Wk.gon 37 rfl rfl
          apply Wk.len un75 rfl (lt_of_ble rfl)
          apply Wk.gon 37 rfl rfl
          apply Wk.bin rfl rfl (r := .bool false) (fun w => by rw [gl]; simp [go_sem]; omega) (lt_of_ble rfl)
          apply Wk.pckF rfl (by conv => lhs; whnf) (lt_of_ble rfl)
          refine Wk.nil ?_
          refine AW.cond rfl (fun hc => by cases hc) (fun _ => AW.skip (thenA_normal ?_))
          refine AW.seq (AW.seq ?_)
          apply AW.list
          apply Wk.asg (by conv => lhs; whnf) (lt_of_ble rfl)
          refine Wk.nil (AW.block ?_)
          refine AW.loop (fun k : Nat => St.of 71 [(2, .ptr 2 0), (3, .ptr 3 0), (5, .d (.v (.int .i64 (k : Int))))] [(2, .var (cfgC m w p u y)), (3, .var ((enD ⟨⟨n, a, fl, s, qu, q, t, h, c, d0⟩, ⟨e1, c1, m1, z1, a1, u1, d1⟩, ⟨v2, q2, g2, s2, d2⟩, ⟨v3, m3, z3, d3⟩, put, got⟩).map A.d))]) (fun k => k ≤ put.length ∧ ∀ z ∈ put.take k, sduB z = false) (fun k => put.length - k) 0 ⟨Nat.zero_le _, by simp⟩ ?_ ?_
          · exact fun a w => Rel.keep ⟨rfl, .cons rfl rfl (.cons rfl rfl (.cons rfl rfl .nil)), .cons rfl rfl (.cons rfl rfl .nil), hN.mono (by simp [keys])⟩
          rintro k ⟨hk, hk2⟩
          show AW Try.prog C _ _ (St.of 71 [(2, .ptr 2 0), (3, .ptr 3 0), (5, .d (.v (.int .i64 (k : Int))))] [(2, .var (cfgC m w p u y)), (3, .var ((enD ⟨⟨n, a, fl, s, qu, q, t, h, c, d0⟩, ⟨e1, c1, m1, z1, a1, u1, d1⟩, ⟨v2, q2, g2, s2, d2⟩, ⟨v3, m3, z3, d3⟩, put, got⟩).map A.d))])
          refine AW.seq (AW.seq ?_)
          by_cases hlt : k < put.length
          · skip
            apply AW.list
            apply Wk.mv (by conv => lhs; whnf) (lt_of_ble rfl)
            apply Wk.fad 26 0 false fd77_4 rfl (lt_of_ble rfl)
            apply Wk.ld (i := 3) 1 false ty75 rfl rfl (by conv => lhs; whnf) (lt_of_ble rfl)
            apply Wk.len un75 rfl (lt_of_ble rfl)
            apply Wk.bin rfl rfl (r := .bool true) (fun w => by rw [pl]; simp [go_sem]; omega) (lt_of_ble rfl)
            refine Wk.nil ?_
            refine AW.cond rfl (fun _ => AW.skip ?_) (fun hc => by cases hc)
            repeat (first | refine thenA_normal ?_ | refine inBlockA_normal ?_)
            obtain ⟨zz, hd⟩ : ∃ d, put[k]? = some d := ⟨_, List.getElem?_eq_getElem hlt⟩
            have hget : (put.map bsC)[k]? = some (bsC zz) := by simp [hd]
            have hklt : k < (put.map bsC).length := by simpa using hlt
            have next : sduB zz = false → k + 1 ≤ put.length ∧ ∀ a ∈ put.take (k + 1), sduB a = false := fun hb => ⟨by omega, fun a ha => by
              rw [List.take_add_one, hd] at ha
              rcases List.mem_append.1 ha with h | h
              · exact hk2 a h
              · obtain rfl : a = zz := by simpa using h
                exact hb⟩
            refine AW.seq (AW.block (AW.seq ?_))
            apply AW.list
            apply Wk.fad 26 0 false fd77_4 rfl (lt_of_ble rfl)
            apply Wk.ld (i := 3) 1 false ty75 rfl rfl (by conv => lhs; whnf) (lt_of_ble rfl)
            apply Wk.mv (by conv => lhs; whnf) (lt_of_ble rfl)
            apply Wk.iad 1 false un75 ty64 rfl rfl hklt (bs_one _) (lt_of_ble rfl)
            apply Wk.ldr 1 false ty64 rfl hget (by conv => lhs; whnf) (lt_of_ble rfl)
            apply Wk.len un64 rfl (lt_of_ble rfl)
            apply Wk.bin rfl rfl (r := .bool (sduB zz)) (fun w => by rw [fb_len]; simp [go_sem, sduB]; omega) (lt_of_ble rfl)
            refine Wk.nil ?_
            refine AW.cond rfl (fun hb => ?_) (fun hb => AW.skip ?_)
            · rw [show put.any sduB = true from List.any_eq_true.2 ⟨zz, List.mem_of_getElem? hd, hb⟩]
              refine AW.seq ?_
              apply AW.list
              apply Wk.asg (by conv => lhs; whnf) (lt_of_ble rfl)
              refine Wk.nil (AW.ret ?_)
              repeat (first | refine thenA_ret ?_ | refine inBlockA_ret ?_)
              exact RetQ.ret [] (.cons rfl .nil) ⟨rfl, rfl⟩ none_kept
            repeat (first | refine thenA_normal ?_ | refine inBlockA_normal ?_)
            apply AW.list
            apply Wk.mv (by conv => lhs; whnf) (lt_of_ble rfl)
            apply Wk.addn (b := 1) rfl rfl (by omega) (lt_of_ble rfl)
            apply Wk.asg (by conv => lhs; whnf) (lt_of_ble rfl)
            refine Wk.nil ?_
            repeat (first | refine thenA_normal ?_ | refine inBlockA_normal ?_)
            exact ⟨k + 1, next hb, by omega, fun a w => Rel.keep ⟨rfl, .cons rfl rfl (.cons rfl rfl (.cons rfl rfl .nil)), .cons rfl rfl (.cons rfl rfl .nil), hN.mono (by simp [keys])⟩⟩
          have hke : k = put.length := by omega
          subst hke
          rw [List.take_length] at hk2
          apply AW.list
          apply Wk.mv (by conv => lhs; whnf) (lt_of_ble rfl)
          apply Wk.fad 26 0 false fd77_4 rfl (lt_of_ble rfl)
          apply Wk.ld (i := 3) 1 false ty75 rfl rfl (by conv => lhs; whnf) (lt_of_ble rfl)
          apply Wk.len un75 rfl (lt_of_ble rfl)
          apply Wk.bin rfl rfl (r := .bool false) (fun w => by rw [pl]; simp [go_sem]) (lt_of_ble rfl)
          refine Wk.nil ?_
          refine AW.cond rfl (fun hc => by cases hc) (fun _ => AW.exit ?_)
          repeat (first | refine inBlockA_same ?_ | refine thenA_exit ?_)
          repeat (first | refine thenA_normal ?_ | refine inBlockA_normal ?_)
          rw [show put.any sduB = false from List.any_eq_false.2 fun e he => by rw [hk2 e he]; simp]
          clear hk2 hlt hk
          refine AW.seq (AW.seq ?_)
          apply AW.list
          apply Wk.asg (by conv => lhs; whnf) (lt_of_ble rfl)
          refine Wk.nil (AW.block ?_)
          refine AW.loop (fun k : Nat => St.of 71 [(2, .ptr 2 0), (3, .ptr 3 0), (6, .d (.v (.int .i64 (k : Int))))] [(2, .var (cfgC m w p u y)), (3, .var ((enD ⟨⟨n, a, fl, s, qu, q, t, h, c, d0⟩, ⟨e1, c1, m1, z1, a1, u1, d1⟩, ⟨v2, q2, g2, s2, d2⟩, ⟨v3, m3, z3, d3⟩, put, got⟩).map A.d))]) (fun k => k ≤ got.length ∧ ∀ z ∈ got.take k, sduB z = false) (fun k => got.length - k) 0 ⟨Nat.zero_le _, by simp⟩ ?_ ?_
          · exact fun a w => Rel.keep ⟨rfl, .cons rfl rfl (.cons rfl rfl (.cons rfl rfl .nil)), .cons rfl rfl (.cons rfl rfl .nil), hN.mono (by simp [keys])⟩
          rintro k ⟨hk, hk2⟩
          show AW Try.prog C _ _ (St.of 71 [(2, .ptr 2 0), (3, .ptr 3 0), (6, .d (.v (.int .i64 (k : Int))))] [(2, .var (cfgC m w p u y)), (3, .var ((enD ⟨⟨n, a, fl, s, qu, q, t, h, c, d0⟩, ⟨e1, c1, m1, z1, a1, u1, d1⟩, ⟨v2, q2, g2, s2, d2⟩, ⟨v3, m3, z3, d3⟩, put, got⟩).map A.d))])
          refine AW.seq (AW.seq ?_)
          by_cases hlt : k < got.length
          · skip
            apply AW.list
            apply Wk.mv (by conv => lhs; whnf) (lt_of_ble rfl)
            apply Wk.fad 27 0 false fd77_5 rfl (lt_of_ble rfl)
            apply Wk.ld (i := 3) 1 false ty75 rfl rfl (by conv => lhs; whnf) (lt_of_ble rfl)
            apply Wk.len un75 rfl (lt_of_ble rfl)
            apply Wk.bin rfl rfl (r := .bool true) (fun w => by rw [gl]; simp [go_sem]; omega) (lt_of_ble rfl)
            refine Wk.nil ?_
            refine AW.cond rfl (fun _ => AW.skip ?_) (fun hc => by cases hc)
            repeat (first | refine thenA_normal ?_ | refine inBlockA_normal ?_)
            obtain ⟨zz, hd⟩ : ∃ d, got[k]? = some d := ⟨_, List.getElem?_eq_getElem hlt⟩
            have hget : (got.map bsC)[k]? = some (bsC zz) := by simp [hd]
            have hklt : k < (got.map bsC).length := by simpa using hlt
            have next : sduB zz = false → k + 1 ≤ got.length ∧ ∀ a ∈ got.take (k + 1), sduB a = false := fun hb => ⟨by omega, fun a ha => by
              rw [List.take_add_one, hd] at ha
              rcases List.mem_append.1 ha with h | h
              · exact hk2 a h
              · obtain rfl : a = zz := by simpa using h
                exact hb⟩
            refine AW.seq (AW.block (AW.seq ?_))
            apply AW.list
            apply Wk.fad 27 0 false fd77_5 rfl (lt_of_ble rfl)
            apply Wk.ld (i := 3) 1 false ty75 rfl rfl (by conv => lhs; whnf) (lt_of_ble rfl)
            apply Wk.mv (by conv => lhs; whnf) (lt_of_ble rfl)
            apply Wk.iad 1 false un75 ty64 rfl rfl hklt (bs_one _) (lt_of_ble rfl)
            apply Wk.ldr 1 false ty64 rfl hget (by conv => lhs; whnf) (lt_of_ble rfl)
            apply Wk.len un64 rfl (lt_of_ble rfl)
            apply Wk.bin rfl rfl (r := .bool (sduB zz)) (fun w => by rw [fb_len]; simp [go_sem, sduB]; omega) (lt_of_ble rfl)
            refine Wk.nil ?_
            refine AW.cond rfl (fun hb => ?_) (fun hb => AW.skip ?_)
            · rw [show got.any sduB = true from List.any_eq_true.2 ⟨zz, List.mem_of_getElem? hd, hb⟩]
              refine AW.seq ?_
              apply AW.list
              apply Wk.asg (by conv => lhs; whnf) (lt_of_ble rfl)
              refine Wk.nil (AW.ret ?_)
              repeat (first | refine thenA_ret ?_ | refine inBlockA_ret ?_)
              exact RetQ.ret [] (.cons rfl .nil) ⟨rfl, rfl⟩ none_kept
            repeat (first | refine thenA_normal ?_ | refine inBlockA_normal ?_)
            apply AW.list
            apply Wk.mv (by conv => lhs; whnf) (lt_of_ble rfl)
            apply Wk.addn (b := 1) rfl rfl (by omega) (lt_of_ble rfl)
            apply Wk.asg (by conv => lhs; whnf) (lt_of_ble rfl)
            refine Wk.nil ?_
            repeat (first | refine thenA_normal ?_ | refine inBlockA_normal ?_)
            exact ⟨k + 1, next hb, by omega, fun a w => Rel.keep ⟨rfl, .cons rfl rfl (.cons rfl rfl (.cons rfl rfl .nil)), .cons rfl rfl (.cons rfl rfl .nil), hN.mono (by simp [keys])⟩⟩
          have hke : k = got.length := by omega
          subst hke
          rw [List.take_length] at hk2
          apply AW.list
          apply Wk.mv (by conv => lhs; whnf) (lt_of_ble rfl)
          apply Wk.fad 27 0 false fd77_5 rfl (lt_of_ble rfl)
          apply Wk.ld (i := 3) 1 false ty75 rfl rfl (by conv => lhs; whnf) (lt_of_ble rfl)
          apply Wk.len un75 rfl (lt_of_ble rfl)
          apply Wk.bin rfl rfl (r := .bool false) (fun w => by rw [gl]; simp [go_sem]) (lt_of_ble rfl)
          refine Wk.nil ?_
          refine AW.cond rfl (fun hc => by cases hc) (fun _ => AW.exit ?_)
          repeat (first | refine inBlockA_same ?_ | refine thenA_exit ?_)
          repeat (first | refine thenA_normal ?_ | refine inBlockA_normal ?_)
          rw [show got.any sduB = false from List.any_eq_false.2 fun e he => by rw [hk2 e he]; simp]
          clear hk2 hlt hk
          refine AW.seq ?_
          apply AW.list
          apply Wk.asg (by conv => lhs; whnf) (lt_of_ble rfl)
          refine Wk.nil (AW.ret ?_)
          repeat (first | refine thenA_ret ?_ | refine inBlockA_ret ?_)
          exact RetQ.ret [] (.cons rfl .nil) ⟨rfl, rfl⟩ none_kept
set_option maxHeartbeats 4000000 in
set_option maxRecDepth 100000 in
theorem swok_ok (x : WD) : DataOk Try.prog 24 [wdA x] (.d (.v (.bool x.okB))) := by
  obtain ⟨m, w, p, u, y, ends, net, link⟩ := x
  have el : (((ends.map enD).length : Nat) : Int) = (ends.length : Int) := by rw [List.length_map]
  have nl : (((net.map fun l => [D.row (l.map msgC)]).length : Nat) : Int) = (net.length : Int) := by rw [List.length_map]
  cases hc0 : Opt.ok ⟨m, w, p, u, y⟩
  · skip
    rw [show WD.okB ⟨m, w, p, u, y, ends, net, link⟩ = false from by simp [WD.okB, hc0]]
    refine Spec.intro (n := 70) (rv := [.tmp 2]) Try.func24 rfl rfl rfl (by simp) fun C hN hX => ?_
    refine AW.seq ?_
    apply AW.list
    apply Wk.bx 1 rfl rfl (lt_of_ble rfl)
    apply Wk.asg (by conv => lhs; whnf) (lt_of_ble rfl)
    refine Wk.nil ?_
    refine AW.seq (AW.seq ?_)
    apply AW.list
    apply Wk.fad 0 4 true fd57_0 rfl (lt_of_ble rfl)
    apply Wk.ld (i := 1) 5 true ty29 rfl rfl (by conv => lhs; whnf) (lt_of_ble rfl)
    apply Wk.dat (scfgb hc0) Try.func36 rfl rfl rfl rfl rfl (lt_of_ble rfl)
    apply Wk.un rfl (fun w => by simp [go_sem] <;> rfl) (lt_of_ble rfl)
    apply Wk.mv (by conv => lhs; whnf) (lt_of_ble rfl)
    apply Wk.goff 9 (ok_faddr fd57_1) rfl rfl (by simp)
    apply Wk.goff 9 (ok_load 1 ty54) rfl rfl (by simp)
    apply Wk.goff 9 (ok_len un54) rfl rfl (by simp)
    apply Wk.goff 9 (ok_bin _ _ _ _ _) rfl rfl (by simp)
    apply Wk.pckT rfl (by conv => lhs; whnf) (lt_of_ble rfl)
    apply Wk.mv (by conv => lhs; whnf) (lt_of_ble rfl)
    apply Wk.goff 15 (ok_faddr fd57_2) rfl rfl (by simp)
    apply Wk.goff 15 (ok_load 1 ty55) rfl rfl (by simp)
    apply Wk.goff 15 (ok_len un55) rfl rfl (by simp)
    apply Wk.goff 15 (ok_bin _ _ _ _ _) rfl rfl (by simp)
    apply Wk.pckT rfl (by conv => lhs; whnf) (lt_of_ble rfl)
    apply Wk.mv (by conv => lhs; whnf) (lt_of_ble rfl)
    apply Wk.goff 21 (ok_faddr fd57_3) rfl rfl (by simp)
    apply Wk.goff 21 (ok_load 1 ty3) rfl rfl (by simp)
    apply Wk.goff 21 (ok_datw ((sinb (n := link) (lo := 0) (hi := 1) rfl).w rfl) Try.func40 rfl rfl) rfl rfl (by simp)
    apply Wk.goff 21 (ok_un _ _ _) rfl rfl (by simp)
    apply Wk.pckT rfl (by conv => lhs; whnf) (lt_of_ble rfl)
    refine Wk.nil ?_
    refine AW.cond rfl (fun _ => ?_) (fun hc => by cases hc)
    refine AW.seq ?_
    apply AW.list
    apply Wk.asg (by conv => lhs; whnf) (lt_of_ble rfl)
    refine Wk.nil (AW.ret ?_)
    repeat (first | refine thenA_ret ?_ | refine inBlockA_ret ?_)
    exact RetQ.ret [] (.cons rfl .nil) ⟨rfl, rfl⟩ none_kept
  by_cases he : ends.length = 2
  rotate_left
  · skip
    rw [show WD.okB ⟨m, w, p, u, y, ends, net, link⟩ = false from by simp [WD.okB, he]]
    refine Spec.intro (n := 70) (rv := [.tmp 2]) Try.func24 rfl rfl rfl (by simp) fun C hN hX => ?_
    refine AW.seq ?_
    apply AW.list
    apply Wk.bx 1 rfl rfl (lt_of_ble rfl)
    apply Wk.asg (by conv => lhs; whnf) (lt_of_ble rfl)
    refine Wk.nil ?_
    refine AW.seq (AW.seq ?_)
    apply AW.list
    apply Wk.fad 0 4 true fd57_0 rfl (lt_of_ble rfl)
    apply Wk.ld (i := 1) 5 true ty29 rfl rfl (by conv => lhs; whnf) (lt_of_ble rfl)
    apply Wk.dat (scfgb hc0) Try.func36 rfl rfl rfl rfl rfl (lt_of_ble rfl)
    apply Wk.un rfl (fun w => by simp [go_sem] <;> rfl) (lt_of_ble rfl)
    apply Wk.mv (by conv => lhs; whnf) (lt_of_ble rfl)
    apply Wk.gon 9 rfl rfl
    apply Wk.fad 5 0 false fd57_1 rfl (lt_of_ble rfl)
    apply Wk.gon 9 rfl rfl
    apply Wk.ld (i := 1) 1 false ty54 rfl rfl (by conv => lhs; whnf) (lt_of_ble rfl)
    apply Wk.gon 9 rfl rfl
    apply Wk.len un54 rfl (lt_of_ble rfl)
    apply Wk.gon 9 rfl rfl
    apply Wk.bin rfl rfl (r := .bool true) (fun w => by rw [el]; simp [go_sem]; omega) (lt_of_ble rfl)
    apply Wk.pckF rfl (by conv => lhs; whnf) (lt_of_ble rfl)
    apply Wk.mv (by conv => lhs; whnf) (lt_of_ble rfl)
    apply Wk.goff 15 (ok_faddr fd57_2) rfl rfl (by simp)
    apply Wk.goff 15 (ok_load 1 ty55) rfl rfl (by simp)
    apply Wk.goff 15 (ok_len un55) rfl rfl (by simp)
    apply Wk.goff 15 (ok_bin _ _ _ _ _) rfl rfl (by simp)
    apply Wk.pckT rfl (by conv => lhs; whnf) (lt_of_ble rfl)
    apply Wk.mv (by conv => lhs; whnf) (lt_of_ble rfl)
    apply Wk.goff 21 (ok_faddr fd57_3) rfl rfl (by simp)
    apply Wk.goff 21 (ok_load 1 ty3) rfl rfl (by simp)
    apply Wk.goff 21 (ok_datw ((sinb (n := link) (lo := 0) (hi := 1) rfl).w rfl) Try.func40 rfl rfl) rfl rfl (by simp)
    apply Wk.goff 21 (ok_un _ _ _) rfl rfl (by simp)
    apply Wk.pckT rfl (by conv => lhs; whnf) (lt_of_ble rfl)
    refine Wk.nil ?_
    refine AW.cond rfl (fun _ => ?_) (fun hc => by cases hc)
    refine AW.seq ?_
    apply AW.list
    apply Wk.asg (by conv => lhs; whnf) (lt_of_ble rfl)
    refine Wk.nil (AW.ret ?_)
    repeat (first | refine thenA_ret ?_ | refine inBlockA_ret ?_)
    exact RetQ.ret [] (.cons rfl .nil) ⟨rfl, rfl⟩ none_kept
  by_cases hn : net.length = 2
  rotate_left
  · skip
    rw [show WD.okB ⟨m, w, p, u, y, ends, net, link⟩ = false from by simp [WD.okB, hn]]
    refine Spec.intro (n := 70) (rv := [.tmp 2]) Try.func24 rfl rfl rfl (by simp) fun C hN hX => ?_
    refine AW.seq ?_
    apply AW.list
    apply Wk.bx 1 rfl rfl (lt_of_ble rfl)
    apply Wk.asg (by conv => lhs; whnf) (lt_of_ble rfl)
    refine Wk.nil ?_
    refine AW.seq (AW.seq ?_)
    apply AW.list
    apply Wk.fad 0 4 true fd57_0 rfl (lt_of_ble rfl)
    apply Wk.ld (i := 1) 5 true ty29 rfl rfl (by conv => lhs; whnf) (lt_of_ble rfl)
    apply Wk.dat (scfgb hc0) Try.func36 rfl rfl rfl rfl rfl (lt_of_ble rfl)
    apply Wk.un rfl (fun w => by simp [go_sem] <;> rfl) (lt_of_ble rfl)
    apply Wk.mv (by conv => lhs; whnf) (lt_of_ble rfl)
    apply Wk.gon 9 rfl rfl
    apply Wk.fad 5 0 false fd57_1 rfl (lt_of_ble rfl)
    apply Wk.gon 9 rfl rfl
    apply Wk.ld (i := 1) 1 false ty54 rfl rfl (by conv => lhs; whnf) (lt_of_ble rfl)
    apply Wk.gon 9 rfl rfl
    apply Wk.len un54 rfl (lt_of_ble rfl)
    apply Wk.gon 9 rfl rfl
    apply Wk.bin rfl rfl (r := .bool false) (fun w => by rw [el]; simp [go_sem]; omega) (lt_of_ble rfl)
    apply Wk.pckF rfl (by conv => lhs; whnf) (lt_of_ble rfl)
    apply Wk.mv (by conv => lhs; whnf) (lt_of_ble rfl)
    apply Wk.gon 15 rfl rfl
    apply Wk.fad 6 0 false fd57_2 rfl (lt_of_ble rfl)
    apply Wk.gon 15 rfl rfl
    apply Wk.ld (i := 1) 1 false ty55 rfl rfl (by conv => lhs; whnf) (lt_of_ble rfl)
    apply Wk.gon 15 rfl rfl
    apply Wk.len un55 rfl (lt_of_ble rfl)
    apply Wk.gon 15 rfl rfl
    apply Wk.bin rfl rfl (r := .bool true) (fun w => by rw [nl]; simp [go_sem]; omega) (lt_of_ble rfl)
    apply Wk.pckF rfl (by conv => lhs; whnf) (lt_of_ble rfl)
    apply Wk.mv (by conv => lhs; whnf) (lt_of_ble rfl)
    apply Wk.goff 21 (ok_faddr fd57_3) rfl rfl (by simp)
    apply Wk.goff 21 (ok_load 1 ty3) rfl rfl (by simp)
    apply Wk.goff 21 (ok_datw ((sinb (n := link) (lo := 0) (hi := 1) rfl).w rfl) Try.func40 rfl rfl) rfl rfl (by simp)
    apply Wk.goff 21 (ok_un _ _ _) rfl rfl (by simp)
    apply Wk.pckT rfl (by conv => lhs; whnf) (lt_of_ble rfl)
    refine Wk.nil ?_
    refine AW.cond rfl (fun _ => ?_) (fun hc => by cases hc)
    refine AW.seq ?_
    apply AW.list
    apply Wk.asg (by conv => lhs; whnf) (lt_of_ble rfl)
    refine Wk.nil (AW.ret ?_)
    repeat (first | refine thenA_ret ?_ | refine inBlockA_ret ?_)
    exact RetQ.ret [] (.cons rfl .nil) ⟨rfl, rfl⟩ none_kept
  cases hk : inB link 0 1
  · skip
    rw [show WD.okB ⟨m, w, p, u, y, ends, net, link⟩ = false from by simp [WD.okB, hk]]
    refine Spec.intro (n := 70) (rv := [.tmp 2]) Try.func24 rfl rfl rfl (by simp) fun C hN hX => ?_
    refine AW.seq ?_
    apply AW.list
    apply Wk.bx 1 rfl rfl (lt_of_ble rfl)
    apply Wk.asg (by conv => lhs; whnf) (lt_of_ble rfl)
    refine Wk.nil ?_
    refine AW.seq (AW.seq ?_)
    apply AW.list
    apply Wk.fad 0 4 true fd57_0 rfl (lt_of_ble rfl)
    apply Wk.ld (i := 1) 5 true ty29 rfl rfl (by conv => lhs; whnf) (lt_of_ble rfl)
    apply Wk.dat (scfgb hc0) Try.func36 rfl rfl rfl rfl rfl (lt_of_ble rfl)
    apply Wk.un rfl (fun w => by simp [go_sem] <;> rfl) (lt_of_ble rfl)
    apply Wk.mv (by conv => lhs; whnf) (lt_of_ble rfl)
    apply Wk.gon 9 rfl rfl
    apply Wk.fad 5 0 false fd57_1 rfl (lt_of_ble rfl)
    apply Wk.gon 9 rfl rfl
    apply Wk.ld (i := 1) 1 false ty54 rfl rfl (by conv => lhs; whnf) (lt_of_ble rfl)
    apply Wk.gon 9 rfl rfl
    apply Wk.len un54 rfl (lt_of_ble rfl)
    apply Wk.gon 9 rfl rfl
    apply Wk.bin rfl rfl (r := .bool false) (fun w => by rw [el]; simp [go_sem]; omega) (lt_of_ble rfl)
    apply Wk.pckF rfl (by conv => lhs; whnf) (lt_of_ble rfl)
    apply Wk.mv (by conv => lhs; whnf) (lt_of_ble rfl)
    apply Wk.gon 15 rfl rfl
    apply Wk.fad 6 0 false fd57_2 rfl (lt_of_ble rfl)
    apply Wk.gon 15 rfl rfl
    apply Wk.ld (i := 1) 1 false ty55 rfl rfl (by conv => lhs; whnf) (lt_of_ble rfl)
    apply Wk.gon 15 rfl rfl
    apply Wk.len un55 rfl (lt_of_ble rfl)
    apply Wk.gon 15 rfl rfl
    apply Wk.bin rfl rfl (r := .bool false) (fun w => by rw [nl]; simp [go_sem]; omega) (lt_of_ble rfl)
    apply Wk.pckF rfl (by conv => lhs; whnf) (lt_of_ble rfl)
    apply Wk.mv (by conv => lhs; whnf) (lt_of_ble rfl)
    apply Wk.gon 21 rfl rfl
    apply Wk.fad 7 0 false fd57_3 rfl (lt_of_ble rfl)
    apply Wk.gon 21 rfl rfl
    apply Wk.ld (i := 1) 1 false ty3 rfl rfl (by conv => lhs; whnf) (lt_of_ble rfl)
    apply Wk.gon 21 rfl rfl
    apply Wk.dat (sinb hk) Try.func40 rfl rfl rfl rfl rfl (lt_of_ble rfl)
    apply Wk.gon 21 rfl rfl
    apply Wk.un rfl (fun w => by simp [go_sem] <;> rfl) (lt_of_ble rfl)
    apply Wk.pckF rfl (by conv => lhs; whnf) (lt_of_ble rfl)
    refine Wk.nil ?_
    refine AW.cond rfl (fun _ => ?_) (fun hc => by cases hc)
    refine AW.seq ?_
    apply AW.list
    apply Wk.asg (by conv => lhs; whnf) (lt_of_ble rfl)
    refine Wk.nil (AW.ret ?_)
    repeat (first | refine thenA_ret ?_ | refine inBlockA_ret ?_)
    exact RetQ.ret [] (.cons rfl .nil) ⟨rfl, rfl⟩ none_kept
  refine Spec.intro (n := 70) (rv := [.tmp 2]) Try.func24 rfl rfl rfl (by simp) fun C hN hX => ?_
  refine AW.seq ?_
  apply AW.list
  apply Wk.bx 1 rfl rfl (lt_of_ble rfl)
  apply Wk.asg (by conv => lhs; whnf) (lt_of_ble rfl)
  refine Wk.nil ?_
  refine AW.seq (AW.seq ?_)
  apply AW.list
  apply Wk.fad 0 4 true fd57_0 rfl (lt_of_ble rfl)
  apply Wk.ld (i := 1) 5 true ty29 rfl rfl (by conv => lhs; whnf) (lt_of_ble rfl)
  apply Wk.dat (scfgb hc0) Try.func36 rfl rfl rfl rfl rfl (lt_of_ble rfl)
  apply Wk.un rfl (fun w => by simp [go_sem] <;> rfl) (lt_of_ble rfl)
  apply Wk.mv (by conv => lhs; whnf) (lt_of_ble rfl)
  apply Wk.gon 9 rfl rfl
  apply Wk.fad 5 0 false fd57_1 rfl (lt_of_ble rfl)
  apply Wk.gon 9 rfl rfl
  apply Wk.ld (i := 1) 1 false ty54 rfl rfl (by conv => lhs; whnf) (lt_of_ble rfl)
  apply Wk.gon 9 rfl rfl
  apply Wk.len un54 rfl (lt_of_ble rfl)
  apply Wk.gon 9 rfl rfl
  apply Wk.bin rfl rfl (r := .bool false) (fun w => by rw [el]; simp [go_sem]; omega) (lt_of_ble rfl)
  apply Wk.pckF rfl (by conv => lhs; whnf) (lt_of_ble rfl)
  apply Wk.mv (by conv => lhs; whnf) (lt_of_ble rfl)
  apply Wk.gon 15 rfl rfl
  apply Wk.fad 6 0 false fd57_2 rfl (lt_of_ble rfl)
  apply Wk.gon 15 rfl rfl
  apply Wk.ld (i := 1) 1 false ty55 rfl rfl (by conv => lhs; whnf) (lt_of_ble rfl)
  apply Wk.gon 15 rfl rfl
  apply Wk.len un55 rfl (lt_of_ble rfl)
  apply Wk.gon 15 rfl rfl
  apply Wk.bin rfl rfl (r := .bool false) (fun w => by rw [nl]; simp [go_sem]; omega) (lt_of_ble rfl)
  apply Wk.pckF rfl (by conv => lhs; whnf) (lt_of_ble rfl)
  apply Wk.mv (by conv => lhs; whnf) (lt_of_ble rfl)
  apply Wk.gon 21 rfl rfl
  apply Wk.fad 7 0 false fd57_3 rfl (lt_of_ble rfl)
  apply Wk.gon 21 rfl rfl
  apply Wk.ld (i := 1) 1 false ty3 rfl rfl (by conv => lhs; whnf) (lt_of_ble rfl)
  apply Wk.gon 21 rfl rfl
  apply Wk.dat (sinb hk) Try.func40 rfl rfl rfl rfl rfl (lt_of_ble rfl)
  apply Wk.gon 21 rfl rfl
  apply Wk.un rfl (fun w => by simp [go_sem] <;> rfl) (lt_of_ble rfl)
  apply Wk.pckF rfl (by conv => lhs; whnf) (lt_of_ble rfl)
  refine Wk.nil ?_
  refine AW.cond rfl (fun hc => by cases hc) (fun _ => AW.skip (thenA_normal ?_))
  refine AW.seq (AW.seq ?_)
  apply AW.list
  apply Wk.asg (by conv => lhs; whnf) (lt_of_ble rfl)
  refine Wk.nil (AW.block ?_)
  refine AW.loop (fun k : Nat => St.of 70 [(1, .ptr 1 0), (3, .d (.v (.int .i64 (k : Int))))] [(1, .var ((wdD ⟨m, w, p, u, y, ends, net, link⟩).map A.d))]) (fun k => k ≤ 2 ∧ (∀ a ∈ ends.take k, EN.okB ⟨m, w, p, u, y⟩ a = true) ∧ ∀ a ∈ net.take k, netB a = true) (fun k => 2 - k) 0 ⟨by omega, by simp, by simp⟩ ?_ ?_
  · exact fun a w => Rel.keep ⟨rfl, .cons rfl rfl (.cons rfl rfl .nil), .cons rfl rfl .nil, hN.mono (by simp [keys])⟩
  rintro k ⟨hk2, hke, hkn⟩
  show AW Try.prog C _ _ (St.of 70 [(1, .ptr 1 0), (3, .d (.v (.int .i64 (k : Int))))] [(1, .var ((wdD ⟨m, w, p, u, y, ends, net, link⟩).map A.d))])
  refine AW.seq (AW.seq ?_)
  by_cases hlt : k < 2
  · skip
    apply AW.list
    apply Wk.mv (by conv => lhs; whnf) (lt_of_ble rfl)
    apply Wk.bin rfl rfl (r := .bool true) (fun w => by simp [go_sem]; omega) (lt_of_ble rfl)
    refine Wk.nil ?_
    refine AW.cond rfl (fun _ => AW.skip ?_) (fun hc => by cases hc)
    repeat (first | refine thenA_normal ?_ | refine inBlockA_normal ?_)
    obtain ⟨e, hd⟩ : ∃ d, ends[k]? = some d := ⟨_, List.getElem?_eq_getElem (by omega)⟩
    obtain ⟨l, hl⟩ : ∃ d, net[k]? = some d := ⟨_, List.getElem?_eq_getElem (by omega)⟩
    have hget : (ends.map enD)[k]? = some (enD e) := by simp [hd]
    have hklt : k < (ends.map enD).length := by simp; omega
    have nget : (net.map fun l => [D.row (l.map msgC)])[k]? = some [D.row (l.map msgC)] := by simp [hl]
    have nklt : k < (net.map fun l => [D.row (l.map msgC)]).length := by simp; omega
    have next : EN.okB ⟨m, w, p, u, y⟩ e = true → netB l = true → k + 1 ≤ 2 ∧ (∀ a ∈ ends.take (k + 1), EN.okB ⟨m, w, p, u, y⟩ a = true) ∧ ∀ a ∈ net.take (k + 1), netB a = true := fun hb hb2 => ⟨by omega, fun a ha => by
      rw [List.take_add_one, hd] at ha
      rcases List.mem_append.1 ha with h | h
      · exact hke a h
      · obtain rfl : a = e := by simpa using h
        exact hb, fun a ha => by
      rw [List.take_add_one, hl] at ha
      rcases List.mem_append.1 ha with h | h
      · exact hkn a h
      · obtain rfl : a = l := by simpa using h
        exact hb2⟩
    have done : EN.okB ⟨m, w, p, u, y⟩ e = false ∨ netB l = false → WD.okB ⟨m, w, p, u, y, ends, net, link⟩ = false := fun hb => by
      cases hw : WD.okB ⟨m, w, p, u, y, ends, net, link⟩ with
      | false => rfl
      | true =>
        simp only [WD.okB, Bool.and_eq_true, List.all_eq_true] at hw
        rcases hb with hb | hb
        · rw [hw.2.2.2.2.1 e (List.mem_of_getElem? hd)] at hb; cases hb
        · rw [hw.2.2.2.2.2 l (List.mem_of_getElem? hl)] at hb; cases hb
    have ce := send_ok m w p u y e
    have ll : (((l.map msgC).length : Nat) : Int) = (l.length : Int) := by rw [List.length_map]
    refine AW.seq (AW.block ?_)
    obtain ⟨be, hbe⟩ : ∃ b, EN.okB ⟨m, w, p, u, y⟩ e = b := ⟨_, rfl⟩
    rw [hbe] at ce next done
    clear hbe
    refine AW.seq (AW.seq ?_)
    cases be
    · skip
      apply AW.draw (hm := hmix) (cs := _)
      · apply Wk.fad 0 4 true fd57_0 rfl (lt_of_ble rfl)
        apply Wk.ld (i := 1) 5 true ty29 rfl rfl (by conv => lhs; whnf) (lt_of_ble rfl)
        apply Wk.fad 5 0 false fd57_1 rfl (lt_of_ble rfl)
        apply Wk.ld (i := 1) 1 false ty54 rfl rfl (by conv => lhs; whnf) (lt_of_ble rfl)
        apply Wk.mv (by conv => lhs; whnf) (lt_of_ble rfl)
        apply Wk.iad 28 true un54 ty77 rfl rfl hklt (enD_len _) (lt_of_ble rfl)
        apply Wk.ldr 28 true ty77 rfl hget (by conv => lhs; whnf) (lt_of_ble rfl)
        apply Wk.dat ce Try.func53 rfl rfl rfl rfl rfl (lt_of_ble rfl)
        apply Wk.un rfl (fun w => by simp [go_sem] <;> rfl) (lt_of_ble rfl)
        apply Wk.mv (by conv => lhs; whnf) (lt_of_ble rfl)
        apply Wk.goff 40 (ok_faddr fd57_2) rfl rfl (by simp)
        apply Wk.goff 40 (ok_load 1 ty55) rfl rfl (by simp)
        apply Wk.goff 40 (ok_move _) rfl rfl (by simp)
        apply Wk.goff 40 (ok_iaddr un55 ty78) rfl rfl (by simp)
        apply Wk.goff 40 (ok_loadr ty78) rfl rfl (by simp)
        apply Wk.goff 40 (ok_len un78) rfl rfl (by simp)
        apply Wk.goff 40 (ok_bin _ _ _ _ _) rfl rfl (by simp)
        apply Wk.pckT rfl (by conv => lhs; whnf) (lt_of_ble rfl)
        refine Wk.nil ?_
        refine AW.cond rfl (fun _ => ?_) (fun hc => by cases hc)
        rw [done (by simp)]
        refine AW.seq ?_
        apply AW.list
        apply Wk.asg (by conv => lhs; whnf) (lt_of_ble rfl)
        refine Wk.nil (AW.ret ?_)
        repeat (first | refine thenA_ret ?_ | refine inBlockA_ret ?_)
        exact RetQ.ret [] (.cons rfl .nil) ⟨rfl, rfl⟩ none_kept
      · rfl
      · rfl
    by_cases hl30 : l.length ≤ 30
    rotate_left
    · rw [show netB l = false from by simp [netB, hl30]] at next done
      apply AW.draw (hm := hmix) (cs := _)
      · apply Wk.fad 0 4 true fd57_0 rfl (lt_of_ble rfl)
        apply Wk.ld (i := 1) 5 true ty29 rfl rfl (by conv => lhs; whnf) (lt_of_ble rfl)
        apply Wk.fad 5 0 false fd57_1 rfl (lt_of_ble rfl)
        apply Wk.ld (i := 1) 1 false ty54 rfl rfl (by conv => lhs; whnf) (lt_of_ble rfl)
        apply Wk.mv (by conv => lhs; whnf) (lt_of_ble rfl)
        apply Wk.iad 28 true un54 ty77 rfl rfl hklt (enD_len _) (lt_of_ble rfl)
        apply Wk.ldr 28 true ty77 rfl hget (by conv => lhs; whnf) (lt_of_ble rfl)
        apply Wk.dat ce Try.func53 rfl rfl rfl rfl rfl (lt_of_ble rfl)
        apply Wk.un rfl (fun w => by simp [go_sem] <;> rfl) (lt_of_ble rfl)
        apply Wk.mv (by conv => lhs; whnf) (lt_of_ble rfl)
        apply Wk.gon 40 rfl rfl
        apply Wk.fad 6 0 false fd57_2 rfl (lt_of_ble rfl)
        apply Wk.gon 40 rfl rfl
        apply Wk.ld (i := 1) 1 false ty55 rfl rfl (by conv => lhs; whnf) (lt_of_ble rfl)
        apply Wk.gon 40 rfl rfl
        apply Wk.mv (by conv => lhs; whnf) (lt_of_ble rfl)
        apply Wk.gon 40 rfl rfl
        apply Wk.iad 1 false un55 ty78 rfl rfl nklt (net_one _) (lt_of_ble rfl)
        apply Wk.gon 40 rfl rfl
        apply Wk.ldr 1 false ty78 rfl nget (by conv => lhs; whnf) (lt_of_ble rfl)
        apply Wk.gon 40 rfl rfl
        apply Wk.len un78 rfl (lt_of_ble rfl)
        apply Wk.gon 40 rfl rfl
        apply Wk.bin rfl rfl (r := .bool true) (fun w => by rw [ll]; simp [go_sem]; omega) (lt_of_ble rfl)
        apply Wk.pckF rfl (by conv => lhs; whnf) (lt_of_ble rfl)
        refine Wk.nil ?_
        refine AW.cond rfl (fun _ => ?_) (fun hc => by cases hc)
        rw [done (by simp)]
        refine AW.seq ?_
        apply AW.list
        apply Wk.asg (by conv => lhs; whnf) (lt_of_ble rfl)
        refine Wk.nil (AW.ret ?_)
        repeat (first | refine thenA_ret ?_ | refine inBlockA_ret ?_)
        exact RetQ.ret [] (.cons rfl .nil) ⟨rfl, rfl⟩ none_kept
      · rfl
      · rfl
    rw [show netB l = !l.any msgB from by simp [netB, hl30]] at next done
    apply AW.draw (hm := hmix) (cs := _)
    · apply Wk.fad 0 4 true fd57_0 rfl (lt_of_ble rfl)
      apply Wk.ld (i := 1) 5 true ty29 rfl rfl (by conv => lhs; whnf) (lt_of_ble rfl)
      apply Wk.fad 5 0 false fd57_1 rfl (lt_of_ble rfl)
      apply Wk.ld (i := 1) 1 false ty54 rfl rfl (by conv => lhs; whnf) (lt_of_ble rfl)
      apply Wk.mv (by conv => lhs; whnf) (lt_of_ble rfl)
      apply Wk.iad 28 true un54 ty77 rfl rfl hklt (enD_len _) (lt_of_ble rfl)
      apply Wk.ldr 28 true ty77 rfl hget (by conv => lhs; whnf) (lt_of_ble rfl)
      apply Wk.dat ce Try.func53 rfl rfl rfl rfl rfl (lt_of_ble rfl)
      apply Wk.un rfl (fun w => by simp [go_sem] <;> rfl) (lt_of_ble rfl)
      apply Wk.mv (by conv => lhs; whnf) (lt_of_ble rfl)
      apply Wk.gon 40 rfl rfl
      apply Wk.fad 6 0 false fd57_2 rfl (lt_of_ble rfl)
      apply Wk.gon 40 rfl rfl
      apply Wk.ld (i := 1) 1 false ty55 rfl rfl (by conv => lhs; whnf) (lt_of_ble rfl)
      apply Wk.gon 40 rfl rfl
      apply Wk.mv (by conv => lhs; whnf) (lt_of_ble rfl)
      apply Wk.gon 40 rfl rfl
      apply Wk.iad 1 false un55 ty78 rfl rfl nklt (net_one _) (lt_of_ble rfl)
      apply Wk.gon 40 rfl rfl
      apply Wk.ldr 1 false ty78 rfl nget (by conv => lhs; whnf) (lt_of_ble rfl)
      apply Wk.gon 40 rfl rfl
      apply Wk.len un78 rfl (lt_of_ble rfl)
      apply Wk.gon 40 rfl rfl
      apply Wk.bin rfl rfl (r := .bool false) (fun w => by rw [ll]; simp [go_sem]; omega) (lt_of_ble rfl)
      apply Wk.pckF rfl (by conv => lhs; whnf) (lt_of_ble rfl)
      refine Wk.nil ?_
      refine AW.cond rfl (fun hc => by cases hc) (fun _ => AW.skip ?_)
      repeat (first | refine thenA_normal ?_ | refine inBlockA_normal ?_)
      refine AW.seq ?_
      apply AW.list
      apply Wk.asg (by conv => lhs; whnf) (lt_of_ble rfl)
      refine Wk.nil (AW.block ?_)
      refine AW.loop (fun j : Nat => St.of 70 [(1, .ptr 1 0), (3, .d (.v (.int .i64 (k : Int)))), (4, .d (.v (.int .i64 (j : Int))))] [(1, .var ((wdD ⟨m, w, p, u, y, ends, net, link⟩).map A.d))]) (fun j => j ≤ l.length ∧ ∀ z ∈ l.take j, msgB z = false) (fun j => l.length - j) 0 ⟨Nat.zero_le _, by simp⟩ ?_ ?_
      · exact fun a w => Rel.keep ⟨rfl, .cons rfl rfl (.cons rfl rfl (.cons rfl rfl .nil)), .cons rfl rfl .nil, hN.mono (by simp [keys])⟩
      rintro j ⟨hj, hj2⟩
      show AW Try.prog C _ _ (St.of 70 [(1, .ptr 1 0), (3, .d (.v (.int .i64 (k : Int)))), (4, .d (.v (.int .i64 (j : Int))))] [(1, .var ((wdD ⟨m, w, p, u, y, ends, net, link⟩).map A.d))])
      refine AW.seq (AW.seq ?_)
      by_cases hjl : j < l.length
      · skip
        apply AW.list
        apply Wk.mv (by conv => lhs; whnf) (lt_of_ble rfl)
        apply Wk.fad 6 0 false fd57_2 rfl (lt_of_ble rfl)
        apply Wk.ld (i := 1) 1 false ty55 rfl rfl (by conv => lhs; whnf) (lt_of_ble rfl)
        apply Wk.mv (by conv => lhs; whnf) (lt_of_ble rfl)
        apply Wk.iad 1 false un55 ty78 rfl rfl nklt (net_one _) (lt_of_ble rfl)
        apply Wk.ldr 1 false ty78 rfl nget (by conv => lhs; whnf) (lt_of_ble rfl)
        apply Wk.len un78 rfl (lt_of_ble rfl)
        apply Wk.bin rfl rfl (r := .bool true) (fun w => by rw [ll]; simp [go_sem]; omega) (lt_of_ble rfl)
        refine Wk.nil ?_
        refine AW.cond rfl (fun _ => AW.skip ?_) (fun hc => by cases hc)
        repeat (first | refine thenA_normal ?_ | refine inBlockA_normal ?_)
        obtain ⟨mm, hm⟩ : ∃ d, l[j]? = some d := ⟨_, List.getElem?_eq_getElem hjl⟩
        have mget : (l.map msgC)[j]? = some (msgC mm) := by simp [hm]
        have mjlt : j < (l.map msgC).length := by simpa using hjl
        have jnext : msgB mm = false → j + 1 ≤ l.length ∧ ∀ a ∈ l.take (j + 1), msgB a = false := fun hb => ⟨by omega, fun a ha => by
          rw [List.take_add_one, hm] at ha
          rcases List.mem_append.1 ha with h | h
          · exact hj2 a h
          · obtain rfl : a = mm := by simpa using h
            exact hb⟩
        obtain ⟨bt, mb⟩ := mm
        refine AW.seq (AW.block (AW.seq ?_))
        apply AW.list
        apply Wk.fad 6 0 false fd57_2 rfl (lt_of_ble rfl)
        apply Wk.ld (i := 1) 1 false ty55 rfl rfl (by conv => lhs; whnf) (lt_of_ble rfl)
        apply Wk.mv (by conv => lhs; whnf) (lt_of_ble rfl)
        apply Wk.iad 1 false un55 ty78 rfl rfl nklt (net_one _) (lt_of_ble rfl)
        apply Wk.ldr 1 false ty78 rfl nget (by conv => lhs; whnf) (lt_of_ble rfl)
        apply Wk.mv (by conv => lhs; whnf) (lt_of_ble rfl)
        apply Wk.iad 2 true un78 ty92 rfl rfl mjlt (msg_two _) (lt_of_ble rfl)
        apply Wk.fad 1 0 false fd92_1 rfl (lt_of_ble rfl)
        apply Wk.ldr 1 false ty64 rfl mget (by conv => lhs; whnf) (lt_of_ble rfl)
        apply Wk.len un64 rfl (lt_of_ble rfl)
        apply Wk.bin rfl rfl (r := .bool (msgB ⟨bt, mb⟩)) (fun w => by rw [fb_len]; simp [go_sem, msgB]; omega) (lt_of_ble rfl)
        refine Wk.nil ?_
        refine AW.cond rfl (fun hb => ?_) (fun hb => AW.skip ?_)
        · rw [done (.inr (by rw [show l.any msgB = true from List.any_eq_true.2 ⟨_, List.mem_of_getElem? hm, hb⟩]; rfl))]
          refine AW.seq ?_
          apply AW.list
          apply Wk.asg (by conv => lhs; whnf) (lt_of_ble rfl)
          refine Wk.nil (AW.ret ?_)
          repeat (first | refine thenA_ret ?_ | refine inBlockA_ret ?_)
          exact RetQ.ret [] (.cons rfl .nil) ⟨rfl, rfl⟩ none_kept
        repeat (first | refine thenA_normal ?_ | refine inBlockA_normal ?_)
        apply AW.list
        apply Wk.mv (by conv => lhs; whnf) (lt_of_ble rfl)
        apply Wk.addn (b := 1) rfl rfl (by omega) (lt_of_ble rfl)
        apply Wk.asg (by conv => lhs; whnf) (lt_of_ble rfl)
        refine Wk.nil ?_
        repeat (first | refine thenA_normal ?_ | refine inBlockA_normal ?_)
        exact ⟨j + 1, jnext hb, by omega, fun a w => Rel.keep ⟨rfl, .cons rfl rfl (.cons rfl rfl (.cons rfl rfl .nil)), .cons rfl rfl .nil, hN.mono (by simp [keys])⟩⟩
      have hje : j = l.length := by omega
      subst hje
      rw [List.take_length] at hj2
      apply AW.list
      apply Wk.mv (by conv => lhs; whnf) (lt_of_ble rfl)
      apply Wk.fad 6 0 false fd57_2 rfl (lt_of_ble rfl)
      apply Wk.ld (i := 1) 1 false ty55 rfl rfl (by conv => lhs; whnf) (lt_of_ble rfl)
      apply Wk.mv (by conv => lhs; whnf) (lt_of_ble rfl)
      apply Wk.iad 1 false un55 ty78 rfl rfl nklt (net_one _) (lt_of_ble rfl)
      apply Wk.ldr 1 false ty78 rfl nget (by conv => lhs; whnf) (lt_of_ble rfl)
      apply Wk.len un78 rfl (lt_of_ble rfl)
      apply Wk.bin rfl rfl (r := .bool false) (fun w => by rw [ll]; simp [go_sem]) (lt_of_ble rfl)
      refine Wk.nil ?_
      refine AW.cond rfl (fun hc => by cases hc) (fun _ => AW.exit ?_)
      repeat (first | refine inBlockA_same ?_ | refine thenA_exit ?_)
      repeat (first | refine thenA_normal ?_ | refine inBlockA_normal ?_)
      apply AW.list
      apply Wk.mv (by conv => lhs; whnf) (lt_of_ble rfl)
      apply Wk.addn (b := 1) rfl rfl (by omega) (lt_of_ble rfl)
      apply Wk.asg (by conv => lhs; whnf) (lt_of_ble rfl)
      refine Wk.nil ?_
      repeat (first | refine thenA_normal ?_ | refine inBlockA_normal ?_)
      exact ⟨k + 1, next rfl (by rw [show l.any msgB = false from List.any_eq_false.2 fun e he => by rw [hj2 e he]; simp]; rfl), by omega, fun a w => Rel.keep ⟨rfl, .cons rfl rfl (.cons rfl rfl .nil), .cons rfl rfl .nil, hN.mono (by simp [keys])⟩⟩
    · rfl
    · rfl
  · skip
    have hk3 : k = 2 := by omega
    subst hk3
    apply AW.list
    apply Wk.mv (by conv => lhs; whnf) (lt_of_ble rfl)
    apply Wk.bin rfl rfl (r := .bool false) (fun w => by simp [go_sem]) (lt_of_ble rfl)
    refine Wk.nil ?_
    refine AW.cond rfl (fun hc => by cases hc) (fun _ => AW.exit ?_)
    repeat (first | refine inBlockA_same ?_ | refine thenA_exit ?_)
    repeat (first | refine thenA_normal ?_ | refine inBlockA_normal ?_)
    rw [List.take_of_length_le (by omega)] at hke hkn
    rw [show WD.okB ⟨m, w, p, u, y, ends, net, link⟩ = true from by
      simp only [WD.okB, Bool.and_eq_true, List.all_eq_true, decide_eq_true_eq]
      exact ⟨hc0, he, hn, hk, hke, hkn⟩]
    refine AW.seq ?_
    apply AW.list
    apply Wk.asg (by conv => lhs; whnf) (lt_of_ble rfl)
    refine Wk.nil (AW.ret ?_)
    repeat (first | refine thenA_ret ?_ | refine inBlockA_ret ?_)
    exact RetQ.ret [] (.cons rfl .nil) ⟨rfl, rfl⟩ none_kept
end Go.Proofs.Ytdjadeegjbhihaa

/- Pieces that are the same, by the laws' own words. -/
namespace Go.Proofs.Ytdjadeegjbhihaa
open Go Go.RowKit
theorem liBytesE (zs : List Nat) : DataOk Try.prog 109 [.d (bytesD zs), .d (bytesD zs)] (.d (.v (.bool true))) := by
  have h := liBytes_ok zs zs
  simpa using h
theorem liPartE (d : Dat) : DataOk Try.prog 134 [partN d, partN d] (.d (.v (.bool true))) := by
  obtain ⟨g, l, ys⟩ := d
  refine Spec.intro (n := 24) (rv := [.tmp 4]) Try.func134 rfl rfl rfl (by simp) fun C hN hX => ?_
  refine AW.seq ?_
  apply AW.list
  apply Wk.bx 2 rfl rfl (lt_of_ble rfl)
  apply Wk.bx 3 rfl rfl (lt_of_ble rfl)
  apply Wk.asg (by conv => lhs; whnf) (lt_of_ble rfl)
  refine Wk.nil ?_
  refine AW.seq ?_
  apply AW.list
  apply Wk.fad 0 0 false fd115_0 rfl (lt_of_ble rfl)
  apply Wk.ld (i := 2) 1 false ty3 rfl rfl (by conv => lhs; whnf) (lt_of_ble rfl)
  apply Wk.fad 0 0 false fd115_0 rfl (lt_of_ble rfl)
  apply Wk.ld (i := 3) 1 false ty3 rfl rfl (by conv => lhs; whnf) (lt_of_ble rfl)
  apply Wk.bin rfl rfl (r := .bool true) (fun w => by simp [go_sem]) (lt_of_ble rfl)
  apply Wk.mv (by conv => lhs; whnf) (lt_of_ble rfl)
  apply Wk.gon 10 rfl rfl
  apply Wk.fad 1 0 false fd115_1 rfl (lt_of_ble rfl)
  apply Wk.gon 10 rfl rfl
  apply Wk.ld (i := 2) 1 false ty3 rfl rfl (by conv => lhs; whnf) (lt_of_ble rfl)
  apply Wk.gon 10 rfl rfl
  apply Wk.fad 1 0 false fd115_1 rfl (lt_of_ble rfl)
  apply Wk.gon 10 rfl rfl
  apply Wk.ld (i := 3) 1 false ty3 rfl rfl (by conv => lhs; whnf) (lt_of_ble rfl)
  apply Wk.gon 10 rfl rfl
  apply Wk.bin rfl rfl (r := .bool true) (fun w => by simp [go_sem]) (lt_of_ble rfl)
  apply Wk.pckT rfl (by conv => lhs; whnf) (lt_of_ble rfl)
  apply Wk.mv (by conv => lhs; whnf) (lt_of_ble rfl)
  apply Wk.gon 17 rfl rfl
  apply Wk.fad 2 0 false fd115_2 rfl (lt_of_ble rfl)
  apply Wk.gon 17 rfl rfl
  apply Wk.ld (i := 2) 1 false ty64 rfl rfl (by conv => lhs; whnf) (lt_of_ble rfl)
  apply Wk.gon 17 rfl rfl
  apply Wk.fad 2 0 false fd115_2 rfl (lt_of_ble rfl)
  apply Wk.gon 17 rfl rfl
  apply Wk.ld (i := 3) 1 false ty64 rfl rfl (by conv => lhs; whnf) (lt_of_ble rfl)
  apply Wk.gon 17 rfl rfl
  apply Wk.dat (liBytesE ys) Try.func109 rfl rfl rfl rfl rfl (lt_of_ble rfl)
  apply Wk.pckT rfl (by conv => lhs; whnf) (lt_of_ble rfl)
  apply Wk.asg (by conv => lhs; whnf) (lt_of_ble rfl)
  refine Wk.nil (AW.ret ?_)
  exact RetQ.ret [] (.cons rfl .nil) ⟨rfl, rfl⟩ none_kept
theorem liPartsE (ds : List Dat) : DataOk Try.prog 110 [.d (partsD ds), .d (partsD ds)] (.d (.v (.bool true))) := by
  refine Spec.intro (n := 27) (rv := [.tmp 4]) Try.func110 rfl rfl rfl (by simp) fun C hN hX => ?_
  refine AW.bound (x := .tmp 0) rfl fun hb => ?_
  simp only [List.length_map] at hb
  refine AW.seq ?_
  apply AW.list
  apply Wk.asg (by conv => lhs; whnf) (lt_of_ble rfl)
  refine Wk.nil ?_
  refine AW.seq (AW.seq ?_)
  apply AW.list
  apply Wk.mv (by conv => lhs; whnf) (lt_of_ble rfl)
  apply Wk.len un31 rfl (lt_of_ble rfl)
  apply Wk.mv (by conv => lhs; whnf) (lt_of_ble rfl)
  apply Wk.len un31 rfl (lt_of_ble rfl)
  apply Wk.bin rfl rfl (fun w => by simp [go_sem] <;> rfl) (lt_of_ble rfl)
  refine Wk.nil ?_
  refine AW.cond rfl (fun hc => by simp at hc) (fun _ => AW.skip (thenA_normal ?_))
  refine AW.seq (AW.seq ?_)
  apply AW.list
  apply Wk.asg (by conv => lhs; whnf) (lt_of_ble rfl)
  refine Wk.nil (AW.block ?_)
  refine AW.loop (fun q : Nat => St.of 27 [(0, .d (partsD ds)), (1, .d (partsD ds)), (5, .d (.v (.int .i64 (q : Int))))] []) (fun q => q ≤ ds.length) (fun q => ds.length - q) 0 (Nat.zero_le _) ?_ (fun q hq => ?_)
  · exact fun a w => Rel.keep ⟨rfl, .cons rfl rfl (.cons rfl rfl (.cons rfl rfl .nil)), .nil, hN⟩
  refine AW.seq (AW.seq ?_)
  apply AW.list
  apply Wk.mv (by conv => lhs; whnf) (lt_of_ble rfl)
  apply Wk.mv (by conv => lhs; whnf) (lt_of_ble rfl)
  apply Wk.len un31 rfl (lt_of_ble rfl)
  apply Wk.bin rfl rfl (fun w => by simp [go_sem] <;> rfl) (lt_of_ble rfl)
  refine Wk.nil ?_
  refine AW.cond rfl (fun hc => ?_) (fun hc => ?_)
  · have hlt : q < ds.length := by simpa using hc
    obtain ⟨d, hd⟩ : ∃ d, ds[q]? = some d := ⟨_, List.getElem?_eq_getElem hlt⟩
    have hget : (ds.map datD)[q]? = some (datD d) := by simp [hd]
    refine AW.skip ?_
    repeat (first | refine thenA_normal ?_ | refine inBlockA_normal ?_)
    refine AW.seq (AW.block (AW.seq ?_))
    apply AW.draw (hm := hmix) (cs := _)
    · apply Wk.mv (by conv => lhs; whnf) (lt_of_ble rfl)
      apply Wk.mv (by conv => lhs; whnf) (lt_of_ble rfl)
      apply Wk.iad 3 true un31 ty115 rfl rfl (by simpa using hlt) (datD_len ds) (lt_of_ble rfl)
      apply Wk.ldr 3 true ty115 rfl hget (by conv => lhs; whnf) (lt_of_ble rfl)
      apply Wk.mv (by conv => lhs; whnf) (lt_of_ble rfl)
      apply Wk.mv (by conv => lhs; whnf) (lt_of_ble rfl)
      apply Wk.iad 3 true un31 ty115 rfl rfl (by simpa using hlt) (datD_len ds) (lt_of_ble rfl)
      apply Wk.ldr 3 true ty115 rfl hget (by conv => lhs; whnf) (lt_of_ble rfl)
      apply Wk.dat (liPartE d) Try.func134 rfl rfl rfl rfl rfl (lt_of_ble rfl)
      apply Wk.un rfl (fun w => by simp [go_sem] <;> rfl) (lt_of_ble rfl)
      refine Wk.nil ?_
      refine AW.cond rfl (fun hn => by cases hn) (fun hn => ?_)
      refine AW.skip ?_
      repeat (first | refine thenA_normal ?_ | refine inBlockA_normal ?_)
      apply AW.list
      apply Wk.mv (by conv => lhs; whnf) (lt_of_ble rfl)
      apply Wk.addi rfl rfl (by omega) (lt_of_ble rfl)
      apply Wk.asg (by conv => lhs; whnf) (lt_of_ble rfl)
      refine Wk.nil ?_
      exact ⟨q + 1, by omega, by omega, fun a w => Rel.keep ⟨rfl, .cons rfl rfl (.cons rfl rfl (.cons rfl rfl .nil)), .nil, hN⟩⟩
    · rfl
    · rfl
  · refine AW.exit ?_
    repeat (first | refine inBlockA_same ?_ | refine thenA_exit ?_)
    repeat (first | refine thenA_normal ?_ | refine inBlockA_normal ?_)
    refine AW.seq ?_
    apply AW.list
    apply Wk.asg (by conv => lhs; whnf) (lt_of_ble rfl)
    refine Wk.nil (AW.ret ?_)
    repeat (first | refine thenA_ret ?_ | refine inBlockA_ret ?_)
    exact RetQ.ret [] (.cons rfl .nil) ⟨rfl, rfl⟩ none_kept
end Go.Proofs.Ytdjadeegjbhihaa

/- Two of who sends that are the same, by the laws' own words. Written by tools/mk_AbsTickI.py. -/
namespace Go.Proofs.Ytdjadeegjbhihaa
open Go Go.RowKit
set_option maxHeartbeats 2000000 in
set_option maxRecDepth 100000 in
theorem liTxE (x : TX) : DataOk Try.prog 71 [txA x, txA x] (.d (.v (.bool true))) := by
  obtain ⟨n, a, fl, s, qu, q, t, h, c, d⟩ := x
  refine Spec.intro (n := 73) (rv := [.tmp 4]) Try.func71 rfl rfl rfl (by simp) fun C hN hX => ?_
  refine AW.seq ?_
  apply AW.list
  apply Wk.bx 2 rfl rfl (lt_of_ble rfl)
  apply Wk.bx 3 rfl rfl (lt_of_ble rfl)
  apply Wk.asg (by conv => lhs; whnf) (lt_of_ble rfl)
  refine Wk.nil ?_
  refine AW.seq ?_
  apply AW.list
  apply Wk.fad 0 0 false fd33_0 rfl (lt_of_ble rfl)
  apply Wk.ld (i := 2) 1 false ty3 rfl rfl (by conv => lhs; whnf) (lt_of_ble rfl)
  apply Wk.fad 0 0 false fd33_0 rfl (lt_of_ble rfl)
  apply Wk.ld (i := 3) 1 false ty3 rfl rfl (by conv => lhs; whnf) (lt_of_ble rfl)
  apply Wk.bin rfl rfl (r := .bool true) (fun w => by simp [go_sem]) (lt_of_ble rfl)
  apply Wk.mv (by conv => lhs; whnf) (lt_of_ble rfl)
  apply Wk.gon 10 rfl rfl
  apply Wk.fad 1 0 false fd33_1 rfl (lt_of_ble rfl)
  apply Wk.gon 10 rfl rfl
  apply Wk.ld (i := 2) 1 false ty3 rfl rfl (by conv => lhs; whnf) (lt_of_ble rfl)
  apply Wk.gon 10 rfl rfl
  apply Wk.fad 1 0 false fd33_1 rfl (lt_of_ble rfl)
  apply Wk.gon 10 rfl rfl
  apply Wk.ld (i := 3) 1 false ty3 rfl rfl (by conv => lhs; whnf) (lt_of_ble rfl)
  apply Wk.gon 10 rfl rfl
  apply Wk.bin rfl rfl (r := .bool true) (fun w => by simp [go_sem]) (lt_of_ble rfl)
  apply Wk.pckT rfl (by conv => lhs; whnf) (lt_of_ble rfl)
  apply Wk.mv (by conv => lhs; whnf) (lt_of_ble rfl)
  apply Wk.gon 17 rfl rfl
  apply Wk.fad 2 0 false fd33_2 rfl (lt_of_ble rfl)
  apply Wk.gon 17 rfl rfl
  apply Wk.ld (i := 2) 1 false ty31 rfl rfl (by conv => lhs; whnf) (lt_of_ble rfl)
  apply Wk.gon 17 rfl rfl
  apply Wk.fad 2 0 false fd33_2 rfl (lt_of_ble rfl)
  apply Wk.gon 17 rfl rfl
  apply Wk.ld (i := 3) 1 false ty31 rfl rfl (by conv => lhs; whnf) (lt_of_ble rfl)
  apply Wk.gon 17 rfl rfl
  apply Wk.dat (liPartsE fl) Try.func110 rfl rfl rfl rfl rfl (lt_of_ble rfl)
  apply Wk.pckT rfl (by conv => lhs; whnf) (lt_of_ble rfl)
  apply Wk.mv (by conv => lhs; whnf) (lt_of_ble rfl)
  apply Wk.gon 24 rfl rfl
  apply Wk.fad 3 0 false fd33_3 rfl (lt_of_ble rfl)
  apply Wk.gon 24 rfl rfl
  apply Wk.ld (i := 2) 1 false ty3 rfl rfl (by conv => lhs; whnf) (lt_of_ble rfl)
  apply Wk.gon 24 rfl rfl
  apply Wk.fad 3 0 false fd33_3 rfl (lt_of_ble rfl)
  apply Wk.gon 24 rfl rfl
  apply Wk.ld (i := 3) 1 false ty3 rfl rfl (by conv => lhs; whnf) (lt_of_ble rfl)
  apply Wk.gon 24 rfl rfl
  apply Wk.bin rfl rfl (r := .bool true) (fun w => by simp [go_sem]) (lt_of_ble rfl)
  apply Wk.pckT rfl (by conv => lhs; whnf) (lt_of_ble rfl)
  apply Wk.mv (by conv => lhs; whnf) (lt_of_ble rfl)
  apply Wk.gon 31 rfl rfl
  apply Wk.fad 4 0 false fd33_4 rfl (lt_of_ble rfl)
  apply Wk.gon 31 rfl rfl
  apply Wk.ld (i := 2) 1 false ty31 rfl rfl (by conv => lhs; whnf) (lt_of_ble rfl)
  apply Wk.gon 31 rfl rfl
  apply Wk.fad 4 0 false fd33_4 rfl (lt_of_ble rfl)
  apply Wk.gon 31 rfl rfl
  apply Wk.ld (i := 3) 1 false ty31 rfl rfl (by conv => lhs; whnf) (lt_of_ble rfl)
  apply Wk.gon 31 rfl rfl
  apply Wk.dat (liPartsE qu) Try.func110 rfl rfl rfl rfl rfl (lt_of_ble rfl)
  apply Wk.pckT rfl (by conv => lhs; whnf) (lt_of_ble rfl)
  apply Wk.mv (by conv => lhs; whnf) (lt_of_ble rfl)
  apply Wk.gon 38 rfl rfl
  apply Wk.fad 5 0 false fd33_5 rfl (lt_of_ble rfl)
  apply Wk.gon 38 rfl rfl
  apply Wk.ld (i := 2) 1 false ty4 rfl rfl (by conv => lhs; whnf) (lt_of_ble rfl)
  apply Wk.gon 38 rfl rfl
  apply Wk.fad 5 0 false fd33_5 rfl (lt_of_ble rfl)
  apply Wk.gon 38 rfl rfl
  apply Wk.ld (i := 3) 1 false ty4 rfl rfl (by conv => lhs; whnf) (lt_of_ble rfl)
  apply Wk.gon 38 rfl rfl
  apply Wk.bin rfl rfl (r := .bool true) (fun w => by simp [go_sem]) (lt_of_ble rfl)
  apply Wk.pckT rfl (by conv => lhs; whnf) (lt_of_ble rfl)
  apply Wk.mv (by conv => lhs; whnf) (lt_of_ble rfl)
  apply Wk.gon 45 rfl rfl
  apply Wk.fad 6 0 false fd33_6 rfl (lt_of_ble rfl)
  apply Wk.gon 45 rfl rfl
  apply Wk.ld (i := 2) 1 false ty3 rfl rfl (by conv => lhs; whnf) (lt_of_ble rfl)
  apply Wk.gon 45 rfl rfl
  apply Wk.fad 6 0 false fd33_6 rfl (lt_of_ble rfl)
  apply Wk.gon 45 rfl rfl
  apply Wk.ld (i := 3) 1 false ty3 rfl rfl (by conv => lhs; whnf) (lt_of_ble rfl)
  apply Wk.gon 45 rfl rfl
  apply Wk.bin rfl rfl (r := .bool true) (fun w => by simp [go_sem]) (lt_of_ble rfl)
  apply Wk.pckT rfl (by conv => lhs; whnf) (lt_of_ble rfl)
  apply Wk.mv (by conv => lhs; whnf) (lt_of_ble rfl)
  apply Wk.gon 52 rfl rfl
  apply Wk.fad 7 0 false fd33_7 rfl (lt_of_ble rfl)
  apply Wk.gon 52 rfl rfl
  apply Wk.ld (i := 2) 1 false ty4 rfl rfl (by conv => lhs; whnf) (lt_of_ble rfl)
  apply Wk.gon 52 rfl rfl
  apply Wk.fad 7 0 false fd33_7 rfl (lt_of_ble rfl)
  apply Wk.gon 52 rfl rfl
  apply Wk.ld (i := 3) 1 false ty4 rfl rfl (by conv => lhs; whnf) (lt_of_ble rfl)
  apply Wk.gon 52 rfl rfl
  apply Wk.bin rfl rfl (r := .bool true) (fun w => by simp [go_sem]) (lt_of_ble rfl)
  apply Wk.pckT rfl (by conv => lhs; whnf) (lt_of_ble rfl)
  apply Wk.mv (by conv => lhs; whnf) (lt_of_ble rfl)
  apply Wk.gon 59 rfl rfl
  apply Wk.fad 8 0 false fd33_8 rfl (lt_of_ble rfl)
  apply Wk.gon 59 rfl rfl
  apply Wk.ld (i := 2) 1 false ty3 rfl rfl (by conv => lhs; whnf) (lt_of_ble rfl)
  apply Wk.gon 59 rfl rfl
  apply Wk.fad 8 0 false fd33_8 rfl (lt_of_ble rfl)
  apply Wk.gon 59 rfl rfl
  apply Wk.ld (i := 3) 1 false ty3 rfl rfl (by conv => lhs; whnf) (lt_of_ble rfl)
  apply Wk.gon 59 rfl rfl
  apply Wk.bin rfl rfl (r := .bool true) (fun w => by simp [go_sem]) (lt_of_ble rfl)
  apply Wk.pckT rfl (by conv => lhs; whnf) (lt_of_ble rfl)
  apply Wk.mv (by conv => lhs; whnf) (lt_of_ble rfl)
  apply Wk.gon 66 rfl rfl
  apply Wk.fad 9 0 false fd33_9 rfl (lt_of_ble rfl)
  apply Wk.gon 66 rfl rfl
  apply Wk.ld (i := 2) 1 false ty4 rfl rfl (by conv => lhs; whnf) (lt_of_ble rfl)
  apply Wk.gon 66 rfl rfl
  apply Wk.fad 9 0 false fd33_9 rfl (lt_of_ble rfl)
  apply Wk.gon 66 rfl rfl
  apply Wk.ld (i := 3) 1 false ty4 rfl rfl (by conv => lhs; whnf) (lt_of_ble rfl)
  apply Wk.gon 66 rfl rfl
  apply Wk.bin rfl rfl (r := .bool true) (fun w => by simp [go_sem]) (lt_of_ble rfl)
  apply Wk.pckT rfl (by conv => lhs; whnf) (lt_of_ble rfl)
  apply Wk.asg (by conv => lhs; whnf) (lt_of_ble rfl)
  refine Wk.nil (AW.ret ?_)
  exact RetQ.ret [] (.cons rfl .nil) ⟨rfl, rfl⟩ none_kept
end Go.Proofs.Ytdjadeegjbhihaa

/- Two of who sends for credits that are the same, by the laws' own words. Written by tools/mk_AbsCrdPutI.py. -/
namespace Go.Proofs.Ytdjadeegjbhihaa
open Go Go.RowKit
set_option maxHeartbeats 4000000 in
set_option maxRecDepth 100000 in
theorem liCtxE (x : CX) : DataOk Try.prog 73 [cxA x, cxA x] (.d (.v (.bool true))) := by
  obtain ⟨v, qu, g, s, d⟩ := x
  refine Spec.intro (n := 38) (rv := [.tmp 4]) Try.func73 rfl rfl rfl (by simp) fun C hN hX => ?_
  refine AW.seq ?_
  apply AW.list
  apply Wk.bx 2 rfl rfl (lt_of_ble rfl)
  apply Wk.bx 3 rfl rfl (lt_of_ble rfl)
  apply Wk.asg (by conv => lhs; whnf) (lt_of_ble rfl)
  refine Wk.nil ?_
  refine AW.seq ?_
  apply AW.list
  apply Wk.fad 0 0 false fd44_0 rfl (lt_of_ble rfl)
  apply Wk.ld (i := 2) 1 false ty3 rfl rfl (by conv => lhs; whnf) (lt_of_ble rfl)
  apply Wk.fad 0 0 false fd44_0 rfl (lt_of_ble rfl)
  apply Wk.ld (i := 3) 1 false ty3 rfl rfl (by conv => lhs; whnf) (lt_of_ble rfl)
  apply Wk.bin rfl rfl (r := .bool true) (fun w => by simp [go_sem]) (lt_of_ble rfl)
  apply Wk.mv (by conv => lhs; whnf) (lt_of_ble rfl)
  apply Wk.gon 10 rfl rfl
  apply Wk.fad 1 0 false fd44_1 rfl (lt_of_ble rfl)
  apply Wk.gon 10 rfl rfl
  apply Wk.ld (i := 2) 1 false ty31 rfl rfl (by conv => lhs; whnf) (lt_of_ble rfl)
  apply Wk.gon 10 rfl rfl
  apply Wk.fad 1 0 false fd44_1 rfl (lt_of_ble rfl)
  apply Wk.gon 10 rfl rfl
  apply Wk.ld (i := 3) 1 false ty31 rfl rfl (by conv => lhs; whnf) (lt_of_ble rfl)
  apply Wk.gon 10 rfl rfl
  apply Wk.dat (liPartsE qu) Try.func110 rfl rfl rfl rfl rfl (lt_of_ble rfl)
  apply Wk.pckT rfl (by conv => lhs; whnf) (lt_of_ble rfl)
  apply Wk.mv (by conv => lhs; whnf) (lt_of_ble rfl)
  apply Wk.gon 17 rfl rfl
  apply Wk.fad 2 0 false fd44_2 rfl (lt_of_ble rfl)
  apply Wk.gon 17 rfl rfl
  apply Wk.ld (i := 2) 1 false ty3 rfl rfl (by conv => lhs; whnf) (lt_of_ble rfl)
  apply Wk.gon 17 rfl rfl
  apply Wk.fad 2 0 false fd44_2 rfl (lt_of_ble rfl)
  apply Wk.gon 17 rfl rfl
  apply Wk.ld (i := 3) 1 false ty3 rfl rfl (by conv => lhs; whnf) (lt_of_ble rfl)
  apply Wk.gon 17 rfl rfl
  apply Wk.bin rfl rfl (r := .bool true) (fun w => by simp [go_sem]) (lt_of_ble rfl)
  apply Wk.pckT rfl (by conv => lhs; whnf) (lt_of_ble rfl)
  apply Wk.mv (by conv => lhs; whnf) (lt_of_ble rfl)
  apply Wk.gon 24 rfl rfl
  apply Wk.fad 3 0 false fd44_3 rfl (lt_of_ble rfl)
  apply Wk.gon 24 rfl rfl
  apply Wk.ld (i := 2) 1 false ty3 rfl rfl (by conv => lhs; whnf) (lt_of_ble rfl)
  apply Wk.gon 24 rfl rfl
  apply Wk.fad 3 0 false fd44_3 rfl (lt_of_ble rfl)
  apply Wk.gon 24 rfl rfl
  apply Wk.ld (i := 3) 1 false ty3 rfl rfl (by conv => lhs; whnf) (lt_of_ble rfl)
  apply Wk.gon 24 rfl rfl
  apply Wk.bin rfl rfl (r := .bool true) (fun w => by simp [go_sem]) (lt_of_ble rfl)
  apply Wk.pckT rfl (by conv => lhs; whnf) (lt_of_ble rfl)
  apply Wk.mv (by conv => lhs; whnf) (lt_of_ble rfl)
  apply Wk.gon 31 rfl rfl
  apply Wk.fad 4 0 false fd44_4 rfl (lt_of_ble rfl)
  apply Wk.gon 31 rfl rfl
  apply Wk.ld (i := 2) 1 false ty4 rfl rfl (by conv => lhs; whnf) (lt_of_ble rfl)
  apply Wk.gon 31 rfl rfl
  apply Wk.fad 4 0 false fd44_4 rfl (lt_of_ble rfl)
  apply Wk.gon 31 rfl rfl
  apply Wk.ld (i := 3) 1 false ty4 rfl rfl (by conv => lhs; whnf) (lt_of_ble rfl)
  apply Wk.gon 31 rfl rfl
  apply Wk.bin rfl rfl (r := .bool true) (fun w => by simp [go_sem]) (lt_of_ble rfl)
  apply Wk.pckT rfl (by conv => lhs; whnf) (lt_of_ble rfl)
  apply Wk.asg (by conv => lhs; whnf) (lt_of_ble rfl)
  refine Wk.nil (AW.ret ?_)
  exact RetQ.ret [] (.cons rfl .nil) ⟨rfl, rfl⟩ none_kept
end Go.Proofs.Ytdjadeegjbhihaa

/- Lists of messages, and that two of them are alike; over what values read as. -/
namespace Go.Proofs.Ytdjadeegjbhihaa
open Go Go.RowKit
def msgsD (ms : List (List Nat)) : D := .row (ms.map fun zs => [bytesD zs])
def msgsA (ms : List (List Nat)) : List (List A) := ms.map fun zs => [A.d (bytesD zs)]
theorem asData_msgs (ms : List (List Nat)) : asData (msgsA ms) (ms.map fun zs => [bytesD zs]) := by
  simp [asData, msgsA, nrms, nrm, bytesD]
theorem one_msgs (ms : List (List Nat)) : ∀ c ∈ msgsA ms, c.length = 1 := by
  intro c hc
  obtain ⟨z, _, rfl⟩ := List.mem_map.1 hc
  rfl
theorem one_msgsD (ms : List (List Nat)) : ∀ c ∈ (ms.map fun zs => [bytesD zs]), c.length = 1 := by
  intro c hc
  obtain ⟨z, _, rfl⟩ := List.mem_map.1 hc
  rfl
theorem within_msgs {K : List Nat} (ms : List (List Nat)) : (msgsA ms).all (A.withins K) = true := by
  simp [msgsA, A.withins, A.within]
theorem liSdusE (ms : List (List Nat)) : DataOk Try.prog 75 [.d (msgsD ms), .d (msgsD ms)] (.d (.v (.bool true))) := by
  refine Spec.intro (n := 27) (rv := [.tmp 4]) Try.func75 rfl rfl rfl (by simp) fun C hN hX => ?_
  refine AW.bound (x := .tmp 0) rfl fun hb => ?_
  simp only [List.length_map] at hb
  refine AW.seq ?_
  apply AW.list
  apply Wk.asg (by conv => lhs; whnf) (lt_of_ble rfl)
  refine Wk.nil ?_
  refine AW.seq (AW.seq ?_)
  apply AW.list
  apply Wk.mv (by conv => lhs; whnf) (lt_of_ble rfl)
  apply Wk.len un75 rfl (lt_of_ble rfl)
  apply Wk.mv (by conv => lhs; whnf) (lt_of_ble rfl)
  apply Wk.len un75 rfl (lt_of_ble rfl)
  apply Wk.bin rfl rfl (fun w => by simp [go_sem] <;> rfl) (lt_of_ble rfl)
  refine Wk.nil ?_
  refine AW.cond rfl (fun hc => by simp at hc) (fun _ => AW.skip (thenA_normal ?_))
  refine AW.seq (AW.seq ?_)
  apply AW.list
  apply Wk.asg (by conv => lhs; whnf) (lt_of_ble rfl)
  refine Wk.nil (AW.block ?_)
  refine AW.loop (fun q : Nat => St.of 27 [(0, .d (msgsD ms)), (1, .d (msgsD ms)), (5, .d (.v (.int .i64 (q : Int))))] []) (fun q => q ≤ ms.length) (fun q => ms.length - q) 0 (Nat.zero_le _) ?_ (fun q hq => ?_)
  · exact fun a w => Rel.keep ⟨rfl, .cons rfl rfl (.cons rfl rfl (.cons rfl rfl .nil)), .nil, hN⟩
  refine AW.seq (AW.seq ?_)
  apply AW.list
  apply Wk.mv (by conv => lhs; whnf) (lt_of_ble rfl)
  apply Wk.mv (by conv => lhs; whnf) (lt_of_ble rfl)
  apply Wk.len un75 rfl (lt_of_ble rfl)
  apply Wk.bin rfl rfl (fun w => by simp [go_sem] <;> rfl) (lt_of_ble rfl)
  refine Wk.nil ?_
  refine AW.cond rfl (fun hc => ?_) (fun hc => ?_)
  · have hlt : q < ms.length := by simpa using hc
    obtain ⟨d, hd⟩ : ∃ d, ms[q]? = some d := ⟨_, List.getElem?_eq_getElem hlt⟩
    have hget : (ms.map fun zs => [bytesD zs])[q]? = some [bytesD d] := by simp [hd]
    refine AW.skip ?_
    repeat (first | refine thenA_normal ?_ | refine inBlockA_normal ?_)
    refine AW.seq (AW.block (AW.seq ?_))
    apply AW.draw (hm := hmix) (cs := _)
    · apply Wk.mv (by conv => lhs; whnf) (lt_of_ble rfl)
      apply Wk.mv (by conv => lhs; whnf) (lt_of_ble rfl)
      apply Wk.iad 1 false un75 ty64 rfl rfl (by simpa using hlt) (one_msgsD ms) (lt_of_ble rfl)
      apply Wk.ldr 1 false ty64 rfl hget (by conv => lhs; whnf) (lt_of_ble rfl)
      apply Wk.mv (by conv => lhs; whnf) (lt_of_ble rfl)
      apply Wk.mv (by conv => lhs; whnf) (lt_of_ble rfl)
      apply Wk.iad 1 false un75 ty64 rfl rfl (by simpa using hlt) (one_msgsD ms) (lt_of_ble rfl)
      apply Wk.ldr 1 false ty64 rfl hget (by conv => lhs; whnf) (lt_of_ble rfl)
      apply Wk.dat (liBytesE d) Try.func109 rfl rfl rfl rfl rfl (lt_of_ble rfl)
      apply Wk.un rfl (fun w => by simp [go_sem] <;> rfl) (lt_of_ble rfl)
      refine Wk.nil ?_
      refine AW.cond rfl (fun hn => by cases hn) (fun hn => ?_)
      refine AW.skip ?_
      repeat (first | refine thenA_normal ?_ | refine inBlockA_normal ?_)
      apply AW.list
      apply Wk.mv (by conv => lhs; whnf) (lt_of_ble rfl)
      apply Wk.addi rfl rfl (by omega) (lt_of_ble rfl)
      apply Wk.asg (by conv => lhs; whnf) (lt_of_ble rfl)
      refine Wk.nil ?_
      exact ⟨q + 1, by omega, by omega, fun a w => Rel.keep ⟨rfl, .cons rfl rfl (.cons rfl rfl (.cons rfl rfl .nil)), .nil, hN⟩⟩
    · rfl
    · rfl
  · refine AW.exit ?_
    repeat (first | refine inBlockA_same ?_ | refine thenA_exit ?_)
    repeat (first | refine thenA_normal ?_ | refine inBlockA_normal ?_)
    refine AW.seq ?_
    apply AW.list
    apply Wk.asg (by conv => lhs; whnf) (lt_of_ble rfl)
    refine Wk.nil (AW.ret ?_)
    repeat (first | refine thenA_ret ?_ | refine inBlockA_ret ?_)
    exact RetQ.ret [] (.cons rfl .nil) ⟨rfl, rfl⟩ none_kept
end Go.Proofs.Ytdjadeegjbhihaa

/- Two ends at their beginning; that an end, or what is on its way, is the same: over what values read as. Written by tools/mk_AbsLiWd.py. -/
namespace Go.Proofs.Ytdjadeegjbhihaa
open Go Go.RowKit
def en0 : EN := ⟨⟨0, 0, [], 0, [], false, 0, false, 0, false⟩, ⟨0, 0, 0, [], false, false, false⟩, ⟨0, [], 0, 0, false⟩, ⟨0, 0, [], false⟩, [], []⟩
def wd0 : WD := ⟨0, 0, 0, 0, 0, [], [], 0⟩
def wdNew (m w p u y : Int) : WD := ⟨m, w, p, u, y, [en0, en0], [[], []], 0⟩
def wdZ : A := .agg [.d (.v (.int .i64 0)), .d (.v (.int .i64 0)), .d (.v (.int .i64 0)), .d (.v (.int .i64 0)), .d (.v (.int .i64 0)), .d (.v (.slice none 0 0)), .d (.v (.slice none 0 0)), .d (.v (.int .i64 0))]
theorem iwnewNo (m w p u y : Int) (hc : Opt.ok ⟨m, w, p, u, y⟩ = false) : DataOk Try.prog 31 [cfgA m w p u y] (wdA wd0) := by
  refine DataOk.nrm (r := wdZ) ?_
  refine Spec.intro (n := 11) (rv := [.cell 2 57]) Try.func31 rfl rfl rfl (by simp) fun C hN hX => ?_
  refine AW.seq ?_
  apply AW.list
  apply Wk.bx 1 rfl rfl (lt_of_ble rfl)
  apply Wk.alc 2 [.int .i64 0, .int .i64 0, .int .i64 0, .int .i64 0, .int .i64 0, .slice none 0 0, .slice none 0 0, .int .i64 0] ze57 rfl rfl (lt_of_ble rfl)
  refine Wk.nil ?_
  refine AW.seq (AW.seq ?_)
  apply AW.list
  apply Wk.ld (i := 1) 5 true ty29 rfl rfl (by conv => lhs; whnf) (lt_of_ble rfl)
  apply Wk.dat (icfgb hc) Try.func48 rfl rfl rfl rfl rfl (lt_of_ble rfl)
  apply Wk.un rfl (fun w => by simp [go_sem] <;> rfl) (lt_of_ble rfl)
  refine Wk.nil ?_
  refine AW.cond rfl (fun _ => ?_) (fun hc => by cases hc)
  refine AW.seq ?_
  apply AW.list
  apply Wk.bld [.int .i64 0, .int .i64 0, .int .i64 0, .int .i64 0, .int .i64 0, .slice none 0 0, .slice none 0 0, .int .i64 0] [(0, 5), (5, 1), (6, 1), (7, 1)] bl57 rfl (by conv => lhs; whnf) (lt_of_ble rfl)
  apply Wk.sto (i := 2) 8 true ty57 rfl rfl rfl rfl (Nat.le_of_ble_eq_true rfl) (lt_of_ble rfl)
  refine Wk.nil (AW.ret ?_)
  repeat (first | refine thenA_ret ?_ | refine inBlockA_ret ?_)
  exact RetQ.ret [] (.cons ⟨2, 0, _, _, _, rfl, rfl, ty57, rfl⟩ .nil) ⟨rfl, rfl⟩ none_kept
set_option maxHeartbeats 4000000 in
set_option maxRecDepth 100000 in
theorem iwnewYes (m w p u y : Int) (hc : Opt.ok ⟨m, w, p, u, y⟩ = true) : DataOk Try.prog 31 [cfgA m w p u y] (wdA (wdNew m w p u y)) := by
  refine Spec.intro (n := 11) (rv := [.cell 2 57]) Try.func31 rfl rfl rfl (by simp) fun C hN hX => ?_
  refine AW.seq ?_
  apply AW.list
  apply Wk.bx 1 rfl rfl (lt_of_ble rfl)
  apply Wk.alc 2 [.int .i64 0, .int .i64 0, .int .i64 0, .int .i64 0, .int .i64 0, .slice none 0 0, .slice none 0 0, .int .i64 0] ze57 rfl rfl (lt_of_ble rfl)
  refine Wk.nil ?_
  refine AW.seq (AW.seq ?_)
  apply AW.list
  apply Wk.ld (i := 1) 5 true ty29 rfl rfl (by conv => lhs; whnf) (lt_of_ble rfl)
  apply Wk.dat (icfgb hc) Try.func48 rfl rfl rfl rfl rfl (lt_of_ble rfl)
  apply Wk.un rfl (fun w => by simp [go_sem] <;> rfl) (lt_of_ble rfl)
  refine Wk.nil ?_
  refine AW.cond rfl (fun hc => by cases hc) (fun _ => AW.skip (thenA_normal ?_))
  refine AW.seq ?_
  apply AW.draw (hm := hmix) (cs := _)
  · apply Wk.ld (i := 1) 5 true ty29 rfl rfl (by conv => lhs; whnf) (lt_of_ble rfl)
    apply Wk.mks 8 28 2 un54 ap77 ze77 rfl rfl rfl rfl (by omega) (lt_of_ble rfl)
    apply Wk.mks 9 1 2 un55 ap78 ze78 rfl rfl rfl rfl (by omega) (lt_of_ble rfl)
    apply Wk.thaw 8 8 [enD en0, enD en0] hX rfl (by rfl) (by rfl)
    apply Wk.thaw 9 9 [[.row []], [.row []]] hX rfl (by rfl) (by rfl)
    apply Wk.bld [.int .i64 0, .int .i64 0, .int .i64 0, .int .i64 0, .int .i64 0, .slice none 0 0, .slice none 0 0, .int .i64 0] [(0, 5), (5, 1), (6, 1), (7, 1)] bl57 rfl (by conv => lhs; whnf) (lt_of_ble rfl)
    apply Wk.sto (i := 2) 8 true ty57 rfl rfl rfl rfl (Nat.le_of_ble_eq_true rfl) (lt_of_ble rfl)
    refine Wk.nil (AW.ret ?_)
    repeat (first | refine thenA_ret ?_ | refine inBlockA_ret ?_)
    exact RetQ.ret [] (.cons ⟨2, 0, _, _, _, rfl, rfl, ty57, rfl⟩ .nil) ⟨rfl, rfl⟩ none_kept
  · rfl
  · rfl
theorem swnewNo (m w p u y : Int) (hc : Opt.ok ⟨m, w, p, u, y⟩ = false) : DataOk Try.prog 30 [cfgA m w p u y] (wdA wd0) := by
  refine DataOk.nrm (r := wdZ) ?_
  refine Spec.intro (n := 28) (rv := [.cell 2 57]) Try.func30 rfl rfl rfl (by simp) fun C hN hX => ?_
  refine AW.seq ?_
  apply AW.list
  apply Wk.bx 1 rfl rfl (lt_of_ble rfl)
  apply Wk.alc 2 [.int .i64 0, .int .i64 0, .int .i64 0, .int .i64 0, .int .i64 0, .slice none 0 0, .slice none 0 0, .int .i64 0] ze57 rfl rfl (lt_of_ble rfl)
  refine Wk.nil ?_
  refine AW.seq (AW.seq ?_)
  apply AW.list
  apply Wk.ld (i := 1) 5 true ty29 rfl rfl (by conv => lhs; whnf) (lt_of_ble rfl)
  apply Wk.dat (scfgb hc) Try.func36 rfl rfl rfl rfl rfl (lt_of_ble rfl)
  apply Wk.un rfl (fun w => by simp [go_sem] <;> rfl) (lt_of_ble rfl)
  refine Wk.nil ?_
  refine AW.cond rfl (fun _ => ?_) (fun hc => by cases hc)
  refine AW.seq ?_
  apply AW.list
  apply Wk.bld [.int .i64 0, .int .i64 0, .int .i64 0, .int .i64 0, .int .i64 0, .slice none 0 0, .slice none 0 0, .int .i64 0] [(0, 5), (5, 1), (6, 1), (7, 1)] bl57 rfl (by conv => lhs; whnf) (lt_of_ble rfl)
  apply Wk.sto (i := 2) 8 true ty57 rfl rfl rfl rfl (Nat.le_of_ble_eq_true rfl) (lt_of_ble rfl)
  refine Wk.nil (AW.ret ?_)
  repeat (first | refine thenA_ret ?_ | refine inBlockA_ret ?_)
  exact RetQ.ret [] (.cons ⟨2, 0, _, _, _, rfl, rfl, ty57, rfl⟩ .nil) ⟨rfl, rfl⟩ none_kept
set_option maxHeartbeats 4000000 in
set_option maxRecDepth 100000 in
theorem swnewYes (m w p u y : Int) (hc : Opt.ok ⟨m, w, p, u, y⟩ = true) : DataOk Try.prog 30 [cfgA m w p u y] (wdA (wdNew m w p u y)) := by
  refine Spec.intro (n := 28) (rv := [.cell 2 57]) Try.func30 rfl rfl rfl (by simp) fun C hN hX => ?_
  refine AW.seq ?_
  apply AW.list
  apply Wk.bx 1 rfl rfl (lt_of_ble rfl)
  apply Wk.alc 2 [.int .i64 0, .int .i64 0, .int .i64 0, .int .i64 0, .int .i64 0, .slice none 0 0, .slice none 0 0, .int .i64 0] ze57 rfl rfl (lt_of_ble rfl)
  refine Wk.nil ?_
  refine AW.seq (AW.seq ?_)
  apply AW.list
  apply Wk.ld (i := 1) 5 true ty29 rfl rfl (by conv => lhs; whnf) (lt_of_ble rfl)
  apply Wk.dat (scfgb hc) Try.func36 rfl rfl rfl rfl rfl (lt_of_ble rfl)
  apply Wk.un rfl (fun w => by simp [go_sem] <;> rfl) (lt_of_ble rfl)
  refine Wk.nil ?_
  refine AW.cond rfl (fun hc => by cases hc) (fun _ => AW.skip (thenA_normal ?_))
  refine AW.seq ?_
  apply AW.list
  apply Wk.ld (i := 1) 5 true ty29 rfl rfl (by conv => lhs; whnf) (lt_of_ble rfl)
  apply Wk.bld [.int .i64 0, .int .i64 0, .int .i64 0, .int .i64 0, .int .i64 0, .slice none 0 0, .slice none 0 0, .int .i64 0] [(0, 5), (5, 1), (6, 1), (7, 1)] bl57 rfl (by conv => lhs; whnf) (lt_of_ble rfl)
  apply Wk.alc 3 [.int .i64 0, .int .i64 0, .int .i64 0, .int .i64 0, .int .i64 0, .slice none 0 0, .slice none 0 0, .int .i64 0] ze57 rfl rfl (lt_of_ble rfl)
  apply Wk.sto (i := 3) 8 true ty57 rfl rfl rfl rfl (Nat.le_of_ble_eq_true rfl) (lt_of_ble rfl)
  refine Wk.nil ?_
  refine AW.seq (AW.seq ?_)
  apply AW.list
  apply Wk.asg (by conv => lhs; whnf) (lt_of_ble rfl)
  let zE : List A := [.d (.v (.int .i64 0)), .d (.v (.int .i64 0)), .d (.v (.slice none 0 0)), .d (.v (.int .i64 0)), .d (.v (.slice none 0 0)), .d (.v (.bool false)), .d (.v (.int .i64 0)), .d (.v (.bool false)), .d (.v (.int .i64 0)), .d (.v (.bool false)), .d (.v (.int .i64 0)), .d (.v (.int .i64 0)), .d (.v (.int .i64 0)), .d (.v (.slice none 0 0)), .d (.v (.bool false)), .d (.v (.bool false)), .d (.v (.bool false)), .d (.v (.int .i64 0)), .d (.v (.slice none 0 0)), .d (.v (.int .i64 0)), .d (.v (.int .i64 0)), .d (.v (.bool false)), .d (.v (.int .i64 0)), .d (.v (.int .i64 0)), .d (.v (.slice none 0 0)), .d (.v (.bool false)), .d (.v (.slice none 0 0)), .d (.v (.slice none 0 0))]
  let zW : List A := [.d (.v (.int .i64 0)), .d (.v (.int .i64 0)), .d (.v (.int .i64 0)), .d (.v (.int .i64 0)), .d (.v (.int .i64 0)), .d (.v (.slice none 0 0)), .d (.v (.slice none 0 0)), .d (.v (.int .i64 0))]
  refine Wk.nil (AW.block ?_)
  refine AW.loop (fun k : Nat => match k with | 0 => St.of 28 [(1, .ptr 1 0), (2, .ptr 2 0), (3, .ptr 3 0), (4, .d (.v (.int .i64 0)))] [(1, .var (cfgC m w p u y)), (2, .var zW), (3, .var ([A.d (.v (.int .i64 m)), .d (.v (.int .i64 w)), .d (.v (.int .i64 p)), .d (.v (.int .i64 u)), .d (.v (.int .i64 y)), .d (.v (.slice none 0 0)), .d (.v (.slice none 0 0)), .d (.v (.int .i64 0))]))] | 1 => St.of 28 [(1, .ptr 1 0), (2, .ptr 2 0), (3, .ptr 3 0), (4, .d (.v (.int .i64 1)))] [(1, .var (cfgC m w p u y)), (2, .var zW), (3, .var ([A.d (.v (.int .i64 m)), .d (.v (.int .i64 w)), .d (.v (.int .i64 p)), .d (.v (.int .i64 u)), .d (.v (.int .i64 y)), .own 60 0, .own 61 0, .d (.v (.int .i64 0))])), (60, .own 0 77 28 (List.replicate 1 zE)), (61, .own 0 78 1 (List.replicate 1 [.d (.row [])]))] | _ => St.of 28 [(1, .ptr 1 0), (2, .ptr 2 0), (3, .ptr 3 0), (4, .d (.v (.int .i64 2)))] [(1, .var (cfgC m w p u y)), (2, .var zW), (3, .var ([A.d (.v (.int .i64 m)), .d (.v (.int .i64 w)), .d (.v (.int .i64 p)), .d (.v (.int .i64 u)), .d (.v (.int .i64 y)), .own 60 1, .own 61 1, .d (.v (.int .i64 0))])), (60, .own 1 77 28 (List.replicate 2 zE)), (61, .own 1 78 1 (List.replicate 2 [.d (.row [])]))]) (fun k => k ≤ 2) (fun k => 2 - k) 0 (by omega) ?_ ?_
  · exact fun a w => Rel.keep ⟨rfl, .cons rfl rfl (.cons rfl rfl (.cons rfl rfl (.cons rfl rfl .nil))), .cons rfl rfl (.cons rfl rfl (.cons rfl rfl .nil)), hN.mono (by simp [keys])⟩
  rintro k hk
  rcases (show k = 0 ∨ k = 1 ∨ k = 2 by omega) with rfl | rfl | rfl
  · show AW Try.prog C _ _ (St.of 28 [(1, .ptr 1 0), (2, .ptr 2 0), (3, .ptr 3 0), (4, .d (.v (.int .i64 0)))] [(1, .var (cfgC m w p u y)), (2, .var zW), (3, .var ([A.d (.v (.int .i64 m)), .d (.v (.int .i64 w)), .d (.v (.int .i64 p)), .d (.v (.int .i64 u)), .d (.v (.int .i64 y)), .d (.v (.slice none 0 0)), .d (.v (.slice none 0 0)), .d (.v (.int .i64 0))]))])
    refine AW.seq (AW.seq ?_)
    apply AW.list
    apply Wk.mv (by conv => lhs; whnf) (lt_of_ble rfl)
    apply Wk.bin rfl rfl (r := .bool true) (fun w => by simp [go_sem]) (lt_of_ble rfl)
    refine Wk.nil ?_
    refine AW.cond rfl (fun _ => AW.skip ?_) (fun hc => by cases hc)
    repeat (first | refine thenA_normal ?_ | refine inBlockA_normal ?_)
    refine AW.seq (AW.block (AW.seq ?_))
    apply AW.list
    apply Wk.fad 5 0 false fd57_1 rfl (lt_of_ble rfl)
    apply Wk.ld (i := 3) 1 false ty54 rfl rfl (by conv => lhs; whnf) (lt_of_ble rfl)
    apply Wk.bld [.int .i64 0, .int .i64 0, .slice none 0 0, .int .i64 0, .slice none 0 0, .bool false, .int .i64 0, .bool false, .int .i64 0, .bool false, .int .i64 0, .int .i64 0, .int .i64 0, .slice none 0 0, .bool false, .bool false, .bool false, .int .i64 0, .slice none 0 0, .int .i64 0, .int .i64 0, .bool false, .int .i64 0, .int .i64 0, .slice none 0 0, .bool false, .slice none 0 0, .slice none 0 0] [(0, 10), (10, 7), (17, 5), (22, 4), (26, 1), (27, 1)] bl77 rfl (by conv => lhs; whnf) (lt_of_ble rfl)
    apply Wk.lst 18 28 true [.int .i64 0, .int .i64 0, .slice none 0 0, .int .i64 0, .slice none 0 0, .bool false, .int .i64 0, .bool false, .int .i64 0, .bool false, .int .i64 0, .int .i64 0, .int .i64 0, .slice none 0 0, .bool false, .bool false, .bool false, .int .i64 0, .slice none 0 0, .int .i64 0, .int .i64 0, .bool false, .int .i64 0, .int .i64 0, .slice none 0 0, .bool false, .slice none 0 0, .slice none 0 0] un54 ty77 ze77 rfl rfl (by rfl) (by rfl) (by decide) (by decide) rfl rfl (all_len rfl) (lt_of_ble rfl)
    apply Wk.appNO 60 18 28 un54 ap77 rfl rfl rfl rfl (by decide) (all_len rfl) (by decide) (lt_of_ble rfl)
    apply Wk.fad 5 0 false fd57_1 rfl (lt_of_ble rfl)
    apply Wk.sto (i := 3) 1 false ty54 rfl rfl rfl rfl (Nat.le_of_ble_eq_true rfl) (lt_of_ble rfl)
    refine Wk.nil ?_
    apply AW.list
    apply Wk.fad 6 0 false fd57_2 rfl (lt_of_ble rfl)
    apply Wk.ld (i := 3) 1 false ty55 rfl rfl (by conv => lhs; whnf) (lt_of_ble rfl)
    apply Wk.lst 23 2 true [.bool false, .slice none 0 0] un78 ty92 ze92 rfl rfl (by rfl) (by rfl) (by decide) (by decide) rfl rfl (all_len rfl) (lt_of_ble rfl)
    apply Wk.thaw 23 23 [] hX rfl (by rfl) (by rfl)
    apply Wk.lst 24 1 false [.slice none 0 0] un55 ty78 ze78 rfl rfl (by rfl) (by rfl) (by decide) (by decide) rfl rfl (all_len rfl) (lt_of_ble rfl)
    apply Wk.appNO 61 24 1 un55 ap78 rfl rfl rfl rfl (by decide) (all_len rfl) (by decide) (lt_of_ble rfl)
    apply Wk.fad 6 0 false fd57_2 rfl (lt_of_ble rfl)
    apply Wk.sto (i := 3) 1 false ty55 rfl rfl rfl rfl (Nat.le_of_ble_eq_true rfl) (lt_of_ble rfl)
    refine Wk.nil ?_
    repeat (first | refine thenA_normal ?_ | refine inBlockA_normal ?_)
    apply AW.list
    apply Wk.mv (by conv => lhs; whnf) (lt_of_ble rfl)
    apply Wk.addi rfl rfl (by omega) (lt_of_ble rfl)
    apply Wk.asg (by conv => lhs; whnf) (lt_of_ble rfl)
    refine Wk.nil ?_
    repeat (first | refine thenA_normal ?_ | refine inBlockA_normal ?_)
    exact ⟨1, by omega, by omega, fun a w => Rel.keep ⟨rfl, .cons rfl rfl (.cons rfl rfl (.cons rfl rfl (.cons rfl rfl .nil))), .cons rfl rfl (.cons rfl rfl (.cons rfl rfl (.cons rfl rfl (.cons rfl rfl .nil)))), hN.mono (by simp [keys])⟩⟩
  · show AW Try.prog C _ _ (St.of 28 [(1, .ptr 1 0), (2, .ptr 2 0), (3, .ptr 3 0), (4, .d (.v (.int .i64 1)))] [(1, .var (cfgC m w p u y)), (2, .var zW), (3, .var ([A.d (.v (.int .i64 m)), .d (.v (.int .i64 w)), .d (.v (.int .i64 p)), .d (.v (.int .i64 u)), .d (.v (.int .i64 y)), .own 60 0, .own 61 0, .d (.v (.int .i64 0))])), (60, .own 0 77 28 (List.replicate 1 zE)), (61, .own 0 78 1 (List.replicate 1 [.d (.row [])]))])
    refine AW.seq (AW.seq ?_)
    apply AW.list
    apply Wk.mv (by conv => lhs; whnf) (lt_of_ble rfl)
    apply Wk.bin rfl rfl (r := .bool true) (fun w => by simp [go_sem]) (lt_of_ble rfl)
    refine Wk.nil ?_
    refine AW.cond rfl (fun _ => AW.skip ?_) (fun hc => by cases hc)
    repeat (first | refine thenA_normal ?_ | refine inBlockA_normal ?_)
    refine AW.seq (AW.block (AW.seq ?_))
    apply AW.list
    apply Wk.fad 5 0 false fd57_1 rfl (lt_of_ble rfl)
    apply Wk.ld (i := 3) 1 false ty54 rfl rfl (by conv => lhs; whnf) (lt_of_ble rfl)
    apply Wk.bld [.int .i64 0, .int .i64 0, .slice none 0 0, .int .i64 0, .slice none 0 0, .bool false, .int .i64 0, .bool false, .int .i64 0, .bool false, .int .i64 0, .int .i64 0, .int .i64 0, .slice none 0 0, .bool false, .bool false, .bool false, .int .i64 0, .slice none 0 0, .int .i64 0, .int .i64 0, .bool false, .int .i64 0, .int .i64 0, .slice none 0 0, .bool false, .slice none 0 0, .slice none 0 0] [(0, 10), (10, 7), (17, 5), (22, 4), (26, 1), (27, 1)] bl77 rfl (by conv => lhs; whnf) (lt_of_ble rfl)
    apply Wk.lst 18 28 true [.int .i64 0, .int .i64 0, .slice none 0 0, .int .i64 0, .slice none 0 0, .bool false, .int .i64 0, .bool false, .int .i64 0, .bool false, .int .i64 0, .int .i64 0, .int .i64 0, .slice none 0 0, .bool false, .bool false, .bool false, .int .i64 0, .slice none 0 0, .int .i64 0, .int .i64 0, .bool false, .int .i64 0, .int .i64 0, .slice none 0 0, .bool false, .slice none 0 0, .slice none 0 0] un54 ty77 ze77 rfl rfl (by rfl) (by rfl) (by decide) (by decide) rfl rfl (all_len rfl) (lt_of_ble rfl)
    apply Wk.appOO 60 18 28 un54 ap77 rfl rfl rfl rfl (by decide) (all_len rfl) (all_len rfl) (by decide) (lt_of_ble rfl)
    apply Wk.fad 5 0 false fd57_1 rfl (lt_of_ble rfl)
    apply Wk.sto (i := 3) 1 false ty54 rfl rfl rfl rfl (Nat.le_of_ble_eq_true rfl) (lt_of_ble rfl)
    refine Wk.nil ?_
    apply AW.list
    apply Wk.fad 6 0 false fd57_2 rfl (lt_of_ble rfl)
    apply Wk.ld (i := 3) 1 false ty55 rfl rfl (by conv => lhs; whnf) (lt_of_ble rfl)
    apply Wk.lst 23 2 true [.bool false, .slice none 0 0] un78 ty92 ze92 rfl rfl (by rfl) (by rfl) (by decide) (by decide) rfl rfl (all_len rfl) (lt_of_ble rfl)
    apply Wk.thaw 23 23 [] hX rfl (by rfl) (by rfl)
    apply Wk.lst 24 1 false [.slice none 0 0] un55 ty78 ze78 rfl rfl (by rfl) (by rfl) (by decide) (by decide) rfl rfl (all_len rfl) (lt_of_ble rfl)
    apply Wk.appOO 61 24 1 un55 ap78 rfl rfl rfl rfl (by decide) (all_len rfl) (all_len rfl) (by decide) (lt_of_ble rfl)
    apply Wk.fad 6 0 false fd57_2 rfl (lt_of_ble rfl)
    apply Wk.sto (i := 3) 1 false ty55 rfl rfl rfl rfl (Nat.le_of_ble_eq_true rfl) (lt_of_ble rfl)
    refine Wk.nil ?_
    repeat (first | refine thenA_normal ?_ | refine inBlockA_normal ?_)
    apply AW.list
    apply Wk.mv (by conv => lhs; whnf) (lt_of_ble rfl)
    apply Wk.addi rfl rfl (by omega) (lt_of_ble rfl)
    apply Wk.asg (by conv => lhs; whnf) (lt_of_ble rfl)
    refine Wk.nil ?_
    repeat (first | refine thenA_normal ?_ | refine inBlockA_normal ?_)
    exact ⟨2, by omega, by omega, fun a w => Rel.keep ⟨rfl, .cons rfl rfl (.cons rfl rfl (.cons rfl rfl (.cons rfl rfl .nil))), .cons rfl rfl (.cons rfl rfl (.cons rfl rfl (.cons rfl rfl (.cons rfl rfl .nil)))), hN.mono (by simp [keys])⟩⟩
  · show AW Try.prog C _ _ (St.of 28 [(1, .ptr 1 0), (2, .ptr 2 0), (3, .ptr 3 0), (4, .d (.v (.int .i64 2)))] [(1, .var (cfgC m w p u y)), (2, .var zW), (3, .var ([A.d (.v (.int .i64 m)), .d (.v (.int .i64 w)), .d (.v (.int .i64 p)), .d (.v (.int .i64 u)), .d (.v (.int .i64 y)), .own 60 1, .own 61 1, .d (.v (.int .i64 0))])), (60, .own 1 77 28 (List.replicate 2 zE)), (61, .own 1 78 1 (List.replicate 2 [.d (.row [])]))])
    refine AW.seq (AW.seq ?_)
    apply AW.list
    apply Wk.mv (by conv => lhs; whnf) (lt_of_ble rfl)
    apply Wk.bin rfl rfl (r := .bool false) (fun w => by simp [go_sem]) (lt_of_ble rfl)
    refine Wk.nil ?_
    refine AW.cond rfl (fun hc => by cases hc) (fun _ => AW.exit ?_)
    repeat (first | refine inBlockA_same ?_ | refine thenA_exit ?_)
    repeat (first | refine thenA_normal ?_ | refine inBlockA_normal ?_)
    refine AW.thawc (j := 3) (c := 5) (i := 60) [enD en0, enD en0] rfl rfl rfl (by rfl) hX.none ?_
    refine AW.thawc (j := 3) (c := 6) (i := 61) [[.row []], [.row []]] rfl rfl rfl (by rfl) hX.none ?_
    refine AW.seq ?_
    apply AW.list
    apply Wk.ld (i := 3) 8 true ty57 rfl rfl (by conv => lhs; whnf) (lt_of_ble rfl)
    apply Wk.sto (i := 2) 8 true ty57 rfl rfl rfl rfl (Nat.le_of_ble_eq_true rfl) (lt_of_ble rfl)
    refine Wk.nil (AW.ret ?_)
    repeat (first | refine thenA_ret ?_ | refine inBlockA_ret ?_)
    exact RetQ.ret [] (.cons ⟨2, 0, _, _, _, rfl, rfl, ty57, rfl⟩ .nil) ⟨rfl, rfl⟩ none_kept
end Go.Proofs.Ytdjadeegjbhihaa

/- What two want, compared as one operation; over what values read as. -/
namespace Go.Proofs.Ytdjadeegjbhihaa
open Go Go.RowKit
section
variable {C : Ctx} {ops : Array Oper} {os : List Oper} {cs : List Cert} {σ : St} {K : St → Prop} {d : Nat} {ty : TypeId} {pos : String} {af : Array Edge}
def fiveA : A → Option Opt
  | .agg [.d (.v (.int .i64 m)), .d (.v (.int .i64 w)), .d (.v (.int .i64 s)), .d (.v (.int .i64 t)), .d (.v (.int .i64 y))] => some ⟨m, w, s, t, y⟩
  | _ => none
theorem five_cfg (m w s t y : Int) : fiveA (cfgA m w s t y) = some ⟨m, w, s, t, y⟩ := rfl
theorem fiveA_agg {x : A} {o : Opt} (h : fiveA x = some o) : x = cfgA o.mode o.win o.mps o.mtu o.tri := by
  unfold fiveA at h
  split at h
  · obtain rfl := Option.some.inj h; rfl
  · cases h
theorem den_five {w : World} {F : Nat → Prop} {E : Nat → Option Nat} {H : Nat → Nat → Option Value} {x : A} {o : Opt} {v : Value} (h : fiveA x = some o) (hd : Den w F E H x v) : v = .agg #[.int .i64 o.mode, .int .i64 o.win, .int .i64 o.mps, .int .i64 o.mtu, .int .i64 o.tri] := by
  rw [fiveA_agg h] at hd
  obtain ⟨cs, rfl, hs, _, h⟩ := den_agg hd
  have hs' : cs.toList.length = 5 := by simpa using hs
  match hl : cs.toList, hs' with
  | [x0, x1, x2, x3, x4], _ =>
    obtain rfl : cs = #[x0, x1, x2, x3, x4] := by rw [← Array.toArray_toList (xs := cs), hl]
    obtain rfl := den_v (h 0 _ rfl)
    obtain rfl := den_v (h 1 _ rfl)
    obtain rfl := den_v (h 2 _ rfl)
    obtain rfl := den_v (h 3 _ rfl)
    obtain rfl := den_v (h 4 _ rfl)
    rfl
def rCfgEq (ne : Bool) (x y : Operand) (σ : St) : Option A := (fiveA (aev σ x)).bind fun a => (fiveA (aev σ y)).map fun b => .d (.v (.bool (if ne then !a.same b else a.same b)))
theorem ok_cfgeq (x y : Operand) : OpOk Try.prog C ops ⟨some d, .binOp .eql 29 x y 29, ty, pos, af, none⟩ ⟨kof x ++ kof y, [T d], beh1 (rCfgEq false x y) d⟩ :=
  OpOk.read rfl rfl (fun σ => by unfold rCfgEq; rw [aev_mask (fun k h => List.mem_append_left _ h), aev_mask (fun k h => List.mem_append_right _ h)]) fun σ a w F E H r hR h => by
    simp only [rCfgEq, Option.bind_eq_some_iff, Option.map_eq_some_iff] at h
    obtain ⟨u, hu, v, hv, rfl⟩ := h
    exact ⟨_, run_cfg_eq x y rfl _ _ _ _ _ _ _ _ _ _ (den_five hu (hR.ev x)) (den_five hv (hR.ev y)) _ rfl w, .d _ _ (.v _)⟩
theorem ok_cfgne (x y : Operand) : OpOk Try.prog C ops ⟨some d, .binOp .neq 29 x y 29, ty, pos, af, none⟩ ⟨kof x ++ kof y, [T d], beh1 (rCfgEq true x y) d⟩ :=
  OpOk.read rfl rfl (fun σ => by unfold rCfgEq; rw [aev_mask (fun k h => List.mem_append_left _ h), aev_mask (fun k h => List.mem_append_right _ h)]) fun σ a w F E H r hR h => by
    simp only [rCfgEq, Option.bind_eq_some_iff, Option.map_eq_some_iff] at h
    obtain ⟨u, hu, v, hv, rfl⟩ := h
    exact ⟨_, run_cfg_ne x y rfl _ _ _ _ _ _ _ _ _ _ (den_five hu (hR.ev x)) (den_five hv (hR.ev y)) _ rfl w, .d _ _ (.v _)⟩
theorem Wk.cfgeq {x y : Operand} {a : Opt} (hx : fiveA (aev σ x) = some a) (hy : fiveA (aev σ y) = some a) (hd : d < σ.n) (h : Wk Try.prog C ops os cs (σ.put (T d) (.a (.d (.v (.bool true))))) K) :
    Wk Try.prog C ops (⟨some d, .binOp .eql 29 x y 29, ty, pos, af, none⟩ :: os) (⟨kof x ++ kof y, [T d], beh1 (rCfgEq false x y) d⟩ :: cs) σ K :=
  Wk.read (ok_cfgeq x y) _ hd (by simp [rCfgEq, hx, hy, Opt.same_self]) h
theorem Wk.cfgne {x y : Operand} {a : Opt} (hx : fiveA (aev σ x) = some a) (hy : fiveA (aev σ y) = some a) (hd : d < σ.n) (h : Wk Try.prog C ops os cs (σ.put (T d) (.a (.d (.v (.bool false))))) K) :
    Wk Try.prog C ops (⟨some d, .binOp .neq 29 x y 29, ty, pos, af, none⟩ :: os) (⟨kof x ++ kof y, [T d], beh1 (rCfgEq true x y) d⟩ :: cs) σ K :=
  Wk.read (ok_cfgne x y) _ hd (by simp [rCfgEq, hx, hy, Opt.same_self]) h
end
end Go.Proofs.Ytdjadeegjbhihaa

/- An end, what is on its way, and two ends are the same as themselves; over what values read as. Written by tools/mk_AbsLiWd2.py. -/
namespace Go.Proofs.Ytdjadeegjbhihaa
open Go Go.RowKit
theorem liBytesX (z : List (Fin 256)) : DataOk Try.prog 109 [.d (fbytes z), .d (fbytes z)] (.d (.v (.bool true))) := by
  have h := liBytes_ok (z.map (·.val)) (z.map (·.val))
  rw [decide_eq_true rfl] at h
  exact h
theorem rows_msgs (ms : List (List (Fin 256))) : D.row (ms.map bsC) = msgsD (ms.map fun z => z.map (·.val)) := by
  simp only [msgsD, List.map_map]
  rfl
theorem liSdusX (ms : List (List (Fin 256))) : DataOk Try.prog 75 [.d (.row (ms.map bsC)), .d (.row (ms.map bsC))] (.d (.v (.bool true))) := by
  rw [rows_msgs]
  exact liSdusE _
theorem liJoinX (m : Int) (bs : List (Fin 256)) : DataOk Try.prog 111 [joinA m bs, joinA m bs] (.d (.v (.bool true))) := by
  have hb := liBytesX bs
  refine Spec.intro (n := 17) (rv := [.tmp 4]) Try.func111 rfl rfl rfl (by simp) fun C hN hX => ?_
  refine AW.seq ?_
  apply AW.list
  apply Wk.bx 2 rfl rfl (lt_of_ble rfl)
  apply Wk.bx 3 rfl rfl (lt_of_ble rfl)
  apply Wk.asg (by conv => lhs; whnf) (lt_of_ble rfl)
  refine Wk.nil ?_
  refine AW.seq ?_
  apply AW.list
  apply Wk.fad 0 0 false fd70_0 rfl (lt_of_ble rfl)
  apply Wk.ld (i := 2) 1 false ty3 rfl rfl (by conv => lhs; whnf) (lt_of_ble rfl)
  apply Wk.fad 0 0 false fd70_0 rfl (lt_of_ble rfl)
  apply Wk.ld (i := 3) 1 false ty3 rfl rfl (by conv => lhs; whnf) (lt_of_ble rfl)
  apply Wk.bin rfl rfl (r := .bool true) (fun w => by simp [go_sem]) (lt_of_ble rfl)
  apply Wk.mv (by conv => lhs; whnf) (lt_of_ble rfl)
  apply Wk.gon 10 rfl rfl
  apply Wk.fad 1 0 false fd70_1 rfl (lt_of_ble rfl)
  apply Wk.gon 10 rfl rfl
  apply Wk.ld (i := 2) 1 false ty64 rfl rfl (by conv => lhs; whnf) (lt_of_ble rfl)
  apply Wk.gon 10 rfl rfl
  apply Wk.fad 1 0 false fd70_1 rfl (lt_of_ble rfl)
  apply Wk.gon 10 rfl rfl
  apply Wk.ld (i := 3) 1 false ty64 rfl rfl (by conv => lhs; whnf) (lt_of_ble rfl)
  apply Wk.gon 10 rfl rfl
  apply Wk.dat hb Try.func109 rfl rfl rfl rfl rfl (lt_of_ble rfl)
  apply Wk.pckT rfl (by conv => lhs; whnf) (lt_of_ble rfl)
  apply Wk.asg (by conv => lhs; whnf) (lt_of_ble rfl)
  refine Wk.nil (AW.ret ?_)
  repeat (first | refine thenA_ret ?_ | refine inBlockA_ret ?_)
  exact RetQ.ret [] (.cons rfl .nil) ⟨rfl, rfl⟩ none_kept
set_option maxHeartbeats 4000000 in
set_option maxRecDepth 100000 in
theorem liRxX (e c m : Int) (bs : List (Fin 256)) (a u d : Bool) : DataOk Try.prog 72 [rxA e c m bs a u d, rxA e c m bs a u d] (.d (.v (.bool true))) := by
  have hj := liJoinX m bs
  refine Spec.intro (n := 45) (rv := [.tmp 4]) Try.func72 rfl rfl rfl (by simp) fun C hN hX => ?_
  refine AW.seq ?_
  apply AW.list
  apply Wk.bx 2 rfl rfl (lt_of_ble rfl)
  apply Wk.bx 3 rfl rfl (lt_of_ble rfl)
  apply Wk.asg (by conv => lhs; whnf) (lt_of_ble rfl)
  refine Wk.nil ?_
  refine AW.seq ?_
  apply AW.list
  apply Wk.fad 0 0 false fd72_0 rfl (lt_of_ble rfl)
  apply Wk.ld (i := 2) 1 false ty3 rfl rfl (by conv => lhs; whnf) (lt_of_ble rfl)
  apply Wk.fad 0 0 false fd72_0 rfl (lt_of_ble rfl)
  apply Wk.ld (i := 3) 1 false ty3 rfl rfl (by conv => lhs; whnf) (lt_of_ble rfl)
  apply Wk.bin rfl rfl (r := .bool true) (fun w => by simp [go_sem]) (lt_of_ble rfl)
  apply Wk.mv (by conv => lhs; whnf) (lt_of_ble rfl)
  apply Wk.gon 10 rfl rfl
  apply Wk.fad 1 0 false fd72_1 rfl (lt_of_ble rfl)
  apply Wk.gon 10 rfl rfl
  apply Wk.ld (i := 2) 1 false ty3 rfl rfl (by conv => lhs; whnf) (lt_of_ble rfl)
  apply Wk.gon 10 rfl rfl
  apply Wk.fad 1 0 false fd72_1 rfl (lt_of_ble rfl)
  apply Wk.gon 10 rfl rfl
  apply Wk.ld (i := 3) 1 false ty3 rfl rfl (by conv => lhs; whnf) (lt_of_ble rfl)
  apply Wk.gon 10 rfl rfl
  apply Wk.bin rfl rfl (r := .bool true) (fun w => by simp [go_sem]) (lt_of_ble rfl)
  apply Wk.pckT rfl (by conv => lhs; whnf) (lt_of_ble rfl)
  apply Wk.mv (by conv => lhs; whnf) (lt_of_ble rfl)
  apply Wk.gon 17 rfl rfl
  apply Wk.fad 2 1 true fd72_2 rfl (lt_of_ble rfl)
  apply Wk.gon 17 rfl rfl
  apply Wk.ld (i := 2) 2 true ty70 rfl rfl (by conv => lhs; whnf) (lt_of_ble rfl)
  apply Wk.gon 17 rfl rfl
  apply Wk.fad 2 1 true fd72_2 rfl (lt_of_ble rfl)
  apply Wk.gon 17 rfl rfl
  apply Wk.ld (i := 3) 2 true ty70 rfl rfl (by conv => lhs; whnf) (lt_of_ble rfl)
  apply Wk.gon 17 rfl rfl
  apply Wk.dat hj Try.func111 rfl rfl rfl rfl rfl (lt_of_ble rfl)
  apply Wk.pckT rfl (by conv => lhs; whnf) (lt_of_ble rfl)
  apply Wk.mv (by conv => lhs; whnf) (lt_of_ble rfl)
  apply Wk.gon 24 rfl rfl
  apply Wk.fad 4 0 false fd72_3 rfl (lt_of_ble rfl)
  apply Wk.gon 24 rfl rfl
  apply Wk.ld (i := 2) 1 false ty4 rfl rfl (by conv => lhs; whnf) (lt_of_ble rfl)
  apply Wk.gon 24 rfl rfl
  apply Wk.fad 4 0 false fd72_3 rfl (lt_of_ble rfl)
  apply Wk.gon 24 rfl rfl
  apply Wk.ld (i := 3) 1 false ty4 rfl rfl (by conv => lhs; whnf) (lt_of_ble rfl)
  apply Wk.gon 24 rfl rfl
  apply Wk.bin rfl rfl (r := .bool true) (fun w => by simp [go_sem]) (lt_of_ble rfl)
  apply Wk.pckT rfl (by conv => lhs; whnf) (lt_of_ble rfl)
  apply Wk.mv (by conv => lhs; whnf) (lt_of_ble rfl)
  apply Wk.gon 31 rfl rfl
  apply Wk.fad 5 0 false fd72_4 rfl (lt_of_ble rfl)
  apply Wk.gon 31 rfl rfl
  apply Wk.ld (i := 2) 1 false ty4 rfl rfl (by conv => lhs; whnf) (lt_of_ble rfl)
  apply Wk.gon 31 rfl rfl
  apply Wk.fad 5 0 false fd72_4 rfl (lt_of_ble rfl)
  apply Wk.gon 31 rfl rfl
  apply Wk.ld (i := 3) 1 false ty4 rfl rfl (by conv => lhs; whnf) (lt_of_ble rfl)
  apply Wk.gon 31 rfl rfl
  apply Wk.bin rfl rfl (r := .bool true) (fun w => by simp [go_sem]) (lt_of_ble rfl)
  apply Wk.pckT rfl (by conv => lhs; whnf) (lt_of_ble rfl)
  apply Wk.mv (by conv => lhs; whnf) (lt_of_ble rfl)
  apply Wk.gon 38 rfl rfl
  apply Wk.fad 6 0 false fd72_5 rfl (lt_of_ble rfl)
  apply Wk.gon 38 rfl rfl
  apply Wk.ld (i := 2) 1 false ty4 rfl rfl (by conv => lhs; whnf) (lt_of_ble rfl)
  apply Wk.gon 38 rfl rfl
  apply Wk.fad 6 0 false fd72_5 rfl (lt_of_ble rfl)
  apply Wk.gon 38 rfl rfl
  apply Wk.ld (i := 3) 1 false ty4 rfl rfl (by conv => lhs; whnf) (lt_of_ble rfl)
  apply Wk.gon 38 rfl rfl
  apply Wk.bin rfl rfl (r := .bool true) (fun w => by simp [go_sem]) (lt_of_ble rfl)
  apply Wk.pckT rfl (by conv => lhs; whnf) (lt_of_ble rfl)
  apply Wk.asg (by conv => lhs; whnf) (lt_of_ble rfl)
  refine Wk.nil (AW.ret ?_)
  repeat (first | refine thenA_ret ?_ | refine inBlockA_ret ?_)
  exact RetQ.ret [] (.cons rfl .nil) ⟨rfl, rfl⟩ none_kept
set_option maxHeartbeats 4000000 in
set_option maxRecDepth 100000 in
theorem liCrxX (v m : Int) (bs : List (Fin 256)) (d : Bool) : DataOk Try.prog 74 [crA v m bs d, crA v m bs d] (.d (.v (.bool true))) := by
  have hj := liJoinX m bs
  refine Spec.intro (n := 24) (rv := [.tmp 4]) Try.func74 rfl rfl rfl (by simp) fun C hN hX => ?_
  refine AW.seq ?_
  apply AW.list
  apply Wk.bx 2 rfl rfl (lt_of_ble rfl)
  apply Wk.bx 3 rfl rfl (lt_of_ble rfl)
  apply Wk.asg (by conv => lhs; whnf) (lt_of_ble rfl)
  refine Wk.nil ?_
  refine AW.seq ?_
  apply AW.list
  apply Wk.fad 0 0 false fd74_0 rfl (lt_of_ble rfl)
  apply Wk.ld (i := 2) 1 false ty3 rfl rfl (by conv => lhs; whnf) (lt_of_ble rfl)
  apply Wk.fad 0 0 false fd74_0 rfl (lt_of_ble rfl)
  apply Wk.ld (i := 3) 1 false ty3 rfl rfl (by conv => lhs; whnf) (lt_of_ble rfl)
  apply Wk.bin rfl rfl (r := .bool true) (fun w => by simp [go_sem]) (lt_of_ble rfl)
  apply Wk.mv (by conv => lhs; whnf) (lt_of_ble rfl)
  apply Wk.gon 10 rfl rfl
  apply Wk.fad 1 1 true fd74_1 rfl (lt_of_ble rfl)
  apply Wk.gon 10 rfl rfl
  apply Wk.ld (i := 2) 2 true ty70 rfl rfl (by conv => lhs; whnf) (lt_of_ble rfl)
  apply Wk.gon 10 rfl rfl
  apply Wk.fad 1 1 true fd74_1 rfl (lt_of_ble rfl)
  apply Wk.gon 10 rfl rfl
  apply Wk.ld (i := 3) 2 true ty70 rfl rfl (by conv => lhs; whnf) (lt_of_ble rfl)
  apply Wk.gon 10 rfl rfl
  apply Wk.dat hj Try.func111 rfl rfl rfl rfl rfl (lt_of_ble rfl)
  apply Wk.pckT rfl (by conv => lhs; whnf) (lt_of_ble rfl)
  apply Wk.mv (by conv => lhs; whnf) (lt_of_ble rfl)
  apply Wk.gon 17 rfl rfl
  apply Wk.fad 3 0 false fd74_2 rfl (lt_of_ble rfl)
  apply Wk.gon 17 rfl rfl
  apply Wk.ld (i := 2) 1 false ty4 rfl rfl (by conv => lhs; whnf) (lt_of_ble rfl)
  apply Wk.gon 17 rfl rfl
  apply Wk.fad 3 0 false fd74_2 rfl (lt_of_ble rfl)
  apply Wk.gon 17 rfl rfl
  apply Wk.ld (i := 3) 1 false ty4 rfl rfl (by conv => lhs; whnf) (lt_of_ble rfl)
  apply Wk.gon 17 rfl rfl
  apply Wk.bin rfl rfl (r := .bool true) (fun w => by simp [go_sem]) (lt_of_ble rfl)
  apply Wk.pckT rfl (by conv => lhs; whnf) (lt_of_ble rfl)
  apply Wk.asg (by conv => lhs; whnf) (lt_of_ble rfl)
  refine Wk.nil (AW.ret ?_)
  repeat (first | refine thenA_ret ?_ | refine inBlockA_ret ?_)
  exact RetQ.ret [] (.cons rfl .nil) ⟨rfl, rfl⟩ none_kept
set_option maxHeartbeats 4000000 in
set_option maxRecDepth 100000 in
theorem liEndX (e : EN) : DataOk Try.prog 38 [.agg ((enD e).map A.d), .agg ((enD e).map A.d)] (.d (.v (.bool true))) := by
  have k0 := liTxE e.tx
  have k1 := liRxX e.rx.e e.rx.c e.rx.m e.rx.bs e.rx.a e.rx.u e.rx.d
  have k2 := liCtxE e.cx
  have k3 := liCrxX e.kx.v e.kx.m e.kx.bs e.kx.d
  have k4 := liSdusX e.put
  have k5 := liSdusX e.got
  obtain ⟨⟨n, a, fl, s, qu, q, t, h, c, d0⟩, ⟨e1, c1, m1, z1, a1, u1, d1⟩, ⟨v2, q2, g2, s2, d2⟩, ⟨v3, m3, z3, d3⟩, put, got⟩ := e
  refine Spec.intro (n := 45) (rv := [.tmp 4]) Try.func38 rfl rfl rfl (by simp) fun C hN hX => ?_
  refine AW.seq ?_
  apply AW.list
  apply Wk.bx 2 rfl rfl (lt_of_ble rfl)
  apply Wk.bx 3 rfl rfl (lt_of_ble rfl)
  apply Wk.asg (by conv => lhs; whnf) (lt_of_ble rfl)
  refine Wk.nil ?_
  refine AW.seq ?_
  apply AW.list
  apply Wk.fad 0 9 true fd77_0 rfl (lt_of_ble rfl)
  apply Wk.ld (i := 2) 10 true ty33 rfl rfl (by conv => lhs; whnf) (lt_of_ble rfl)
  apply Wk.fad 0 9 true fd77_0 rfl (lt_of_ble rfl)
  apply Wk.ld (i := 3) 10 true ty33 rfl rfl (by conv => lhs; whnf) (lt_of_ble rfl)
  apply Wk.dat k0 Try.func71 rfl rfl rfl rfl rfl (lt_of_ble rfl)
  apply Wk.mv (by conv => lhs; whnf) (lt_of_ble rfl)
  apply Wk.gon 10 rfl rfl
  apply Wk.fad 10 6 true fd77_1 rfl (lt_of_ble rfl)
  apply Wk.gon 10 rfl rfl
  apply Wk.ld (i := 2) 7 true ty72 rfl rfl (by conv => lhs; whnf) (lt_of_ble rfl)
  apply Wk.gon 10 rfl rfl
  apply Wk.fad 10 6 true fd77_1 rfl (lt_of_ble rfl)
  apply Wk.gon 10 rfl rfl
  apply Wk.ld (i := 3) 7 true ty72 rfl rfl (by conv => lhs; whnf) (lt_of_ble rfl)
  apply Wk.gon 10 rfl rfl
  apply Wk.dat k1 Try.func72 rfl rfl rfl rfl rfl (lt_of_ble rfl)
  apply Wk.pckT rfl (by conv => lhs; whnf) (lt_of_ble rfl)
  apply Wk.mv (by conv => lhs; whnf) (lt_of_ble rfl)
  apply Wk.gon 17 rfl rfl
  apply Wk.fad 17 4 true fd77_2 rfl (lt_of_ble rfl)
  apply Wk.gon 17 rfl rfl
  apply Wk.ld (i := 2) 5 true ty44 rfl rfl (by conv => lhs; whnf) (lt_of_ble rfl)
  apply Wk.gon 17 rfl rfl
  apply Wk.fad 17 4 true fd77_2 rfl (lt_of_ble rfl)
  apply Wk.gon 17 rfl rfl
  apply Wk.ld (i := 3) 5 true ty44 rfl rfl (by conv => lhs; whnf) (lt_of_ble rfl)
  apply Wk.gon 17 rfl rfl
  apply Wk.dat k2 Try.func73 rfl rfl rfl rfl rfl (lt_of_ble rfl)
  apply Wk.pckT rfl (by conv => lhs; whnf) (lt_of_ble rfl)
  apply Wk.mv (by conv => lhs; whnf) (lt_of_ble rfl)
  apply Wk.gon 24 rfl rfl
  apply Wk.fad 22 3 true fd77_3 rfl (lt_of_ble rfl)
  apply Wk.gon 24 rfl rfl
  apply Wk.ld (i := 2) 4 true ty74 rfl rfl (by conv => lhs; whnf) (lt_of_ble rfl)
  apply Wk.gon 24 rfl rfl
  apply Wk.fad 22 3 true fd77_3 rfl (lt_of_ble rfl)
  apply Wk.gon 24 rfl rfl
  apply Wk.ld (i := 3) 4 true ty74 rfl rfl (by conv => lhs; whnf) (lt_of_ble rfl)
  apply Wk.gon 24 rfl rfl
  apply Wk.dat k3 Try.func74 rfl rfl rfl rfl rfl (lt_of_ble rfl)
  apply Wk.pckT rfl (by conv => lhs; whnf) (lt_of_ble rfl)
  apply Wk.mv (by conv => lhs; whnf) (lt_of_ble rfl)
  apply Wk.gon 31 rfl rfl
  apply Wk.fad 26 0 false fd77_4 rfl (lt_of_ble rfl)
  apply Wk.gon 31 rfl rfl
  apply Wk.ld (i := 2) 1 false ty75 rfl rfl (by conv => lhs; whnf) (lt_of_ble rfl)
  apply Wk.gon 31 rfl rfl
  apply Wk.fad 26 0 false fd77_4 rfl (lt_of_ble rfl)
  apply Wk.gon 31 rfl rfl
  apply Wk.ld (i := 3) 1 false ty75 rfl rfl (by conv => lhs; whnf) (lt_of_ble rfl)
  apply Wk.gon 31 rfl rfl
  apply Wk.dat k4 Try.func75 rfl rfl rfl rfl rfl (lt_of_ble rfl)
  apply Wk.pckT rfl (by conv => lhs; whnf) (lt_of_ble rfl)
  apply Wk.mv (by conv => lhs; whnf) (lt_of_ble rfl)
  apply Wk.gon 38 rfl rfl
  apply Wk.fad 27 0 false fd77_5 rfl (lt_of_ble rfl)
  apply Wk.gon 38 rfl rfl
  apply Wk.ld (i := 2) 1 false ty75 rfl rfl (by conv => lhs; whnf) (lt_of_ble rfl)
  apply Wk.gon 38 rfl rfl
  apply Wk.fad 27 0 false fd77_5 rfl (lt_of_ble rfl)
  apply Wk.gon 38 rfl rfl
  apply Wk.ld (i := 3) 1 false ty75 rfl rfl (by conv => lhs; whnf) (lt_of_ble rfl)
  apply Wk.gon 38 rfl rfl
  apply Wk.dat k5 Try.func75 rfl rfl rfl rfl rfl (lt_of_ble rfl)
  apply Wk.pckT rfl (by conv => lhs; whnf) (lt_of_ble rfl)
  apply Wk.asg (by conv => lhs; whnf) (lt_of_ble rfl)
  refine Wk.nil (AW.ret ?_)
  repeat (first | refine thenA_ret ?_ | refine inBlockA_ret ?_)
  exact RetQ.ret [] (.cons rfl .nil) ⟨rfl, rfl⟩ none_kept
set_option maxHeartbeats 4000000 in
set_option maxRecDepth 100000 in
theorem liNetX (l : List MSG) : DataOk Try.prog 70 [.d (.row (l.map msgC)), .d (.row (l.map msgC))] (.d (.v (.bool true))) := by
  have ll : (((l.map msgC).length : Nat) : Int) = (l.length : Int) := by rw [List.length_map]
  refine Spec.intro (n := 42) (rv := [.tmp 4]) Try.func70 rfl rfl rfl (by simp) fun C hN hX => ?_
  refine AW.bound (x := .tmp 0) (es := l.map msgC) rfl fun hb => ?_
  rw [List.length_map] at hb
  refine AW.seq ?_
  apply AW.list
  apply Wk.asg (by conv => lhs; whnf) (lt_of_ble rfl)
  refine Wk.nil ?_
  refine AW.seq (AW.seq ?_)
  apply AW.list
  apply Wk.mv (by conv => lhs; whnf) (lt_of_ble rfl)
  apply Wk.len un78 rfl (lt_of_ble rfl)
  apply Wk.mv (by conv => lhs; whnf) (lt_of_ble rfl)
  apply Wk.len un78 rfl (lt_of_ble rfl)
  apply Wk.bin rfl rfl (r := .bool false) (fun w => by simp [go_sem]) (lt_of_ble rfl)
  refine Wk.nil ?_
  refine AW.cond rfl (fun hc => by cases hc) (fun _ => AW.skip (thenA_normal ?_))
  refine AW.seq (AW.seq ?_)
  apply AW.list
  apply Wk.asg (by conv => lhs; whnf) (lt_of_ble rfl)
  refine Wk.nil (AW.block ?_)
  refine AW.loop (fun k : Nat => St.of 42 [(0, .d (.row (l.map msgC))), (1, .d (.row (l.map msgC))), (5, .d (.v (.int .i64 (k : Int))))] []) (fun k => k ≤ l.length) (fun k => l.length - k) 0 (Nat.zero_le _) ?_ ?_
  · exact fun a w => Rel.keep ⟨rfl, .cons rfl rfl (.cons rfl rfl (.cons rfl rfl .nil)), .nil, hN.mono (by simp [keys])⟩
  rintro k hk
  show AW Try.prog C _ _ (St.of 42 [(0, .d (.row (l.map msgC))), (1, .d (.row (l.map msgC))), (5, .d (.v (.int .i64 (k : Int))))] [])
  refine AW.seq (AW.seq ?_)
  by_cases hlt : k < l.length
  · skip
    apply AW.list
    apply Wk.mv (by conv => lhs; whnf) (lt_of_ble rfl)
    apply Wk.mv (by conv => lhs; whnf) (lt_of_ble rfl)
    apply Wk.len un78 rfl (lt_of_ble rfl)
    apply Wk.bin rfl rfl (r := .bool true) (fun w => by rw [ll]; simp [go_sem]; omega) (lt_of_ble rfl)
    refine Wk.nil ?_
    refine AW.cond rfl (fun _ => AW.skip ?_) (fun hc => by cases hc)
    repeat (first | refine thenA_normal ?_ | refine inBlockA_normal ?_)
    obtain ⟨x, hd⟩ : ∃ d, l[k]? = some d := ⟨_, List.getElem?_eq_getElem hlt⟩
    obtain ⟨bt, z⟩ := x
    have hget : (l.map msgC)[k]? = some (msgC ⟨bt, z⟩) := by simp [hd]
    have hklt : k < (l.map msgC).length := by simpa using hlt
    have hz := liBytesX z
    refine AW.seq (AW.block (AW.seq ?_))
    apply AW.draw (hm := hmix) (cs := _)
    · apply Wk.mv (by conv => lhs; whnf) (lt_of_ble rfl)
      apply Wk.mv (by conv => lhs; whnf) (lt_of_ble rfl)
      apply Wk.iad 2 true un78 ty92 rfl rfl hklt (msg_two _) (lt_of_ble rfl)
      apply Wk.fad 0 0 false fd92_0 rfl (lt_of_ble rfl)
      apply Wk.ldr 1 false ty4 rfl hget (by conv => lhs; whnf) (lt_of_ble rfl)
      apply Wk.mv (by conv => lhs; whnf) (lt_of_ble rfl)
      apply Wk.mv (by conv => lhs; whnf) (lt_of_ble rfl)
      apply Wk.iad 2 true un78 ty92 rfl rfl hklt (msg_two _) (lt_of_ble rfl)
      apply Wk.fad 0 0 false fd92_0 rfl (lt_of_ble rfl)
      apply Wk.ldr 1 false ty4 rfl hget (by conv => lhs; whnf) (lt_of_ble rfl)
      apply Wk.bin rfl rfl (r := .bool false) (fun w => by simp [go_sem]) (lt_of_ble rfl)
      apply Wk.mv (by conv => lhs; whnf) (lt_of_ble rfl)
      apply Wk.gon 28 rfl rfl
      apply Wk.mv (by conv => lhs; whnf) (lt_of_ble rfl)
      apply Wk.gon 28 rfl rfl
      apply Wk.mv (by conv => lhs; whnf) (lt_of_ble rfl)
      apply Wk.gon 28 rfl rfl
      apply Wk.iad 2 true un78 ty92 rfl rfl hklt (msg_two _) (lt_of_ble rfl)
      apply Wk.gon 28 rfl rfl
      apply Wk.fad 1 0 false fd92_1 rfl (lt_of_ble rfl)
      apply Wk.gon 28 rfl rfl
      apply Wk.ldr 1 false ty64 rfl hget (by conv => lhs; whnf) (lt_of_ble rfl)
      apply Wk.gon 28 rfl rfl
      apply Wk.mv (by conv => lhs; whnf) (lt_of_ble rfl)
      apply Wk.gon 28 rfl rfl
      apply Wk.mv (by conv => lhs; whnf) (lt_of_ble rfl)
      apply Wk.gon 28 rfl rfl
      apply Wk.iad 2 true un78 ty92 rfl rfl hklt (msg_two _) (lt_of_ble rfl)
      apply Wk.gon 28 rfl rfl
      apply Wk.fad 1 0 false fd92_1 rfl (lt_of_ble rfl)
      apply Wk.gon 28 rfl rfl
      apply Wk.ldr 1 false ty64 rfl hget (by conv => lhs; whnf) (lt_of_ble rfl)
      apply Wk.gon 28 rfl rfl
      apply Wk.dat hz Try.func109 rfl rfl rfl rfl rfl (lt_of_ble rfl)
      apply Wk.gon 28 rfl rfl
      apply Wk.un rfl (fun w => by simp [go_sem] <;> rfl) (lt_of_ble rfl)
      apply Wk.pckF rfl (by conv => lhs; whnf) (lt_of_ble rfl)
      refine Wk.nil ?_
      refine AW.cond rfl (fun hc => by cases hc) (fun _ => AW.skip ?_)
      repeat (first | refine thenA_normal ?_ | refine inBlockA_normal ?_)
      apply AW.list
      apply Wk.mv (by conv => lhs; whnf) (lt_of_ble rfl)
      apply Wk.addn (b := 1) rfl rfl (by omega) (lt_of_ble rfl)
      apply Wk.asg (by conv => lhs; whnf) (lt_of_ble rfl)
      refine Wk.nil ?_
      repeat (first | refine thenA_normal ?_ | refine inBlockA_normal ?_)
      exact ⟨k + 1, by omega, by omega, fun a w => Rel.keep ⟨rfl, .cons rfl rfl (.cons rfl rfl (.cons rfl rfl .nil)), .nil, hN.mono (by simp [keys])⟩⟩
    · rfl
    · rfl
  · have hke : k = l.length := by omega
    subst hke
    apply AW.list
    apply Wk.mv (by conv => lhs; whnf) (lt_of_ble rfl)
    apply Wk.mv (by conv => lhs; whnf) (lt_of_ble rfl)
    apply Wk.len un78 rfl (lt_of_ble rfl)
    apply Wk.bin rfl rfl (r := .bool false) (fun w => by rw [ll]; simp [go_sem]) (lt_of_ble rfl)
    refine Wk.nil ?_
    refine AW.cond rfl (fun hc => by cases hc) (fun _ => AW.exit ?_)
    repeat (first | refine inBlockA_same ?_ | refine thenA_exit ?_)
    repeat (first | refine thenA_normal ?_ | refine inBlockA_normal ?_)
    refine AW.seq ?_
    apply AW.list
    apply Wk.asg (by conv => lhs; whnf) (lt_of_ble rfl)
    refine Wk.nil (AW.ret ?_)
    repeat (first | refine thenA_ret ?_ | refine inBlockA_ret ?_)
    exact RetQ.ret [] (.cons rfl .nil) ⟨rfl, rfl⟩ none_kept
set_option maxHeartbeats 4000000 in
set_option maxRecDepth 100000 in
theorem liWorldX (x : WD) (h1 : x.ends.length ≤ 1000000) (h2 : x.net.length ≤ 1000000) : DataOk Try.prog 35 [wdA x, wdA x] (.d (.v (.bool true))) := by
  obtain ⟨m, w, p, u, y, ends, net, link⟩ := x
  simp only at h1 h2
  have el : (((ends.map enD).length : Nat) : Int) = (ends.length : Int) := by rw [List.length_map]
  have nl : (((net.map fun l => [D.row (l.map msgC)]).length : Nat) : Int) = (net.length : Int) := by rw [List.length_map]
  refine Spec.intro (n := 75) (rv := [.tmp 4]) Try.func35 rfl rfl rfl (by simp) fun C hN hX => ?_
  refine AW.seq ?_
  apply AW.list
  apply Wk.bx 2 rfl rfl (lt_of_ble rfl)
  apply Wk.bx 3 rfl rfl (lt_of_ble rfl)
  apply Wk.asg (by conv => lhs; whnf) (lt_of_ble rfl)
  refine Wk.nil ?_
  refine AW.seq (AW.seq ?_)
  apply AW.list
  apply Wk.fad 0 4 true fd57_0 rfl (lt_of_ble rfl)
  apply Wk.ld (i := 2) 5 true ty29 rfl rfl (by conv => lhs; whnf) (lt_of_ble rfl)
  apply Wk.fad 0 4 true fd57_0 rfl (lt_of_ble rfl)
  apply Wk.ld (i := 3) 5 true ty29 rfl rfl (by conv => lhs; whnf) (lt_of_ble rfl)
  apply Wk.cfgne (a := ⟨m, w, p, u, y⟩) (by rfl) (by rfl) (lt_of_ble rfl)
  apply Wk.mv (by conv => lhs; whnf) (lt_of_ble rfl)
  apply Wk.gon 12 rfl rfl
  apply Wk.fad 7 0 false fd57_3 rfl (lt_of_ble rfl)
  apply Wk.gon 12 rfl rfl
  apply Wk.ld (i := 2) 1 false ty3 rfl rfl (by conv => lhs; whnf) (lt_of_ble rfl)
  apply Wk.gon 12 rfl rfl
  apply Wk.fad 7 0 false fd57_3 rfl (lt_of_ble rfl)
  apply Wk.gon 12 rfl rfl
  apply Wk.ld (i := 3) 1 false ty3 rfl rfl (by conv => lhs; whnf) (lt_of_ble rfl)
  apply Wk.gon 12 rfl rfl
  apply Wk.bin rfl rfl (r := .bool false) (fun w => by simp [go_sem]) (lt_of_ble rfl)
  apply Wk.pckF rfl (by conv => lhs; whnf) (lt_of_ble rfl)
  apply Wk.mv (by conv => lhs; whnf) (lt_of_ble rfl)
  apply Wk.gon 19 rfl rfl
  apply Wk.fad 5 0 false fd57_1 rfl (lt_of_ble rfl)
  apply Wk.gon 19 rfl rfl
  apply Wk.ld (i := 2) 1 false ty54 rfl rfl (by conv => lhs; whnf) (lt_of_ble rfl)
  apply Wk.gon 19 rfl rfl
  apply Wk.len un54 rfl (lt_of_ble rfl)
  apply Wk.gon 19 rfl rfl
  apply Wk.fad 5 0 false fd57_1 rfl (lt_of_ble rfl)
  apply Wk.gon 19 rfl rfl
  apply Wk.ld (i := 3) 1 false ty54 rfl rfl (by conv => lhs; whnf) (lt_of_ble rfl)
  apply Wk.gon 19 rfl rfl
  apply Wk.len un54 rfl (lt_of_ble rfl)
  apply Wk.gon 19 rfl rfl
  apply Wk.bin rfl rfl (r := .bool false) (fun w => by simp [go_sem]) (lt_of_ble rfl)
  apply Wk.pckF rfl (by conv => lhs; whnf) (lt_of_ble rfl)
  apply Wk.mv (by conv => lhs; whnf) (lt_of_ble rfl)
  apply Wk.gon 28 rfl rfl
  apply Wk.fad 6 0 false fd57_2 rfl (lt_of_ble rfl)
  apply Wk.gon 28 rfl rfl
  apply Wk.ld (i := 2) 1 false ty55 rfl rfl (by conv => lhs; whnf) (lt_of_ble rfl)
  apply Wk.gon 28 rfl rfl
  apply Wk.len un55 rfl (lt_of_ble rfl)
  apply Wk.gon 28 rfl rfl
  apply Wk.fad 6 0 false fd57_2 rfl (lt_of_ble rfl)
  apply Wk.gon 28 rfl rfl
  apply Wk.ld (i := 3) 1 false ty55 rfl rfl (by conv => lhs; whnf) (lt_of_ble rfl)
  apply Wk.gon 28 rfl rfl
  apply Wk.len un55 rfl (lt_of_ble rfl)
  apply Wk.gon 28 rfl rfl
  apply Wk.bin rfl rfl (r := .bool false) (fun w => by simp [go_sem]) (lt_of_ble rfl)
  apply Wk.pckF rfl (by conv => lhs; whnf) (lt_of_ble rfl)
  refine Wk.nil ?_
  refine AW.cond rfl (fun hc => by cases hc) (fun _ => AW.skip (thenA_normal ?_))
  refine AW.seq (AW.seq ?_)
  apply AW.list
  apply Wk.asg (by conv => lhs; whnf) (lt_of_ble rfl)
  refine Wk.nil (AW.block ?_)
  refine AW.loop (fun k : Nat => St.of 75 [(2, .ptr 2 0), (3, .ptr 3 0), (5, .d (.v (.int .i64 (k : Int))))] [(2, .var ((wdD ⟨m, w, p, u, y, ends, net, link⟩).map A.d)), (3, .var ((wdD ⟨m, w, p, u, y, ends, net, link⟩).map A.d))]) (fun k => k ≤ ends.length) (fun k => ends.length - k) 0 (Nat.zero_le _) ?_ ?_
  · exact fun a w => Rel.keep ⟨rfl, .cons rfl rfl (.cons rfl rfl (.cons rfl rfl .nil)), .cons rfl rfl (.cons rfl rfl .nil), hN.mono (by simp [keys])⟩
  rintro k hk
  show AW Try.prog C _ _ (St.of 75 [(2, .ptr 2 0), (3, .ptr 3 0), (5, .d (.v (.int .i64 (k : Int))))] [(2, .var ((wdD ⟨m, w, p, u, y, ends, net, link⟩).map A.d)), (3, .var ((wdD ⟨m, w, p, u, y, ends, net, link⟩).map A.d))])
  refine AW.seq (AW.seq ?_)
  by_cases hlt : k < ends.length
  · skip
    apply AW.list
    apply Wk.mv (by conv => lhs; whnf) (lt_of_ble rfl)
    apply Wk.fad 5 0 false fd57_1 rfl (lt_of_ble rfl)
    apply Wk.ld (i := 2) 1 false ty54 rfl rfl (by conv => lhs; whnf) (lt_of_ble rfl)
    apply Wk.len un54 rfl (lt_of_ble rfl)
    apply Wk.bin rfl rfl (r := .bool true) (fun w => by rw [el]; simp [go_sem]; omega) (lt_of_ble rfl)
    refine Wk.nil ?_
    refine AW.cond rfl (fun _ => AW.skip ?_) (fun hc => by cases hc)
    repeat (first | refine thenA_normal ?_ | refine inBlockA_normal ?_)
    obtain ⟨x, hd⟩ : ∃ d, ends[k]? = some d := ⟨_, List.getElem?_eq_getElem hlt⟩
    have hget : (ends.map enD)[k]? = some (enD x) := by simp [hd]
    have hklt : k < (ends.map enD).length := by simpa using hlt
    have hx := liEndX x
    refine AW.seq (AW.block (AW.seq ?_))
    apply AW.draw (hm := hmix) (cs := _)
    · apply Wk.fad 5 0 false fd57_1 rfl (lt_of_ble rfl)
      apply Wk.ld (i := 2) 1 false ty54 rfl rfl (by conv => lhs; whnf) (lt_of_ble rfl)
      apply Wk.mv (by conv => lhs; whnf) (lt_of_ble rfl)
      apply Wk.iad 28 true un54 ty77 rfl rfl hklt (enD_len _) (lt_of_ble rfl)
      apply Wk.ldr 28 true ty77 rfl hget (by conv => lhs; whnf) (lt_of_ble rfl)
      apply Wk.fad 5 0 false fd57_1 rfl (lt_of_ble rfl)
      apply Wk.ld (i := 3) 1 false ty54 rfl rfl (by conv => lhs; whnf) (lt_of_ble rfl)
      apply Wk.mv (by conv => lhs; whnf) (lt_of_ble rfl)
      apply Wk.iad 28 true un54 ty77 rfl rfl hklt (enD_len _) (lt_of_ble rfl)
      apply Wk.ldr 28 true ty77 rfl hget (by conv => lhs; whnf) (lt_of_ble rfl)
      apply Wk.dat hx Try.func38 rfl rfl rfl rfl rfl (lt_of_ble rfl)
      apply Wk.un rfl (fun w => by simp [go_sem] <;> rfl) (lt_of_ble rfl)
      refine Wk.nil ?_
      refine AW.cond rfl (fun hc => by cases hc) (fun _ => AW.skip ?_)
      repeat (first | refine thenA_normal ?_ | refine inBlockA_normal ?_)
      apply AW.list
      apply Wk.mv (by conv => lhs; whnf) (lt_of_ble rfl)
      apply Wk.addn (b := 1) rfl rfl (by omega) (lt_of_ble rfl)
      apply Wk.asg (by conv => lhs; whnf) (lt_of_ble rfl)
      refine Wk.nil ?_
      repeat (first | refine thenA_normal ?_ | refine inBlockA_normal ?_)
      exact ⟨k + 1, by omega, by omega, fun a w => Rel.keep ⟨rfl, .cons rfl rfl (.cons rfl rfl (.cons rfl rfl .nil)), .cons rfl rfl (.cons rfl rfl .nil), hN.mono (by simp [keys])⟩⟩
    · rfl
    · rfl
  have hke : k = ends.length := by omega
  subst hke
  apply AW.list
  apply Wk.mv (by conv => lhs; whnf) (lt_of_ble rfl)
  apply Wk.fad 5 0 false fd57_1 rfl (lt_of_ble rfl)
  apply Wk.ld (i := 2) 1 false ty54 rfl rfl (by conv => lhs; whnf) (lt_of_ble rfl)
  apply Wk.len un54 rfl (lt_of_ble rfl)
  apply Wk.bin rfl rfl (r := .bool false) (fun w => by rw [el]; simp [go_sem]) (lt_of_ble rfl)
  refine Wk.nil ?_
  refine AW.cond rfl (fun hc => by cases hc) (fun _ => AW.exit ?_)
  repeat (first | refine inBlockA_same ?_ | refine thenA_exit ?_)
  repeat (first | refine thenA_normal ?_ | refine inBlockA_normal ?_)
  clear hk hlt
  refine AW.seq (AW.seq ?_)
  apply AW.list
  apply Wk.asg (by conv => lhs; whnf) (lt_of_ble rfl)
  refine Wk.nil (AW.block ?_)
  refine AW.loop (fun k : Nat => St.of 75 [(2, .ptr 2 0), (3, .ptr 3 0), (6, .d (.v (.int .i64 (k : Int))))] [(2, .var ((wdD ⟨m, w, p, u, y, ends, net, link⟩).map A.d)), (3, .var ((wdD ⟨m, w, p, u, y, ends, net, link⟩).map A.d))]) (fun k => k ≤ net.length) (fun k => net.length - k) 0 (Nat.zero_le _) ?_ ?_
  · exact fun a w => Rel.keep ⟨rfl, .cons rfl rfl (.cons rfl rfl (.cons rfl rfl .nil)), .cons rfl rfl (.cons rfl rfl .nil), hN.mono (by simp [keys])⟩
  rintro k hk
  show AW Try.prog C _ _ (St.of 75 [(2, .ptr 2 0), (3, .ptr 3 0), (6, .d (.v (.int .i64 (k : Int))))] [(2, .var ((wdD ⟨m, w, p, u, y, ends, net, link⟩).map A.d)), (3, .var ((wdD ⟨m, w, p, u, y, ends, net, link⟩).map A.d))])
  refine AW.seq (AW.seq ?_)
  by_cases hlt : k < net.length
  · skip
    apply AW.list
    apply Wk.mv (by conv => lhs; whnf) (lt_of_ble rfl)
    apply Wk.fad 6 0 false fd57_2 rfl (lt_of_ble rfl)
    apply Wk.ld (i := 2) 1 false ty55 rfl rfl (by conv => lhs; whnf) (lt_of_ble rfl)
    apply Wk.len un55 rfl (lt_of_ble rfl)
    apply Wk.bin rfl rfl (r := .bool true) (fun w => by rw [nl]; simp [go_sem]; omega) (lt_of_ble rfl)
    refine Wk.nil ?_
    refine AW.cond rfl (fun _ => AW.skip ?_) (fun hc => by cases hc)
    repeat (first | refine thenA_normal ?_ | refine inBlockA_normal ?_)
    obtain ⟨x, hd⟩ : ∃ d, net[k]? = some d := ⟨_, List.getElem?_eq_getElem hlt⟩
    have hget : (net.map fun l => [D.row (l.map msgC)])[k]? = some ([D.row (x.map msgC)]) := by simp [hd]
    have hklt : k < (net.map fun l => [D.row (l.map msgC)]).length := by simpa using hlt
    have hx := liNetX x
    refine AW.seq (AW.block (AW.seq ?_))
    apply AW.draw (hm := hmix) (cs := _)
    · apply Wk.fad 6 0 false fd57_2 rfl (lt_of_ble rfl)
      apply Wk.ld (i := 2) 1 false ty55 rfl rfl (by conv => lhs; whnf) (lt_of_ble rfl)
      apply Wk.mv (by conv => lhs; whnf) (lt_of_ble rfl)
      apply Wk.iad 1 false un55 ty78 rfl rfl hklt (net_one _) (lt_of_ble rfl)
      apply Wk.ldr 1 false ty78 rfl hget (by conv => lhs; whnf) (lt_of_ble rfl)
      apply Wk.fad 6 0 false fd57_2 rfl (lt_of_ble rfl)
      apply Wk.ld (i := 3) 1 false ty55 rfl rfl (by conv => lhs; whnf) (lt_of_ble rfl)
      apply Wk.mv (by conv => lhs; whnf) (lt_of_ble rfl)
      apply Wk.iad 1 false un55 ty78 rfl rfl hklt (net_one _) (lt_of_ble rfl)
      apply Wk.ldr 1 false ty78 rfl hget (by conv => lhs; whnf) (lt_of_ble rfl)
      apply Wk.dat hx Try.func70 rfl rfl rfl rfl rfl (lt_of_ble rfl)
      apply Wk.un rfl (fun w => by simp [go_sem] <;> rfl) (lt_of_ble rfl)
      refine Wk.nil ?_
      refine AW.cond rfl (fun hc => by cases hc) (fun _ => AW.skip ?_)
      repeat (first | refine thenA_normal ?_ | refine inBlockA_normal ?_)
      apply AW.list
      apply Wk.mv (by conv => lhs; whnf) (lt_of_ble rfl)
      apply Wk.addn (b := 1) rfl rfl (by omega) (lt_of_ble rfl)
      apply Wk.asg (by conv => lhs; whnf) (lt_of_ble rfl)
      refine Wk.nil ?_
      repeat (first | refine thenA_normal ?_ | refine inBlockA_normal ?_)
      exact ⟨k + 1, by omega, by omega, fun a w => Rel.keep ⟨rfl, .cons rfl rfl (.cons rfl rfl (.cons rfl rfl .nil)), .cons rfl rfl (.cons rfl rfl .nil), hN.mono (by simp [keys])⟩⟩
    · rfl
    · rfl
  have hke : k = net.length := by omega
  subst hke
  apply AW.list
  apply Wk.mv (by conv => lhs; whnf) (lt_of_ble rfl)
  apply Wk.fad 6 0 false fd57_2 rfl (lt_of_ble rfl)
  apply Wk.ld (i := 2) 1 false ty55 rfl rfl (by conv => lhs; whnf) (lt_of_ble rfl)
  apply Wk.len un55 rfl (lt_of_ble rfl)
  apply Wk.bin rfl rfl (r := .bool false) (fun w => by rw [nl]; simp [go_sem]) (lt_of_ble rfl)
  refine Wk.nil ?_
  refine AW.cond rfl (fun hc => by cases hc) (fun _ => AW.exit ?_)
  repeat (first | refine inBlockA_same ?_ | refine thenA_exit ?_)
  repeat (first | refine thenA_normal ?_ | refine inBlockA_normal ?_)
  clear hk hlt
  refine AW.seq ?_
  apply AW.list
  apply Wk.asg (by conv => lhs; whnf) (lt_of_ble rfl)
  refine Wk.nil (AW.ret ?_)
  repeat (first | refine thenA_ret ?_ | refine inBlockA_ret ?_)
  exact RetQ.ret [] (.cons rfl .nil) ⟨rfl, rfl⟩ none_kept
end Go.Proofs.Ytdjadeegjbhihaa
