/- The exact law of CrdTxOk returns true at every argument. Written by tools/mk_WExOk.py. -/
import Derived.Test.YtdjadeegjbhihaaMa
import Derived.Test.YtdjadeegjbhihaaMb
import Derived.Test.YtdjadeegjbhihaaMc
import Derived.Test.YtdjadeegjbhihaaMd
import Derived.Test.YtdjadeegjbhihaaMe
import Derived.RowKit3
namespace Go.Proofs.Ytdjadeegjbhihaa
open Go Go.RowKit
set_option maxHeartbeats 8000000 in
set_option maxRecDepth 100000 in
theorem lawFnExactCrdTxOk_ok (dc : List D) (hc : Sh.ok shCfg dc) (dt : List D) (ht : Sh.ok shCx dt) : DataOk Try.prog 5 [.agg (dc.map .d), .agg (dt.map .d)] (.d (.v (.bool true))) := by
  obtain ⟨m, w, p, u, y, ec⟩ := cfg_sh dc hc
  have kc := toCfgOpts_ok dc hc
  rw [ec] at kc ⊢
  obtain ⟨x, et, hqu⟩ := cx_sh dt ht
  have ks := szCrdTx_ok dt ht 1048576 (by omega)
  have ke := eqCrdTx_ok dt ht
  rw [et] at ks ke ⊢
  have kt := fun h => toCrdTx_ok dt ht h
  rw [et] at kt
  generalize htt : tots dt = t at *
  clear et ht
  have ksp := scx_ok m w p u y x
  have kim := icx_ok m w p u y x
  obtain ⟨v, qu, g, s, dd⟩ := x
  refine Spec.intro (n := 33) (rv := [.tmp 4]) Try.func5 rfl rfl rfl (by simp) fun C hN hX => ?_
  refine AW.seq ?_
  apply AW.list
  apply Wk.bx 2 rfl rfl (lt_of_ble rfl)
  apply Wk.bx 3 rfl rfl (lt_of_ble rfl)
  apply Wk.asg (by conv => lhs; whnf) (lt_of_ble rfl)
  refine Wk.nil ?_
  refine AW.seq ?_
  apply AW.list
  apply Wk.asg (by conv => lhs; whnf) (lt_of_ble rfl)
  refine Wk.nil ?_
  refine AW.seq ?_
  apply AW.list
  apply Wk.ld (i := 3) 5 true ty40 rfl rfl (by conv => lhs; whnf) (lt_of_ble rfl)
  apply Wk.mv (by conv => lhs; whnf) (lt_of_ble rfl)
  apply Wk.dat ks Try.func18 rfl rfl rfl rfl rfl (lt_of_ble rfl)
  apply Wk.asg (by conv => lhs; whnf) (lt_of_ble rfl)
  refine Wk.nil ?_
  refine AW.seq (AW.seq ?_)
  by_cases hle : t ≤ 1048576
  case neg =>
    rw [show leftI 1048576 t = -1 from if_neg hle]
    apply AW.list
    apply Wk.mv (by conv => lhs; whnf) (lt_of_ble rfl)
    apply Wk.bin rfl rfl (r := .bool true) (fun w => by simp [go_sem]) (lt_of_ble rfl)
    refine Wk.nil ?_
    refine AW.cond rfl (fun _ => ?_) (fun hc => by cases hc)
    refine AW.seq ?_
    apply AW.list
    apply Wk.asg (by conv => lhs; whnf) (lt_of_ble rfl)
    refine Wk.nil (AW.ret ?_)
    repeat (first | refine thenA_ret ?_ | refine inBlockA_ret ?_)
    exact RetQ.ret [] (.cons rfl .nil) ⟨rfl, rfl⟩ none_kept
  have kt' := kt hle
  rw [show leftI 1048576 t = ((1048576 : Nat) : Int) - (t : Int) from if_pos hle]
  apply AW.list
  apply Wk.mv (by conv => lhs; whnf) (lt_of_ble rfl)
  apply Wk.bin rfl rfl (r := .bool false) (fun w => by simp [go_sem] <;> omega) (lt_of_ble rfl)
  refine Wk.nil ?_
  refine AW.cond rfl (fun hc => by cases hc) (fun _ => AW.skip (thenA_normal ?_))
  refine AW.seq ?_
  apply AW.draw (hm := hmix) (cs := _)
  · apply Wk.ld (i := 2) 5 true ty23 rfl rfl (by conv => lhs; whnf) (lt_of_ble rfl)
    apply Wk.dat kc Try.func12 rfl rfl rfl rfl rfl (lt_of_ble rfl)
    apply Wk.ld (i := 3) 5 true ty40 rfl rfl (by conv => lhs; whnf) (lt_of_ble rfl)
    apply Wk.dat kt' Try.func20 rfl rfl rfl rfl rfl (lt_of_ble rfl)
    apply Wk.dat ksp Try.func19 rfl rfl rfl rfl rfl (lt_of_ble rfl)
    apply Wk.asg (by conv => lhs; whnf) (lt_of_ble rfl)
    refine Wk.nil ?_
    refine AW.seq ?_
    apply AW.list
    apply Wk.ld (i := 3) 5 true ty40 rfl rfl (by conv => lhs; whnf) (lt_of_ble rfl)
    apply Wk.dat kt' Try.func20 rfl rfl rfl rfl rfl (lt_of_ble rfl)
    apply Wk.alc 7 [.int .i64 0, .slice none 0 0, .int .i64 0, .int .i64 0, .bool false] ze44 rfl rfl (lt_of_ble rfl)
    apply Wk.sto (i := 7) 5 true ty44 rfl rfl rfl rfl (Nat.le_of_ble_eq_true rfl) (lt_of_ble rfl)
    refine Wk.nil ?_
    refine AW.seq ?_
    apply AW.draw (hm := hmix) (cs := _)
    · apply Wk.ld (i := 2) 5 true ty23 rfl rfl (by conv => lhs; whnf) (lt_of_ble rfl)
      apply Wk.dat kc Try.func12 rfl rfl rfl rfl rfl (lt_of_ble rfl)
      apply Wk.ld (i := 7) 5 true ty44 rfl rfl (by conv => lhs; whnf) (lt_of_ble rfl)
      apply Wk.dat kim Try.func21 rfl rfl rfl rfl rfl (lt_of_ble rfl)
      apply Wk.asg (by conv => lhs; whnf) (lt_of_ble rfl)
      refine Wk.nil ?_
      refine AW.seq (AW.seq ?_)
      apply AW.list
      apply Wk.mv (by conv => lhs; whnf) (lt_of_ble rfl)
      apply Wk.mv (by conv => lhs; whnf) (lt_of_ble rfl)
      apply Wk.bin rfl rfl (r := .bool false) (fun w => by simp [go_sem]) (lt_of_ble rfl)
      refine Wk.nil ?_
      refine AW.cond rfl (fun hc => by cases hc) (fun _ => AW.skip (thenA_normal ?_))
      refine AW.seq (AW.seq ?_)
      apply AW.draw (hm := hmix) (cs := _)
      · apply Wk.ld (i := 7) 5 true ty44 rfl rfl (by conv => lhs; whnf) (lt_of_ble rfl)
        apply Wk.ld (i := 3) 5 true ty40 rfl rfl (by conv => lhs; whnf) (lt_of_ble rfl)
        apply Wk.dat kt' Try.func20 rfl rfl rfl rfl rfl (lt_of_ble rfl)
        apply Wk.dat ke Try.func22 rfl rfl rfl rfl rfl (lt_of_ble rfl)
        apply Wk.un rfl (fun w => by simp [go_sem] <;> rfl) (lt_of_ble rfl)
        refine Wk.nil ?_
        refine AW.cond rfl (fun hc => by cases hc) (fun _ => AW.skip (thenA_normal ?_))
        refine AW.seq ?_
        apply AW.list
        apply Wk.asg (by conv => lhs; whnf) (lt_of_ble rfl)
        refine Wk.nil (AW.ret ?_)
        repeat (first | refine thenA_ret ?_ | refine inBlockA_ret ?_)
        exact RetQ.ret [] (.cons rfl .nil) ⟨rfl, rfl⟩ none_kept
      · rfl
      · rfl
    · rfl
    · rfl
  · rfl
  · rfl
namespace fnExactCrdTxOk
theorem walk (dc : List D) (cs0 : Array Value) (dt : List D) (cs1 : Array Value) (W : World) (hc : Sh.ok shCfg dc) (c0 : Cds W dc cs0.toList) (ht : Sh.ok shCx dt) (c1 : Cds W dt cs1.toList) : Calls Try.prog 5 #[.agg cs0, .agg cs1] W fun e w' => e = .returned (.bool true) ∧ Below W.heap.size W w' := by
  exact (lawFnExactCrdTxOk_ok dc hc dt ht).runD (by simp) (fun i a ha => by
    match i with
    | 0 => obtain rfl := Option.some.inj ha; exact cds_agg c0
    | 1 => obtain rfl := Option.some.inj ha; exact cds_agg c1
    | _ + 2 => simp at ha)
end fnExactCrdTxOk
end Go.Proofs.Ytdjadeegjbhihaa
