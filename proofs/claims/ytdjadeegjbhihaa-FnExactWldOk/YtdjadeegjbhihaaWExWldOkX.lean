/- The exact law of WldOk returns true at every argument. Written by tools/mk_WExOk.py. -/
import Derived.Test.YtdjadeegjbhihaaMa
import Derived.Test.YtdjadeegjbhihaaMb
import Derived.Test.YtdjadeegjbhihaaMc
import Derived.Test.YtdjadeegjbhihaaMd
import Derived.Test.YtdjadeegjbhihaaMe
import Derived.Test.YtdjadeegjbhihaaMf
import Derived.Test.YtdjadeegjbhihaaMg
import Derived.RowKit3
namespace Go.Proofs.Ytdjadeegjbhihaa
open Go Go.RowKit
set_option maxHeartbeats 8000000 in
set_option maxRecDepth 100000 in
theorem lawFnExactWldOk_ok (dt : List D) (ht : Sh.ok shWd dt) : DataOk Try.prog 6 [.agg (dt.map .d)] (.d (.v (.bool true))) := by
  obtain ⟨x, et, hen, hne⟩ := wd_sh dt ht
  have ks := szWldWorld_ok dt ht 1048576 (by omega)
  have ke := eqWldWorld_ok dt ht
  rw [et] at ks ke ⊢
  have kt := fun h => toWldWorld_ok dt ht h
  rw [et] at kt
  generalize htt : tots dt = t at *
  clear et ht
  have kspf := fun _ : t ≤ 1048576 => swok_ok x
  have kimf := fun _ : t ≤ 1048576 => iwok_ok x
  obtain ⟨m, w, p, u, y, ends, net, link⟩ := x
  refine Spec.intro (n := 27) (rv := [.tmp 2]) Try.func6 rfl rfl rfl (by simp) fun C hN hX => ?_
  refine AW.seq ?_
  apply AW.list
  apply Wk.bx 1 rfl rfl (lt_of_ble rfl)
  apply Wk.asg (by conv => lhs; whnf) (lt_of_ble rfl)
  refine Wk.nil ?_
  refine AW.seq ?_
  apply AW.list
  apply Wk.asg (by conv => lhs; whnf) (lt_of_ble rfl)
  refine Wk.nil ?_
  refine AW.seq ?_
  apply AW.list
  apply Wk.ld (i := 1) 8 true ty51 rfl rfl (by conv => lhs; whnf) (lt_of_ble rfl)
  apply Wk.mv (by conv => lhs; whnf) (lt_of_ble rfl)
  apply Wk.dat ks Try.func23 rfl rfl rfl rfl rfl (lt_of_ble rfl)
  apply Wk.asg (by conv => lhs; whnf) (lt_of_ble rfl)
  refine Wk.nil ?_
  refine AW.seq (AW.seq ?_)
  by_cases hle : t ≤ 1048576
  case neg =>
    rw [show leftI 1048576 t = -1 from if_neg hle]
    apply AW.list
    apply Wk.mv (by conv => lhs; whnf) (lt_of_ble rfl)
    apply Wk.bin rfl rfl (r := .bool true) (fun w => by simp [go_sem]) (lt_of_ble rfl)
    refine Wk.nil ?_
    refine AW.cond rfl (fun _ => ?_) (fun hc => by cases hc)
    refine AW.seq ?_
    apply AW.list
    apply Wk.asg (by conv => lhs; whnf) (lt_of_ble rfl)
    refine Wk.nil (AW.ret ?_)
    repeat (first | refine thenA_ret ?_ | refine inBlockA_ret ?_)
    exact RetQ.ret [] (.cons rfl .nil) ⟨rfl, rfl⟩ none_kept
  have kt' := kt hle
  have ksp := kspf hle
  have kim := kimf hle
  rw [show leftI 1048576 t = ((1048576 : Nat) : Int) - (t : Int) from if_pos hle]
  apply AW.list
  apply Wk.mv (by conv => lhs; whnf) (lt_of_ble rfl)
  apply Wk.bin rfl rfl (r := .bool false) (fun w => by simp [go_sem] <;> omega) (lt_of_ble rfl)
  refine Wk.nil ?_
  refine AW.cond rfl (fun hc => by cases hc) (fun _ => AW.skip (thenA_normal ?_))
  refine AW.seq ?_
  apply AW.list
  apply Wk.ld (i := 1) 8 true ty51 rfl rfl (by conv => lhs; whnf) (lt_of_ble rfl)
  apply Wk.dat kt' Try.func25 rfl rfl rfl rfl rfl (lt_of_ble rfl)
  apply Wk.dat ksp Try.func24 rfl rfl rfl rfl rfl (lt_of_ble rfl)
  apply Wk.asg (by conv => lhs; whnf) (lt_of_ble rfl)
  refine Wk.nil ?_
  refine AW.seq ?_
  apply AW.list
  apply Wk.ld (i := 1) 8 true ty51 rfl rfl (by conv => lhs; whnf) (lt_of_ble rfl)
  apply Wk.dat kt' Try.func25 rfl rfl rfl rfl rfl (lt_of_ble rfl)
  apply Wk.alc 5 [.int .i64 0, .int .i64 0, .int .i64 0, .int .i64 0, .int .i64 0, .slice none 0 0, .slice none 0 0, .int .i64 0] ze57 rfl rfl (lt_of_ble rfl)
  apply Wk.sto (i := 5) 8 true ty57 rfl rfl rfl rfl (Nat.le_of_ble_eq_true rfl) (lt_of_ble rfl)
  refine Wk.nil ?_
  refine AW.seq ?_
  apply AW.list
  apply Wk.ld (i := 5) 8 true ty57 rfl rfl (by conv => lhs; whnf) (lt_of_ble rfl)
  apply Wk.dat kim Try.func26 rfl rfl rfl rfl rfl (lt_of_ble rfl)
  apply Wk.asg (by conv => lhs; whnf) (lt_of_ble rfl)
  refine Wk.nil ?_
  refine AW.seq (AW.seq ?_)
  apply AW.list
  apply Wk.mv (by conv => lhs; whnf) (lt_of_ble rfl)
  apply Wk.mv (by conv => lhs; whnf) (lt_of_ble rfl)
  apply Wk.bin rfl rfl (r := .bool false) (fun w => by simp [go_sem]) (lt_of_ble rfl)
  refine Wk.nil ?_
  refine AW.cond rfl (fun hc => by cases hc) (fun _ => AW.skip (thenA_normal ?_))
  refine AW.seq (AW.seq ?_)
  apply AW.draw (hm := hmix) (cs := _)
  · apply Wk.ld (i := 5) 8 true ty57 rfl rfl (by conv => lhs; whnf) (lt_of_ble rfl)
    apply Wk.ld (i := 1) 8 true ty51 rfl rfl (by conv => lhs; whnf) (lt_of_ble rfl)
    apply Wk.dat kt' Try.func25 rfl rfl rfl rfl rfl (lt_of_ble rfl)
    apply Wk.dat ke Try.func27 rfl rfl rfl rfl rfl (lt_of_ble rfl)
    apply Wk.un rfl (fun w => by simp [go_sem] <;> rfl) (lt_of_ble rfl)
    refine Wk.nil ?_
    refine AW.cond rfl (fun hc => by cases hc) (fun _ => AW.skip (thenA_normal ?_))
    refine AW.seq ?_
    apply AW.list
    apply Wk.asg (by conv => lhs; whnf) (lt_of_ble rfl)
    refine Wk.nil (AW.ret ?_)
    repeat (first | refine thenA_ret ?_ | refine inBlockA_ret ?_)
    exact RetQ.ret [] (.cons rfl .nil) ⟨rfl, rfl⟩ none_kept
  · rfl
  · rfl
namespace fnExactWldOk
theorem walk (dt : List D) (cs0 : Array Value) (W : World) (ht : Sh.ok shWd dt) (c0 : Cds W dt cs0.toList) : Calls Try.prog 6 #[.agg cs0] W fun e w' => e = .returned (.bool true) ∧ Below W.heap.size W w' := by
  exact (lawFnExactWldOk_ok dt ht).runD (by simp) (fun i a ha => by
    match i with
    | 0 => obtain rfl := Option.some.inj ha; exact cds_agg c0
    | _ + 1 => simp at ha)
end fnExactWldOk
end Go.Proofs.Ytdjadeegjbhihaa
