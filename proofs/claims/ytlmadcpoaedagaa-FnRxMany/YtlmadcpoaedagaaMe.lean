/- Laws and contracts that the proof stands on: AbsHr2, AbsSr, AbsDrawHear, AbsRxLaws, HearF2. -/
import Derived.Test.YtlmadcpoaedagaaMa
import Derived.Test.YtlmadcpoaedagaaMb
import Derived.Test.YtlmadcpoaedagaaMc
import Derived.Test.YtlmadcpoaedagaaMd
/- RxHear of the program; over what values read as. Written by tools/mk_AbsHr2.py. -/
namespace Go.Proofs.Ytlmadcpoaedagaa
open Go
set_option maxHeartbeats 2000000 in
set_option maxRecDepth 100000 in
theorem hearD_ok (e c m : Int) (bs : List (Fin 256)) (a u : Bool) (m0 w0 s0 t0 y0 : Int) (k s k2 : Int) (p f : Bool) (y g l : Int) (fs : List (Fin 256))  : Spec Try.prog 34 [.ptr 12 0, cfgA m0 w0 s0 t0 y0, frmA k s k2 p f y g l fs] [(9, .var [nilA]), (12, .var (rxC e c m bs a u true ++ [sayF]))] (hrPost ⟨e, c, m, bs, a, u, true⟩ none none) := by
  refine Spec.intro (n := 53) (rv := [.tmp 6]) Try.func34 rfl rfl rfl (by simp) fun C hN hX => ?_
  refine AW.seq ?_
  apply AW.list
  apply Wk.bx 4 rfl rfl (lt_of_ble rfl)
  apply Wk.bx 5 rfl rfl (lt_of_ble rfl)
  apply Wk.asg (by conv => lhs; whnf) (lt_of_ble rfl)
  refine Wk.nil ?_
  refine AW.seq (AW.block (AW.seq ?_))
  apply AW.list
  apply Wk.mv (by conv => lhs; whnf) (lt_of_ble rfl)
  apply Wk.nilc rfl (lt_of_ble rfl)
  apply Wk.fad 0 6 true fd65_0 rfl (lt_of_ble rfl)
  apply Wk.fad 6 0 false fd28_5 rfl (lt_of_ble rfl)
  apply Wk.ld (i := 12) 1 false ty4 rfl rfl (by conv => lhs; whnf) (lt_of_ble rfl)
  apply Wk.asg (by conv => lhs; whnf) (lt_of_ble rfl)
  refine Wk.nil ?_
  refine AW.cond rfl (fun _ => ?_) (fun hc => by cases hc)
  refine AW.seq ?_
  apply AW.list
  apply Wk.asg (by conv => lhs; whnf) (lt_of_ble rfl)
  refine Wk.nil (AW.ret ?_)
  repeat (first | refine thenA_ret ?_ | refine inBlockA_ret ?_)
  exact RetQ.ret (sayB none (hrB e c m bs a u true)) (.cons rfl .nil) ⟨rfl, rfl⟩ (kept2 rfl rfl)
set_option maxHeartbeats 2000000 in
set_option maxRecDepth 100000 in
theorem hearS_ok (e c m : Int) (bs : List (Fin 256)) (a u : Bool) (m0 w0 s0 t0 y0 : Int) (s k2 : Int) (p f : Bool) (y g l : Int) (fs : List (Fin 256)) (x' : RX) (sy : Option (Int × Bool × Int)) (h : Spec Try.prog 59 [.ptr 12 0, frmA 2 s k2 p f y g l fs] [(9, .var [nilA]), (12, .var (rxC e c m bs a u false ++ [sayF]))] (hrPost0 x' sy)) : Spec Try.prog 34 [.ptr 12 0, cfgA m0 w0 s0 t0 y0, frmA 2 s k2 p f y g l fs] [(9, .var [nilA]), (12, .var (rxC e c m bs a u false ++ [sayF]))] (hrPost x' none sy) := by
  rcases sy with _ | ⟨e1, f1, y1⟩
  all_goals
    refine Spec.intro (n := 53) (rv := [.tmp 6]) Try.func34 rfl rfl rfl (by simp) fun C hN hX => ?_
    refine AW.seq ?_
    apply AW.list
    apply Wk.bx 4 rfl rfl (lt_of_ble rfl)
    apply Wk.bx 5 rfl rfl (lt_of_ble rfl)
    apply Wk.asg (by conv => lhs; whnf) (lt_of_ble rfl)
    refine Wk.nil ?_
    refine AW.seq (AW.block (AW.seq ?_))
    apply AW.list
    apply Wk.mv (by conv => lhs; whnf) (lt_of_ble rfl)
    apply Wk.nilc rfl (lt_of_ble rfl)
    apply Wk.fad 0 6 true fd65_0 rfl (lt_of_ble rfl)
    apply Wk.fad 6 0 false fd28_5 rfl (lt_of_ble rfl)
    apply Wk.ld (i := 12) 1 false ty4 rfl rfl (by conv => lhs; whnf) (lt_of_ble rfl)
    apply Wk.asg (by conv => lhs; whnf) (lt_of_ble rfl)
    refine Wk.nil ?_
    refine AW.cond rfl (fun hc => by cases hc) (fun _ => ?_)
    refine AW.seq ?_
    apply AW.list
    apply Wk.fad 0 0 false fd30_0 rfl (lt_of_ble rfl)
    apply Wk.ld (i := 5) 1 false ty3 rfl rfl (by conv => lhs; whnf) (lt_of_ble rfl)
    apply Wk.bin rfl rfl (fun w => by simp [go_sem] <;> rfl) (lt_of_ble rfl)
    apply Wk.asg (by conv => lhs; whnf) (lt_of_ble rfl)
    refine Wk.nil ?_
    refine AW.cond rfl (fun _ => ?_) (fun hc => by cases hc)
    refine AW.seq ?_
    apply AW.list
    apply Wk.mv (by conv => lhs; whnf) (lt_of_ble rfl)
    apply Wk.ld (i := 5) 9 true ty30 rfl rfl (by conv => lhs; whnf) (lt_of_ble rfl)
    apply Wk.cal [9, 12] [77] h (in_hr0 x' _) ⟨_, _, rfl, rfl⟩ Try.func59 rfl rfl rfl rfl (by simp; rfl) rfl (by simp; exact ⟨rfl, rfl⟩) (lt_of_ble rfl)
    rintro r bs' ⟨rfl, rfl⟩
    refine Wk.nil ?_
    refine AW.seq ?_
    apply AW.list
    apply Wk.asg (by conv => lhs; whnf) (lt_of_ble rfl)
    refine Wk.nil (AW.ret ?_)
    repeat (first | refine thenA_ret ?_ | refine inBlockA_ret ?_)
    first
    | exact RetQ.ret (sayB none (hrB x'.e x'.c x'.m x'.bs x'.a x'.u x'.d)) (.cons rfl .nil) ⟨rfl, rfl⟩ (kept2 rfl rfl)
    | exact RetQ.ret (sayB (some (e1, f1, y1)) (hrB x'.e x'.c x'.m x'.bs x'.a x'.u x'.d)) (.cons rfl .nil) ⟨rfl, rfl⟩ (kept3 rfl rfl rfl)
set_option maxHeartbeats 2000000 in
set_option maxRecDepth 100000 in
theorem hearB_ok (e c m : Int) (bs : List (Fin 256)) (a : Bool) (m0 w0 s0 t0 y0 : Int) (s k2 : Int) (p f : Bool) (y g l : Int) (fs : List (Fin 256))  : Spec Try.prog 34 [.ptr 12 0, cfgA m0 w0 s0 t0 y0, frmA 1 s k2 p f y g l fs] [(9, .var [nilA]), (12, .var (rxC e c m bs a true false ++ [sayF]))] (hrPost ⟨e, c, m, bs, a, true, false⟩ none (some (e, false, 2))) := by
  refine Spec.intro (n := 53) (rv := [.tmp 6]) Try.func34 rfl rfl rfl (by simp) fun C hN hX => ?_
  refine AW.seq ?_
  apply AW.list
  apply Wk.bx 4 rfl rfl (lt_of_ble rfl)
  apply Wk.bx 5 rfl rfl (lt_of_ble rfl)
  apply Wk.asg (by conv => lhs; whnf) (lt_of_ble rfl)
  refine Wk.nil ?_
  refine AW.seq (AW.block (AW.seq ?_))
  apply AW.list
  apply Wk.mv (by conv => lhs; whnf) (lt_of_ble rfl)
  apply Wk.nilc rfl (lt_of_ble rfl)
  apply Wk.fad 0 6 true fd65_0 rfl (lt_of_ble rfl)
  apply Wk.fad 6 0 false fd28_5 rfl (lt_of_ble rfl)
  apply Wk.ld (i := 12) 1 false ty4 rfl rfl (by conv => lhs; whnf) (lt_of_ble rfl)
  apply Wk.asg (by conv => lhs; whnf) (lt_of_ble rfl)
  refine Wk.nil ?_
  refine AW.cond rfl (fun hc => by cases hc) (fun _ => ?_)
  refine AW.seq ?_
  apply AW.list
  apply Wk.fad 0 0 false fd30_0 rfl (lt_of_ble rfl)
  apply Wk.ld (i := 5) 1 false ty3 rfl rfl (by conv => lhs; whnf) (lt_of_ble rfl)
  apply Wk.bin rfl rfl (fun w => by simp [go_sem] <;> rfl) (lt_of_ble rfl)
  apply Wk.asg (by conv => lhs; whnf) (lt_of_ble rfl)
  refine Wk.nil ?_
  refine AW.cond rfl (fun hc => by cases hc) (fun _ => ?_)
  refine AW.seq ?_
  apply AW.list
  apply Wk.mv (by conv => lhs; whnf) (lt_of_ble rfl)
  apply Wk.nilc rfl (lt_of_ble rfl)
  apply Wk.fad 0 6 true fd65_0 rfl (lt_of_ble rfl)
  apply Wk.fad 5 0 false fd28_4 rfl (lt_of_ble rfl)
  apply Wk.ld (i := 12) 1 false ty4 rfl rfl (by conv => lhs; whnf) (lt_of_ble rfl)
  apply Wk.asg (by conv => lhs; whnf) (lt_of_ble rfl)
  refine Wk.nil ?_
  refine AW.cond rfl (fun _ => ?_) (fun hc => by cases hc)
  refine AW.seq ?_
  apply AW.draw (hm := hmix) (cs := _)
  · apply Wk.mv (by conv => lhs; whnf) (lt_of_ble rfl)
    apply Wk.nilc rfl (lt_of_ble rfl)
    apply Wk.fad 7 0 false fd65_1 rfl (lt_of_ble rfl)
    apply Wk.ld (i := 12) 1 false ty62 rfl rfl (by conv => lhs; whnf) (lt_of_ble rfl)
    apply Wk.mv (by conv => lhs; whnf) (lt_of_ble rfl)
    apply Wk.nilc rfl (lt_of_ble rfl)
    apply Wk.fad 0 6 true fd65_0 rfl (lt_of_ble rfl)
    apply Wk.ld (i := 12) 7 true ty28 rfl rfl (by conv => lhs; whnf) (lt_of_ble rfl)
    apply Wk.dat (far_ok e c m bs a true false) Try.func60 rfl rfl rfl rfl rfl (lt_of_ble rfl)
    apply Wk.clf [9] [77] (tell_ok 2 0 e false false 2 0 0 []) (in_tell 2 0 e false false 2 0 0 []) ⟨_, _, rfl, rfl⟩ Try.func33 rfl rfl rfl rfl (by simp; rfl) rfl (by simp; rfl) (lt_of_ble rfl)
    rintro r bs' ⟨rfl, rfl⟩
    refine Wk.nil ?_
    refine AW.seq ?_
    apply AW.list
    apply Wk.asg (by conv => lhs; whnf) (lt_of_ble rfl)
    refine Wk.nil (AW.ret ?_)
    repeat (first | refine thenA_ret ?_ | refine inBlockA_ret ?_)
    exact RetQ.ret (sayB (some (e, false, 2)) (hrB e c m bs a true false)) (.cons rfl .nil) ⟨rfl, rfl⟩ (kept3 rfl rfl rfl)
  · rfl
  · rfl
set_option maxHeartbeats 2000000 in
set_option maxRecDepth 100000 in
theorem hearT_ok (e c m : Int) (bs : List (Fin 256)) (a : Bool) (m0 w0 s0 t0 y0 : Int) (k2 : Int) (p f : Bool) (y g l : Int) (fs : List (Fin 256)) (x' : RX) (sd : Option (List (Fin 256))) (h : Spec Try.prog 61 [.ptr 12 0, cfgA m0 w0 s0 t0 y0, frmA 1 e k2 p f y g l fs] [(9, .var [nilA]), (12, .var (rxC e c m bs a false false ++ [sayF]))] (hrPost x' sd none)) : Spec Try.prog 34 [.ptr 12 0, cfgA m0 w0 s0 t0 y0, frmA 1 e k2 p f y g l fs] [(9, .var [nilA]), (12, .var (rxC e c m bs a false false ++ [sayF]))] (hrPost x' sd none) := by
  refine Spec.intro (n := 53) (rv := [.tmp 6]) Try.func34 rfl rfl rfl (by simp) fun C hN hX => ?_
  refine AW.seq ?_
  apply AW.list
  apply Wk.bx 4 rfl rfl (lt_of_ble rfl)
  apply Wk.bx 5 rfl rfl (lt_of_ble rfl)
  apply Wk.asg (by conv => lhs; whnf) (lt_of_ble rfl)
  refine Wk.nil ?_
  refine AW.seq (AW.block (AW.seq ?_))
  apply AW.list
  apply Wk.mv (by conv => lhs; whnf) (lt_of_ble rfl)
  apply Wk.nilc rfl (lt_of_ble rfl)
  apply Wk.fad 0 6 true fd65_0 rfl (lt_of_ble rfl)
  apply Wk.fad 6 0 false fd28_5 rfl (lt_of_ble rfl)
  apply Wk.ld (i := 12) 1 false ty4 rfl rfl (by conv => lhs; whnf) (lt_of_ble rfl)
  apply Wk.asg (by conv => lhs; whnf) (lt_of_ble rfl)
  refine Wk.nil ?_
  refine AW.cond rfl (fun hc => by cases hc) (fun _ => ?_)
  refine AW.seq ?_
  apply AW.list
  apply Wk.fad 0 0 false fd30_0 rfl (lt_of_ble rfl)
  apply Wk.ld (i := 5) 1 false ty3 rfl rfl (by conv => lhs; whnf) (lt_of_ble rfl)
  apply Wk.bin rfl rfl (fun w => by simp [go_sem] <;> rfl) (lt_of_ble rfl)
  apply Wk.asg (by conv => lhs; whnf) (lt_of_ble rfl)
  refine Wk.nil ?_
  refine AW.cond rfl (fun hc => by cases hc) (fun _ => ?_)
  refine AW.seq ?_
  apply AW.list
  apply Wk.mv (by conv => lhs; whnf) (lt_of_ble rfl)
  apply Wk.nilc rfl (lt_of_ble rfl)
  apply Wk.fad 0 6 true fd65_0 rfl (lt_of_ble rfl)
  apply Wk.fad 5 0 false fd28_4 rfl (lt_of_ble rfl)
  apply Wk.ld (i := 12) 1 false ty4 rfl rfl (by conv => lhs; whnf) (lt_of_ble rfl)
  apply Wk.asg (by conv => lhs; whnf) (lt_of_ble rfl)
  refine Wk.nil ?_
  refine AW.cond rfl (fun hc => by cases hc) (fun _ => ?_)
  refine AW.seq ?_
  apply AW.draw (hm := hmix) (cs := _)
  · apply Wk.fad 1 0 false fd30_1 rfl (lt_of_ble rfl)
    apply Wk.ld (i := 5) 1 false ty3 rfl rfl (by conv => lhs; whnf) (lt_of_ble rfl)
    apply Wk.mv (by conv => lhs; whnf) (lt_of_ble rfl)
    apply Wk.nilc rfl (lt_of_ble rfl)
    apply Wk.fad 0 6 true fd65_0 rfl (lt_of_ble rfl)
    apply Wk.fad 0 0 false fd28_0 rfl (lt_of_ble rfl)
    apply Wk.ld (i := 12) 1 false ty3 rfl rfl (by conv => lhs; whnf) (lt_of_ble rfl)
    apply Wk.bin rfl rfl (r := .bool true) (fun w => by simp [go_sem]) (lt_of_ble rfl)
    apply Wk.asg (by conv => lhs; whnf) (lt_of_ble rfl)
    refine Wk.nil ?_
    refine AW.cond rfl (fun _ => ?_) (fun hc => by cases hc)
    refine AW.seq ?_
    apply AW.list
    apply Wk.mv (by conv => lhs; whnf) (lt_of_ble rfl)
    apply Wk.ld (i := 4) 5 true ty24 rfl rfl (by conv => lhs; whnf) (lt_of_ble rfl)
    apply Wk.ld (i := 5) 9 true ty30 rfl rfl (by conv => lhs; whnf) (lt_of_ble rfl)
    apply Wk.cal [9, 12] [77] h (in_hr x' sd none) ⟨_, _, rfl, rfl⟩ Try.func61 rfl rfl rfl rfl (by simp; rfl) rfl (by simp; exact ⟨rfl, rfl⟩) (lt_of_ble rfl)
    rintro r bs' ⟨rfl, rfl⟩
    apply Wk.asg (by conv => lhs; whnf) (lt_of_ble rfl)
    refine Wk.nil (AW.ret ?_)
    repeat (first | refine thenA_ret ?_ | refine inBlockA_ret ?_)
    exact RetQ.ret (sayB none (hrB x'.e x'.c x'.m x'.bs x'.a x'.u x'.d)) (.cons rfl .nil) ⟨rfl, rfl⟩ (kept2 rfl rfl)
  · rfl
  · rfl
set_option maxHeartbeats 2000000 in
set_option maxRecDepth 100000 in
theorem hearM_ok (e c m : Int) (bs : List (Fin 256)) (a : Bool) (m0 w0 s0 t0 y0 : Int) (s k2 : Int) (p f : Bool) (y g l : Int) (fs : List (Fin 256)) (hse : s ≠ e) (x' : RX) (sy : Option (Int × Bool × Int)) (h : Spec Try.prog 62 [.ptr 12 0, cfgA m0 w0 s0 t0 y0, frmA 1 s k2 p f y g l fs] [(9, .var [nilA]), (12, .var (rxC e c m bs a false false ++ [sayF]))] (hrPost0 x' sy)) : Spec Try.prog 34 [.ptr 12 0, cfgA m0 w0 s0 t0 y0, frmA 1 s k2 p f y g l fs] [(9, .var [nilA]), (12, .var (rxC e c m bs a false false ++ [sayF]))] (hrPost x' none sy) := by
  rcases sy with _ | ⟨e1, f1, y1⟩
  all_goals
    refine Spec.intro (n := 53) (rv := [.tmp 6]) Try.func34 rfl rfl rfl (by simp) fun C hN hX => ?_
    refine AW.seq ?_
    apply AW.list
    apply Wk.bx 4 rfl rfl (lt_of_ble rfl)
    apply Wk.bx 5 rfl rfl (lt_of_ble rfl)
    apply Wk.asg (by conv => lhs; whnf) (lt_of_ble rfl)
    refine Wk.nil ?_
    refine AW.seq (AW.block (AW.seq ?_))
    apply AW.list
    apply Wk.mv (by conv => lhs; whnf) (lt_of_ble rfl)
    apply Wk.nilc rfl (lt_of_ble rfl)
    apply Wk.fad 0 6 true fd65_0 rfl (lt_of_ble rfl)
    apply Wk.fad 6 0 false fd28_5 rfl (lt_of_ble rfl)
    apply Wk.ld (i := 12) 1 false ty4 rfl rfl (by conv => lhs; whnf) (lt_of_ble rfl)
    apply Wk.asg (by conv => lhs; whnf) (lt_of_ble rfl)
    refine Wk.nil ?_
    refine AW.cond rfl (fun hc => by cases hc) (fun _ => ?_)
    refine AW.seq ?_
    apply AW.list
    apply Wk.fad 0 0 false fd30_0 rfl (lt_of_ble rfl)
    apply Wk.ld (i := 5) 1 false ty3 rfl rfl (by conv => lhs; whnf) (lt_of_ble rfl)
    apply Wk.bin rfl rfl (fun w => by simp [go_sem] <;> rfl) (lt_of_ble rfl)
    apply Wk.asg (by conv => lhs; whnf) (lt_of_ble rfl)
    refine Wk.nil ?_
    refine AW.cond rfl (fun hc => by cases hc) (fun _ => ?_)
    refine AW.seq ?_
    apply AW.list
    apply Wk.mv (by conv => lhs; whnf) (lt_of_ble rfl)
    apply Wk.nilc rfl (lt_of_ble rfl)
    apply Wk.fad 0 6 true fd65_0 rfl (lt_of_ble rfl)
    apply Wk.fad 5 0 false fd28_4 rfl (lt_of_ble rfl)
    apply Wk.ld (i := 12) 1 false ty4 rfl rfl (by conv => lhs; whnf) (lt_of_ble rfl)
    apply Wk.asg (by conv => lhs; whnf) (lt_of_ble rfl)
    refine Wk.nil ?_
    refine AW.cond rfl (fun hc => by cases hc) (fun _ => ?_)
    refine AW.seq ?_
    apply AW.draw (hm := hmix) (cs := _)
    · apply Wk.fad 1 0 false fd30_1 rfl (lt_of_ble rfl)
      apply Wk.ld (i := 5) 1 false ty3 rfl rfl (by conv => lhs; whnf) (lt_of_ble rfl)
      apply Wk.mv (by conv => lhs; whnf) (lt_of_ble rfl)
      apply Wk.nilc rfl (lt_of_ble rfl)
      apply Wk.fad 0 6 true fd65_0 rfl (lt_of_ble rfl)
      apply Wk.fad 0 0 false fd28_0 rfl (lt_of_ble rfl)
      apply Wk.ld (i := 12) 1 false ty3 rfl rfl (by conv => lhs; whnf) (lt_of_ble rfl)
      apply Wk.bin rfl rfl (r := .bool false) (fun w => by simp [go_sem, hse]) (lt_of_ble rfl)
      apply Wk.asg (by conv => lhs; whnf) (lt_of_ble rfl)
      refine Wk.nil ?_
      refine AW.cond rfl (fun hc => by cases hc) (fun _ => AW.skip ?_)
      repeat (first | refine thenA_normal ?_ | refine inBlockA_normal ?_)
      refine AW.seq ?_
      apply AW.list
      apply Wk.mv (by conv => lhs; whnf) (lt_of_ble rfl)
      apply Wk.ld (i := 4) 5 true ty24 rfl rfl (by conv => lhs; whnf) (lt_of_ble rfl)
      apply Wk.ld (i := 5) 9 true ty30 rfl rfl (by conv => lhs; whnf) (lt_of_ble rfl)
      apply Wk.cal [9, 12] [77] h (in_hr0 x' _) ⟨_, _, rfl, rfl⟩ Try.func62 rfl rfl rfl rfl (by simp; rfl) rfl (by simp; exact ⟨rfl, rfl⟩) (lt_of_ble rfl)
      rintro r bs' ⟨rfl, rfl⟩
      refine Wk.nil ?_
      refine AW.seq ?_
      apply AW.list
      apply Wk.asg (by conv => lhs; whnf) (lt_of_ble rfl)
      refine Wk.nil (AW.ret ?_)
      repeat (first | refine thenA_ret ?_ | refine inBlockA_ret ?_)
      first
      | exact RetQ.ret (sayB none (hrB x'.e x'.c x'.m x'.bs x'.a x'.u x'.d)) (.cons rfl .nil) ⟨rfl, rfl⟩ (kept2 rfl rfl)
      | exact RetQ.ret (sayB (some (e1, f1, y1)) (hrB x'.e x'.c x'.m x'.bs x'.a x'.u x'.d)) (.cons rfl .nil) ⟨rfl, rfl⟩ (kept3 rfl rfl rfl)
    · rfl
    · rfl
theorem isBy_ok (k s k2 : Int) (p f : Bool) (y g l : Int) (fs : List (Fin 256)) (hl : fs.length ≤ 2000000) : DataOk Try.prog 31 [frmA k s k2 p f y g l fs] (.d (.v (.bool ((k == 1 || k == 2) && frmB k s k2 p f y g l fs.length)))) := by
  refine Spec.intro (n := 15) (rv := [.tmp 2]) Try.func31 rfl rfl rfl (by simp) fun C hN hX => ?_
  refine AW.seq ?_
  apply AW.list
  apply Wk.bx 1 rfl rfl (lt_of_ble rfl)
  apply Wk.asg (by conv => lhs; whnf) (lt_of_ble rfl)
  refine Wk.nil ?_
  refine AW.seq ?_
  by_cases h1 : k = 1
  · subst h1
    apply AW.list
    apply Wk.fad 0 0 false fd30_0 rfl (lt_of_ble rfl)
    apply Wk.ld (i := 1) 1 false ty3 rfl rfl (by conv => lhs; whnf) (lt_of_ble rfl)
    apply Wk.bin rfl rfl (fun w => by simp [go_sem] <;> rfl) (lt_of_ble rfl)
    apply Wk.mv (by conv => lhs; whnf) (lt_of_ble rfl)
    apply Wk.goff 6 (ok_faddr fd30_0) rfl rfl (by decide)
    apply Wk.goff 6 (ok_load 1 ty3) rfl rfl (by decide)
    apply Wk.goff 6 (ok_bin _ _ _ _ _) rfl rfl (by decide)
    apply Wk.pckT rfl (by conv => lhs; whnf) (lt_of_ble rfl)
    apply Wk.mv (by conv => lhs; whnf) (lt_of_ble rfl)
    apply Wk.gon 11 rfl rfl
    apply Wk.ld (i := 1) 9 true ty30 rfl rfl (by conv => lhs; whnf) (lt_of_ble rfl)
    apply Wk.gon 11 rfl rfl
    apply Wk.dat (ifrm_ok 1 s k2 p f y g l fs hl) Try.func57 rfl rfl rfl rfl rfl (lt_of_ble rfl)
    apply Wk.pckT rfl (by conv => lhs; whnf) (lt_of_ble rfl)
    apply Wk.asg (by conv => lhs; whnf) (lt_of_ble rfl)
    refine Wk.nil (AW.ret ?_)
    exact RetQ.ret [] (.cons rfl .nil) ⟨rfl, rfl⟩ none_kept
  by_cases h2 : k = 2
  · subst h2
    apply AW.list
    apply Wk.fad 0 0 false fd30_0 rfl (lt_of_ble rfl)
    apply Wk.ld (i := 1) 1 false ty3 rfl rfl (by conv => lhs; whnf) (lt_of_ble rfl)
    apply Wk.bin rfl rfl (fun w => by simp [go_sem] <;> rfl) (lt_of_ble rfl)
    apply Wk.mv (by conv => lhs; whnf) (lt_of_ble rfl)
    apply Wk.gon 6 rfl rfl
    apply Wk.fad 0 0 false fd30_0 rfl (lt_of_ble rfl)
    apply Wk.gon 6 rfl rfl
    apply Wk.ld (i := 1) 1 false ty3 rfl rfl (by conv => lhs; whnf) (lt_of_ble rfl)
    apply Wk.gon 6 rfl rfl
    apply Wk.bin rfl rfl (fun w => by simp [go_sem] <;> rfl) (lt_of_ble rfl)
    apply Wk.pckF rfl (by conv => lhs; whnf) (lt_of_ble rfl)
    apply Wk.mv (by conv => lhs; whnf) (lt_of_ble rfl)
    apply Wk.gon 11 rfl rfl
    apply Wk.ld (i := 1) 9 true ty30 rfl rfl (by conv => lhs; whnf) (lt_of_ble rfl)
    apply Wk.gon 11 rfl rfl
    apply Wk.dat (ifrm_ok 2 s k2 p f y g l fs hl) Try.func57 rfl rfl rfl rfl rfl (lt_of_ble rfl)
    apply Wk.pckT rfl (by conv => lhs; whnf) (lt_of_ble rfl)
    apply Wk.asg (by conv => lhs; whnf) (lt_of_ble rfl)
    refine Wk.nil (AW.ret ?_)
    exact RetQ.ret [] (.cons rfl .nil) ⟨rfl, rfl⟩ none_kept
  · have hb : ((k == 1 || k == 2) && frmB k s k2 p f y g l fs.length) = false := by simp [h1, h2]
    rw [hb]
    apply AW.list
    apply Wk.fad 0 0 false fd30_0 rfl (lt_of_ble rfl)
    apply Wk.ld (i := 1) 1 false ty3 rfl rfl (by conv => lhs; whnf) (lt_of_ble rfl)
    apply Wk.bin rfl rfl (r := .bool false) (fun w => by simp [go_sem, h1]) (lt_of_ble rfl)
    apply Wk.mv (by conv => lhs; whnf) (lt_of_ble rfl)
    apply Wk.gon 6 rfl rfl
    apply Wk.fad 0 0 false fd30_0 rfl (lt_of_ble rfl)
    apply Wk.gon 6 rfl rfl
    apply Wk.ld (i := 1) 1 false ty3 rfl rfl (by conv => lhs; whnf) (lt_of_ble rfl)
    apply Wk.gon 6 rfl rfl
    apply Wk.bin rfl rfl (r := .bool false) (fun w => by simp [go_sem, h2]) (lt_of_ble rfl)
    apply Wk.pckF rfl (by conv => lhs; whnf) (lt_of_ble rfl)
    apply Wk.mv (by conv => lhs; whnf) (lt_of_ble rfl)
    apply Wk.goff 11 (ok_load 1 ty30) rfl rfl (by decide)
    apply Wk.goff 11 (ok_datw ((ifrm_ok k s k2 p f y g l fs hl).w rfl) Try.func57 rfl rfl) rfl rfl (by decide)
    apply Wk.pckF rfl (by conv => lhs; whnf) (lt_of_ble rfl)
    apply Wk.asg (by conv => lhs; whnf) (lt_of_ble rfl)
    refine Wk.nil (AW.ret ?_)
    exact RetQ.ret [] (.cons rfl .nil) ⟨rfl, rfl⟩ none_kept
theorem icfgb (m n s t y : Int) {b : Bool} (h : Opt.ok ⟨m, n, s, t, y⟩ = b) : DataOk Try.prog 30 [cfgA m n s t y] (.d (.v (.bool b))) := h ▸ icfg_ok m n s t y
theorem irxb {e c m : Int} {bs : List (Fin 256)} {b : Bool} (a u d : Bool) (hb : rxB e c m bs.length = b) : DataOk Try.prog 14 [rxA e c m bs a u d] (.d (.v (.bool b))) := by
  have h := irx_ok e c m bs a u d
  rwa [hb] at h
theorem isByb (k s k2 : Int) (p f : Bool) (y g l : Int) (fs : List (Fin 256)) (hl : fs.length ≤ 2000000) {b : Bool} (h : ((k == 1 || k == 2) && frmB k s k2 p f y g l fs.length) = b) : DataOk Try.prog 31 [frmA k s k2 p f y g l fs] (.d (.v (.bool b))) := h ▸ isBy_ok k s k2 p f y g l fs hl
def rxN : A := .agg [.d (.v (.int .i64 0)), .d (.v (.int .i64 0)), .d (.v (.int .i64 0)), nilA, .d (.v (.bool false)), .d (.v (.bool false)), .d (.v (.bool false))]
set_option maxHeartbeats 2000000 in
set_option maxRecDepth 100000 in
theorem rxh_no (e c m : Int) (bs : List (Fin 256)) (a u d : Bool) (m0 w0 s0 t0 y0 : Int) (k s k2 : Int) (p f : Bool) (y g l : Int) (fs : List (Fin 256)) (hl : fs.length ≤ 2000000) (h : (Opt.ok ⟨m0, w0, s0, t0, y0⟩ && rxB e c m bs.length && ((k == 1 || k == 2) && frmB k s k2 p f y g l fs.length)) = false) : DataOk Try.prog 9 [cfgA m0 w0 s0 t0 y0, rxA e c m bs a u d, frmA k s k2 p f y g l fs] (.tup [rxN, nilA, nilA]) := by
  refine Spec.intro (n := 39) (rv := [.cell 6 28, .tmp 7, .tmp 8]) Try.func9 rfl rfl rfl (by simp) fun C hN hX => ?_
  refine AW.seq ?_
  apply AW.list
  apply Wk.bx 3 rfl rfl (lt_of_ble rfl)
  apply Wk.bx 4 rfl rfl (lt_of_ble rfl)
  apply Wk.bx 5 rfl rfl (lt_of_ble rfl)
  apply Wk.alc 6 [.int .i64 0, .int .i64 0, .int .i64 0, .slice none 0 0, .bool false, .bool false, .bool false] ze28 rfl rfl (lt_of_ble rfl)
  apply Wk.asg (by conv => lhs; whnf) (lt_of_ble rfl)
  apply Wk.asg (by conv => lhs; whnf) (lt_of_ble rfl)
  refine Wk.nil ?_
  refine AW.seq (AW.seq ?_)
  cases h1 : Opt.ok ⟨m0, w0, s0, t0, y0⟩
  · apply AW.list
    apply Wk.ld (i := 3) 5 true ty24 rfl rfl (by conv => lhs; whnf) (lt_of_ble rfl)
    apply Wk.dat (icfgb m0 w0 s0 t0 y0 h1) Try.func30 rfl rfl rfl rfl rfl (lt_of_ble rfl)
    apply Wk.un rfl (fun w => by simp [go_sem] <;> rfl) (lt_of_ble rfl)
    apply Wk.mv (by conv => lhs; whnf) (lt_of_ble rfl)
    apply Wk.goff 15 (ok_load 4 ty28) rfl rfl (by decide)
    apply Wk.goff 15 (ok_datw ((irx_ok e c m bs a u d).w rfl) Try.func14 rfl rfl) rfl rfl (by decide)
    apply Wk.goff 15 (ok_un _ _ _) rfl rfl (by decide)
    apply Wk.pckT rfl (by conv => lhs; whnf) (lt_of_ble rfl)
    apply Wk.mv (by conv => lhs; whnf) (lt_of_ble rfl)
    apply Wk.goff 20 (ok_load 5 ty30) rfl rfl (by decide)
    apply Wk.goff 20 (ok_datw ((isByb k s k2 p f y g l fs hl (b := _) rfl).w rfl) Try.func31 rfl rfl) rfl rfl (by decide)
    apply Wk.goff 20 (ok_un _ _ _) rfl rfl (by decide)
    apply Wk.pckT rfl (by conv => lhs; whnf) (lt_of_ble rfl)
    refine Wk.nil ?_
    refine AW.cond rfl (fun _ => ?_) (fun hc => by cases hc)
    refine AW.seq ?_
    apply AW.list
    apply Wk.bld [.int .i64 0, .int .i64 0, .int .i64 0, .slice none 0 0, .bool false, .bool false, .bool false] [(0, 1), (1, 1), (2, 2), (4, 1), (5, 1), (6, 1)] bl28 rfl (by conv => lhs; whnf) (lt_of_ble rfl)
    apply Wk.sto (i := 6) 7 true ty28 rfl rfl rfl rfl (Nat.le_of_ble_eq_true rfl) (lt_of_ble rfl)
    apply Wk.asg (by conv => lhs; whnf) (lt_of_ble rfl)
    apply Wk.asg (by conv => lhs; whnf) (lt_of_ble rfl)
    refine Wk.nil (AW.ret ?_)
    refine thenA_ret ?_
    exact RetQ.ret [] (.cons ⟨6, 0, _, _, _, rfl, rfl, ty28, rfl⟩ (.cons rfl (.cons rfl .nil))) ⟨rfl, rfl⟩ none_kept
  cases h2 : rxB e c m bs.length
  · apply AW.list
    apply Wk.ld (i := 3) 5 true ty24 rfl rfl (by conv => lhs; whnf) (lt_of_ble rfl)
    apply Wk.dat (icfgb m0 w0 s0 t0 y0 h1) Try.func30 rfl rfl rfl rfl rfl (lt_of_ble rfl)
    apply Wk.un rfl (fun w => by simp [go_sem] <;> rfl) (lt_of_ble rfl)
    apply Wk.mv (by conv => lhs; whnf) (lt_of_ble rfl)
    apply Wk.gon 15 rfl rfl
    apply Wk.ld (i := 4) 7 true ty28 rfl rfl (by conv => lhs; whnf) (lt_of_ble rfl)
    apply Wk.gon 15 rfl rfl
    apply Wk.dat (irxb a u d h2) Try.func14 rfl rfl rfl rfl rfl (lt_of_ble rfl)
    apply Wk.gon 15 rfl rfl
    apply Wk.un rfl (fun w => by simp [go_sem] <;> rfl) (lt_of_ble rfl)
    apply Wk.pckF rfl (by conv => lhs; whnf) (lt_of_ble rfl)
    apply Wk.mv (by conv => lhs; whnf) (lt_of_ble rfl)
    apply Wk.goff 20 (ok_load 5 ty30) rfl rfl (by decide)
    apply Wk.goff 20 (ok_datw ((isByb k s k2 p f y g l fs hl (b := _) rfl).w rfl) Try.func31 rfl rfl) rfl rfl (by decide)
    apply Wk.goff 20 (ok_un _ _ _) rfl rfl (by decide)
    apply Wk.pckT rfl (by conv => lhs; whnf) (lt_of_ble rfl)
    refine Wk.nil ?_
    refine AW.cond rfl (fun _ => ?_) (fun hc => by cases hc)
    refine AW.seq ?_
    apply AW.list
    apply Wk.bld [.int .i64 0, .int .i64 0, .int .i64 0, .slice none 0 0, .bool false, .bool false, .bool false] [(0, 1), (1, 1), (2, 2), (4, 1), (5, 1), (6, 1)] bl28 rfl (by conv => lhs; whnf) (lt_of_ble rfl)
    apply Wk.sto (i := 6) 7 true ty28 rfl rfl rfl rfl (Nat.le_of_ble_eq_true rfl) (lt_of_ble rfl)
    apply Wk.asg (by conv => lhs; whnf) (lt_of_ble rfl)
    apply Wk.asg (by conv => lhs; whnf) (lt_of_ble rfl)
    refine Wk.nil (AW.ret ?_)
    refine thenA_ret ?_
    exact RetQ.ret [] (.cons ⟨6, 0, _, _, _, rfl, rfl, ty28, rfl⟩ (.cons rfl (.cons rfl .nil))) ⟨rfl, rfl⟩ none_kept
  · have h3 : ((k == 1 || k == 2) && frmB k s k2 p f y g l fs.length) = false := by simpa only [h1, h2, Bool.true_and] using h
    apply AW.list
    apply Wk.ld (i := 3) 5 true ty24 rfl rfl (by conv => lhs; whnf) (lt_of_ble rfl)
    apply Wk.dat (icfgb m0 w0 s0 t0 y0 h1) Try.func30 rfl rfl rfl rfl rfl (lt_of_ble rfl)
    apply Wk.un rfl (fun w => by simp [go_sem] <;> rfl) (lt_of_ble rfl)
    apply Wk.mv (by conv => lhs; whnf) (lt_of_ble rfl)
    apply Wk.gon 15 rfl rfl
    apply Wk.ld (i := 4) 7 true ty28 rfl rfl (by conv => lhs; whnf) (lt_of_ble rfl)
    apply Wk.gon 15 rfl rfl
    apply Wk.dat (irxb a u d h2) Try.func14 rfl rfl rfl rfl rfl (lt_of_ble rfl)
    apply Wk.gon 15 rfl rfl
    apply Wk.un rfl (fun w => by simp [go_sem] <;> rfl) (lt_of_ble rfl)
    apply Wk.pckF rfl (by conv => lhs; whnf) (lt_of_ble rfl)
    apply Wk.mv (by conv => lhs; whnf) (lt_of_ble rfl)
    apply Wk.gon 20 rfl rfl
    apply Wk.ld (i := 5) 9 true ty30 rfl rfl (by conv => lhs; whnf) (lt_of_ble rfl)
    apply Wk.gon 20 rfl rfl
    apply Wk.dat (isByb k s k2 p f y g l fs hl h3) Try.func31 rfl rfl rfl rfl rfl (lt_of_ble rfl)
    apply Wk.gon 20 rfl rfl
    apply Wk.un rfl (fun w => by simp [go_sem] <;> rfl) (lt_of_ble rfl)
    apply Wk.pckF rfl (by conv => lhs; whnf) (lt_of_ble rfl)
    refine Wk.nil ?_
    refine AW.cond rfl (fun _ => ?_) (fun hc => by cases hc)
    refine AW.seq ?_
    apply AW.list
    apply Wk.bld [.int .i64 0, .int .i64 0, .int .i64 0, .slice none 0 0, .bool false, .bool false, .bool false] [(0, 1), (1, 1), (2, 2), (4, 1), (5, 1), (6, 1)] bl28 rfl (by conv => lhs; whnf) (lt_of_ble rfl)
    apply Wk.sto (i := 6) 7 true ty28 rfl rfl rfl rfl (Nat.le_of_ble_eq_true rfl) (lt_of_ble rfl)
    apply Wk.asg (by conv => lhs; whnf) (lt_of_ble rfl)
    apply Wk.asg (by conv => lhs; whnf) (lt_of_ble rfl)
    refine Wk.nil (AW.ret ?_)
    refine thenA_ret ?_
    exact RetQ.ret [] (.cons ⟨6, 0, _, _, _, rfl, rfl, ty28, rfl⟩ (.cons rfl (.cons rfl .nil))) ⟨rfl, rfl⟩ none_kept
/-- What was said. -/
def syN : Option (Int × Bool × Int) → A
  | none => nilA
  | some (e, f, y) => .d (.row [frmD 2 0 e false f y 0 0 []])
set_option maxHeartbeats 2000000 in
set_option maxRecDepth 100000 in
theorem rxh_of (e c m : Int) (bs : List (Fin 256)) (a u d : Bool) (m0 w0 s0 t0 y0 : Int) (k s k2 : Int) (p f : Bool) (y g l : Int) (fs : List (Fin 256)) (hl : fs.length ≤ 2000000) (hbl : bs.length ≤ 1000) (h1 : Opt.ok ⟨m0, w0, s0, t0, y0⟩ = true) (h2 : rxB e c m bs.length = true) (h3 : ((k == 1 || k == 2) && frmB k s k2 p f y g l fs.length) = true)
    (x' : RX) (sd : Option (List (Fin 256))) (sy : Option (Int × Bool × Int)) (h : Spec Try.prog 34 [.ptr 12 0, cfgA m0 w0 s0 t0 y0, frmA k s k2 p f y g l fs] [(9, .var [nilA]), (12, .var (rxC e c m bs a u d ++ [sayF]))] (hrPost x' sd sy)) : DataOk Try.prog 9 [cfgA m0 w0 s0 t0 y0, rxA e c m bs a u d, frmA k s k2 p f y g l fs] (.tup [rxA x'.e x'.c x'.m x'.bs x'.a x'.u x'.d, .d (sdD sd), syN sy]) := by
  rcases sy with _ | ⟨e1, f1, y1⟩
  all_goals
    refine Spec.intro (n := 39) (rv := [.cell 6 28, .tmp 7, .tmp 8]) Try.func9 rfl rfl rfl (by simp) fun C hN hX => ?_
    refine AW.seq ?_
    apply AW.list
    apply Wk.bx 3 rfl rfl (lt_of_ble rfl)
    apply Wk.bx 4 rfl rfl (lt_of_ble rfl)
    apply Wk.bx 5 rfl rfl (lt_of_ble rfl)
    apply Wk.alc 6 [.int .i64 0, .int .i64 0, .int .i64 0, .slice none 0 0, .bool false, .bool false, .bool false] ze28 rfl rfl (lt_of_ble rfl)
    apply Wk.asg (by conv => lhs; whnf) (lt_of_ble rfl)
    apply Wk.asg (by conv => lhs; whnf) (lt_of_ble rfl)
    refine Wk.nil ?_
    refine AW.seq (AW.seq ?_)
    apply AW.list
    apply Wk.ld (i := 3) 5 true ty24 rfl rfl (by conv => lhs; whnf) (lt_of_ble rfl)
    apply Wk.dat (icfgb m0 w0 s0 t0 y0 h1) Try.func30 rfl rfl rfl rfl rfl (lt_of_ble rfl)
    apply Wk.un rfl (fun w => by simp [go_sem] <;> rfl) (lt_of_ble rfl)
    apply Wk.mv (by conv => lhs; whnf) (lt_of_ble rfl)
    apply Wk.gon 15 rfl rfl
    apply Wk.ld (i := 4) 7 true ty28 rfl rfl (by conv => lhs; whnf) (lt_of_ble rfl)
    apply Wk.gon 15 rfl rfl
    apply Wk.dat (irxb a u d h2) Try.func14 rfl rfl rfl rfl rfl (lt_of_ble rfl)
    apply Wk.gon 15 rfl rfl
    apply Wk.un rfl (fun w => by simp [go_sem] <;> rfl) (lt_of_ble rfl)
    apply Wk.pckF rfl (by conv => lhs; whnf) (lt_of_ble rfl)
    apply Wk.mv (by conv => lhs; whnf) (lt_of_ble rfl)
    apply Wk.gon 20 rfl rfl
    apply Wk.ld (i := 5) 9 true ty30 rfl rfl (by conv => lhs; whnf) (lt_of_ble rfl)
    apply Wk.gon 20 rfl rfl
    apply Wk.dat (isByb k s k2 p f y g l fs hl h3) Try.func31 rfl rfl rfl rfl rfl (lt_of_ble rfl)
    apply Wk.gon 20 rfl rfl
    apply Wk.un rfl (fun w => by simp [go_sem] <;> rfl) (lt_of_ble rfl)
    apply Wk.pckF rfl (by conv => lhs; whnf) (lt_of_ble rfl)
    refine Wk.nil ?_
    refine AW.cond rfl (fun hc => by cases hc) (fun _ => AW.skip (thenA_normal ?_))
    refine AW.seq ?_
    apply AW.list
    apply Wk.alc 9 [.slice none 0 0] ze34 rfl rfl (lt_of_ble rfl)
    refine Wk.nil ?_
    refine AW.seq ?_
    apply AW.list
    apply Wk.ld (i := 4) 7 true ty28 rfl rfl (by conv => lhs; whnf) (lt_of_ble rfl)
    apply Wk.mkf (lt_of_ble rfl)
    apply Wk.cal [9] [12] (newH_ok e c m bs a u d hbl) (in_newH e c m bs a u d) ⟨_, _, rfl, rfl⟩ Try.func32 rfl rfl rfl rfl (by simp; rfl) rfl (by simp; rfl) (lt_of_ble rfl)
    rintro r bs' ⟨rfl, rfl⟩
    apply Wk.asg (by conv => lhs; whnf) (lt_of_ble rfl)
    refine Wk.nil ?_
    refine AW.seq ?_
    apply AW.list
    apply Wk.mv (by conv => lhs; whnf) (lt_of_ble rfl)
    apply Wk.ld (i := 3) 5 true ty24 rfl rfl (by conv => lhs; whnf) (lt_of_ble rfl)
    apply Wk.ld (i := 5) 9 true ty30 rfl rfl (by conv => lhs; whnf) (lt_of_ble rfl)
    apply Wk.cal [9, 12] [77] h (in_hr x' sd _) ⟨_, _, rfl, rfl⟩ Try.func34 rfl rfl rfl rfl (by simp; rfl) rfl (by simp; exact ⟨rfl, rfl⟩) (lt_of_ble rfl)
    rintro r bs' ⟨rfl, rfl⟩
    apply Wk.asg (by conv => lhs; whnf) (lt_of_ble rfl)
    refine Wk.nil ?_
    refine AW.seq ?_
    apply AW.draw (hm := hmix) (cs := _)
    · apply Wk.mv (by conv => lhs; whnf) (lt_of_ble rfl)
      apply Wk.nilc rfl (lt_of_ble rfl)
      apply Wk.fad 0 6 true fd65_0 rfl (lt_of_ble rfl)
      apply Wk.ld (i := 12) 7 true ty28 rfl rfl (by conv => lhs; whnf) (lt_of_ble rfl)
      apply Wk.mv (by conv => lhs; whnf) (lt_of_ble rfl)
      apply Wk.ld (i := 9) 1 false ty34 rfl rfl (by conv => lhs; whnf) (lt_of_ble rfl)
      apply Wk.sto (i := 6) 7 true ty28 rfl rfl rfl rfl (Nat.le_of_ble_eq_true rfl) (lt_of_ble rfl)
      apply Wk.asg (by conv => lhs; whnf) (lt_of_ble rfl)
      apply Wk.asg (by conv => lhs; whnf) (lt_of_ble rfl)
      refine Wk.nil ?_
      first
      | (refine AW.thaw (t := 8) (i := 77) [frmD 2 0 e1 false f1 y1 0 0 []] rfl rfl rfl hX.none ?_
         refine AW.ret ?_
         exact RetQ.ret [] (.cons ⟨6, 0, _, _, _, rfl, rfl, ty28, rfl⟩ (.cons rfl (.cons rfl .nil))) ⟨rfl, rfl⟩ none_kept)
      | (refine AW.ret ?_
         exact RetQ.ret [] (.cons ⟨6, 0, _, _, _, rfl, rfl, ty28, rfl⟩ (.cons rfl (.cons rfl .nil))) ⟨rfl, rfl⟩ none_kept)
    · rfl
    · rfl
/-- The answer: who hears then, what was told, what was said. -/
def sdR : Option (List (Fin 256)) → D
  | none => .row []
  | some bs => .row [[fbytes bs]]
def syR : Option (Int × Bool × Int) → D
  | none => .row []
  | some (e, f, y) => .row [frmD 2 0 e false f y 0 0 []]
def CF.A (q : CF) : A := cfgA q.m q.w q.s q.t q.y
def RX.A (x : RX) : A := rxA x.e x.c x.m x.bs x.a x.u x.d
def FR.A (f : FR) : A := frmA f.k f.s f.c f.p f.f f.y f.g f.l f.bs
def resH (h : HO) : A := .tup [h.x.A, .d (sdR h.sd), .d (syR h.sy)]
theorem nrm_res (x : RX) (sd : Option (List (Fin 256))) (sy : Option (Int × Bool × Int)) : nrm (.tup [rxA x.e x.c x.m x.bs x.a x.u x.d, .d (sdD sd), syN sy]) = resH ⟨x, sd, sy⟩ := by
  rcases sd with _ | bs <;> rcases sy with _ | ⟨e, f, y⟩ <;> rfl
theorem ihear_ok (q : CF) (x : RX) (f : FR) (hb : x.bs.length ≤ 1000) (hf : f.bs.length ≤ 1000) : DataOk Try.prog 9 [q.A, x.A, f.A] (resH (hearF q x f)) := by
  obtain ⟨m0, w0, s0, t0, y0⟩ := q
  obtain ⟨e, c, m, bs, a, u, d⟩ := x
  obtain ⟨k, s, k2, p, fl, y, g, l, fs⟩ := f
  have hl : fs.length ≤ 2000000 := by simp only at hf; omega
  have hgo : goesB ⟨m0, w0, s0, t0, y0⟩ ⟨e, c, m, bs, a, u, d⟩ ⟨k, s, k2, p, fl, y, g, l, fs⟩ = (Opt.ok ⟨m0, w0, s0, t0, y0⟩ && rxB e c m bs.length && ((k == 1 || k == 2) && frmB k s k2 p fl y g l fs.length)) := by
    simp only [goesB, CF.ok, RX.ok, FR.ok]
    cases Opt.ok ⟨m0, w0, s0, t0, y0⟩ <;> cases rxB e c m bs.length <;> cases frmB k s k2 p fl y g l fs.length <;> simp
  cases hg : goesB ⟨m0, w0, s0, t0, y0⟩ ⟨e, c, m, bs, a, u, d⟩ ⟨k, s, k2, p, fl, y, g, l, fs⟩
  · have h := (rxh_no e c m bs a u d m0 w0 s0 t0 y0 k s k2 p fl y g l fs hl (by rw [← hgo]; exact hg)).nrm
    rw [hearF, if_pos hg]
    exact h
  · obtain ⟨h1, h2, h4, h5⟩ := goes_iff.1 hg
    have h3 : ((k == 1 || k == 2) && frmB k s k2 p fl y g l fs.length) = true := by
      rw [hgo] at hg
      simp only [Bool.and_eq_true] at hg ⊢
      exact hg.2
    have fin : ∀ x' sd sy, Spec Try.prog 34 [.ptr 12 0, cfgA m0 w0 s0 t0 y0, frmA k s k2 p fl y g l fs] [(9, .var [nilA]), (12, .var (rxC e c m bs a u d ++ [sayF]))] (hrPost x' sd sy) → DataOk Try.prog 9 [cfgA m0 w0 s0 t0 y0, rxA e c m bs a u d, frmA k s k2 p fl y g l fs] (resH ⟨x', sd, sy⟩) := fun x' sd sy hs => by
      have := (rxh_of e c m bs a u d m0 w0 s0 t0 y0 k s k2 p fl y g l fs hl hb h1 h2 h3 x' sd sy hs).nrm
      rwa [nrm_res] at this
    show DataOk Try.prog 9 [cfgA m0 w0 s0 t0 y0, rxA e c m bs a u d, frmA k s k2 p fl y g l fs] _
    rw [hearF, if_neg (by simp [hg])]
    cases d
    case true =>
      rw [if_pos rfl]
      exact fin _ _ _ (hearD_ok e c m bs a u m0 w0 s0 t0 y0 k s k2 p fl y g l fs)
    case false =>
    rw [if_neg (by simp)]
    simp only at h5
    rcases h5 with rfl | rfl
    case inr =>
      rw [if_pos rfl]
      cases p
      case false =>
        rw [if_neg (by simp)]
        exact fin _ _ _ (hearS_ok e c m bs a u m0 w0 s0 t0 y0 s k2 false fl y g l fs _ _ (ans0_ok e c m bs a u false 2 s k2 fl y g l fs))
      case true =>
        rw [if_pos rfl]
        exact fin _ _ _ (hearS_ok e c m bs a u m0 w0 s0 t0 y0 s k2 true fl y g l fs _ _ (ans1_ok e c m bs a u false 2 s k2 fl y g l fs))
    case inl =>
    rw [if_neg (by simp)]
    cases u
    case true =>
      rw [if_pos rfl]
      exact fin _ _ _ (hearB_ok e c m bs a m0 w0 s0 t0 y0 s k2 p fl y g l fs)
    case false =>
    rw [if_neg (by simp)]
    by_cases hse : s = e
    · subst hse
      rw [if_pos rfl]
      obtain ⟨r1, r2, r3⟩ := RX.ok_iff.1 h2
      have hp := (FR.data h4 rfl).2.2.2.2
      simp only at r1 r2 r3 hp
      rcases take_cases ⟨m0, w0, s0, t0, y0⟩ ⟨s, c, m, bs, a, false, false⟩ ⟨1, s, k2, p, fl, y, g, l, fs⟩ h2 hp with ⟨hh, e1⟩ | ⟨hh, ⟨hC, e1⟩ | ⟨hC, e1, _⟩ | ⟨hC, e1, _⟩⟩
      · rw [e1]
        exact fin _ _ _ (hearT_ok s c m bs a m0 w0 s0 t0 y0 k2 p fl y g l fs _ _ (takeT_ok s c m bs a false false m0 w0 s0 t0 y0 1 s k2 p fl y g l fs hh))
      · rw [e1]
        exact fin _ _ _ (hearT_ok s c m bs a m0 w0 s0 t0 y0 k2 p fl y g l fs _ _ (takeB_ok s c m bs a false false m0 w0 s0 t0 y0 1 s k2 p fl y g l fs hh r3 hp hC))
      · rw [e1]
        exact fin _ _ _ (hearT_ok s c m bs a m0 w0 s0 t0 y0 k2 p fl y g l fs _ _ (takeA_ok s c m bs a false false m0 w0 s0 t0 y0 1 s k2 p fl y g l fs hh r3 hp hC r1.1 r1.2))
      · rw [e1]
        exact fin _ _ _ (hearT_ok s c m bs a m0 w0 s0 t0 y0 k2 p fl y g l fs _ _ (takeM_ok s c m bs a false false m0 w0 s0 t0 y0 1 s k2 p fl y g l fs hh r3 hp hC r1.1 r1.2))
    · rw [if_neg hse]
      cases a
      case true =>
        rw [if_pos (.inl rfl)]
        exact fin _ _ _ (hearM_ok e c m bs true m0 w0 s0 t0 y0 s k2 p fl y g l fs hse _ _ (miss0a_ok e c m bs false false m0 w0 s0 t0 y0 1 s k2 p fl y g l fs))
      case false =>
      by_cases hw : w0 ≤ farF e s
      · rw [if_pos (.inr hw)]
        exact fin _ _ _ (hearM_ok e c m bs false m0 w0 s0 t0 y0 s k2 p fl y g l fs hse _ _ (miss0b_ok e c m bs false false m0 w0 s0 t0 y0 1 s k2 p fl y g l fs hw))
      · rw [if_neg (by simp [hw])]
        exact fin _ _ _ (hearM_ok e c m bs false m0 w0 s0 t0 y0 s k2 p fl y g l fs hse _ _ (miss1_ok e c m bs false false m0 w0 s0 t0 y0 1 s k2 p fl y g l fs hw))
end Go.Proofs.Ytlmadcpoaedagaa

/- RxHear of the specification; over what values read as. Written by tools/mk_AbsSr.py. -/
namespace Go.Proofs.Ytlmadcpoaedagaa
open Go
theorem sl4b (m : Int) (bs : List (Fin 256)) (g l : Int) (fs : List (Fin 256)) (h1 : joinB m bs.length = true) (h2 : pieceB g l fs.length = true) {r : A} (h : putA4 m bs g l fs = r) : DataOk Try.prog 82 [joinA m bs, partA3 g l fs] r := h ▸ sl4_ok m bs g l fs h1 h2
theorem sfarb (a b : Int) {r : Int} (h : farF a b = r) : DataOk Try.prog 75 [.d (.v (.int .i64 a)), .d (.v (.int .i64 b))] (.d (.v (.int .i64 r))) := h ▸ sfar_ok a b
theorem scfgb (m n s t y : Int) {b : Bool} (h : Opt.ok ⟨m, n, s, t, y⟩ = b) : DataOk Try.prog 16 [cfgA m n s t y] (.d (.v (.bool b))) := h ▸ scfg_ok m n s t y
theorem srxb {e c m : Int} {bs : List (Fin 256)} {b : Bool} (a u d : Bool) (hb : rxB e c m bs.length = b) : DataOk Try.prog 15 [rxA e c m bs a u d] (.d (.v (.bool b))) := by
  have h := srx_ok e c m bs a u d
  rwa [hb] at h
theorem sfrmb (k s c : Int) (p f : Bool) (y g l : Int) (bs : List (Fin 256)) {b : Bool} (h : frmB k s c p f y g l bs.length = b) : DataOk Try.prog 17 [frmA k s c p f y g l bs] (.d (.v (.bool b))) := h ▸ sfrm_ok k s c p f y g l bs
set_option maxHeartbeats 2000000 in
set_option maxRecDepth 100000 in
theorem stakeT_ok (e c m : Int) (bs : List (Fin 256)) (a u d : Bool) (m0 w0 s0 t0 y0 : Int) (k s k2 : Int) (p f : Bool) (y g l : Int) (fs : List (Fin 256)) (h : t0 < l ∨ s0 < (fs.length : Int) ∨ c = 9999) : DataOk Try.prog 76 [cfgA m0 w0 s0 t0 y0, rxA e c m bs a u d, frmA k s k2 p f y g l fs] (.tup [rxA e c m bs a u true, .d (sdR none)]) := by
  refine Spec.intro (n := 71) (rv := [.cell 6 28, .tmp 7]) Try.func76 rfl rfl rfl (by simp) fun C hN hX => ?_
  refine AW.seq ?_
  apply AW.list
  apply Wk.bx 3 rfl rfl (lt_of_ble rfl)
  apply Wk.bx 4 rfl rfl (lt_of_ble rfl)
  apply Wk.bx 5 rfl rfl (lt_of_ble rfl)
  apply Wk.alc 6 [.int .i64 0, .int .i64 0, .int .i64 0, .slice none 0 0, .bool false, .bool false, .bool false] ze28 rfl rfl (lt_of_ble rfl)
  apply Wk.asg (by conv => lhs; whnf) (lt_of_ble rfl)
  refine Wk.nil ?_
  refine AW.seq ?_
  apply AW.list
  apply Wk.fad 6 0 false fd30_6 rfl (lt_of_ble rfl)
  apply Wk.ld (i := 5) 1 false ty3 rfl rfl (by conv => lhs; whnf) (lt_of_ble rfl)
  apply Wk.fad 7 0 false fd30_7 rfl (lt_of_ble rfl)
  apply Wk.ld (i := 5) 1 false ty3 rfl rfl (by conv => lhs; whnf) (lt_of_ble rfl)
  apply Wk.fad 8 0 false fd30_8 rfl (lt_of_ble rfl)
  apply Wk.ld (i := 5) 1 false ty22 rfl rfl (by conv => lhs; whnf) (lt_of_ble rfl)
  apply Wk.bld [.int .i64 0, .int .i64 0, .slice none 0 0] [(0, 1), (1, 1), (2, 1)] bl48 rfl (by conv => lhs; whnf) (lt_of_ble rfl)
  apply Wk.alc 8 [.int .i64 0, .int .i64 0, .slice none 0 0] ze48 rfl rfl (lt_of_ble rfl)
  apply Wk.sto (i := 8) 3 true ty48 rfl rfl rfl rfl (Nat.le_of_ble_eq_true rfl) (lt_of_ble rfl)
  refine Wk.nil ?_
  refine AW.seq (AW.seq ?_)
  by_cases h1 : t0 < l
  · apply AW.list
    apply Wk.fad 7 0 false fd30_7 rfl (lt_of_ble rfl)
    apply Wk.ld (i := 5) 1 false ty3 rfl rfl (by conv => lhs; whnf) (lt_of_ble rfl)
    apply Wk.fad 3 0 false fd24_3 rfl (lt_of_ble rfl)
    apply Wk.ld (i := 3) 1 false ty3 rfl rfl (by conv => lhs; whnf) (lt_of_ble rfl)
    apply Wk.bin rfl rfl (r := .bool true) (fun w => by simp [go_sem, h1]) (lt_of_ble rfl)
    apply Wk.mv (by conv => lhs; whnf) (lt_of_ble rfl)
    apply Wk.goff 24 (ok_faddr fd30_8) rfl rfl (by decide)
    apply Wk.goff 24 (ok_load 5 ty22) rfl rfl (by decide)
    apply Wk.goff 24 (ok_len un22) rfl rfl (by decide)
    apply Wk.goff 24 (ok_faddr fd24_2) rfl rfl (by decide)
    apply Wk.goff 24 (ok_load 3 ty3) rfl rfl (by decide)
    apply Wk.goff 24 (ok_bin _ _ _ _ _) rfl rfl (by decide)
    apply Wk.pckT rfl (by conv => lhs; whnf) (lt_of_ble rfl)
    apply Wk.mv (by conv => lhs; whnf) (lt_of_ble rfl)
    apply Wk.goff 32 (ok_faddr fd28_1) rfl rfl (by decide)
    apply Wk.goff 32 (ok_load 4 ty3) rfl rfl (by decide)
    apply Wk.goff 32 (ok_bin _ _ _ _ _) rfl rfl (by decide)
    apply Wk.pckT rfl (by conv => lhs; whnf) (lt_of_ble rfl)
    refine Wk.nil ?_
    refine AW.cond rfl (fun _ => ?_) (fun hc => by cases hc)
    refine AW.seq ?_
    apply AW.list
    apply Wk.fad 6 0 false fd28_5 rfl (lt_of_ble rfl)
    apply Wk.sto (i := 4) 1 false ty4 rfl rfl rfl rfl (Nat.le_of_ble_eq_true rfl) (lt_of_ble rfl)
    refine Wk.nil ?_
    refine AW.seq ?_
    apply AW.list
    apply Wk.ld (i := 4) 7 true ty28 rfl rfl (by conv => lhs; whnf) (lt_of_ble rfl)
    apply Wk.lst 39 1 false [.slice none 0 0] un33 ty22 ze22 rfl rfl (by rfl) (by rfl) (by decide) (by decide) rfl rfl (all_len rfl) (lt_of_ble rfl)
    apply Wk.sto (i := 6) 7 true ty28 rfl rfl rfl rfl (Nat.le_of_ble_eq_true rfl) (lt_of_ble rfl)
    apply Wk.asg (by conv => lhs; whnf) (lt_of_ble rfl)
    refine Wk.nil ?_
    refine thenA_normal ?_
    refine AW.thaw (t := 7) (i := 39) [] rfl rfl rfl hX.none ?_
    refine AW.ret (thenA_ret ?_)
    exact RetQ.ret [] (.cons ⟨6, 0, _, _, _, rfl, rfl, ty28, rfl⟩ (.cons rfl .nil)) ⟨rfl, rfl⟩ none_kept
  by_cases h2 : s0 < (fs.length : Int)
  · apply AW.list
    apply Wk.fad 7 0 false fd30_7 rfl (lt_of_ble rfl)
    apply Wk.ld (i := 5) 1 false ty3 rfl rfl (by conv => lhs; whnf) (lt_of_ble rfl)
    apply Wk.fad 3 0 false fd24_3 rfl (lt_of_ble rfl)
    apply Wk.ld (i := 3) 1 false ty3 rfl rfl (by conv => lhs; whnf) (lt_of_ble rfl)
    apply Wk.bin rfl rfl (r := .bool false) (fun w => by simp [go_sem, h1]) (lt_of_ble rfl)
    apply Wk.mv (by conv => lhs; whnf) (lt_of_ble rfl)
    apply Wk.gon 24 rfl rfl
    apply Wk.fad 8 0 false fd30_8 rfl (lt_of_ble rfl)
    apply Wk.gon 24 rfl rfl
    apply Wk.ld (i := 5) 1 false ty22 rfl rfl (by conv => lhs; whnf) (lt_of_ble rfl)
    apply Wk.gon 24 rfl rfl
    apply Wk.len un22 rfl (lt_of_ble rfl)
    apply Wk.gon 24 rfl rfl
    apply Wk.fad 2 0 false fd24_2 rfl (lt_of_ble rfl)
    apply Wk.gon 24 rfl rfl
    apply Wk.ld (i := 3) 1 false ty3 rfl rfl (by conv => lhs; whnf) (lt_of_ble rfl)
    apply Wk.gon 24 rfl rfl
    apply Wk.bin rfl rfl (r := .bool true) (fun w => by simp [go_sem, h2]) (lt_of_ble rfl)
    apply Wk.pckF rfl (by conv => lhs; whnf) (lt_of_ble rfl)
    apply Wk.mv (by conv => lhs; whnf) (lt_of_ble rfl)
    apply Wk.goff 32 (ok_faddr fd28_1) rfl rfl (by decide)
    apply Wk.goff 32 (ok_load 4 ty3) rfl rfl (by decide)
    apply Wk.goff 32 (ok_bin _ _ _ _ _) rfl rfl (by decide)
    apply Wk.pckT rfl (by conv => lhs; whnf) (lt_of_ble rfl)
    refine Wk.nil ?_
    refine AW.cond rfl (fun _ => ?_) (fun hc => by cases hc)
    refine AW.seq ?_
    apply AW.list
    apply Wk.fad 6 0 false fd28_5 rfl (lt_of_ble rfl)
    apply Wk.sto (i := 4) 1 false ty4 rfl rfl rfl rfl (Nat.le_of_ble_eq_true rfl) (lt_of_ble rfl)
    refine Wk.nil ?_
    refine AW.seq ?_
    apply AW.list
    apply Wk.ld (i := 4) 7 true ty28 rfl rfl (by conv => lhs; whnf) (lt_of_ble rfl)
    apply Wk.lst 39 1 false [.slice none 0 0] un33 ty22 ze22 rfl rfl (by rfl) (by rfl) (by decide) (by decide) rfl rfl (all_len rfl) (lt_of_ble rfl)
    apply Wk.sto (i := 6) 7 true ty28 rfl rfl rfl rfl (Nat.le_of_ble_eq_true rfl) (lt_of_ble rfl)
    apply Wk.asg (by conv => lhs; whnf) (lt_of_ble rfl)
    refine Wk.nil ?_
    refine thenA_normal ?_
    refine AW.thaw (t := 7) (i := 39) [] rfl rfl rfl hX.none ?_
    refine AW.ret (thenA_ret ?_)
    exact RetQ.ret [] (.cons ⟨6, 0, _, _, _, rfl, rfl, ty28, rfl⟩ (.cons rfl .nil)) ⟨rfl, rfl⟩ none_kept
  · obtain rfl : c = 9999 := by omega
    apply AW.list
    apply Wk.fad 7 0 false fd30_7 rfl (lt_of_ble rfl)
    apply Wk.ld (i := 5) 1 false ty3 rfl rfl (by conv => lhs; whnf) (lt_of_ble rfl)
    apply Wk.fad 3 0 false fd24_3 rfl (lt_of_ble rfl)
    apply Wk.ld (i := 3) 1 false ty3 rfl rfl (by conv => lhs; whnf) (lt_of_ble rfl)
    apply Wk.bin rfl rfl (r := .bool false) (fun w => by simp [go_sem, h1]) (lt_of_ble rfl)
    apply Wk.mv (by conv => lhs; whnf) (lt_of_ble rfl)
    apply Wk.gon 24 rfl rfl
    apply Wk.fad 8 0 false fd30_8 rfl (lt_of_ble rfl)
    apply Wk.gon 24 rfl rfl
    apply Wk.ld (i := 5) 1 false ty22 rfl rfl (by conv => lhs; whnf) (lt_of_ble rfl)
    apply Wk.gon 24 rfl rfl
    apply Wk.len un22 rfl (lt_of_ble rfl)
    apply Wk.gon 24 rfl rfl
    apply Wk.fad 2 0 false fd24_2 rfl (lt_of_ble rfl)
    apply Wk.gon 24 rfl rfl
    apply Wk.ld (i := 3) 1 false ty3 rfl rfl (by conv => lhs; whnf) (lt_of_ble rfl)
    apply Wk.gon 24 rfl rfl
    apply Wk.bin rfl rfl (r := .bool false) (fun w => by simp [go_sem]; omega) (lt_of_ble rfl)
    apply Wk.pckF rfl (by conv => lhs; whnf) (lt_of_ble rfl)
    apply Wk.mv (by conv => lhs; whnf) (lt_of_ble rfl)
    apply Wk.gon 32 rfl rfl
    apply Wk.fad 1 0 false fd28_1 rfl (lt_of_ble rfl)
    apply Wk.gon 32 rfl rfl
    apply Wk.ld (i := 4) 1 false ty3 rfl rfl (by conv => lhs; whnf) (lt_of_ble rfl)
    apply Wk.gon 32 rfl rfl
    apply Wk.bin rfl rfl (r := .bool true) (fun w => by simp [go_sem]) (lt_of_ble rfl)
    apply Wk.pckF rfl (by conv => lhs; whnf) (lt_of_ble rfl)
    refine Wk.nil ?_
    refine AW.cond rfl (fun _ => ?_) (fun hc => by cases hc)
    refine AW.seq ?_
    apply AW.list
    apply Wk.fad 6 0 false fd28_5 rfl (lt_of_ble rfl)
    apply Wk.sto (i := 4) 1 false ty4 rfl rfl rfl rfl (Nat.le_of_ble_eq_true rfl) (lt_of_ble rfl)
    refine Wk.nil ?_
    refine AW.seq ?_
    apply AW.list
    apply Wk.ld (i := 4) 7 true ty28 rfl rfl (by conv => lhs; whnf) (lt_of_ble rfl)
    apply Wk.lst 39 1 false [.slice none 0 0] un33 ty22 ze22 rfl rfl (by rfl) (by rfl) (by decide) (by decide) rfl rfl (all_len rfl) (lt_of_ble rfl)
    apply Wk.sto (i := 6) 7 true ty28 rfl rfl rfl rfl (Nat.le_of_ble_eq_true rfl) (lt_of_ble rfl)
    apply Wk.asg (by conv => lhs; whnf) (lt_of_ble rfl)
    refine Wk.nil ?_
    refine thenA_normal ?_
    refine AW.thaw (t := 7) (i := 39) [] rfl rfl rfl hX.none ?_
    refine AW.ret (thenA_ret ?_)
    exact RetQ.ret [] (.cons ⟨6, 0, _, _, _, rfl, rfl, ty28, rfl⟩ (.cons rfl .nil)) ⟨rfl, rfl⟩ none_kept
set_option maxHeartbeats 2000000 in
set_option maxRecDepth 100000 in
theorem stakeB_ok (e c m : Int) (bs : List (Fin 256)) (a u d : Bool) (m0 w0 s0 t0 y0 : Int) (k s k2 : Int) (p f : Bool) (y g l : Int) (fs : List (Fin 256)) (h : ¬ (t0 < l ∨ s0 < (fs.length : Int) ∨ c = 9999)) (hj : joinB m bs.length = true) (hp : pieceB g l fs.length = true) (hC : putC m bs.length g fs.length = 3) : DataOk Try.prog 76 [cfgA m0 w0 s0 t0 y0, rxA e c m bs a u d, frmA k s k2 p f y g l fs] (.tup [rxA e c 0 [] a u true, .d (sdR none)]) := by
  refine Spec.intro (n := 71) (rv := [.cell 6 28, .tmp 7]) Try.func76 rfl rfl rfl (by simp) fun C hN hX => ?_
  refine AW.seq ?_
  apply AW.list
  apply Wk.bx 3 rfl rfl (lt_of_ble rfl)
  apply Wk.bx 4 rfl rfl (lt_of_ble rfl)
  apply Wk.bx 5 rfl rfl (lt_of_ble rfl)
  apply Wk.alc 6 [.int .i64 0, .int .i64 0, .int .i64 0, .slice none 0 0, .bool false, .bool false, .bool false] ze28 rfl rfl (lt_of_ble rfl)
  apply Wk.asg (by conv => lhs; whnf) (lt_of_ble rfl)
  refine Wk.nil ?_
  refine AW.seq ?_
  apply AW.list
  apply Wk.fad 6 0 false fd30_6 rfl (lt_of_ble rfl)
  apply Wk.ld (i := 5) 1 false ty3 rfl rfl (by conv => lhs; whnf) (lt_of_ble rfl)
  apply Wk.fad 7 0 false fd30_7 rfl (lt_of_ble rfl)
  apply Wk.ld (i := 5) 1 false ty3 rfl rfl (by conv => lhs; whnf) (lt_of_ble rfl)
  apply Wk.fad 8 0 false fd30_8 rfl (lt_of_ble rfl)
  apply Wk.ld (i := 5) 1 false ty22 rfl rfl (by conv => lhs; whnf) (lt_of_ble rfl)
  apply Wk.bld [.int .i64 0, .int .i64 0, .slice none 0 0] [(0, 1), (1, 1), (2, 1)] bl48 rfl (by conv => lhs; whnf) (lt_of_ble rfl)
  apply Wk.alc 8 [.int .i64 0, .int .i64 0, .slice none 0 0] ze48 rfl rfl (lt_of_ble rfl)
  apply Wk.sto (i := 8) 3 true ty48 rfl rfl rfl rfl (Nat.le_of_ble_eq_true rfl) (lt_of_ble rfl)
  refine Wk.nil ?_
  refine AW.seq (AW.seq ?_)
  have hl1 := joinB_small hj
  have hl2 := pieceB_small hp
  apply AW.list
  apply Wk.fad 7 0 false fd30_7 rfl (lt_of_ble rfl)
  apply Wk.ld (i := 5) 1 false ty3 rfl rfl (by conv => lhs; whnf) (lt_of_ble rfl)
  apply Wk.fad 3 0 false fd24_3 rfl (lt_of_ble rfl)
  apply Wk.ld (i := 3) 1 false ty3 rfl rfl (by conv => lhs; whnf) (lt_of_ble rfl)
  apply Wk.bin rfl rfl (r := .bool false) (fun w => by simp [go_sem]; omega) (lt_of_ble rfl)
  apply Wk.mv (by conv => lhs; whnf) (lt_of_ble rfl)
  apply Wk.gon 24 rfl rfl
  apply Wk.fad 8 0 false fd30_8 rfl (lt_of_ble rfl)
  apply Wk.gon 24 rfl rfl
  apply Wk.ld (i := 5) 1 false ty22 rfl rfl (by conv => lhs; whnf) (lt_of_ble rfl)
  apply Wk.gon 24 rfl rfl
  apply Wk.len un22 rfl (lt_of_ble rfl)
  apply Wk.gon 24 rfl rfl
  apply Wk.fad 2 0 false fd24_2 rfl (lt_of_ble rfl)
  apply Wk.gon 24 rfl rfl
  apply Wk.ld (i := 3) 1 false ty3 rfl rfl (by conv => lhs; whnf) (lt_of_ble rfl)
  apply Wk.gon 24 rfl rfl
  apply Wk.bin rfl rfl (r := .bool false) (fun w => by simp [go_sem]; omega) (lt_of_ble rfl)
  apply Wk.pckF rfl (by conv => lhs; whnf) (lt_of_ble rfl)
  apply Wk.mv (by conv => lhs; whnf) (lt_of_ble rfl)
  apply Wk.gon 32 rfl rfl
  apply Wk.fad 1 0 false fd28_1 rfl (lt_of_ble rfl)
  apply Wk.gon 32 rfl rfl
  apply Wk.ld (i := 4) 1 false ty3 rfl rfl (by conv => lhs; whnf) (lt_of_ble rfl)
  apply Wk.gon 32 rfl rfl
  apply Wk.bin rfl rfl (r := .bool false) (fun w => by simp [go_sem]; omega) (lt_of_ble rfl)
  apply Wk.pckF rfl (by conv => lhs; whnf) (lt_of_ble rfl)
  refine Wk.nil ?_
  refine AW.cond rfl (fun hc => by cases hc) (fun _ => AW.skip (thenA_normal ?_))
  refine AW.seq ?_
  apply AW.list
  apply Wk.fad 2 1 true fd28_2 rfl (lt_of_ble rfl)
  apply Wk.ld (i := 4) 2 true ty26 rfl rfl (by conv => lhs; whnf) (lt_of_ble rfl)
  apply Wk.ld (i := 8) 3 true ty48 rfl rfl (by conv => lhs; whnf) (lt_of_ble rfl)
  apply Wk.dat (sl4b m bs g l fs hj hp (putA4_bad hj hp hC)) Try.func82 rfl rfl rfl rfl rfl (lt_of_ble rfl)
  apply Wk.mv (by conv => lhs; whnf) (lt_of_ble rfl)
  apply Wk.ext rfl rfl (lt_of_ble rfl)
  apply Wk.ext rfl rfl (lt_of_ble rfl)
  apply Wk.ext rfl rfl (lt_of_ble rfl)
  apply Wk.alc 9 [.int .i64 0, .slice none 0 0] ze26 rfl rfl (lt_of_ble rfl)
  apply Wk.sto (i := 9) 2 true ty26 rfl rfl rfl rfl (Nat.le_of_ble_eq_true rfl) (lt_of_ble rfl)
  apply Wk.asg (by conv => lhs; whnf) (lt_of_ble rfl)
  apply Wk.asg (by conv => lhs; whnf) (lt_of_ble rfl)
  refine Wk.nil ?_
  refine AW.seq ?_
  apply AW.list
  apply Wk.ld (i := 9) 2 true ty26 rfl rfl (by conv => lhs; whnf) (lt_of_ble rfl)
  apply Wk.fad 2 1 true fd28_2 rfl (lt_of_ble rfl)
  apply Wk.sto (i := 4) 2 true ty26 rfl rfl rfl rfl (Nat.le_of_ble_eq_true rfl) (lt_of_ble rfl)
  refine Wk.nil ?_
  refine AW.seq (AW.seq ?_)
  apply AW.list
  apply Wk.mv (by conv => lhs; whnf) (lt_of_ble rfl)
  apply Wk.bin rfl rfl (fun w => by simp [go_sem] <;> rfl) (lt_of_ble rfl)
  refine Wk.nil ?_
  refine AW.cond rfl (fun _ => ?_) (fun hc => by cases hc)
  refine AW.seq ?_
  apply AW.list
  apply Wk.fad 6 0 false fd28_5 rfl (lt_of_ble rfl)
  apply Wk.sto (i := 4) 1 false ty4 rfl rfl rfl rfl (Nat.le_of_ble_eq_true rfl) (lt_of_ble rfl)
  refine Wk.nil ?_
  refine AW.seq ?_
  apply AW.list
  apply Wk.ld (i := 4) 7 true ty28 rfl rfl (by conv => lhs; whnf) (lt_of_ble rfl)
  apply Wk.lst 54 1 false [.slice none 0 0] un33 ty22 ze22 rfl rfl (by rfl) (by rfl) (by decide) (by decide) rfl rfl (all_len rfl) (lt_of_ble rfl)
  apply Wk.sto (i := 6) 7 true ty28 rfl rfl rfl rfl (Nat.le_of_ble_eq_true rfl) (lt_of_ble rfl)
  apply Wk.asg (by conv => lhs; whnf) (lt_of_ble rfl)
  refine Wk.nil ?_
  refine thenA_normal ?_
  refine AW.thaw (t := 7) (i := 54) [] rfl rfl rfl hX.none ?_
  refine AW.ret (thenA_ret ?_)
  exact RetQ.ret [] (.cons ⟨6, 0, _, _, _, rfl, rfl, ty28, rfl⟩ (.cons rfl .nil)) ⟨rfl, rfl⟩ none_kept
set_option maxHeartbeats 2000000 in
set_option maxRecDepth 100000 in
theorem stakeA_ok (e c m : Int) (bs : List (Fin 256)) (a u d : Bool) (m0 w0 s0 t0 y0 : Int) (k s k2 : Int) (p f : Bool) (y g l : Int) (fs : List (Fin 256)) (h : ¬ (t0 < l ∨ s0 < (fs.length : Int) ∨ c = 9999)) (hj : joinB m bs.length = true) (hp : pieceB g l fs.length = true) (hC : putC m bs.length g fs.length = 2) (hc0 : 0 ≤ c) (hc1 : c ≤ 9999) (he0 : 0 ≤ e) (he1 : e ≤ 7) : DataOk Try.prog 76 [cfgA m0 w0 s0 t0 y0, rxA e c m bs a u d, frmA k s k2 p f y g l fs] (.tup [rxA ((e + 1) % 8) (c + 1) 0 [] false u d, .d (sdR (some (bs ++ fs)))]) := by
  refine Spec.intro (n := 71) (rv := [.cell 6 28, .tmp 7]) Try.func76 rfl rfl rfl (by simp) fun C hN hX => ?_
  refine AW.seq ?_
  apply AW.list
  apply Wk.bx 3 rfl rfl (lt_of_ble rfl)
  apply Wk.bx 4 rfl rfl (lt_of_ble rfl)
  apply Wk.bx 5 rfl rfl (lt_of_ble rfl)
  apply Wk.alc 6 [.int .i64 0, .int .i64 0, .int .i64 0, .slice none 0 0, .bool false, .bool false, .bool false] ze28 rfl rfl (lt_of_ble rfl)
  apply Wk.asg (by conv => lhs; whnf) (lt_of_ble rfl)
  refine Wk.nil ?_
  refine AW.seq ?_
  apply AW.list
  apply Wk.fad 6 0 false fd30_6 rfl (lt_of_ble rfl)
  apply Wk.ld (i := 5) 1 false ty3 rfl rfl (by conv => lhs; whnf) (lt_of_ble rfl)
  apply Wk.fad 7 0 false fd30_7 rfl (lt_of_ble rfl)
  apply Wk.ld (i := 5) 1 false ty3 rfl rfl (by conv => lhs; whnf) (lt_of_ble rfl)
  apply Wk.fad 8 0 false fd30_8 rfl (lt_of_ble rfl)
  apply Wk.ld (i := 5) 1 false ty22 rfl rfl (by conv => lhs; whnf) (lt_of_ble rfl)
  apply Wk.bld [.int .i64 0, .int .i64 0, .slice none 0 0] [(0, 1), (1, 1), (2, 1)] bl48 rfl (by conv => lhs; whnf) (lt_of_ble rfl)
  apply Wk.alc 8 [.int .i64 0, .int .i64 0, .slice none 0 0] ze48 rfl rfl (lt_of_ble rfl)
  apply Wk.sto (i := 8) 3 true ty48 rfl rfl rfl rfl (Nat.le_of_ble_eq_true rfl) (lt_of_ble rfl)
  refine Wk.nil ?_
  refine AW.seq (AW.seq ?_)
  have hl1 := joinB_small hj
  have hl2 := pieceB_small hp
  apply AW.list
  apply Wk.fad 7 0 false fd30_7 rfl (lt_of_ble rfl)
  apply Wk.ld (i := 5) 1 false ty3 rfl rfl (by conv => lhs; whnf) (lt_of_ble rfl)
  apply Wk.fad 3 0 false fd24_3 rfl (lt_of_ble rfl)
  apply Wk.ld (i := 3) 1 false ty3 rfl rfl (by conv => lhs; whnf) (lt_of_ble rfl)
  apply Wk.bin rfl rfl (r := .bool false) (fun w => by simp [go_sem]; omega) (lt_of_ble rfl)
  apply Wk.mv (by conv => lhs; whnf) (lt_of_ble rfl)
  apply Wk.gon 24 rfl rfl
  apply Wk.fad 8 0 false fd30_8 rfl (lt_of_ble rfl)
  apply Wk.gon 24 rfl rfl
  apply Wk.ld (i := 5) 1 false ty22 rfl rfl (by conv => lhs; whnf) (lt_of_ble rfl)
  apply Wk.gon 24 rfl rfl
  apply Wk.len un22 rfl (lt_of_ble rfl)
  apply Wk.gon 24 rfl rfl
  apply Wk.fad 2 0 false fd24_2 rfl (lt_of_ble rfl)
  apply Wk.gon 24 rfl rfl
  apply Wk.ld (i := 3) 1 false ty3 rfl rfl (by conv => lhs; whnf) (lt_of_ble rfl)
  apply Wk.gon 24 rfl rfl
  apply Wk.bin rfl rfl (r := .bool false) (fun w => by simp [go_sem]; omega) (lt_of_ble rfl)
  apply Wk.pckF rfl (by conv => lhs; whnf) (lt_of_ble rfl)
  apply Wk.mv (by conv => lhs; whnf) (lt_of_ble rfl)
  apply Wk.gon 32 rfl rfl
  apply Wk.fad 1 0 false fd28_1 rfl (lt_of_ble rfl)
  apply Wk.gon 32 rfl rfl
  apply Wk.ld (i := 4) 1 false ty3 rfl rfl (by conv => lhs; whnf) (lt_of_ble rfl)
  apply Wk.gon 32 rfl rfl
  apply Wk.bin rfl rfl (r := .bool false) (fun w => by simp [go_sem]; omega) (lt_of_ble rfl)
  apply Wk.pckF rfl (by conv => lhs; whnf) (lt_of_ble rfl)
  refine Wk.nil ?_
  refine AW.cond rfl (fun hc => by cases hc) (fun _ => AW.skip (thenA_normal ?_))
  refine AW.seq ?_
  apply AW.list
  apply Wk.fad 2 1 true fd28_2 rfl (lt_of_ble rfl)
  apply Wk.ld (i := 4) 2 true ty26 rfl rfl (by conv => lhs; whnf) (lt_of_ble rfl)
  apply Wk.ld (i := 8) 3 true ty48 rfl rfl (by conv => lhs; whnf) (lt_of_ble rfl)
  apply Wk.dat (sl4b m bs g l fs hj hp (putA4_all hj hp hC)) Try.func82 rfl rfl rfl rfl rfl (lt_of_ble rfl)
  apply Wk.mv (by conv => lhs; whnf) (lt_of_ble rfl)
  apply Wk.ext rfl rfl (lt_of_ble rfl)
  apply Wk.ext rfl rfl (lt_of_ble rfl)
  apply Wk.ext rfl rfl (lt_of_ble rfl)
  apply Wk.alc 9 [.int .i64 0, .slice none 0 0] ze26 rfl rfl (lt_of_ble rfl)
  apply Wk.sto (i := 9) 2 true ty26 rfl rfl rfl rfl (Nat.le_of_ble_eq_true rfl) (lt_of_ble rfl)
  apply Wk.asg (by conv => lhs; whnf) (lt_of_ble rfl)
  apply Wk.asg (by conv => lhs; whnf) (lt_of_ble rfl)
  refine Wk.nil ?_
  refine AW.seq ?_
  apply AW.list
  apply Wk.ld (i := 9) 2 true ty26 rfl rfl (by conv => lhs; whnf) (lt_of_ble rfl)
  apply Wk.fad 2 1 true fd28_2 rfl (lt_of_ble rfl)
  apply Wk.sto (i := 4) 2 true ty26 rfl rfl rfl rfl (Nat.le_of_ble_eq_true rfl) (lt_of_ble rfl)
  refine Wk.nil ?_
  refine AW.seq (AW.seq ?_)
  apply AW.list
  apply Wk.mv (by conv => lhs; whnf) (lt_of_ble rfl)
  apply Wk.bin rfl rfl (fun w => by simp [go_sem] <;> rfl) (lt_of_ble rfl)
  refine Wk.nil ?_
  refine AW.cond rfl (fun hc => by cases hc) (fun _ => AW.skip (thenA_normal ?_))
  refine AW.seq ?_
  apply AW.list
  apply Wk.fad 0 0 false fd28_0 rfl (lt_of_ble rfl)
  apply Wk.ld (i := 4) 1 false ty3 rfl rfl (by conv => lhs; whnf) (lt_of_ble rfl)
  apply Wk.dat (snext_ok e (by omega)) Try.func54 rfl rfl rfl rfl rfl (lt_of_ble rfl)
  apply Wk.fad 0 0 false fd28_0 rfl (lt_of_ble rfl)
  apply Wk.sto (i := 4) 1 false ty3 rfl rfl rfl rfl (Nat.le_of_ble_eq_true rfl) (lt_of_ble rfl)
  refine Wk.nil ?_
  refine AW.seq ?_
  apply AW.list
  apply Wk.fad 1 0 false fd28_1 rfl (lt_of_ble rfl)
  apply Wk.ld (i := 4) 1 false ty3 rfl rfl (by conv => lhs; whnf) (lt_of_ble rfl)
  apply Wk.addi rfl rfl (by omega) (lt_of_ble rfl)
  apply Wk.fad 1 0 false fd28_1 rfl (lt_of_ble rfl)
  apply Wk.sto (i := 4) 1 false ty3 rfl rfl rfl rfl (Nat.le_of_ble_eq_true rfl) (lt_of_ble rfl)
  refine Wk.nil ?_
  refine AW.seq ?_
  apply AW.list
  apply Wk.fad 4 0 false fd28_3 rfl (lt_of_ble rfl)
  apply Wk.sto (i := 4) 1 false ty4 rfl rfl rfl rfl (Nat.le_of_ble_eq_true rfl) (lt_of_ble rfl)
  refine Wk.nil ?_
  refine AW.seq (AW.seq ?_)
  apply AW.list
  apply Wk.mv (by conv => lhs; whnf) (lt_of_ble rfl)
  apply Wk.bin rfl rfl (fun w => by simp [go_sem] <;> rfl) (lt_of_ble rfl)
  refine Wk.nil ?_
  refine AW.cond rfl (fun _ => ?_) (fun hc => by cases hc)
  refine AW.seq ?_
  apply AW.list
  apply Wk.ld (i := 4) 7 true ty28 rfl rfl (by conv => lhs; whnf) (lt_of_ble rfl)
  apply Wk.mv (by conv => lhs; whnf) (lt_of_ble rfl)
  apply Wk.lst 68 1 false [.slice none 0 0] un33 ty22 ze22 rfl rfl (by rfl) (by rfl) (by decide) (by decide) rfl rfl (all_len rfl) (lt_of_ble rfl)
  apply Wk.sto (i := 6) 7 true ty28 rfl rfl rfl rfl (Nat.le_of_ble_eq_true rfl) (lt_of_ble rfl)
  apply Wk.asg (by conv => lhs; whnf) (lt_of_ble rfl)
  refine Wk.nil ?_
  refine thenA_normal ?_
  refine AW.thaw (t := 7) (i := 68) [[fbytes (bs ++ fs)]] rfl rfl rfl hX.none ?_
  refine AW.ret (thenA_ret ?_)
  exact RetQ.ret [] (.cons ⟨6, 0, _, _, _, rfl, rfl, ty28, rfl⟩ (.cons rfl .nil)) ⟨rfl, rfl⟩ none_kept
set_option maxHeartbeats 2000000 in
set_option maxRecDepth 100000 in
theorem stakeM_ok (e c m : Int) (bs : List (Fin 256)) (a u d : Bool) (m0 w0 s0 t0 y0 : Int) (k s k2 : Int) (p f : Bool) (y g l : Int) (fs : List (Fin 256)) (h : ¬ (t0 < l ∨ s0 < (fs.length : Int) ∨ c = 9999)) (hj : joinB m bs.length = true) (hp : pieceB g l fs.length = true) (hC : putC m bs.length g fs.length = 1) (hc0 : 0 ≤ c) (hc1 : c ≤ 9999) (he0 : 0 ≤ e) (he1 : e ≤ 7) : DataOk Try.prog 76 [cfgA m0 w0 s0 t0 y0, rxA e c m bs a u d, frmA k s k2 p f y g l fs] (.tup [rxA ((e + 1) % 8) (c + 1) (if m = 0 then l else m) (bs ++ fs) false u d, .d (sdR none)]) := by
  refine Spec.intro (n := 71) (rv := [.cell 6 28, .tmp 7]) Try.func76 rfl rfl rfl (by simp) fun C hN hX => ?_
  refine AW.seq ?_
  apply AW.list
  apply Wk.bx 3 rfl rfl (lt_of_ble rfl)
  apply Wk.bx 4 rfl rfl (lt_of_ble rfl)
  apply Wk.bx 5 rfl rfl (lt_of_ble rfl)
  apply Wk.alc 6 [.int .i64 0, .int .i64 0, .int .i64 0, .slice none 0 0, .bool false, .bool false, .bool false] ze28 rfl rfl (lt_of_ble rfl)
  apply Wk.asg (by conv => lhs; whnf) (lt_of_ble rfl)
  refine Wk.nil ?_
  refine AW.seq ?_
  apply AW.list
  apply Wk.fad 6 0 false fd30_6 rfl (lt_of_ble rfl)
  apply Wk.ld (i := 5) 1 false ty3 rfl rfl (by conv => lhs; whnf) (lt_of_ble rfl)
  apply Wk.fad 7 0 false fd30_7 rfl (lt_of_ble rfl)
  apply Wk.ld (i := 5) 1 false ty3 rfl rfl (by conv => lhs; whnf) (lt_of_ble rfl)
  apply Wk.fad 8 0 false fd30_8 rfl (lt_of_ble rfl)
  apply Wk.ld (i := 5) 1 false ty22 rfl rfl (by conv => lhs; whnf) (lt_of_ble rfl)
  apply Wk.bld [.int .i64 0, .int .i64 0, .slice none 0 0] [(0, 1), (1, 1), (2, 1)] bl48 rfl (by conv => lhs; whnf) (lt_of_ble rfl)
  apply Wk.alc 8 [.int .i64 0, .int .i64 0, .slice none 0 0] ze48 rfl rfl (lt_of_ble rfl)
  apply Wk.sto (i := 8) 3 true ty48 rfl rfl rfl rfl (Nat.le_of_ble_eq_true rfl) (lt_of_ble rfl)
  refine Wk.nil ?_
  refine AW.seq (AW.seq ?_)
  have hl1 := joinB_small hj
  have hl2 := pieceB_small hp
  apply AW.list
  apply Wk.fad 7 0 false fd30_7 rfl (lt_of_ble rfl)
  apply Wk.ld (i := 5) 1 false ty3 rfl rfl (by conv => lhs; whnf) (lt_of_ble rfl)
  apply Wk.fad 3 0 false fd24_3 rfl (lt_of_ble rfl)
  apply Wk.ld (i := 3) 1 false ty3 rfl rfl (by conv => lhs; whnf) (lt_of_ble rfl)
  apply Wk.bin rfl rfl (r := .bool false) (fun w => by simp [go_sem]; omega) (lt_of_ble rfl)
  apply Wk.mv (by conv => lhs; whnf) (lt_of_ble rfl)
  apply Wk.gon 24 rfl rfl
  apply Wk.fad 8 0 false fd30_8 rfl (lt_of_ble rfl)
  apply Wk.gon 24 rfl rfl
  apply Wk.ld (i := 5) 1 false ty22 rfl rfl (by conv => lhs; whnf) (lt_of_ble rfl)
  apply Wk.gon 24 rfl rfl
  apply Wk.len un22 rfl (lt_of_ble rfl)
  apply Wk.gon 24 rfl rfl
  apply Wk.fad 2 0 false fd24_2 rfl (lt_of_ble rfl)
  apply Wk.gon 24 rfl rfl
  apply Wk.ld (i := 3) 1 false ty3 rfl rfl (by conv => lhs; whnf) (lt_of_ble rfl)
  apply Wk.gon 24 rfl rfl
  apply Wk.bin rfl rfl (r := .bool false) (fun w => by simp [go_sem]; omega) (lt_of_ble rfl)
  apply Wk.pckF rfl (by conv => lhs; whnf) (lt_of_ble rfl)
  apply Wk.mv (by conv => lhs; whnf) (lt_of_ble rfl)
  apply Wk.gon 32 rfl rfl
  apply Wk.fad 1 0 false fd28_1 rfl (lt_of_ble rfl)
  apply Wk.gon 32 rfl rfl
  apply Wk.ld (i := 4) 1 false ty3 rfl rfl (by conv => lhs; whnf) (lt_of_ble rfl)
  apply Wk.gon 32 rfl rfl
  apply Wk.bin rfl rfl (r := .bool false) (fun w => by simp [go_sem]; omega) (lt_of_ble rfl)
  apply Wk.pckF rfl (by conv => lhs; whnf) (lt_of_ble rfl)
  refine Wk.nil ?_
  refine AW.cond rfl (fun hc => by cases hc) (fun _ => AW.skip (thenA_normal ?_))
  refine AW.seq ?_
  apply AW.list
  apply Wk.fad 2 1 true fd28_2 rfl (lt_of_ble rfl)
  apply Wk.ld (i := 4) 2 true ty26 rfl rfl (by conv => lhs; whnf) (lt_of_ble rfl)
  apply Wk.ld (i := 8) 3 true ty48 rfl rfl (by conv => lhs; whnf) (lt_of_ble rfl)
  apply Wk.dat (sl4b m bs g l fs hj hp (putA4_more hj hp hC)) Try.func82 rfl rfl rfl rfl rfl (lt_of_ble rfl)
  apply Wk.mv (by conv => lhs; whnf) (lt_of_ble rfl)
  apply Wk.ext rfl rfl (lt_of_ble rfl)
  apply Wk.ext rfl rfl (lt_of_ble rfl)
  apply Wk.ext rfl rfl (lt_of_ble rfl)
  apply Wk.alc 9 [.int .i64 0, .slice none 0 0] ze26 rfl rfl (lt_of_ble rfl)
  apply Wk.sto (i := 9) 2 true ty26 rfl rfl rfl rfl (Nat.le_of_ble_eq_true rfl) (lt_of_ble rfl)
  apply Wk.asg (by conv => lhs; whnf) (lt_of_ble rfl)
  apply Wk.asg (by conv => lhs; whnf) (lt_of_ble rfl)
  refine Wk.nil ?_
  refine AW.seq ?_
  apply AW.list
  apply Wk.ld (i := 9) 2 true ty26 rfl rfl (by conv => lhs; whnf) (lt_of_ble rfl)
  apply Wk.fad 2 1 true fd28_2 rfl (lt_of_ble rfl)
  apply Wk.sto (i := 4) 2 true ty26 rfl rfl rfl rfl (Nat.le_of_ble_eq_true rfl) (lt_of_ble rfl)
  refine Wk.nil ?_
  refine AW.seq (AW.seq ?_)
  apply AW.list
  apply Wk.mv (by conv => lhs; whnf) (lt_of_ble rfl)
  apply Wk.bin rfl rfl (fun w => by simp [go_sem] <;> rfl) (lt_of_ble rfl)
  refine Wk.nil ?_
  refine AW.cond rfl (fun hc => by cases hc) (fun _ => AW.skip (thenA_normal ?_))
  refine AW.seq ?_
  apply AW.list
  apply Wk.fad 0 0 false fd28_0 rfl (lt_of_ble rfl)
  apply Wk.ld (i := 4) 1 false ty3 rfl rfl (by conv => lhs; whnf) (lt_of_ble rfl)
  apply Wk.dat (snext_ok e (by omega)) Try.func54 rfl rfl rfl rfl rfl (lt_of_ble rfl)
  apply Wk.fad 0 0 false fd28_0 rfl (lt_of_ble rfl)
  apply Wk.sto (i := 4) 1 false ty3 rfl rfl rfl rfl (Nat.le_of_ble_eq_true rfl) (lt_of_ble rfl)
  refine Wk.nil ?_
  refine AW.seq ?_
  apply AW.list
  apply Wk.fad 1 0 false fd28_1 rfl (lt_of_ble rfl)
  apply Wk.ld (i := 4) 1 false ty3 rfl rfl (by conv => lhs; whnf) (lt_of_ble rfl)
  apply Wk.addi rfl rfl (by omega) (lt_of_ble rfl)
  apply Wk.fad 1 0 false fd28_1 rfl (lt_of_ble rfl)
  apply Wk.sto (i := 4) 1 false ty3 rfl rfl rfl rfl (Nat.le_of_ble_eq_true rfl) (lt_of_ble rfl)
  refine Wk.nil ?_
  refine AW.seq ?_
  apply AW.list
  apply Wk.fad 4 0 false fd28_3 rfl (lt_of_ble rfl)
  apply Wk.sto (i := 4) 1 false ty4 rfl rfl rfl rfl (Nat.le_of_ble_eq_true rfl) (lt_of_ble rfl)
  refine Wk.nil ?_
  refine AW.seq (AW.seq ?_)
  apply AW.list
  apply Wk.mv (by conv => lhs; whnf) (lt_of_ble rfl)
  apply Wk.bin rfl rfl (fun w => by simp [go_sem] <;> rfl) (lt_of_ble rfl)
  refine Wk.nil ?_
  refine AW.cond rfl (fun hc => by cases hc) (fun _ => AW.skip (thenA_normal ?_))
  refine AW.seq ?_
  apply AW.list
  apply Wk.ld (i := 4) 7 true ty28 rfl rfl (by conv => lhs; whnf) (lt_of_ble rfl)
  apply Wk.lst 70 1 false [.slice none 0 0] un33 ty22 ze22 rfl rfl (by rfl) (by rfl) (by decide) (by decide) rfl rfl (all_len rfl) (lt_of_ble rfl)
  apply Wk.sto (i := 6) 7 true ty28 rfl rfl rfl rfl (Nat.le_of_ble_eq_true rfl) (lt_of_ble rfl)
  apply Wk.asg (by conv => lhs; whnf) (lt_of_ble rfl)
  refine Wk.nil ?_
  refine AW.thaw (t := 7) (i := 70) [] rfl rfl rfl hX.none ?_
  refine AW.ret ?_
  exact RetQ.ret [] (.cons ⟨6, 0, _, _, _, rfl, rfl, ty28, rfl⟩ (.cons rfl .nil)) ⟨rfl, rfl⟩ none_kept
set_option maxHeartbeats 2000000 in
set_option maxRecDepth 100000 in
theorem sdataB_ok (e c m : Int) (bs : List (Fin 256)) (a d : Bool) (m0 w0 s0 t0 y0 : Int) (s k2 : Int) (p f : Bool) (y g l : Int) (fs : List (Fin 256))  : DataOk Try.prog 63 [cfgA m0 w0 s0 t0 y0, rxA e c m bs a true d, frmA 1 s k2 p f y g l fs] (.tup [rxA e c m bs a true d, .d (sdR none), .d (syR (some (e, false, 2)))]) := by
  refine Spec.intro (n := 55) (rv := [.cell 6 28, .tmp 7, .tmp 8]) Try.func63 rfl rfl rfl (by simp) fun C hN hX => ?_
  refine AW.seq ?_
  apply AW.list
  apply Wk.bx 3 rfl rfl (lt_of_ble rfl)
  apply Wk.bx 4 rfl rfl (lt_of_ble rfl)
  apply Wk.bx 5 rfl rfl (lt_of_ble rfl)
  apply Wk.alc 6 [.int .i64 0, .int .i64 0, .int .i64 0, .slice none 0 0, .bool false, .bool false, .bool false] ze28 rfl rfl (lt_of_ble rfl)
  apply Wk.asg (by conv => lhs; whnf) (lt_of_ble rfl)
  apply Wk.asg (by conv => lhs; whnf) (lt_of_ble rfl)
  refine Wk.nil ?_
  refine AW.seq (AW.seq ?_)
  apply AW.list
  apply Wk.fad 5 0 false fd28_4 rfl (lt_of_ble rfl)
  apply Wk.ld (i := 4) 1 false ty4 rfl rfl (by conv => lhs; whnf) (lt_of_ble rfl)
  refine Wk.nil ?_
  refine AW.cond rfl (fun _ => ?_) (fun hc => by cases hc)
  refine AW.seq ?_
  apply AW.draw (hm := hmix) (cs := _)
  · apply Wk.ld (i := 4) 7 true ty28 rfl rfl (by conv => lhs; whnf) (lt_of_ble rfl)
    apply Wk.lst 15 1 false [.slice none 0 0] un33 ty22 ze22 rfl rfl (by rfl) (by rfl) (by decide) (by decide) rfl rfl (all_len rfl) (lt_of_ble rfl)
    apply Wk.ld (i := 4) 7 true ty28 rfl rfl (by conv => lhs; whnf) (lt_of_ble rfl)
    apply Wk.dat (say_ok e c m bs a true d false) Try.func64 rfl rfl rfl rfl rfl (lt_of_ble rfl)
    apply Wk.lst 18 9 true [.int .i64 0, .int .i64 0, .int .i64 0, .bool false, .bool false, .int .i64 0, .int .i64 0, .int .i64 0, .slice none 0 0] un34 ty30 ze30 rfl rfl (by rfl) (by rfl) (by decide) (by decide) rfl rfl (all_len rfl) (lt_of_ble rfl)
    apply Wk.sto (i := 6) 7 true ty28 rfl rfl rfl rfl (Nat.le_of_ble_eq_true rfl) (lt_of_ble rfl)
    apply Wk.asg (by conv => lhs; whnf) (lt_of_ble rfl)
    apply Wk.asg (by conv => lhs; whnf) (lt_of_ble rfl)
    refine Wk.nil ?_
    refine thenA_normal ?_
    refine AW.thaw (t := 7) (i := 15) [] rfl rfl rfl hX.none ?_
    refine AW.thaw (t := 8) (i := 18) [frmD 2 0 e false false 2 0 0 []] rfl rfl rfl hX.none ?_
    refine AW.ret (thenA_ret ?_)
    exact RetQ.ret [] (.cons ⟨6, 0, _, _, _, rfl, rfl, ty28, rfl⟩ (.cons rfl (.cons rfl .nil))) ⟨rfl, rfl⟩ none_kept
  · rfl
  · rfl
set_option maxHeartbeats 2000000 in
set_option maxRecDepth 100000 in
theorem sdataT_ok (e c m : Int) (bs : List (Fin 256)) (a d : Bool) (m0 w0 s0 t0 y0 : Int) (s k2 : Int) (p f : Bool) (y g l : Int) (fs : List (Fin 256)) (he : farF e s = 0) (x' : RX) (sd : Option (List (Fin 256))) (h : DataOk Try.prog 76 [cfgA m0 w0 s0 t0 y0, rxA e c m bs a false d, frmA 1 s k2 p f y g l fs] (.tup [rxA x'.e x'.c x'.m x'.bs x'.a x'.u x'.d, .d (sdR sd)])) : DataOk Try.prog 63 [cfgA m0 w0 s0 t0 y0, rxA e c m bs a false d, frmA 1 s k2 p f y g l fs] (.tup [rxA x'.e x'.c x'.m x'.bs x'.a x'.u x'.d, .d (sdR sd), .d (syR none)]) := by
  refine Spec.intro (n := 55) (rv := [.cell 6 28, .tmp 7, .tmp 8]) Try.func63 rfl rfl rfl (by simp) fun C hN hX => ?_
  refine AW.seq ?_
  apply AW.list
  apply Wk.bx 3 rfl rfl (lt_of_ble rfl)
  apply Wk.bx 4 rfl rfl (lt_of_ble rfl)
  apply Wk.bx 5 rfl rfl (lt_of_ble rfl)
  apply Wk.alc 6 [.int .i64 0, .int .i64 0, .int .i64 0, .slice none 0 0, .bool false, .bool false, .bool false] ze28 rfl rfl (lt_of_ble rfl)
  apply Wk.asg (by conv => lhs; whnf) (lt_of_ble rfl)
  apply Wk.asg (by conv => lhs; whnf) (lt_of_ble rfl)
  refine Wk.nil ?_
  refine AW.seq (AW.seq ?_)
  apply AW.list
  apply Wk.fad 5 0 false fd28_4 rfl (lt_of_ble rfl)
  apply Wk.ld (i := 4) 1 false ty4 rfl rfl (by conv => lhs; whnf) (lt_of_ble rfl)
  refine Wk.nil ?_
  refine AW.cond rfl (fun hc => by cases hc) (fun _ => AW.skip (thenA_normal ?_))
  refine AW.seq ?_
  apply AW.list
  apply Wk.fad 0 0 false fd28_0 rfl (lt_of_ble rfl)
  apply Wk.ld (i := 4) 1 false ty3 rfl rfl (by conv => lhs; whnf) (lt_of_ble rfl)
  apply Wk.fad 1 0 false fd30_1 rfl (lt_of_ble rfl)
  apply Wk.ld (i := 5) 1 false ty3 rfl rfl (by conv => lhs; whnf) (lt_of_ble rfl)
  apply Wk.dat (sfar_ok e s) Try.func75 rfl rfl rfl rfl rfl (lt_of_ble rfl)
  apply Wk.asg (by conv => lhs; whnf) (lt_of_ble rfl)
  refine Wk.nil ?_
  refine AW.seq (AW.seq ?_)
  apply AW.list
  apply Wk.mv (by conv => lhs; whnf) (lt_of_ble rfl)
  apply Wk.bin rfl rfl (r := .bool true) (fun w => by simp [go_sem, he]) (lt_of_ble rfl)
  refine Wk.nil ?_
  refine AW.cond rfl (fun _ => ?_) (fun hc => by cases hc)
  refine AW.seq ?_
  apply AW.list
  apply Wk.ld (i := 3) 5 true ty24 rfl rfl (by conv => lhs; whnf) (lt_of_ble rfl)
  apply Wk.ld (i := 4) 7 true ty28 rfl rfl (by conv => lhs; whnf) (lt_of_ble rfl)
  apply Wk.ld (i := 5) 9 true ty30 rfl rfl (by conv => lhs; whnf) (lt_of_ble rfl)
  apply Wk.dat h Try.func76 rfl rfl rfl rfl rfl (lt_of_ble rfl)
  apply Wk.mv (by conv => lhs; whnf) (lt_of_ble rfl)
  apply Wk.ext rfl rfl (lt_of_ble rfl)
  apply Wk.ext rfl rfl (lt_of_ble rfl)
  apply Wk.alc 10 [.int .i64 0, .int .i64 0, .int .i64 0, .slice none 0 0, .bool false, .bool false, .bool false] ze28 rfl rfl (lt_of_ble rfl)
  apply Wk.sto (i := 10) 7 true ty28 rfl rfl rfl rfl (Nat.le_of_ble_eq_true rfl) (lt_of_ble rfl)
  apply Wk.asg (by conv => lhs; whnf) (lt_of_ble rfl)
  refine Wk.nil ?_
  refine AW.seq ?_
  apply AW.list
  apply Wk.ld (i := 10) 7 true ty28 rfl rfl (by conv => lhs; whnf) (lt_of_ble rfl)
  apply Wk.mv (by conv => lhs; whnf) (lt_of_ble rfl)
  apply Wk.lst 35 9 true [.int .i64 0, .int .i64 0, .int .i64 0, .bool false, .bool false, .int .i64 0, .int .i64 0, .int .i64 0, .slice none 0 0] un34 ty30 ze30 rfl rfl (by rfl) (by rfl) (by decide) (by decide) rfl rfl (all_len rfl) (lt_of_ble rfl)
  apply Wk.sto (i := 6) 7 true ty28 rfl rfl rfl rfl (Nat.le_of_ble_eq_true rfl) (lt_of_ble rfl)
  apply Wk.asg (by conv => lhs; whnf) (lt_of_ble rfl)
  apply Wk.asg (by conv => lhs; whnf) (lt_of_ble rfl)
  refine Wk.nil ?_
  refine thenA_normal ?_
  refine AW.thaw (t := 8) (i := 35) [] rfl rfl rfl hX.none ?_
  refine AW.ret (thenA_ret ?_)
  exact RetQ.ret [] (.cons ⟨6, 0, _, _, _, rfl, rfl, ty28, rfl⟩ (.cons rfl (.cons rfl .nil))) ⟨rfl, rfl⟩ none_kept
set_option maxHeartbeats 2000000 in
set_option maxRecDepth 100000 in
theorem sdata0a_ok (e c m : Int) (bs : List (Fin 256)) (a d : Bool) (m0 w0 s0 t0 y0 : Int) (s k2 : Int) (p f : Bool) (y g l : Int) (fs : List (Fin 256)) (he : ¬ farF e s = 0) (hw : w0 ≤ farF e s) : DataOk Try.prog 63 [cfgA m0 w0 s0 t0 y0, rxA e c m bs a false d, frmA 1 s k2 p f y g l fs] (.tup [rxA e c m bs a false d, .d (sdR none), .d (syR none)]) := by
  refine Spec.intro (n := 55) (rv := [.cell 6 28, .tmp 7, .tmp 8]) Try.func63 rfl rfl rfl (by simp) fun C hN hX => ?_
  refine AW.seq ?_
  apply AW.list
  apply Wk.bx 3 rfl rfl (lt_of_ble rfl)
  apply Wk.bx 4 rfl rfl (lt_of_ble rfl)
  apply Wk.bx 5 rfl rfl (lt_of_ble rfl)
  apply Wk.alc 6 [.int .i64 0, .int .i64 0, .int .i64 0, .slice none 0 0, .bool false, .bool false, .bool false] ze28 rfl rfl (lt_of_ble rfl)
  apply Wk.asg (by conv => lhs; whnf) (lt_of_ble rfl)
  apply Wk.asg (by conv => lhs; whnf) (lt_of_ble rfl)
  refine Wk.nil ?_
  refine AW.seq (AW.seq ?_)
  apply AW.list
  apply Wk.fad 5 0 false fd28_4 rfl (lt_of_ble rfl)
  apply Wk.ld (i := 4) 1 false ty4 rfl rfl (by conv => lhs; whnf) (lt_of_ble rfl)
  refine Wk.nil ?_
  refine AW.cond rfl (fun hc => by cases hc) (fun _ => AW.skip (thenA_normal ?_))
  refine AW.seq ?_
  apply AW.list
  apply Wk.fad 0 0 false fd28_0 rfl (lt_of_ble rfl)
  apply Wk.ld (i := 4) 1 false ty3 rfl rfl (by conv => lhs; whnf) (lt_of_ble rfl)
  apply Wk.fad 1 0 false fd30_1 rfl (lt_of_ble rfl)
  apply Wk.ld (i := 5) 1 false ty3 rfl rfl (by conv => lhs; whnf) (lt_of_ble rfl)
  apply Wk.dat (sfar_ok e s) Try.func75 rfl rfl rfl rfl rfl (lt_of_ble rfl)
  apply Wk.asg (by conv => lhs; whnf) (lt_of_ble rfl)
  refine Wk.nil ?_
  refine AW.seq (AW.seq ?_)
  apply AW.list
  apply Wk.mv (by conv => lhs; whnf) (lt_of_ble rfl)
  apply Wk.bin rfl rfl (r := .bool false) (fun w => by simp [go_sem, he]) (lt_of_ble rfl)
  refine Wk.nil ?_
  refine AW.cond rfl (fun hc => by cases hc) (fun _ => AW.skip (thenA_normal ?_))
  refine AW.seq (AW.seq ?_)
  apply AW.list
  apply Wk.mv (by conv => lhs; whnf) (lt_of_ble rfl)
  apply Wk.fad 1 0 false fd24_1 rfl (lt_of_ble rfl)
  apply Wk.ld (i := 3) 1 false ty3 rfl rfl (by conv => lhs; whnf) (lt_of_ble rfl)
  apply Wk.bin rfl rfl (r := .bool false) (fun w => by simp [go_sem]; omega) (lt_of_ble rfl)
  apply Wk.mv (by conv => lhs; whnf) (lt_of_ble rfl)
  apply Wk.goff 40 (ok_faddr fd28_3) rfl rfl (by decide)
  apply Wk.goff 40 (ok_load 4 ty4) rfl rfl (by decide)
  apply Wk.goff 40 (ok_un _ _ _) rfl rfl (by decide)
  apply Wk.pckF rfl (by conv => lhs; whnf) (lt_of_ble rfl)
  refine Wk.nil ?_
  refine AW.cond rfl (fun hc => by cases hc) (fun _ => AW.skip (thenA_normal ?_))
  refine AW.seq ?_
  apply AW.list
  apply Wk.ld (i := 4) 7 true ty28 rfl rfl (by conv => lhs; whnf) (lt_of_ble rfl)
  apply Wk.lst 53 1 false [.slice none 0 0] un33 ty22 ze22 rfl rfl (by rfl) (by rfl) (by decide) (by decide) rfl rfl (all_len rfl) (lt_of_ble rfl)
  apply Wk.lst 54 9 true [.int .i64 0, .int .i64 0, .int .i64 0, .bool false, .bool false, .int .i64 0, .int .i64 0, .int .i64 0, .slice none 0 0] un34 ty30 ze30 rfl rfl (by rfl) (by rfl) (by decide) (by decide) rfl rfl (all_len rfl) (lt_of_ble rfl)
  apply Wk.sto (i := 6) 7 true ty28 rfl rfl rfl rfl (Nat.le_of_ble_eq_true rfl) (lt_of_ble rfl)
  apply Wk.asg (by conv => lhs; whnf) (lt_of_ble rfl)
  apply Wk.asg (by conv => lhs; whnf) (lt_of_ble rfl)
  refine Wk.nil ?_
  refine AW.thaw (t := 7) (i := 53) [] rfl rfl rfl hX.none ?_
  refine AW.thaw (t := 8) (i := 54) [] rfl rfl rfl hX.none ?_
  refine AW.ret ?_
  exact RetQ.ret [] (.cons ⟨6, 0, _, _, _, rfl, rfl, ty28, rfl⟩ (.cons rfl (.cons rfl .nil))) ⟨rfl, rfl⟩ none_kept
set_option maxHeartbeats 2000000 in
set_option maxRecDepth 100000 in
theorem sdata0b_ok (e c m : Int) (bs : List (Fin 256)) (d : Bool) (m0 w0 s0 t0 y0 : Int) (s k2 : Int) (p f : Bool) (y g l : Int) (fs : List (Fin 256)) (he : ¬ farF e s = 0) (hw : ¬ w0 ≤ farF e s) : DataOk Try.prog 63 [cfgA m0 w0 s0 t0 y0, rxA e c m bs true false d, frmA 1 s k2 p f y g l fs] (.tup [rxA e c m bs true false d, .d (sdR none), .d (syR none)]) := by
  refine Spec.intro (n := 55) (rv := [.cell 6 28, .tmp 7, .tmp 8]) Try.func63 rfl rfl rfl (by simp) fun C hN hX => ?_
  refine AW.seq ?_
  apply AW.list
  apply Wk.bx 3 rfl rfl (lt_of_ble rfl)
  apply Wk.bx 4 rfl rfl (lt_of_ble rfl)
  apply Wk.bx 5 rfl rfl (lt_of_ble rfl)
  apply Wk.alc 6 [.int .i64 0, .int .i64 0, .int .i64 0, .slice none 0 0, .bool false, .bool false, .bool false] ze28 rfl rfl (lt_of_ble rfl)
  apply Wk.asg (by conv => lhs; whnf) (lt_of_ble rfl)
  apply Wk.asg (by conv => lhs; whnf) (lt_of_ble rfl)
  refine Wk.nil ?_
  refine AW.seq (AW.seq ?_)
  apply AW.list
  apply Wk.fad 5 0 false fd28_4 rfl (lt_of_ble rfl)
  apply Wk.ld (i := 4) 1 false ty4 rfl rfl (by conv => lhs; whnf) (lt_of_ble rfl)
  refine Wk.nil ?_
  refine AW.cond rfl (fun hc => by cases hc) (fun _ => AW.skip (thenA_normal ?_))
  refine AW.seq ?_
  apply AW.list
  apply Wk.fad 0 0 false fd28_0 rfl (lt_of_ble rfl)
  apply Wk.ld (i := 4) 1 false ty3 rfl rfl (by conv => lhs; whnf) (lt_of_ble rfl)
  apply Wk.fad 1 0 false fd30_1 rfl (lt_of_ble rfl)
  apply Wk.ld (i := 5) 1 false ty3 rfl rfl (by conv => lhs; whnf) (lt_of_ble rfl)
  apply Wk.dat (sfar_ok e s) Try.func75 rfl rfl rfl rfl rfl (lt_of_ble rfl)
  apply Wk.asg (by conv => lhs; whnf) (lt_of_ble rfl)
  refine Wk.nil ?_
  refine AW.seq (AW.seq ?_)
  apply AW.list
  apply Wk.mv (by conv => lhs; whnf) (lt_of_ble rfl)
  apply Wk.bin rfl rfl (r := .bool false) (fun w => by simp [go_sem, he]) (lt_of_ble rfl)
  refine Wk.nil ?_
  refine AW.cond rfl (fun hc => by cases hc) (fun _ => AW.skip (thenA_normal ?_))
  refine AW.seq (AW.seq ?_)
  apply AW.list
  apply Wk.mv (by conv => lhs; whnf) (lt_of_ble rfl)
  apply Wk.fad 1 0 false fd24_1 rfl (lt_of_ble rfl)
  apply Wk.ld (i := 3) 1 false ty3 rfl rfl (by conv => lhs; whnf) (lt_of_ble rfl)
  apply Wk.bin rfl rfl (r := .bool true) (fun w => by simp [go_sem]; omega) (lt_of_ble rfl)
  apply Wk.mv (by conv => lhs; whnf) (lt_of_ble rfl)
  apply Wk.gon 40 rfl rfl
  apply Wk.fad 4 0 false fd28_3 rfl (lt_of_ble rfl)
  apply Wk.gon 40 rfl rfl
  apply Wk.ld (i := 4) 1 false ty4 rfl rfl (by conv => lhs; whnf) (lt_of_ble rfl)
  apply Wk.gon 40 rfl rfl
  apply Wk.un rfl (fun w => by simp [go_sem] <;> rfl) (lt_of_ble rfl)
  apply Wk.pckT rfl (by conv => lhs; whnf) (lt_of_ble rfl)
  refine Wk.nil ?_
  refine AW.cond rfl (fun hc => by cases hc) (fun _ => AW.skip (thenA_normal ?_))
  refine AW.seq ?_
  apply AW.list
  apply Wk.ld (i := 4) 7 true ty28 rfl rfl (by conv => lhs; whnf) (lt_of_ble rfl)
  apply Wk.lst 53 1 false [.slice none 0 0] un33 ty22 ze22 rfl rfl (by rfl) (by rfl) (by decide) (by decide) rfl rfl (all_len rfl) (lt_of_ble rfl)
  apply Wk.lst 54 9 true [.int .i64 0, .int .i64 0, .int .i64 0, .bool false, .bool false, .int .i64 0, .int .i64 0, .int .i64 0, .slice none 0 0] un34 ty30 ze30 rfl rfl (by rfl) (by rfl) (by decide) (by decide) rfl rfl (all_len rfl) (lt_of_ble rfl)
  apply Wk.sto (i := 6) 7 true ty28 rfl rfl rfl rfl (Nat.le_of_ble_eq_true rfl) (lt_of_ble rfl)
  apply Wk.asg (by conv => lhs; whnf) (lt_of_ble rfl)
  apply Wk.asg (by conv => lhs; whnf) (lt_of_ble rfl)
  refine Wk.nil ?_
  refine AW.thaw (t := 7) (i := 53) [] rfl rfl rfl hX.none ?_
  refine AW.thaw (t := 8) (i := 54) [] rfl rfl rfl hX.none ?_
  refine AW.ret ?_
  exact RetQ.ret [] (.cons ⟨6, 0, _, _, _, rfl, rfl, ty28, rfl⟩ (.cons rfl (.cons rfl .nil))) ⟨rfl, rfl⟩ none_kept
set_option maxHeartbeats 2000000 in
set_option maxRecDepth 100000 in
theorem sdata1_ok (e c m : Int) (bs : List (Fin 256)) (d : Bool) (m0 w0 s0 t0 y0 : Int) (s k2 : Int) (p f : Bool) (y g l : Int) (fs : List (Fin 256)) (he : ¬ farF e s = 0) (hw : ¬ w0 ≤ farF e s) : DataOk Try.prog 63 [cfgA m0 w0 s0 t0 y0, rxA e c m bs false false d, frmA 1 s k2 p f y g l fs] (.tup [rxA e c m bs true false d, .d (sdR none), .d (syR (some (e, false, 1)))]) := by
  refine Spec.intro (n := 55) (rv := [.cell 6 28, .tmp 7, .tmp 8]) Try.func63 rfl rfl rfl (by simp) fun C hN hX => ?_
  refine AW.seq ?_
  apply AW.list
  apply Wk.bx 3 rfl rfl (lt_of_ble rfl)
  apply Wk.bx 4 rfl rfl (lt_of_ble rfl)
  apply Wk.bx 5 rfl rfl (lt_of_ble rfl)
  apply Wk.alc 6 [.int .i64 0, .int .i64 0, .int .i64 0, .slice none 0 0, .bool false, .bool false, .bool false] ze28 rfl rfl (lt_of_ble rfl)
  apply Wk.asg (by conv => lhs; whnf) (lt_of_ble rfl)
  apply Wk.asg (by conv => lhs; whnf) (lt_of_ble rfl)
  refine Wk.nil ?_
  refine AW.seq (AW.seq ?_)
  apply AW.list
  apply Wk.fad 5 0 false fd28_4 rfl (lt_of_ble rfl)
  apply Wk.ld (i := 4) 1 false ty4 rfl rfl (by conv => lhs; whnf) (lt_of_ble rfl)
  refine Wk.nil ?_
  refine AW.cond rfl (fun hc => by cases hc) (fun _ => AW.skip (thenA_normal ?_))
  refine AW.seq ?_
  apply AW.list
  apply Wk.fad 0 0 false fd28_0 rfl (lt_of_ble rfl)
  apply Wk.ld (i := 4) 1 false ty3 rfl rfl (by conv => lhs; whnf) (lt_of_ble rfl)
  apply Wk.fad 1 0 false fd30_1 rfl (lt_of_ble rfl)
  apply Wk.ld (i := 5) 1 false ty3 rfl rfl (by conv => lhs; whnf) (lt_of_ble rfl)
  apply Wk.dat (sfar_ok e s) Try.func75 rfl rfl rfl rfl rfl (lt_of_ble rfl)
  apply Wk.asg (by conv => lhs; whnf) (lt_of_ble rfl)
  refine Wk.nil ?_
  refine AW.seq (AW.seq ?_)
  apply AW.list
  apply Wk.mv (by conv => lhs; whnf) (lt_of_ble rfl)
  apply Wk.bin rfl rfl (r := .bool false) (fun w => by simp [go_sem, he]) (lt_of_ble rfl)
  refine Wk.nil ?_
  refine AW.cond rfl (fun hc => by cases hc) (fun _ => AW.skip (thenA_normal ?_))
  refine AW.seq (AW.seq ?_)
  apply AW.list
  apply Wk.mv (by conv => lhs; whnf) (lt_of_ble rfl)
  apply Wk.fad 1 0 false fd24_1 rfl (lt_of_ble rfl)
  apply Wk.ld (i := 3) 1 false ty3 rfl rfl (by conv => lhs; whnf) (lt_of_ble rfl)
  apply Wk.bin rfl rfl (r := .bool true) (fun w => by simp [go_sem]; omega) (lt_of_ble rfl)
  apply Wk.mv (by conv => lhs; whnf) (lt_of_ble rfl)
  apply Wk.gon 40 rfl rfl
  apply Wk.fad 4 0 false fd28_3 rfl (lt_of_ble rfl)
  apply Wk.gon 40 rfl rfl
  apply Wk.ld (i := 4) 1 false ty4 rfl rfl (by conv => lhs; whnf) (lt_of_ble rfl)
  apply Wk.gon 40 rfl rfl
  apply Wk.un rfl (fun w => by simp [go_sem] <;> rfl) (lt_of_ble rfl)
  apply Wk.pckT rfl (by conv => lhs; whnf) (lt_of_ble rfl)
  refine Wk.nil ?_
  refine AW.cond rfl (fun _ => ?_) (fun hc => by cases hc)
  refine AW.seq ?_
  apply AW.list
  apply Wk.fad 4 0 false fd28_3 rfl (lt_of_ble rfl)
  apply Wk.sto (i := 4) 1 false ty4 rfl rfl rfl rfl (Nat.le_of_ble_eq_true rfl) (lt_of_ble rfl)
  refine Wk.nil ?_
  refine AW.seq ?_
  apply AW.draw (hm := hmix) (cs := _)
  · apply Wk.ld (i := 4) 7 true ty28 rfl rfl (by conv => lhs; whnf) (lt_of_ble rfl)
    apply Wk.lst 47 1 false [.slice none 0 0] un33 ty22 ze22 rfl rfl (by rfl) (by rfl) (by decide) (by decide) rfl rfl (all_len rfl) (lt_of_ble rfl)
    apply Wk.fad 0 0 false fd28_0 rfl (lt_of_ble rfl)
    apply Wk.ld (i := 4) 1 false ty3 rfl rfl (by conv => lhs; whnf) (lt_of_ble rfl)
    apply Wk.bld [.int .i64 0, .int .i64 0, .int .i64 0, .bool false, .bool false, .int .i64 0, .int .i64 0, .int .i64 0, .slice none 0 0] [(0, 1), (1, 1), (2, 1), (3, 1), (4, 1), (5, 1), (6, 1), (7, 1), (8, 1)] bl30 rfl (by conv => lhs; whnf) (lt_of_ble rfl)
    apply Wk.lst 51 9 true [.int .i64 0, .int .i64 0, .int .i64 0, .bool false, .bool false, .int .i64 0, .int .i64 0, .int .i64 0, .slice none 0 0] un34 ty30 ze30 rfl rfl (by rfl) (by rfl) (by decide) (by decide) rfl rfl (all_len rfl) (lt_of_ble rfl)
    apply Wk.sto (i := 6) 7 true ty28 rfl rfl rfl rfl (Nat.le_of_ble_eq_true rfl) (lt_of_ble rfl)
    apply Wk.asg (by conv => lhs; whnf) (lt_of_ble rfl)
    apply Wk.asg (by conv => lhs; whnf) (lt_of_ble rfl)
    refine Wk.nil ?_
    refine thenA_normal ?_
    refine AW.thaw (t := 7) (i := 47) [] rfl rfl rfl hX.none ?_
    refine AW.thaw (t := 8) (i := 51) [frmD 2 0 e false false 1 0 0 []] rfl rfl rfl hX.none ?_
    refine AW.ret (thenA_ret ?_)
    exact RetQ.ret [] (.cons ⟨6, 0, _, _, _, rfl, rfl, ty28, rfl⟩ (.cons rfl (.cons rfl .nil))) ⟨rfl, rfl⟩ none_kept
  · rfl
  · rfl
set_option maxHeartbeats 2000000 in
set_option maxRecDepth 100000 in
theorem shearD_ok (e c m : Int) (bs : List (Fin 256)) (a u : Bool) (m0 w0 s0 t0 y0 : Int) (k s k2 : Int) (p f : Bool) (y g l : Int) (fs : List (Fin 256))  : DataOk Try.prog 35 [cfgA m0 w0 s0 t0 y0, rxA e c m bs a u true, frmA k s k2 p f y g l fs] (.tup [rxA e c m bs a u true, .d (sdR none), .d (syR none)]) := by
  refine Spec.intro (n := 35) (rv := [.cell 6 28, .tmp 7, .tmp 8]) Try.func35 rfl rfl rfl (by simp) fun C hN hX => ?_
  refine AW.seq ?_
  apply AW.list
  apply Wk.bx 3 rfl rfl (lt_of_ble rfl)
  apply Wk.bx 4 rfl rfl (lt_of_ble rfl)
  apply Wk.bx 5 rfl rfl (lt_of_ble rfl)
  apply Wk.alc 6 [.int .i64 0, .int .i64 0, .int .i64 0, .slice none 0 0, .bool false, .bool false, .bool false] ze28 rfl rfl (lt_of_ble rfl)
  apply Wk.asg (by conv => lhs; whnf) (lt_of_ble rfl)
  apply Wk.asg (by conv => lhs; whnf) (lt_of_ble rfl)
  refine Wk.nil ?_
  refine AW.seq (AW.seq ?_)
  apply AW.list
  apply Wk.fad 6 0 false fd28_5 rfl (lt_of_ble rfl)
  apply Wk.ld (i := 4) 1 false ty4 rfl rfl (by conv => lhs; whnf) (lt_of_ble rfl)
  refine Wk.nil ?_
  refine AW.cond rfl (fun _ => ?_) (fun hc => by cases hc)
  refine AW.seq ?_
  apply AW.list
  apply Wk.ld (i := 4) 7 true ty28 rfl rfl (by conv => lhs; whnf) (lt_of_ble rfl)
  apply Wk.lst 12 1 false [.slice none 0 0] un33 ty22 ze22 rfl rfl (by rfl) (by rfl) (by decide) (by decide) rfl rfl (all_len rfl) (lt_of_ble rfl)
  apply Wk.lst 13 9 true [.int .i64 0, .int .i64 0, .int .i64 0, .bool false, .bool false, .int .i64 0, .int .i64 0, .int .i64 0, .slice none 0 0] un34 ty30 ze30 rfl rfl (by rfl) (by rfl) (by decide) (by decide) rfl rfl (all_len rfl) (lt_of_ble rfl)
  apply Wk.sto (i := 6) 7 true ty28 rfl rfl rfl rfl (Nat.le_of_ble_eq_true rfl) (lt_of_ble rfl)
  apply Wk.asg (by conv => lhs; whnf) (lt_of_ble rfl)
  apply Wk.asg (by conv => lhs; whnf) (lt_of_ble rfl)
  refine Wk.nil ?_
  refine thenA_normal ?_
  refine AW.thaw (t := 7) (i := 12) [] rfl rfl rfl hX.none ?_
  refine AW.thaw (t := 8) (i := 13) [] rfl rfl rfl hX.none ?_
  refine AW.ret (thenA_ret ?_)
  exact RetQ.ret [] (.cons ⟨6, 0, _, _, _, rfl, rfl, ty28, rfl⟩ (.cons rfl (.cons rfl .nil))) ⟨rfl, rfl⟩ none_kept
set_option maxHeartbeats 2000000 in
set_option maxRecDepth 100000 in
theorem shear1_ok (e c m : Int) (bs : List (Fin 256)) (a u : Bool) (m0 w0 s0 t0 y0 : Int) (s k2 : Int) (p f : Bool) (y g l : Int) (fs : List (Fin 256)) (x' : RX) (sd : Option (List (Fin 256))) (sy : Option (Int × Bool × Int)) (h : DataOk Try.prog 63 [cfgA m0 w0 s0 t0 y0, rxA e c m bs a u false, frmA 1 s k2 p f y g l fs] (.tup [rxA x'.e x'.c x'.m x'.bs x'.a x'.u x'.d, .d (sdR sd), .d (syR sy)])) : DataOk Try.prog 35 [cfgA m0 w0 s0 t0 y0, rxA e c m bs a u false, frmA 1 s k2 p f y g l fs] (.tup [rxA x'.e x'.c x'.m x'.bs x'.a x'.u x'.d, .d (sdR sd), .d (syR sy)]) := by
  refine Spec.intro (n := 35) (rv := [.cell 6 28, .tmp 7, .tmp 8]) Try.func35 rfl rfl rfl (by simp) fun C hN hX => ?_
  refine AW.seq ?_
  apply AW.list
  apply Wk.bx 3 rfl rfl (lt_of_ble rfl)
  apply Wk.bx 4 rfl rfl (lt_of_ble rfl)
  apply Wk.bx 5 rfl rfl (lt_of_ble rfl)
  apply Wk.alc 6 [.int .i64 0, .int .i64 0, .int .i64 0, .slice none 0 0, .bool false, .bool false, .bool false] ze28 rfl rfl (lt_of_ble rfl)
  apply Wk.asg (by conv => lhs; whnf) (lt_of_ble rfl)
  apply Wk.asg (by conv => lhs; whnf) (lt_of_ble rfl)
  refine Wk.nil ?_
  refine AW.seq (AW.seq ?_)
  apply AW.list
  apply Wk.fad 6 0 false fd28_5 rfl (lt_of_ble rfl)
  apply Wk.ld (i := 4) 1 false ty4 rfl rfl (by conv => lhs; whnf) (lt_of_ble rfl)
  refine Wk.nil ?_
  refine AW.cond rfl (fun hc => by cases hc) (fun _ => AW.skip (thenA_normal ?_))
  refine AW.seq (AW.seq ?_)
  apply AW.list
  apply Wk.fad 0 0 false fd30_0 rfl (lt_of_ble rfl)
  apply Wk.ld (i := 5) 1 false ty3 rfl rfl (by conv => lhs; whnf) (lt_of_ble rfl)
  apply Wk.bin rfl rfl (fun w => by simp [go_sem] <;> rfl) (lt_of_ble rfl)
  refine Wk.nil ?_
  refine AW.cond rfl (fun _ => ?_) (fun hc => by cases hc)
  refine AW.seq ?_
  apply AW.list
  apply Wk.ld (i := 3) 5 true ty24 rfl rfl (by conv => lhs; whnf) (lt_of_ble rfl)
  apply Wk.ld (i := 4) 7 true ty28 rfl rfl (by conv => lhs; whnf) (lt_of_ble rfl)
  apply Wk.ld (i := 5) 9 true ty30 rfl rfl (by conv => lhs; whnf) (lt_of_ble rfl)
  apply Wk.dat h Try.func63 rfl rfl rfl rfl rfl (lt_of_ble rfl)
  apply Wk.ext rfl rfl (lt_of_ble rfl)
  apply Wk.ext rfl rfl (lt_of_ble rfl)
  apply Wk.ext rfl rfl (lt_of_ble rfl)
  apply Wk.sto (i := 6) 7 true ty28 rfl rfl rfl rfl (Nat.le_of_ble_eq_true rfl) (lt_of_ble rfl)
  apply Wk.asg (by conv => lhs; whnf) (lt_of_ble rfl)
  apply Wk.asg (by conv => lhs; whnf) (lt_of_ble rfl)
  refine Wk.nil (AW.ret ?_)
  refine thenA_ret ?_
  exact RetQ.ret [] (.cons ⟨6, 0, _, _, _, rfl, rfl, ty28, rfl⟩ (.cons rfl (.cons rfl .nil))) ⟨rfl, rfl⟩ none_kept
set_option maxHeartbeats 2000000 in
set_option maxRecDepth 100000 in
theorem shearP_ok (e c m : Int) (bs : List (Fin 256)) (a u : Bool) (m0 w0 s0 t0 y0 : Int) (s k2 : Int) (f : Bool) (y g l : Int) (fs : List (Fin 256))  : DataOk Try.prog 35 [cfgA m0 w0 s0 t0 y0, rxA e c m bs a u false, frmA 2 s k2 true f y g l fs] (.tup [rxA e c m bs false u false, .d (sdR none), .d (syR (some (e, true, sayOf u)))]) := by
  refine Spec.intro (n := 35) (rv := [.cell 6 28, .tmp 7, .tmp 8]) Try.func35 rfl rfl rfl (by simp) fun C hN hX => ?_
  refine AW.seq ?_
  apply AW.list
  apply Wk.bx 3 rfl rfl (lt_of_ble rfl)
  apply Wk.bx 4 rfl rfl (lt_of_ble rfl)
  apply Wk.bx 5 rfl rfl (lt_of_ble rfl)
  apply Wk.alc 6 [.int .i64 0, .int .i64 0, .int .i64 0, .slice none 0 0, .bool false, .bool false, .bool false] ze28 rfl rfl (lt_of_ble rfl)
  apply Wk.asg (by conv => lhs; whnf) (lt_of_ble rfl)
  apply Wk.asg (by conv => lhs; whnf) (lt_of_ble rfl)
  refine Wk.nil ?_
  refine AW.seq (AW.seq ?_)
  apply AW.list
  apply Wk.fad 6 0 false fd28_5 rfl (lt_of_ble rfl)
  apply Wk.ld (i := 4) 1 false ty4 rfl rfl (by conv => lhs; whnf) (lt_of_ble rfl)
  refine Wk.nil ?_
  refine AW.cond rfl (fun hc => by cases hc) (fun _ => AW.skip (thenA_normal ?_))
  refine AW.seq (AW.seq ?_)
  apply AW.list
  apply Wk.fad 0 0 false fd30_0 rfl (lt_of_ble rfl)
  apply Wk.ld (i := 5) 1 false ty3 rfl rfl (by conv => lhs; whnf) (lt_of_ble rfl)
  apply Wk.bin rfl rfl (fun w => by simp [go_sem] <;> rfl) (lt_of_ble rfl)
  refine Wk.nil ?_
  refine AW.cond rfl (fun hc => by cases hc) (fun _ => AW.skip (thenA_normal ?_))
  refine AW.seq (AW.seq ?_)
  apply AW.list
  apply Wk.fad 3 0 false fd30_3 rfl (lt_of_ble rfl)
  apply Wk.ld (i := 5) 1 false ty4 rfl rfl (by conv => lhs; whnf) (lt_of_ble rfl)
  refine Wk.nil ?_
  refine AW.cond rfl (fun _ => ?_) (fun hc => by cases hc)
  refine AW.seq ?_
  apply AW.list
  apply Wk.fad 4 0 false fd28_3 rfl (lt_of_ble rfl)
  apply Wk.sto (i := 4) 1 false ty4 rfl rfl rfl rfl (Nat.le_of_ble_eq_true rfl) (lt_of_ble rfl)
  refine Wk.nil ?_
  refine AW.seq ?_
  apply AW.draw (hm := hmix) (cs := _)
  · apply Wk.ld (i := 4) 7 true ty28 rfl rfl (by conv => lhs; whnf) (lt_of_ble rfl)
    apply Wk.lst 28 1 false [.slice none 0 0] un33 ty22 ze22 rfl rfl (by rfl) (by rfl) (by decide) (by decide) rfl rfl (all_len rfl) (lt_of_ble rfl)
    apply Wk.ld (i := 4) 7 true ty28 rfl rfl (by conv => lhs; whnf) (lt_of_ble rfl)
    apply Wk.dat (say_ok e c m bs false u false true) Try.func64 rfl rfl rfl rfl rfl (lt_of_ble rfl)
    apply Wk.lst 31 9 true [.int .i64 0, .int .i64 0, .int .i64 0, .bool false, .bool false, .int .i64 0, .int .i64 0, .int .i64 0, .slice none 0 0] un34 ty30 ze30 rfl rfl (by rfl) (by rfl) (by decide) (by decide) rfl rfl (all_len rfl) (lt_of_ble rfl)
    apply Wk.sto (i := 6) 7 true ty28 rfl rfl rfl rfl (Nat.le_of_ble_eq_true rfl) (lt_of_ble rfl)
    apply Wk.asg (by conv => lhs; whnf) (lt_of_ble rfl)
    apply Wk.asg (by conv => lhs; whnf) (lt_of_ble rfl)
    refine Wk.nil ?_
    refine thenA_normal ?_
    refine AW.thaw (t := 7) (i := 28) [] rfl rfl rfl hX.none ?_
    refine AW.thaw (t := 8) (i := 31) [frmD 2 0 e false true (sayOf u) 0 0 []] rfl rfl rfl hX.none ?_
    refine AW.ret (thenA_ret ?_)
    exact RetQ.ret [] (.cons ⟨6, 0, _, _, _, rfl, rfl, ty28, rfl⟩ (.cons rfl (.cons rfl .nil))) ⟨rfl, rfl⟩ none_kept
  · rfl
  · rfl
set_option maxHeartbeats 2000000 in
set_option maxRecDepth 100000 in
theorem shear0_ok (e c m : Int) (bs : List (Fin 256)) (a u : Bool) (m0 w0 s0 t0 y0 : Int) (s k2 : Int) (f : Bool) (y g l : Int) (fs : List (Fin 256))  : DataOk Try.prog 35 [cfgA m0 w0 s0 t0 y0, rxA e c m bs a u false, frmA 2 s k2 false f y g l fs] (.tup [rxA e c m bs a u false, .d (sdR none), .d (syR none)]) := by
  refine Spec.intro (n := 35) (rv := [.cell 6 28, .tmp 7, .tmp 8]) Try.func35 rfl rfl rfl (by simp) fun C hN hX => ?_
  refine AW.seq ?_
  apply AW.list
  apply Wk.bx 3 rfl rfl (lt_of_ble rfl)
  apply Wk.bx 4 rfl rfl (lt_of_ble rfl)
  apply Wk.bx 5 rfl rfl (lt_of_ble rfl)
  apply Wk.alc 6 [.int .i64 0, .int .i64 0, .int .i64 0, .slice none 0 0, .bool false, .bool false, .bool false] ze28 rfl rfl (lt_of_ble rfl)
  apply Wk.asg (by conv => lhs; whnf) (lt_of_ble rfl)
  apply Wk.asg (by conv => lhs; whnf) (lt_of_ble rfl)
  refine Wk.nil ?_
  refine AW.seq (AW.seq ?_)
  apply AW.list
  apply Wk.fad 6 0 false fd28_5 rfl (lt_of_ble rfl)
  apply Wk.ld (i := 4) 1 false ty4 rfl rfl (by conv => lhs; whnf) (lt_of_ble rfl)
  refine Wk.nil ?_
  refine AW.cond rfl (fun hc => by cases hc) (fun _ => AW.skip (thenA_normal ?_))
  refine AW.seq (AW.seq ?_)
  apply AW.list
  apply Wk.fad 0 0 false fd30_0 rfl (lt_of_ble rfl)
  apply Wk.ld (i := 5) 1 false ty3 rfl rfl (by conv => lhs; whnf) (lt_of_ble rfl)
  apply Wk.bin rfl rfl (fun w => by simp [go_sem] <;> rfl) (lt_of_ble rfl)
  refine Wk.nil ?_
  refine AW.cond rfl (fun hc => by cases hc) (fun _ => AW.skip (thenA_normal ?_))
  refine AW.seq (AW.seq ?_)
  apply AW.list
  apply Wk.fad 3 0 false fd30_3 rfl (lt_of_ble rfl)
  apply Wk.ld (i := 5) 1 false ty4 rfl rfl (by conv => lhs; whnf) (lt_of_ble rfl)
  refine Wk.nil ?_
  refine AW.cond rfl (fun hc => by cases hc) (fun _ => AW.skip (thenA_normal ?_))
  refine AW.seq ?_
  apply AW.list
  apply Wk.ld (i := 4) 7 true ty28 rfl rfl (by conv => lhs; whnf) (lt_of_ble rfl)
  apply Wk.lst 33 1 false [.slice none 0 0] un33 ty22 ze22 rfl rfl (by rfl) (by rfl) (by decide) (by decide) rfl rfl (all_len rfl) (lt_of_ble rfl)
  apply Wk.lst 34 9 true [.int .i64 0, .int .i64 0, .int .i64 0, .bool false, .bool false, .int .i64 0, .int .i64 0, .int .i64 0, .slice none 0 0] un34 ty30 ze30 rfl rfl (by rfl) (by rfl) (by decide) (by decide) rfl rfl (all_len rfl) (lt_of_ble rfl)
  apply Wk.sto (i := 6) 7 true ty28 rfl rfl rfl rfl (Nat.le_of_ble_eq_true rfl) (lt_of_ble rfl)
  apply Wk.asg (by conv => lhs; whnf) (lt_of_ble rfl)
  apply Wk.asg (by conv => lhs; whnf) (lt_of_ble rfl)
  refine Wk.nil ?_
  refine AW.thaw (t := 7) (i := 33) [] rfl rfl rfl hX.none ?_
  refine AW.thaw (t := 8) (i := 34) [] rfl rfl rfl hX.none ?_
  refine AW.ret ?_
  exact RetQ.ret [] (.cons ⟨6, 0, _, _, _, rfl, rfl, ty28, rfl⟩ (.cons rfl (.cons rfl .nil))) ⟨rfl, rfl⟩ none_kept
set_option maxHeartbeats 2000000 in
set_option maxRecDepth 100000 in
theorem sdus0_ok : DataOk Try.prog 37 [rowE] rowE := by
  refine Spec.intro (n := 22) (rv := [.tmp 2]) Try.func37 rfl rfl rfl (by simp) fun C hN hX => ?_
  refine AW.seq ?_
  apply AW.list
  apply Wk.asg (by conv => lhs; whnf) (lt_of_ble rfl)
  refine Wk.nil ?_
  refine AW.seq ?_
  apply AW.list
  apply Wk.lst 5 1 false [.slice none 0 0] un33 ty22 ze22 rfl rfl (by rfl) (by rfl) (by decide) (by decide) rfl rfl (all_len rfl) (lt_of_ble rfl)
  apply Wk.asg (by conv => lhs; whnf) (lt_of_ble rfl)
  refine Wk.nil ?_
  refine AW.seq (AW.seq ?_)
  apply AW.list
  apply Wk.asg (by conv => lhs; whnf) (lt_of_ble rfl)
  refine Wk.nil (AW.block ?_)
  refine AW.loop (fun k : Nat => St.of 22 [(0, rowE), (3, .own 5 0), (4, .d (.v (.int .i64 (k : Int))))] [(5, .own 0 22 1 [])]) (fun k => k = 0) (fun k => k) 0 rfl ?_ (fun k hk => ?_)
  · exact fun a w => Rel.keep ⟨rfl, .cons rfl rfl (.cons rfl rfl (.cons rfl rfl .nil)), .cons rfl rfl .nil, hN.mono (by simp [keys])⟩
  subst hk
  refine AW.seq (AW.seq ?_)
  apply AW.list
  apply Wk.mv (by conv => lhs; whnf) (lt_of_ble rfl)
  apply Wk.mv (by conv => lhs; whnf) (lt_of_ble rfl)
  apply Wk.len un33 rfl (lt_of_ble rfl)
  apply Wk.bin rfl rfl (fun w => by simp [go_sem] <;> rfl) (lt_of_ble rfl)
  refine Wk.nil ?_
  refine AW.cond rfl (fun hc => by simp at hc) (fun hc => ?_)
  refine AW.exit ?_
  repeat (first | refine inBlockA_same ?_ | refine thenA_exit ?_)
  repeat (first | refine thenA_normal ?_ | refine inBlockA_normal ?_)
  refine AW.seq ?_
  apply AW.list
  apply Wk.mv (by conv => lhs; whnf) (lt_of_ble rfl)
  apply Wk.asg (by conv => lhs; whnf) (lt_of_ble rfl)
  refine Wk.nil ?_
  refine AW.thaw (t := 2) (i := 5) [] rfl rfl rfl hX.none ?_
  refine AW.ret ?_
  repeat (first | refine thenA_ret ?_ | refine inBlockA_ret ?_)
  exact RetQ.ret [] (.cons rfl .nil) ⟨rfl, rfl⟩ none_kept
set_option maxHeartbeats 2000000 in
set_option maxRecDepth 100000 in
theorem sdus1_ok (bs : List (Fin 256)) (hl : bs.length ≤ 100000) : DataOk Try.prog 37 [.d (.row [[fbytes bs]])] (.d (.row [[fbytes bs]])) := by
  refine Spec.intro (n := 22) (rv := [.tmp 2]) Try.func37 rfl rfl rfl (by simp) fun C hN hX => ?_
  refine AW.seq ?_
  apply AW.list
  apply Wk.asg (by conv => lhs; whnf) (lt_of_ble rfl)
  refine Wk.nil ?_
  refine AW.seq ?_
  apply AW.list
  apply Wk.lst 5 1 false [.slice none 0 0] un33 ty22 ze22 rfl rfl (by rfl) (by rfl) (by decide) (by decide) rfl rfl (all_len rfl) (lt_of_ble rfl)
  apply Wk.asg (by conv => lhs; whnf) (lt_of_ble rfl)
  refine Wk.nil ?_
  refine AW.seq (AW.seq ?_)
  apply AW.list
  apply Wk.asg (by conv => lhs; whnf) (lt_of_ble rfl)
  refine Wk.nil (AW.block ?_)
  refine AW.loop (fun k : Nat => St.of 22 [(0, .d (.row [[fbytes bs]])), (3, .own 5 k), (4, .d (.v (.int .i64 (k : Int))))] [(5, .own k 22 1 (if k = 0 then [] else [[.d (fbytes bs)]]))]) (fun k => k ≤ 1) (fun k => 1 - k) 0 (by omega) ?_ (fun k hk => ?_)
  · exact fun a w => Rel.keep ⟨rfl, .cons rfl rfl (.cons rfl rfl (.cons rfl rfl .nil)), .cons rfl rfl .nil, hN.mono (by simp [keys])⟩
  refine AW.seq (AW.seq ?_)
  apply AW.list
  apply Wk.mv (by conv => lhs; whnf) (lt_of_ble rfl)
  apply Wk.mv (by conv => lhs; whnf) (lt_of_ble rfl)
  apply Wk.len un33 rfl (lt_of_ble rfl)
  apply Wk.bin rfl rfl (fun w => by simp [go_sem] <;> rfl) (lt_of_ble rfl)
  refine Wk.nil ?_
  refine AW.cond rfl (fun hc => ?_) (fun hc => ?_)
  · obtain rfl : k = 0 := by
      simp at hc
      omega
    refine AW.skip ?_
    repeat (first | refine thenA_normal ?_ | refine inBlockA_normal ?_)
    refine AW.seq (AW.block ?_)
    apply AW.list
    apply Wk.mv (by conv => lhs; whnf) (lt_of_ble rfl)
    apply Wk.lst 13 1 false [.int .u8 0] un22 ty5 ze5 rfl rfl (by rfl) (by rfl) (by decide) (by decide) rfl rfl (all_len rfl) (lt_of_ble rfl)
    apply Wk.mv (by conv => lhs; whnf) (lt_of_ble rfl)
    apply Wk.mv (by conv => lhs; whnf) (lt_of_ble rfl)
    apply Wk.iad 1 false un33 ty22 rfl rfl (k := 0) (by exact Nat.succ_pos _) (all_len rfl) (lt_of_ble rfl)
    apply Wk.ldr 1 false ty22 rfl rfl (by conv => lhs; whnf) (lt_of_ble rfl)
    apply Wk.appOR 13 1000 1 un22 ap5 rfl rfl rfl (.inr rfl) (by decide) (one_bytes _) (by simp) (by simp; omega) (lt_of_ble rfl)
    apply Wk.lst 19 1 false [.slice none 0 0] un33 ty22 ze22 rfl rfl (by rfl) (by rfl) (by decide) (by decide) rfl rfl (all_len rfl) (lt_of_ble rfl)
    apply Wk.appOO 5 19 1 un33 ap22 rfl rfl rfl rfl (by decide) (all_len rfl) (all_len rfl) (by simp) (lt_of_ble rfl)
    apply Wk.asg (by conv => lhs; whnf) (lt_of_ble rfl)
    refine Wk.nil ?_
    repeat (first | refine thenA_normal ?_ | refine inBlockA_normal ?_)
    apply AW.list
    apply Wk.mv (by conv => lhs; whnf) (lt_of_ble rfl)
    apply Wk.addi rfl rfl (by omega) (lt_of_ble rfl)
    apply Wk.asg (by conv => lhs; whnf) (lt_of_ble rfl)
    refine Wk.nil ?_
    refine ⟨1, by omega, by omega, fun a w hR => ?_⟩
    have h := Rel.thawe (j := 5) (n := 0) (i := 13) (es' := [[.d (fbytes bs)]]) (cellsD bs) rfl (by rfl) (by rfl) (asData_cd bs) (by decide) (by rfl) (by rfl) (by exact all_len rfl) hX.none hR
    exact Rel.keep ⟨rfl, .cons rfl rfl (.cons rfl rfl (.cons rfl rfl .nil)), .cons rfl rfl .nil, hN.mono (by simp [keys])⟩ h
  · obtain rfl : k = 1 := by
      simp at hc
      omega
    refine AW.exit ?_
    repeat (first | refine inBlockA_same ?_ | refine thenA_exit ?_)
    repeat (first | refine thenA_normal ?_ | refine inBlockA_normal ?_)
    refine AW.seq ?_
    apply AW.list
    apply Wk.mv (by conv => lhs; whnf) (lt_of_ble rfl)
    apply Wk.asg (by conv => lhs; whnf) (lt_of_ble rfl)
    refine Wk.nil ?_
    refine AW.thaw (t := 2) (i := 5) [[fbytes bs]] rfl rfl rfl hX.none ?_
    refine AW.ret ?_
    repeat (first | refine thenA_ret ?_ | refine inBlockA_ret ?_)
    exact RetQ.ret [] (.cons rfl .nil) ⟨rfl, rfl⟩ none_kept
def rxN0 : A := .agg [.d (.v (.int .i64 0)), .d (.v (.int .i64 0)), .d (.v (.int .i64 0)), nilA, .d (.v (.bool false)), .d (.v (.bool false)), .d (.v (.bool false))]
set_option maxHeartbeats 2000000 in
set_option maxRecDepth 100000 in
theorem srxh_no (e c m : Int) (bs : List (Fin 256)) (a u d : Bool) (m0 w0 s0 t0 y0 : Int) (k s k2 : Int) (p f : Bool) (y g l : Int) (fs : List (Fin 256)) (h : (Opt.ok ⟨m0, w0, s0, t0, y0⟩ && rxB e c m bs.length && ((k == 1 || k == 2) && frmB k s k2 p f y g l fs.length)) = false) : DataOk Try.prog 10 [cfgA m0 w0 s0 t0 y0, rxA e c m bs a u d, frmA k s k2 p f y g l fs] (.tup [rxN0, rowE, rowE]) := by
  refine Spec.intro (n := 52) (rv := [.cell 6 28, .tmp 7, .tmp 8]) Try.func10 rfl rfl rfl (by simp) fun C hN hX => ?_
  refine AW.seq ?_
  apply AW.list
  apply Wk.bx 3 rfl rfl (lt_of_ble rfl)
  apply Wk.bx 4 rfl rfl (lt_of_ble rfl)
  apply Wk.bx 5 rfl rfl (lt_of_ble rfl)
  apply Wk.alc 6 [.int .i64 0, .int .i64 0, .int .i64 0, .slice none 0 0, .bool false, .bool false, .bool false] ze28 rfl rfl (lt_of_ble rfl)
  apply Wk.asg (by conv => lhs; whnf) (lt_of_ble rfl)
  apply Wk.asg (by conv => lhs; whnf) (lt_of_ble rfl)
  refine Wk.nil ?_
  refine AW.seq (AW.seq ?_)
  cases h1 : Opt.ok ⟨m0, w0, s0, t0, y0⟩
  · apply AW.list
    apply Wk.ld (i := 3) 5 true ty24 rfl rfl (by conv => lhs; whnf) (lt_of_ble rfl)
    apply Wk.dat (scfgb m0 w0 s0 t0 y0 h1) Try.func16 rfl rfl rfl rfl rfl (lt_of_ble rfl)
    apply Wk.un rfl (fun w => by simp [go_sem] <;> rfl) (lt_of_ble rfl)
    apply Wk.mv (by conv => lhs; whnf) (lt_of_ble rfl)
    apply Wk.goff 15 (ok_load 4 ty28) rfl rfl (by decide)
    apply Wk.goff 15 (ok_datw ((srx_ok e c m bs a u d).w rfl) Try.func15 rfl rfl) rfl rfl (by decide)
    apply Wk.goff 15 (ok_un _ _ _) rfl rfl (by decide)
    apply Wk.pckT rfl (by conv => lhs; whnf) (lt_of_ble rfl)
    apply Wk.mv (by conv => lhs; whnf) (lt_of_ble rfl)
    apply Wk.goff 20 (ok_load 5 ty30) rfl rfl (by decide)
    apply Wk.goff 20 (ok_datw ((sfrm_ok k s k2 p f y g l fs).w rfl) Try.func17 rfl rfl) rfl rfl (by decide)
    apply Wk.goff 20 (ok_un _ _ _) rfl rfl (by decide)
    apply Wk.pckT rfl (by conv => lhs; whnf) (lt_of_ble rfl)
    apply Wk.mv (by conv => lhs; whnf) (lt_of_ble rfl)
    apply Wk.goff 25 (ok_faddr fd30_0) rfl rfl (by decide)
    apply Wk.goff 25 (ok_load 5 ty3) rfl rfl (by decide)
    apply Wk.goff 25 (ok_bin _ _ _ _ _) rfl rfl (by decide)
    apply Wk.goff 25 (ok_move _) rfl rfl (by decide)
    apply Wk.goffu 29 (ok_faddr fd30_0) rfl rfl
    apply Wk.goffu 29 (ok_load 5 ty3) rfl rfl
    apply Wk.goffu 29 (ok_bin _ _ _ _ _) rfl rfl
    apply Wk.goff 25 (ok_pick _ _ _) rfl rfl (by decide)
    apply Wk.pckT rfl (by conv => lhs; whnf) (lt_of_ble rfl)
    refine Wk.nil ?_
    refine AW.cond rfl (fun _ => ?_) (fun hc => by cases hc)
    refine AW.seq ?_
    apply AW.list
    apply Wk.bld [.int .i64 0, .int .i64 0, .int .i64 0, .slice none 0 0, .bool false, .bool false, .bool false] [(0, 1), (1, 1), (2, 2), (4, 1), (5, 1), (6, 1)] bl28 rfl (by conv => lhs; whnf) (lt_of_ble rfl)
    apply Wk.lst 36 1 false [.slice none 0 0] un33 ty22 ze22 rfl rfl (by rfl) (by rfl) (by decide) (by decide) rfl rfl (all_len rfl) (lt_of_ble rfl)
    apply Wk.lst 37 9 true [.int .i64 0, .int .i64 0, .int .i64 0, .bool false, .bool false, .int .i64 0, .int .i64 0, .int .i64 0, .slice none 0 0] un34 ty30 ze30 rfl rfl (by rfl) (by rfl) (by decide) (by decide) rfl rfl (all_len rfl) (lt_of_ble rfl)
    apply Wk.sto (i := 6) 7 true ty28 rfl rfl rfl rfl (Nat.le_of_ble_eq_true rfl) (lt_of_ble rfl)
    apply Wk.asg (by conv => lhs; whnf) (lt_of_ble rfl)
    apply Wk.asg (by conv => lhs; whnf) (lt_of_ble rfl)
    refine Wk.nil ?_
    refine thenA_normal ?_
    refine AW.thaw (t := 7) (i := 36) [] rfl rfl rfl hX.none ?_
    refine AW.thaw (t := 8) (i := 37) [] rfl rfl rfl hX.none ?_
    refine AW.ret (thenA_ret ?_)
    exact RetQ.ret [] (.cons ⟨6, 0, _, _, _, rfl, rfl, ty28, rfl⟩ (.cons rfl (.cons rfl .nil))) ⟨rfl, rfl⟩ none_kept
  cases h2 : rxB e c m bs.length
  · apply AW.list
    apply Wk.ld (i := 3) 5 true ty24 rfl rfl (by conv => lhs; whnf) (lt_of_ble rfl)
    apply Wk.dat (scfgb m0 w0 s0 t0 y0 h1) Try.func16 rfl rfl rfl rfl rfl (lt_of_ble rfl)
    apply Wk.un rfl (fun w => by simp [go_sem] <;> rfl) (lt_of_ble rfl)
    apply Wk.mv (by conv => lhs; whnf) (lt_of_ble rfl)
    apply Wk.gon 15 rfl rfl
    apply Wk.ld (i := 4) 7 true ty28 rfl rfl (by conv => lhs; whnf) (lt_of_ble rfl)
    apply Wk.gon 15 rfl rfl
    apply Wk.dat (srxb a u d h2) Try.func15 rfl rfl rfl rfl rfl (lt_of_ble rfl)
    apply Wk.gon 15 rfl rfl
    apply Wk.un rfl (fun w => by simp [go_sem] <;> rfl) (lt_of_ble rfl)
    apply Wk.pckF rfl (by conv => lhs; whnf) (lt_of_ble rfl)
    apply Wk.mv (by conv => lhs; whnf) (lt_of_ble rfl)
    apply Wk.goff 20 (ok_load 5 ty30) rfl rfl (by decide)
    apply Wk.goff 20 (ok_datw ((sfrm_ok k s k2 p f y g l fs).w rfl) Try.func17 rfl rfl) rfl rfl (by decide)
    apply Wk.goff 20 (ok_un _ _ _) rfl rfl (by decide)
    apply Wk.pckT rfl (by conv => lhs; whnf) (lt_of_ble rfl)
    apply Wk.mv (by conv => lhs; whnf) (lt_of_ble rfl)
    apply Wk.goff 25 (ok_faddr fd30_0) rfl rfl (by decide)
    apply Wk.goff 25 (ok_load 5 ty3) rfl rfl (by decide)
    apply Wk.goff 25 (ok_bin _ _ _ _ _) rfl rfl (by decide)
    apply Wk.goff 25 (ok_move _) rfl rfl (by decide)
    apply Wk.goffu 29 (ok_faddr fd30_0) rfl rfl
    apply Wk.goffu 29 (ok_load 5 ty3) rfl rfl
    apply Wk.goffu 29 (ok_bin _ _ _ _ _) rfl rfl
    apply Wk.goff 25 (ok_pick _ _ _) rfl rfl (by decide)
    apply Wk.pckT rfl (by conv => lhs; whnf) (lt_of_ble rfl)
    refine Wk.nil ?_
    refine AW.cond rfl (fun _ => ?_) (fun hc => by cases hc)
    refine AW.seq ?_
    apply AW.list
    apply Wk.bld [.int .i64 0, .int .i64 0, .int .i64 0, .slice none 0 0, .bool false, .bool false, .bool false] [(0, 1), (1, 1), (2, 2), (4, 1), (5, 1), (6, 1)] bl28 rfl (by conv => lhs; whnf) (lt_of_ble rfl)
    apply Wk.lst 36 1 false [.slice none 0 0] un33 ty22 ze22 rfl rfl (by rfl) (by rfl) (by decide) (by decide) rfl rfl (all_len rfl) (lt_of_ble rfl)
    apply Wk.lst 37 9 true [.int .i64 0, .int .i64 0, .int .i64 0, .bool false, .bool false, .int .i64 0, .int .i64 0, .int .i64 0, .slice none 0 0] un34 ty30 ze30 rfl rfl (by rfl) (by rfl) (by decide) (by decide) rfl rfl (all_len rfl) (lt_of_ble rfl)
    apply Wk.sto (i := 6) 7 true ty28 rfl rfl rfl rfl (Nat.le_of_ble_eq_true rfl) (lt_of_ble rfl)
    apply Wk.asg (by conv => lhs; whnf) (lt_of_ble rfl)
    apply Wk.asg (by conv => lhs; whnf) (lt_of_ble rfl)
    refine Wk.nil ?_
    refine thenA_normal ?_
    refine AW.thaw (t := 7) (i := 36) [] rfl rfl rfl hX.none ?_
    refine AW.thaw (t := 8) (i := 37) [] rfl rfl rfl hX.none ?_
    refine AW.ret (thenA_ret ?_)
    exact RetQ.ret [] (.cons ⟨6, 0, _, _, _, rfl, rfl, ty28, rfl⟩ (.cons rfl (.cons rfl .nil))) ⟨rfl, rfl⟩ none_kept
  cases h3 : frmB k s k2 p f y g l fs.length
  · apply AW.list
    apply Wk.ld (i := 3) 5 true ty24 rfl rfl (by conv => lhs; whnf) (lt_of_ble rfl)
    apply Wk.dat (scfgb m0 w0 s0 t0 y0 h1) Try.func16 rfl rfl rfl rfl rfl (lt_of_ble rfl)
    apply Wk.un rfl (fun w => by simp [go_sem] <;> rfl) (lt_of_ble rfl)
    apply Wk.mv (by conv => lhs; whnf) (lt_of_ble rfl)
    apply Wk.gon 15 rfl rfl
    apply Wk.ld (i := 4) 7 true ty28 rfl rfl (by conv => lhs; whnf) (lt_of_ble rfl)
    apply Wk.gon 15 rfl rfl
    apply Wk.dat (srxb a u d h2) Try.func15 rfl rfl rfl rfl rfl (lt_of_ble rfl)
    apply Wk.gon 15 rfl rfl
    apply Wk.un rfl (fun w => by simp [go_sem] <;> rfl) (lt_of_ble rfl)
    apply Wk.pckF rfl (by conv => lhs; whnf) (lt_of_ble rfl)
    apply Wk.mv (by conv => lhs; whnf) (lt_of_ble rfl)
    apply Wk.gon 20 rfl rfl
    apply Wk.ld (i := 5) 9 true ty30 rfl rfl (by conv => lhs; whnf) (lt_of_ble rfl)
    apply Wk.gon 20 rfl rfl
    apply Wk.dat (sfrmb k s k2 p f y g l fs h3) Try.func17 rfl rfl rfl rfl rfl (lt_of_ble rfl)
    apply Wk.gon 20 rfl rfl
    apply Wk.un rfl (fun w => by simp [go_sem] <;> rfl) (lt_of_ble rfl)
    apply Wk.pckF rfl (by conv => lhs; whnf) (lt_of_ble rfl)
    apply Wk.mv (by conv => lhs; whnf) (lt_of_ble rfl)
    apply Wk.goff 25 (ok_faddr fd30_0) rfl rfl (by decide)
    apply Wk.goff 25 (ok_load 5 ty3) rfl rfl (by decide)
    apply Wk.goff 25 (ok_bin _ _ _ _ _) rfl rfl (by decide)
    apply Wk.goff 25 (ok_move _) rfl rfl (by decide)
    apply Wk.goffu 29 (ok_faddr fd30_0) rfl rfl
    apply Wk.goffu 29 (ok_load 5 ty3) rfl rfl
    apply Wk.goffu 29 (ok_bin _ _ _ _ _) rfl rfl
    apply Wk.goff 25 (ok_pick _ _ _) rfl rfl (by decide)
    apply Wk.pckT rfl (by conv => lhs; whnf) (lt_of_ble rfl)
    refine Wk.nil ?_
    refine AW.cond rfl (fun _ => ?_) (fun hc => by cases hc)
    refine AW.seq ?_
    apply AW.list
    apply Wk.bld [.int .i64 0, .int .i64 0, .int .i64 0, .slice none 0 0, .bool false, .bool false, .bool false] [(0, 1), (1, 1), (2, 2), (4, 1), (5, 1), (6, 1)] bl28 rfl (by conv => lhs; whnf) (lt_of_ble rfl)
    apply Wk.lst 36 1 false [.slice none 0 0] un33 ty22 ze22 rfl rfl (by rfl) (by rfl) (by decide) (by decide) rfl rfl (all_len rfl) (lt_of_ble rfl)
    apply Wk.lst 37 9 true [.int .i64 0, .int .i64 0, .int .i64 0, .bool false, .bool false, .int .i64 0, .int .i64 0, .int .i64 0, .slice none 0 0] un34 ty30 ze30 rfl rfl (by rfl) (by rfl) (by decide) (by decide) rfl rfl (all_len rfl) (lt_of_ble rfl)
    apply Wk.sto (i := 6) 7 true ty28 rfl rfl rfl rfl (Nat.le_of_ble_eq_true rfl) (lt_of_ble rfl)
    apply Wk.asg (by conv => lhs; whnf) (lt_of_ble rfl)
    apply Wk.asg (by conv => lhs; whnf) (lt_of_ble rfl)
    refine Wk.nil ?_
    refine thenA_normal ?_
    refine AW.thaw (t := 7) (i := 36) [] rfl rfl rfl hX.none ?_
    refine AW.thaw (t := 8) (i := 37) [] rfl rfl rfl hX.none ?_
    refine AW.ret (thenA_ret ?_)
    exact RetQ.ret [] (.cons ⟨6, 0, _, _, _, rfl, rfl, ty28, rfl⟩ (.cons rfl (.cons rfl .nil))) ⟨rfl, rfl⟩ none_kept
  · have h4 : ¬ k = 1 ∧ ¬ k = 2 := by
      rw [h1, h2, h3] at h
      simpa using h
    apply AW.list
    apply Wk.ld (i := 3) 5 true ty24 rfl rfl (by conv => lhs; whnf) (lt_of_ble rfl)
    apply Wk.dat (scfgb m0 w0 s0 t0 y0 h1) Try.func16 rfl rfl rfl rfl rfl (lt_of_ble rfl)
    apply Wk.un rfl (fun w => by simp [go_sem] <;> rfl) (lt_of_ble rfl)
    apply Wk.mv (by conv => lhs; whnf) (lt_of_ble rfl)
    apply Wk.gon 15 rfl rfl
    apply Wk.ld (i := 4) 7 true ty28 rfl rfl (by conv => lhs; whnf) (lt_of_ble rfl)
    apply Wk.gon 15 rfl rfl
    apply Wk.dat (srxb a u d h2) Try.func15 rfl rfl rfl rfl rfl (lt_of_ble rfl)
    apply Wk.gon 15 rfl rfl
    apply Wk.un rfl (fun w => by simp [go_sem] <;> rfl) (lt_of_ble rfl)
    apply Wk.pckF rfl (by conv => lhs; whnf) (lt_of_ble rfl)
    apply Wk.mv (by conv => lhs; whnf) (lt_of_ble rfl)
    apply Wk.gon 20 rfl rfl
    apply Wk.ld (i := 5) 9 true ty30 rfl rfl (by conv => lhs; whnf) (lt_of_ble rfl)
    apply Wk.gon 20 rfl rfl
    apply Wk.dat (sfrmb k s k2 p f y g l fs h3) Try.func17 rfl rfl rfl rfl rfl (lt_of_ble rfl)
    apply Wk.gon 20 rfl rfl
    apply Wk.un rfl (fun w => by simp [go_sem] <;> rfl) (lt_of_ble rfl)
    apply Wk.pckF rfl (by conv => lhs; whnf) (lt_of_ble rfl)
    apply Wk.mv (by conv => lhs; whnf) (lt_of_ble rfl)
    apply Wk.gon 25 rfl rfl
    apply Wk.fad 0 0 false fd30_0 rfl (lt_of_ble rfl)
    apply Wk.gon 25 rfl rfl
    apply Wk.ld (i := 5) 1 false ty3 rfl rfl (by conv => lhs; whnf) (lt_of_ble rfl)
    apply Wk.gon 25 rfl rfl
    apply Wk.bin rfl rfl (r := .bool true) (fun w => by simp [go_sem, h4.1]) (lt_of_ble rfl)
    apply Wk.gon 25 rfl rfl
    apply Wk.mv (by conv => lhs; whnf) (lt_of_ble rfl)
    apply Wk.gon 29 rfl rfl
    apply Wk.fad 0 0 false fd30_0 rfl (lt_of_ble rfl)
    apply Wk.gon 29 rfl rfl
    apply Wk.ld (i := 5) 1 false ty3 rfl rfl (by conv => lhs; whnf) (lt_of_ble rfl)
    apply Wk.gon 29 rfl rfl
    apply Wk.bin rfl rfl (r := .bool true) (fun w => by simp [go_sem, h4.2]) (lt_of_ble rfl)
    apply Wk.gon 25 rfl rfl
    apply Wk.pckT rfl (by conv => lhs; whnf) (lt_of_ble rfl)
    apply Wk.pckF rfl (by conv => lhs; whnf) (lt_of_ble rfl)
    refine Wk.nil ?_
    refine AW.cond rfl (fun _ => ?_) (fun hc => by cases hc)
    refine AW.seq ?_
    apply AW.list
    apply Wk.bld [.int .i64 0, .int .i64 0, .int .i64 0, .slice none 0 0, .bool false, .bool false, .bool false] [(0, 1), (1, 1), (2, 2), (4, 1), (5, 1), (6, 1)] bl28 rfl (by conv => lhs; whnf) (lt_of_ble rfl)
    apply Wk.lst 36 1 false [.slice none 0 0] un33 ty22 ze22 rfl rfl (by rfl) (by rfl) (by decide) (by decide) rfl rfl (all_len rfl) (lt_of_ble rfl)
    apply Wk.lst 37 9 true [.int .i64 0, .int .i64 0, .int .i64 0, .bool false, .bool false, .int .i64 0, .int .i64 0, .int .i64 0, .slice none 0 0] un34 ty30 ze30 rfl rfl (by rfl) (by rfl) (by decide) (by decide) rfl rfl (all_len rfl) (lt_of_ble rfl)
    apply Wk.sto (i := 6) 7 true ty28 rfl rfl rfl rfl (Nat.le_of_ble_eq_true rfl) (lt_of_ble rfl)
    apply Wk.asg (by conv => lhs; whnf) (lt_of_ble rfl)
    apply Wk.asg (by conv => lhs; whnf) (lt_of_ble rfl)
    refine Wk.nil ?_
    refine thenA_normal ?_
    refine AW.thaw (t := 7) (i := 36) [] rfl rfl rfl hX.none ?_
    refine AW.thaw (t := 8) (i := 37) [] rfl rfl rfl hX.none ?_
    refine AW.ret (thenA_ret ?_)
    exact RetQ.ret [] (.cons ⟨6, 0, _, _, _, rfl, rfl, ty28, rfl⟩ (.cons rfl (.cons rfl .nil))) ⟨rfl, rfl⟩ none_kept
theorem sdusR_ok (sd : Option (List (Fin 256))) (hl : ∀ bs, sd = some bs → bs.length ≤ 100000) : DataOk Try.prog 37 [.d (sdR sd)] (.d (sdR sd)) := by
  rcases sd with _ | bs
  · exact sdus0_ok
  · exact sdus1_ok bs (hl bs rfl)
set_option maxHeartbeats 2000000 in
set_option maxRecDepth 100000 in
theorem srxh_of (e c m : Int) (bs : List (Fin 256)) (a u d : Bool) (m0 w0 s0 t0 y0 : Int) (k s k2 : Int) (p f : Bool) (y g l : Int) (fs : List (Fin 256)) (hk : k = 1 ∨ k = 2) (hbl : bs.length ≤ 1000) (h1 : Opt.ok ⟨m0, w0, s0, t0, y0⟩ = true) (h2 : rxB e c m bs.length = true) (h3 : frmB k s k2 p f y g l fs.length = true)
    (x' : RX) (sd : Option (List (Fin 256))) (sy : Option (Int × Bool × Int)) (hx' : x'.bs.length ≤ 1000) (hsd : ∀ bs, sd = some bs → bs.length ≤ 100000) (h : DataOk Try.prog 35 [cfgA m0 w0 s0 t0 y0, rxA e c m bs a u d, frmA k s k2 p f y g l fs] (.tup [rxA x'.e x'.c x'.m x'.bs x'.a x'.u x'.d, .d (sdR sd), .d (syR sy)])) : DataOk Try.prog 10 [cfgA m0 w0 s0 t0 y0, rxA e c m bs a u d, frmA k s k2 p f y g l fs] (.tup [rxA x'.e x'.c x'.m x'.bs x'.a x'.u x'.d, .d (sdR sd), .d (syR sy)]) := by
  rcases sd with _ | b1
  all_goals
    refine Spec.intro (n := 52) (rv := [.cell 6 28, .tmp 7, .tmp 8]) Try.func10 rfl rfl rfl (by simp) fun C hN hX => ?_
    refine AW.seq ?_
    apply AW.list
    apply Wk.bx 3 rfl rfl (lt_of_ble rfl)
    apply Wk.bx 4 rfl rfl (lt_of_ble rfl)
    apply Wk.bx 5 rfl rfl (lt_of_ble rfl)
    apply Wk.alc 6 [.int .i64 0, .int .i64 0, .int .i64 0, .slice none 0 0, .bool false, .bool false, .bool false] ze28 rfl rfl (lt_of_ble rfl)
    apply Wk.asg (by conv => lhs; whnf) (lt_of_ble rfl)
    apply Wk.asg (by conv => lhs; whnf) (lt_of_ble rfl)
    refine Wk.nil ?_
    refine AW.seq (AW.seq ?_)
    rcases hk with hk | hk
    · apply AW.list
      apply Wk.ld (i := 3) 5 true ty24 rfl rfl (by conv => lhs; whnf) (lt_of_ble rfl)
      apply Wk.dat (scfgb m0 w0 s0 t0 y0 h1) Try.func16 rfl rfl rfl rfl rfl (lt_of_ble rfl)
      apply Wk.un rfl (fun w => by simp [go_sem] <;> rfl) (lt_of_ble rfl)
      apply Wk.mv (by conv => lhs; whnf) (lt_of_ble rfl)
      apply Wk.gon 15 rfl rfl
      apply Wk.ld (i := 4) 7 true ty28 rfl rfl (by conv => lhs; whnf) (lt_of_ble rfl)
      apply Wk.gon 15 rfl rfl
      apply Wk.dat (srxb a u d h2) Try.func15 rfl rfl rfl rfl rfl (lt_of_ble rfl)
      apply Wk.gon 15 rfl rfl
      apply Wk.un rfl (fun w => by simp [go_sem] <;> rfl) (lt_of_ble rfl)
      apply Wk.pckF rfl (by conv => lhs; whnf) (lt_of_ble rfl)
      apply Wk.mv (by conv => lhs; whnf) (lt_of_ble rfl)
      apply Wk.gon 20 rfl rfl
      apply Wk.ld (i := 5) 9 true ty30 rfl rfl (by conv => lhs; whnf) (lt_of_ble rfl)
      apply Wk.gon 20 rfl rfl
      apply Wk.dat (sfrmb k s k2 p f y g l fs h3) Try.func17 rfl rfl rfl rfl rfl (lt_of_ble rfl)
      apply Wk.gon 20 rfl rfl
      apply Wk.un rfl (fun w => by simp [go_sem] <;> rfl) (lt_of_ble rfl)
      apply Wk.pckF rfl (by conv => lhs; whnf) (lt_of_ble rfl)
      apply Wk.mv (by conv => lhs; whnf) (lt_of_ble rfl)
      apply Wk.gon 25 rfl rfl
      apply Wk.fad 0 0 false fd30_0 rfl (lt_of_ble rfl)
      apply Wk.gon 25 rfl rfl
      apply Wk.ld (i := 5) 1 false ty3 rfl rfl (by conv => lhs; whnf) (lt_of_ble rfl)
      apply Wk.gon 25 rfl rfl
      apply Wk.bin rfl rfl (r := .bool false) (fun w => by simp [go_sem, hk]) (lt_of_ble rfl)
      apply Wk.gon 25 rfl rfl
      apply Wk.mv (by conv => lhs; whnf) (lt_of_ble rfl)
      apply Wk.goff 29 (ok_faddr fd30_0) rfl rfl (by decide)
      apply Wk.goff 29 (ok_load 5 ty3) rfl rfl (by decide)
      apply Wk.goff 29 (ok_bin _ _ _ _ _) rfl rfl (by decide)
      apply Wk.gon 25 rfl rfl
      apply Wk.pckF rfl (by conv => lhs; whnf) (lt_of_ble rfl)
      apply Wk.pckF rfl (by conv => lhs; whnf) (lt_of_ble rfl)
      refine Wk.nil ?_
      refine AW.cond rfl (fun hc => by cases hc) (fun _ => AW.skip (thenA_normal ?_))
      refine AW.seq ?_
      apply AW.draw (hm := hmix) (cs := _)
      · apply Wk.ld (i := 3) 5 true ty24 rfl rfl (by conv => lhs; whnf) (lt_of_ble rfl)
        apply Wk.ld (i := 4) 7 true ty28 rfl rfl (by conv => lhs; whnf) (lt_of_ble rfl)
        apply Wk.dat (copy7_ok e c m bs a u d hbl) Try.func36 rfl rfl rfl rfl rfl (lt_of_ble rfl)
        apply Wk.ld (i := 5) 9 true ty30 rfl rfl (by conv => lhs; whnf) (lt_of_ble rfl)
        apply Wk.dat h Try.func35 rfl rfl rfl rfl rfl (lt_of_ble rfl)
        apply Wk.mv (by conv => lhs; whnf) (lt_of_ble rfl)
        apply Wk.ext rfl rfl (lt_of_ble rfl)
        apply Wk.ext rfl rfl (lt_of_ble rfl)
        apply Wk.ext rfl rfl (lt_of_ble rfl)
        apply Wk.alc 9 [.int .i64 0, .int .i64 0, .int .i64 0, .slice none 0 0, .bool false, .bool false, .bool false] ze28 rfl rfl (lt_of_ble rfl)
        apply Wk.sto (i := 9) 7 true ty28 rfl rfl rfl rfl (Nat.le_of_ble_eq_true rfl) (lt_of_ble rfl)
        apply Wk.asg (by conv => lhs; whnf) (lt_of_ble rfl)
        apply Wk.asg (by conv => lhs; whnf) (lt_of_ble rfl)
        refine Wk.nil ?_
        refine AW.seq ?_
        apply AW.list
        apply Wk.ld (i := 9) 7 true ty28 rfl rfl (by conv => lhs; whnf) (lt_of_ble rfl)
        apply Wk.dat (copy7_ok x'.e x'.c x'.m x'.bs x'.a x'.u x'.d hx') Try.func36 rfl rfl rfl rfl rfl (lt_of_ble rfl)
        apply Wk.mv (by conv => lhs; whnf) (lt_of_ble rfl)
        apply Wk.dat (sdusR_ok _ hsd) Try.func37 rfl rfl rfl rfl rfl (lt_of_ble rfl)
        apply Wk.mv (by conv => lhs; whnf) (lt_of_ble rfl)
        apply Wk.sto (i := 6) 7 true ty28 rfl rfl rfl rfl (Nat.le_of_ble_eq_true rfl) (lt_of_ble rfl)
        apply Wk.asg (by conv => lhs; whnf) (lt_of_ble rfl)
        apply Wk.asg (by conv => lhs; whnf) (lt_of_ble rfl)
        refine Wk.nil (AW.ret ?_)
        exact RetQ.ret [] (.cons ⟨6, 0, _, _, _, rfl, rfl, ty28, rfl⟩ (.cons rfl (.cons rfl .nil))) ⟨rfl, rfl⟩ none_kept
      · rfl
      · rfl
    · apply AW.list
      apply Wk.ld (i := 3) 5 true ty24 rfl rfl (by conv => lhs; whnf) (lt_of_ble rfl)
      apply Wk.dat (scfgb m0 w0 s0 t0 y0 h1) Try.func16 rfl rfl rfl rfl rfl (lt_of_ble rfl)
      apply Wk.un rfl (fun w => by simp [go_sem] <;> rfl) (lt_of_ble rfl)
      apply Wk.mv (by conv => lhs; whnf) (lt_of_ble rfl)
      apply Wk.gon 15 rfl rfl
      apply Wk.ld (i := 4) 7 true ty28 rfl rfl (by conv => lhs; whnf) (lt_of_ble rfl)
      apply Wk.gon 15 rfl rfl
      apply Wk.dat (srxb a u d h2) Try.func15 rfl rfl rfl rfl rfl (lt_of_ble rfl)
      apply Wk.gon 15 rfl rfl
      apply Wk.un rfl (fun w => by simp [go_sem] <;> rfl) (lt_of_ble rfl)
      apply Wk.pckF rfl (by conv => lhs; whnf) (lt_of_ble rfl)
      apply Wk.mv (by conv => lhs; whnf) (lt_of_ble rfl)
      apply Wk.gon 20 rfl rfl
      apply Wk.ld (i := 5) 9 true ty30 rfl rfl (by conv => lhs; whnf) (lt_of_ble rfl)
      apply Wk.gon 20 rfl rfl
      apply Wk.dat (sfrmb k s k2 p f y g l fs h3) Try.func17 rfl rfl rfl rfl rfl (lt_of_ble rfl)
      apply Wk.gon 20 rfl rfl
      apply Wk.un rfl (fun w => by simp [go_sem] <;> rfl) (lt_of_ble rfl)
      apply Wk.pckF rfl (by conv => lhs; whnf) (lt_of_ble rfl)
      apply Wk.mv (by conv => lhs; whnf) (lt_of_ble rfl)
      apply Wk.gon 25 rfl rfl
      apply Wk.fad 0 0 false fd30_0 rfl (lt_of_ble rfl)
      apply Wk.gon 25 rfl rfl
      apply Wk.ld (i := 5) 1 false ty3 rfl rfl (by conv => lhs; whnf) (lt_of_ble rfl)
      apply Wk.gon 25 rfl rfl
      apply Wk.bin rfl rfl (r := .bool true) (fun w => by simp [go_sem, hk]) (lt_of_ble rfl)
      apply Wk.gon 25 rfl rfl
      apply Wk.mv (by conv => lhs; whnf) (lt_of_ble rfl)
      apply Wk.gon 29 rfl rfl
      apply Wk.fad 0 0 false fd30_0 rfl (lt_of_ble rfl)
      apply Wk.gon 29 rfl rfl
      apply Wk.ld (i := 5) 1 false ty3 rfl rfl (by conv => lhs; whnf) (lt_of_ble rfl)
      apply Wk.gon 29 rfl rfl
      apply Wk.bin rfl rfl (r := .bool false) (fun w => by simp [go_sem, hk]) (lt_of_ble rfl)
      apply Wk.gon 25 rfl rfl
      apply Wk.pckT rfl (by conv => lhs; whnf) (lt_of_ble rfl)
      apply Wk.pckF rfl (by conv => lhs; whnf) (lt_of_ble rfl)
      refine Wk.nil ?_
      refine AW.cond rfl (fun hc => by cases hc) (fun _ => AW.skip (thenA_normal ?_))
      refine AW.seq ?_
      apply AW.draw (hm := hmix) (cs := _)
      · apply Wk.ld (i := 3) 5 true ty24 rfl rfl (by conv => lhs; whnf) (lt_of_ble rfl)
        apply Wk.ld (i := 4) 7 true ty28 rfl rfl (by conv => lhs; whnf) (lt_of_ble rfl)
        apply Wk.dat (copy7_ok e c m bs a u d hbl) Try.func36 rfl rfl rfl rfl rfl (lt_of_ble rfl)
        apply Wk.ld (i := 5) 9 true ty30 rfl rfl (by conv => lhs; whnf) (lt_of_ble rfl)
        apply Wk.dat h Try.func35 rfl rfl rfl rfl rfl (lt_of_ble rfl)
        apply Wk.mv (by conv => lhs; whnf) (lt_of_ble rfl)
        apply Wk.ext rfl rfl (lt_of_ble rfl)
        apply Wk.ext rfl rfl (lt_of_ble rfl)
        apply Wk.ext rfl rfl (lt_of_ble rfl)
        apply Wk.alc 9 [.int .i64 0, .int .i64 0, .int .i64 0, .slice none 0 0, .bool false, .bool false, .bool false] ze28 rfl rfl (lt_of_ble rfl)
        apply Wk.sto (i := 9) 7 true ty28 rfl rfl rfl rfl (Nat.le_of_ble_eq_true rfl) (lt_of_ble rfl)
        apply Wk.asg (by conv => lhs; whnf) (lt_of_ble rfl)
        apply Wk.asg (by conv => lhs; whnf) (lt_of_ble rfl)
        refine Wk.nil ?_
        refine AW.seq ?_
        apply AW.list
        apply Wk.ld (i := 9) 7 true ty28 rfl rfl (by conv => lhs; whnf) (lt_of_ble rfl)
        apply Wk.dat (copy7_ok x'.e x'.c x'.m x'.bs x'.a x'.u x'.d hx') Try.func36 rfl rfl rfl rfl rfl (lt_of_ble rfl)
        apply Wk.mv (by conv => lhs; whnf) (lt_of_ble rfl)
        apply Wk.dat (sdusR_ok _ hsd) Try.func37 rfl rfl rfl rfl rfl (lt_of_ble rfl)
        apply Wk.mv (by conv => lhs; whnf) (lt_of_ble rfl)
        apply Wk.sto (i := 6) 7 true ty28 rfl rfl rfl rfl (Nat.le_of_ble_eq_true rfl) (lt_of_ble rfl)
        apply Wk.asg (by conv => lhs; whnf) (lt_of_ble rfl)
        apply Wk.asg (by conv => lhs; whnf) (lt_of_ble rfl)
        refine Wk.nil (AW.ret ?_)
        exact RetQ.ret [] (.cons ⟨6, 0, _, _, _, rfl, rfl, ty28, rfl⟩ (.cons rfl (.cons rfl .nil))) ⟨rfl, rfl⟩ none_kept
      · rfl
      · rfl
theorem hear_small {q : CF} {x : RX} {f : FR} (hg : goesB q x f = true) (hb : x.bs.length ≤ 1000) : (hearF q x f).x.bs.length ≤ 1000 ∧ ∀ bs, (hearF q x f).sd = some bs → bs.length ≤ 100000 := by
  obtain ⟨_, h2, h4, _⟩ := goes_iff.1 hg
  by_cases hn : f.k = 1 ∧ f.s = x.e ∧ x.u = false ∧ x.d = false
  · have e0 : hearF q x f = takeF q x f := by rw [hearF_data hg hn.1 hn.2.2.2 hn.2.2.1, if_pos hn.2.1]
    have hp := (FR.data h4 hn.1).2.2.2.2
    have hl1 := joinB_small (RX.ok_iff.1 h2).2.2
    have hl2 := pieceB_small hp
    rw [e0]
    rcases take_cases q x f h2 hp with ⟨_, e⟩ | ⟨_, ⟨_, e⟩ | ⟨_, e, _⟩ | ⟨_, e, _⟩⟩
    · rw [e]; exact ⟨hb, fun bs h => by cases h⟩
    · rw [e]; exact ⟨by simp, fun bs h => by cases h⟩
    · rw [e]; exact ⟨by simp, fun bs h => by obtain rfl := Option.some.inj h; simp only [List.length_append]; omega⟩
    · rw [e]; exact ⟨by simp only [List.length_append]; omega, fun bs h => by cases h⟩
  · have := hearF_other hg hn
    rw [this.2.2.2.1, this.2.2.2.2.2.2]
    exact ⟨hb, fun bs h => by cases h⟩
theorem shear_ok (q : CF) (x : RX) (f : FR) (hb : x.bs.length ≤ 1000) : DataOk Try.prog 10 [q.A, x.A, f.A] (resH (hearF q x f)) := by
  have hs := fun hg => hear_small (q := q) (x := x) (f := f) hg hb
  obtain ⟨m0, w0, s0, t0, y0⟩ := q
  obtain ⟨e, c, m, bs, a, u, d⟩ := x
  obtain ⟨k, s, k2, p, fl, y, g, l, fs⟩ := f
  have hgo : goesB ⟨m0, w0, s0, t0, y0⟩ ⟨e, c, m, bs, a, u, d⟩ ⟨k, s, k2, p, fl, y, g, l, fs⟩ = (Opt.ok ⟨m0, w0, s0, t0, y0⟩ && rxB e c m bs.length && ((k == 1 || k == 2) && frmB k s k2 p fl y g l fs.length)) := by
    simp only [goesB, CF.ok, RX.ok, FR.ok]
    cases Opt.ok ⟨m0, w0, s0, t0, y0⟩ <;> cases rxB e c m bs.length <;> cases frmB k s k2 p fl y g l fs.length <;> simp
  cases hg : goesB ⟨m0, w0, s0, t0, y0⟩ ⟨e, c, m, bs, a, u, d⟩ ⟨k, s, k2, p, fl, y, g, l, fs⟩
  · have h := (srxh_no e c m bs a u d m0 w0 s0 t0 y0 k s k2 p fl y g l fs (by rw [← hgo]; exact hg)).nrm
    rw [hearF, if_pos hg]
    exact h
  · obtain ⟨h1, h2, h4, h5⟩ := goes_iff.1 hg
    obtain ⟨hs1, hs2⟩ := hs hg
    simp only at hb
    simp only at h5
    have fin : ∀ h : HO, hearF ⟨m0, w0, s0, t0, y0⟩ ⟨e, c, m, bs, a, u, d⟩ ⟨k, s, k2, p, fl, y, g, l, fs⟩ = h → DataOk Try.prog 35 [cfgA m0 w0 s0 t0 y0, rxA e c m bs a u d, frmA k s k2 p fl y g l fs] (resH h) → DataOk Try.prog 10 [cfgA m0 w0 s0 t0 y0, rxA e c m bs a u d, frmA k s k2 p fl y g l fs] (resH h) := fun h he hh => by
      rw [he] at hs1 hs2
      exact srxh_of e c m bs a u d m0 w0 s0 t0 y0 k s k2 p fl y g l fs h5 hb h1 h2 h4 h.x h.sd h.sy hs1 hs2 hh
    show DataOk Try.prog 10 [cfgA m0 w0 s0 t0 y0, rxA e c m bs a u d, frmA k s k2 p fl y g l fs] _
    refine fin _ rfl ?_
    rw [hearF, if_neg (by simp [hg])]
    obtain ⟨r1, r2, r3⟩ := RX.ok_iff.1 h2
    simp only at r1 r2 r3
    cases d
    case true =>
      rw [if_pos rfl]
      exact shearD_ok e c m bs a u m0 w0 s0 t0 y0 k s k2 p fl y g l fs
    case false =>
    rw [if_neg (by simp)]
    clear fin hs hs1 hs2 hgo hg
    rcases h5 with rfl | rfl
    case inr =>
      rw [if_pos rfl]
      cases p
      case false =>
        rw [if_neg (by simp)]
        exact shear0_ok e c m bs a u m0 w0 s0 t0 y0 s k2 fl y g l fs
      case true =>
        rw [if_pos rfl]
        exact shearP_ok e c m bs a u m0 w0 s0 t0 y0 s k2 fl y g l fs
    case inl =>
    rw [if_neg (by simp)]
    have d1 : ∀ h : HO, DataOk Try.prog 63 [cfgA m0 w0 s0 t0 y0, rxA e c m bs a u false, frmA 1 s k2 p fl y g l fs] (resH h) → DataOk Try.prog 35 [cfgA m0 w0 s0 t0 y0, rxA e c m bs a u false, frmA 1 s k2 p fl y g l fs] (resH h) := fun h hh =>
      shear1_ok e c m bs a u m0 w0 s0 t0 y0 s k2 p fl y g l fs h.x h.sd h.sy hh
    refine d1 _ ?_
    cases u
    case true =>
      rw [if_pos rfl]
      exact sdataB_ok e c m bs a false m0 w0 s0 t0 y0 s k2 p fl y g l fs
    case false =>
    rw [if_neg (by simp)]
    have hd := FR.data h4 rfl
    simp only at hd
    have hfar : farF e s = 0 ↔ s = e := by
      rw [farF_in (by omega) (by omega)]
      omega
    by_cases hse : s = e
    · subst hse
      rw [if_pos rfl]
      have hp := hd.2.2.2.2
      have t1 : ∀ x' sd, DataOk Try.prog 76 [cfgA m0 w0 s0 t0 y0, rxA s c m bs a false false, frmA 1 s k2 p fl y g l fs] (.tup [RX.A x', .d (sdR sd)]) → DataOk Try.prog 63 [cfgA m0 w0 s0 t0 y0, rxA s c m bs a false false, frmA 1 s k2 p fl y g l fs] (resH ⟨x', sd, none⟩) := fun x' sd hh =>
        sdataT_ok s c m bs a false m0 w0 s0 t0 y0 s k2 p fl y g l fs (hfar.2 rfl) x' sd hh
      rcases take_cases ⟨m0, w0, s0, t0, y0⟩ ⟨s, c, m, bs, a, false, false⟩ ⟨1, s, k2, p, fl, y, g, l, fs⟩ h2 hp with ⟨hh, e1⟩ | ⟨hh, ⟨hC, e1⟩ | ⟨hC, e1, _⟩ | ⟨hC, e1, _⟩⟩
      · rw [e1]
        exact t1 _ _ (stakeT_ok s c m bs a false false m0 w0 s0 t0 y0 1 s k2 p fl y g l fs hh)
      · rw [e1]
        exact t1 _ _ (stakeB_ok s c m bs a false false m0 w0 s0 t0 y0 1 s k2 p fl y g l fs hh r3 hp hC).nrm
      · rw [e1]
        exact t1 _ _ (stakeA_ok s c m bs a false false m0 w0 s0 t0 y0 1 s k2 p fl y g l fs hh r3 hp hC r1.1 r1.2 (by omega) (by omega)).nrm
      · rw [e1]
        exact t1 _ _ (stakeM_ok s c m bs a false false m0 w0 s0 t0 y0 1 s k2 p fl y g l fs hh r3 hp hC r1.1 r1.2 (by omega) (by omega))
    · rw [if_neg hse]
      have hf0 : ¬ farF e s = 0 := fun h => hse (hfar.1 h)
      by_cases hw : w0 ≤ farF e s
      · rw [if_pos (.inr hw)]
        exact sdata0a_ok e c m bs a false m0 w0 s0 t0 y0 s k2 p fl y g l fs hf0 hw
      cases a
      case true =>
        rw [if_pos (.inl rfl)]
        exact sdata0b_ok e c m bs false m0 w0 s0 t0 y0 s k2 p fl y g l fs hf0 hw
      case false =>
        rw [if_neg (by simp [hw])]
        exact sdata1_ok e c m bs false m0 w0 s0 t0 y0 s k2 p fl y g l fs hf0 hw
end Go.Proofs.Ytlmadcpoaedagaa

/- Who hears, and a frame, drawn; messages compared; over what values read as. -/
namespace Go.Proofs.Ytlmadcpoaedagaa
open Go Go.RowKit
theorem lin_ok (n a b : Int) : DataOk Try.prog 29 [.d (.v (.int .i64 n)), .d (.v (.int .i64 a)), .d (.v (.int .i64 b))] (.d (.v (.bool (inB n a b)))) := by
  refine DataOk.lift fun w F E H args _ hs hd => ?_
  have hs' : args.toList.length = 3 := by simpa using hs
  match hl : args.toList, hs' with
  | [u, v, z], _ =>
    obtain rfl : args = #[u, v, z] := by rw [← Array.toArray_toList (xs := args), hl]
    obtain rfl := den_v (hd 0 _ rfl)
    obtain rfl := den_v (hd 1 _ rfl)
    obtain rfl := den_v (hd 2 _ rfl)
    refine (in_any n a b w).mono ?_
    rintro e w' ⟨rfl, rfl⟩
    exact ⟨rfl, Below.refl _ _⟩
theorem linb (n a b : Int) {r : Bool} (h : inB n a b = r) : DataOk Try.prog 29 [.d (.v (.int .i64 n)), .d (.v (.int .i64 a)), .d (.v (.int .i64 b))] (.d (.v (.bool r))) := h ▸ lin_ok n a b
def hearPost (r : A) : Prop := ∃ (q : CF) (x : RX) (f : FR), r = .tup [q.A, x.A, f.A] ∧ x.bs.length ≤ 1000 ∧ f.bs.length ≤ 17 ∧ Sm f.k ∧ Sm f.s ∧ Sm f.c ∧ Sm f.y ∧ Sm f.g ∧ Sm f.l ∧ (-1 ≤ x.e ∧ x.e ≤ 8) ∧ (-1 ≤ x.c ∧ x.c ≤ 10000) ∧ (-1 ≤ x.m ∧ x.m ≤ 100)
set_option maxHeartbeats 2000000 in
set_option maxRecDepth 100000 in
theorem drawHear_ok (zs : List (Fin 256)) : DataW Try.prog 8 [.d (bytesD (zs.map (·.val)))] hearPost := by
  refine ⟨?_, ⟨_, ⟨0, 0, 0, 0, 0⟩, RX.zero, ⟨0, 0, 0, false, false, 0, 0, 0, []⟩, rfl, by simp [RX.zero, Sm]⟩, ?_⟩
  · refine id ?_
    refine Spec.intro (n := 43) (rv := [.cell 2 24, .cell 3 28, .cell 4 30]) Try.func8 rfl rfl rfl (by simp) fun C hN hX => ?_
    refine AW.seq ?_
    apply AW.list
    apply Wk.alc 2 [.int .i64 0, .int .i64 0, .int .i64 0, .int .i64 0, .int .i64 0] ze24 rfl rfl (lt_of_ble rfl)
    apply Wk.alc 3 [.int .i64 0, .int .i64 0, .int .i64 0, .slice none 0 0, .bool false, .bool false, .bool false] ze28 rfl rfl (lt_of_ble rfl)
    apply Wk.alc 4 [.int .i64 0, .int .i64 0, .int .i64 0, .bool false, .bool false, .int .i64 0, .int .i64 0, .int .i64 0, .slice none 0 0] ze30 rfl rfl (lt_of_ble rfl)
    refine Wk.nil ?_
    refine AW.seq ?_
    apply AW.list
    apply Wk.mv (by conv => lhs; whnf) (lt_of_ble rfl)
    apply Wk.opn open_ok Try.func24 rfl rfl rfl rfl (lt_of_ble rfl)
    rintro zs1
    apply Wk.asg (by conv => lhs; whnf) (lt_of_ble rfl)
    refine Wk.nil ?_
    refine AW.seq ?_
    apply AW.list
    apply Wk.mv (by conv => lhs; whnf) (lt_of_ble rfl)
    apply Wk.drw 0 cfg_ok Try.func25 rfl rfl rfl rfl ⟨_, rfl, by omega⟩ (by omega) rfl (lt_of_ble rfl)
    rintro r2 zs2 p2 ⟨m0, w0, s0, t0, y0, rfl, _, _⟩ hp2
    apply Wk.alc 6 [.int .i64 0, .int .i64 0, .int .i64 0, .int .i64 0, .int .i64 0] ze24 rfl rfl (lt_of_ble rfl)
    apply Wk.sto (i := 6) 5 true ty24 rfl rfl rfl rfl (Nat.le_of_ble_eq_true rfl) (lt_of_ble rfl)
    refine Wk.nil ?_
    refine AW.seq ?_
    apply AW.list
    apply Wk.mv (by conv => lhs; whnf) (lt_of_ble rfl)
    apply Wk.drw 0 rx_ok Try.func26 rfl rfl rfl rfl ⟨_, rfl, by omega⟩ (by omega) rfl (lt_of_ble rfl)
    rintro r3 zs3 p3 ⟨e, c, m, bs, a, u, d, rfl, he1, he2, hc1, hc2, hm1, hm2, hbl⟩ hp3
    apply Wk.alc 7 [.int .i64 0, .int .i64 0, .int .i64 0, .slice none 0 0, .bool false, .bool false, .bool false] ze28 rfl rfl (lt_of_ble rfl)
    apply Wk.sto (i := 7) 7 true ty28 rfl rfl rfl rfl (Nat.le_of_ble_eq_true rfl) (lt_of_ble rfl)
    refine Wk.nil ?_
    refine AW.seq ?_
    apply AW.list
    apply Wk.mv (by conv => lhs; whnf) (lt_of_ble rfl)
    apply Wk.drw 0 frame_ok Try.func27 rfl rfl rfl rfl ⟨_, rfl, by omega⟩ (by omega) rfl (lt_of_ble rfl)
    rintro r4 zs4 p4 ⟨k, s, k2, p, f, y, g, l, fs, rfl, h1, h2, h3, h4, h5, h6, hfl⟩ hp4
    apply Wk.alc 8 [.int .i64 0, .int .i64 0, .int .i64 0, .bool false, .bool false, .int .i64 0, .int .i64 0, .int .i64 0, .slice none 0 0] ze30 rfl rfl (lt_of_ble rfl)
    apply Wk.sto (i := 8) 9 true ty30 rfl rfl rfl rfl (Nat.le_of_ble_eq_true rfl) (lt_of_ble rfl)
    refine Wk.nil ?_
    let inv : List (Fin 256) × Nat × Int → St := fun x => St.of 43 [(2, .ptr 2 0), (3, .ptr 3 0), (4, .ptr 4 0), (6, .ptr 6 0), (7, .ptr 7 0), (8, .ptr 8 0)] [(2, .var [.d (.v (.int .i64 0)), .d (.v (.int .i64 0)), .d (.v (.int .i64 0)), .d (.v (.int .i64 0)), .d (.v (.int .i64 0))]), (3, .var rxZ), (4, .var frmZ), (6, .var [.d (.v (.int .i64 m0)), .d (.v (.int .i64 w0)), .d (.v (.int .i64 s0)), .d (.v (.int .i64 t0)), .d (.v (.int .i64 y0))]), (7, .var [.d (.v (.int .i64 e)), .d (.v (.int .i64 c)), .d (.v (.int .i64 m)), .d (fbytes bs), .d (.v (.bool a)), .d (.v (.bool u)), .d (.v (.bool d))]), (8, .var (frmO k x.2.2 k2 p f y g l (.d (fbytes fs))))]
    have fin : ∀ (s : Int) (σ : St), σ.n = 43 → σ.t 2 = .ptr 2 0 → σ.t 3 = .ptr 3 0 → σ.t 4 = .ptr 4 0 → σ.t 6 = .ptr 6 0 → σ.t 7 = .ptr 7 0 → σ.t 8 = .ptr 8 0 → σ.b 2 = .var [.d (.v (.int .i64 0)), .d (.v (.int .i64 0)), .d (.v (.int .i64 0)), .d (.v (.int .i64 0)), .d (.v (.int .i64 0))] → σ.b 3 = .var rxZ → σ.b 4 = .var frmZ → σ.b 6 = .var [.d (.v (.int .i64 m0)), .d (.v (.int .i64 w0)), .d (.v (.int .i64 s0)), .d (.v (.int .i64 t0)), .d (.v (.int .i64 y0))] → σ.b 7 = .var [.d (.v (.int .i64 e)), .d (.v (.int .i64 c)), .d (.v (.int .i64 m)), .d (fbytes bs), .d (.v (.bool a)), .d (.v (.bool u)), .d (.v (.bool d))] → σ.b 8 = .var (frmO k s k2 p f y g l (.d (fbytes fs))) →
        ∀ a w, Rel C σ a w → Rel C (inv ([], 0, s)) a w := fun s σ h0 h1 h2 h3 h4 h5 h6 h7 h8 h9 h10 h11 h12 a w => Rel.keep ⟨h0.symm, .cons h1 rfl (.cons h2 rfl (.cons h3 rfl (.cons h4 rfl (.cons h5 rfl (.cons h6 rfl .nil))))), .cons h7 rfl (.cons h8 rfl (.cons h9 rfl (.cons h10 rfl (.cons h11 rfl (.cons h12 rfl .nil))))), hN.mono (by simp [keys])⟩
    refine AW.via inv (fun x => Sm x.2.2) ?_ ?_
    · refine AW.seq ?_
      by_cases hk1 : k = 1
      · subst hk1
        by_cases hin : inB e 0 7 = true
        · apply AW.list
          apply Wk.fad 0 0 false fd30_0 rfl (lt_of_ble rfl)
          apply Wk.ld (i := 8) 1 false ty3 rfl rfl (by conv => lhs; whnf) (lt_of_ble rfl)
          apply Wk.bin rfl rfl (fun w => by simp [go_sem] <;> rfl) (lt_of_ble rfl)
          apply Wk.mv (by conv => lhs; whnf) (lt_of_ble rfl)
          apply Wk.gon 20 rfl rfl
          apply Wk.mv (by conv => lhs; whnf) (lt_of_ble rfl)
          apply Wk.gon 20 rfl rfl
          apply Wk.drw 0 pick_ok Try.func28 rfl rfl rfl rfl ⟨_, rfl, by omega⟩ (by omega) rfl (lt_of_ble rfl)
          rintro r5 zs5 p5 ⟨k5, rfl, _⟩ hp5
          apply Wk.gon 20 rfl rfl
          apply Wk.bin rfl rfl (r := .bool (decide (0 < (k5 : Int)))) (fun w => by simp [go_sem]) (lt_of_ble rfl)
          apply Wk.pckT rfl (by conv => lhs; whnf) (lt_of_ble rfl)
          apply Wk.mv (by conv => lhs; whnf) (lt_of_ble rfl)
          generalize decide (0 < (k5 : Int)) = b5
          cases b5
          case' true =>
            apply Wk.gon 25 rfl rfl
            apply Wk.fad 0 0 false fd28_0 rfl (lt_of_ble rfl)
            apply Wk.gon 25 rfl rfl
            apply Wk.ld (i := 7) 1 false ty3 rfl rfl (by conv => lhs; whnf) (lt_of_ble rfl)
            apply Wk.gon 25 rfl rfl
            apply Wk.dat (linb e 0 7 hin) Try.func29 rfl rfl rfl rfl rfl (lt_of_ble rfl)
            apply Wk.pckT rfl (by conv => lhs; whnf) (lt_of_ble rfl)
            refine Wk.nil ?_
          case' false =>
            apply Wk.goff 25 (ok_faddr fd28_0) rfl rfl (by decide)
            apply Wk.goff 25 (ok_load 7 ty3) rfl rfl (by decide)
            apply Wk.goff 25 (ok_datw ((linb e 0 7 hin).w rfl) Try.func29 rfl rfl) rfl rfl (by decide)
            apply Wk.pckF rfl (by conv => lhs; whnf) (lt_of_ble rfl)
            refine Wk.nil ?_
          · refine AW.cond rfl (fun hc => by cases hc) (fun _ => AW.skip (thenA_normal ?_))
            exact ⟨([], 0, s), h2, fin _ _ rfl rfl rfl rfl rfl rfl rfl rfl rfl rfl rfl rfl rfl⟩
          · refine AW.cond rfl (fun _ => ?_) (fun hc => by cases hc)
            rw [inB_iff] at hin
            obtain ⟨e0, rfl⟩ := Int.eq_ofNat_of_zero_le hin.1
            apply AW.draw (hm := hmix) (cs := _)
            · apply Wk.fad 0 0 false fd28_0 rfl (lt_of_ble rfl)
              apply Wk.ld (i := 7) 1 false ty3 rfl rfl (by conv => lhs; whnf) (lt_of_ble rfl)
              apply Wk.lst 32 1 false [.int .i64 0] un59 ty3 ze3 rfl rfl (by rfl) (by rfl) (by decide) (by decide) rfl rfl (all_len rfl) (lt_of_ble rfl)
              apply Wk.mv (by conv => lhs; whnf) (lt_of_ble rfl)
              apply Wk.drw 0 pick_ok Try.func28 rfl rfl rfl rfl ⟨_, rfl, by omega⟩ (by omega) rfl (lt_of_ble rfl)
              rintro r6 zs6 p6 ⟨k6, rfl, hk6⟩ hp6
              have hk6' : k6 < 4 := by have := hk6 4 rfl; omega
              obtain ⟨v, hv, hv1⟩ : ∃ v : Nat, partA (List.flatten [[A.d (.v (.int .i64 0))], [.d (.v (.int .i64 0))], [.d (.v (.int .i64 1))], [.d (.v (.int .i64 7))]]) (k6 * 1) 1 false = some (.d (.v (.int .i64 (v : Int)))) ∧ v ≤ 7 := by
                rcases (show k6 = 0 ∨ k6 = 1 ∨ k6 = 2 ∨ k6 = 3 by omega) with rfl | rfl | rfl | rfl
                · exact ⟨0, rfl, by omega⟩
                · exact ⟨0, rfl, by omega⟩
                · exact ⟨1, rfl, by omega⟩
                · exact ⟨7, rfl, by omega⟩
              apply Wk.iado 32 1 false un59 ty3 rfl rfl rfl hk6' (lt_of_ble rfl)
              apply Wk.ldo (i := 32) 1 false ty3 rfl rfl hv (lt_of_ble rfl)
              apply Wk.addn rfl rfl (by omega) (lt_of_ble rfl)
              apply Wk.remn (b := 8) rfl rfl (by decide) (lt_of_ble rfl)
              apply Wk.fad 1 0 false fd30_1 rfl (lt_of_ble rfl)
              apply Wk.sto (i := 8) 1 false ty3 rfl rfl rfl rfl (Nat.le_of_ble_eq_true rfl) (lt_of_ble rfl)
              refine Wk.nil (thenA_normal ?_)
              exact ⟨([], 0, (((e0 + v) % 8 : Nat) : Int)), ⟨by simp only; omega, by simp only; omega⟩, fin _ _ rfl rfl rfl rfl rfl rfl rfl rfl rfl rfl rfl rfl rfl⟩
            · rfl
            · rfl
        · have hin' : inB e 0 7 = false := by simpa using hin
          apply AW.list
          apply Wk.fad 0 0 false fd30_0 rfl (lt_of_ble rfl)
          apply Wk.ld (i := 8) 1 false ty3 rfl rfl (by conv => lhs; whnf) (lt_of_ble rfl)
          apply Wk.bin rfl rfl (fun w => by simp [go_sem] <;> rfl) (lt_of_ble rfl)
          apply Wk.mv (by conv => lhs; whnf) (lt_of_ble rfl)
          apply Wk.gon 20 rfl rfl
          apply Wk.mv (by conv => lhs; whnf) (lt_of_ble rfl)
          apply Wk.gon 20 rfl rfl
          apply Wk.drw 0 pick_ok Try.func28 rfl rfl rfl rfl ⟨_, rfl, by omega⟩ (by omega) rfl (lt_of_ble rfl)
          rintro r5 zs5 p5 ⟨k5, rfl, _⟩ hp5
          apply Wk.gon 20 rfl rfl
          apply Wk.bin rfl rfl (r := .bool (decide (0 < (k5 : Int)))) (fun w => by simp [go_sem]) (lt_of_ble rfl)
          apply Wk.pckT rfl (by conv => lhs; whnf) (lt_of_ble rfl)
          apply Wk.mv (by conv => lhs; whnf) (lt_of_ble rfl)
          generalize decide (0 < (k5 : Int)) = b5
          cases b5
          case' true =>
            apply Wk.gon 25 rfl rfl
            apply Wk.fad 0 0 false fd28_0 rfl (lt_of_ble rfl)
            apply Wk.gon 25 rfl rfl
            apply Wk.ld (i := 7) 1 false ty3 rfl rfl (by conv => lhs; whnf) (lt_of_ble rfl)
            apply Wk.gon 25 rfl rfl
            apply Wk.dat (linb e 0 7 hin') Try.func29 rfl rfl rfl rfl rfl (lt_of_ble rfl)
            apply Wk.pckT rfl (by conv => lhs; whnf) (lt_of_ble rfl)
            refine Wk.nil ?_
          case' false =>
            apply Wk.goff 25 (ok_faddr fd28_0) rfl rfl (by decide)
            apply Wk.goff 25 (ok_load 7 ty3) rfl rfl (by decide)
            apply Wk.goff 25 (ok_datw ((linb e 0 7 hin').w rfl) Try.func29 rfl rfl) rfl rfl (by decide)
            apply Wk.pckF rfl (by conv => lhs; whnf) (lt_of_ble rfl)
            refine Wk.nil ?_
          all_goals
            refine AW.cond rfl (fun hc => by cases hc) (fun _ => AW.skip (thenA_normal ?_))
            exact ⟨([], 0, s), h2, fin _ _ rfl rfl rfl rfl rfl rfl rfl rfl rfl rfl rfl rfl rfl⟩
      · apply AW.list
        apply Wk.fad 0 0 false fd30_0 rfl (lt_of_ble rfl)
        apply Wk.ld (i := 8) 1 false ty3 rfl rfl (by conv => lhs; whnf) (lt_of_ble rfl)
        apply Wk.bin rfl rfl (r := .bool false) (fun w => by simp [go_sem, hk1]) (lt_of_ble rfl)
        apply Wk.mv (by conv => lhs; whnf) (lt_of_ble rfl)
        apply Wk.goff 20 (ok_move _) rfl rfl (by decide)
        apply Wk.goff 20 (ok_drw 0 pick_ok Try.func28 rfl rfl) rfl rfl (by decide)
        apply Wk.goff 20 (ok_bin _ _ _ _ _) rfl rfl (by decide)
        apply Wk.pckF rfl (by conv => lhs; whnf) (lt_of_ble rfl)
        apply Wk.mv (by conv => lhs; whnf) (lt_of_ble rfl)
        apply Wk.goff 25 (ok_faddr fd28_0) rfl rfl (by decide)
        apply Wk.goff 25 (ok_load 7 ty3) rfl rfl (by decide)
        apply Wk.goff 25 (ok_datw ((lin_ok e 0 7).w rfl) Try.func29 rfl rfl) rfl rfl (by decide)
        apply Wk.pckF rfl (by conv => lhs; whnf) (lt_of_ble rfl)
        refine Wk.nil ?_
        refine AW.cond rfl (fun hc => by cases hc) (fun _ => AW.skip (thenA_normal ?_))
        exact ⟨([], 0, s), h2, fin _ _ rfl rfl rfl rfl rfl rfl rfl rfl rfl rfl rfl rfl rfl⟩
    · rintro ⟨zs7, p7, s7⟩ hs7
      simp only at hs7
      show AW Try.prog C _ _ (St.of 43 [(2, .ptr 2 0), (3, .ptr 3 0), (4, .ptr 4 0), (6, .ptr 6 0), (7, .ptr 7 0), (8, .ptr 8 0)] [(2, .var [.d (.v (.int .i64 0)), .d (.v (.int .i64 0)), .d (.v (.int .i64 0)), .d (.v (.int .i64 0)), .d (.v (.int .i64 0))]), (3, .var rxZ), (4, .var frmZ), (6, .var [.d (.v (.int .i64 m0)), .d (.v (.int .i64 w0)), .d (.v (.int .i64 s0)), .d (.v (.int .i64 t0)), .d (.v (.int .i64 y0))]), (7, .var [.d (.v (.int .i64 e)), .d (.v (.int .i64 c)), .d (.v (.int .i64 m)), .d (fbytes bs), .d (.v (.bool a)), .d (.v (.bool u)), .d (.v (.bool d))]), (8, .var (frmO k s7 k2 p f y g l (.d (fbytes fs))))])
      refine AW.seq ?_
      apply AW.draw (hm := hmix) (cs := _)
      · apply Wk.ld (i := 6) 5 true ty24 rfl rfl (by conv => lhs; whnf) (lt_of_ble rfl)
        apply Wk.ld (i := 7) 7 true ty28 rfl rfl (by conv => lhs; whnf) (lt_of_ble rfl)
        apply Wk.ld (i := 8) 9 true ty30 rfl rfl (by conv => lhs; whnf) (lt_of_ble rfl)
        apply Wk.sto (i := 2) 5 true ty24 rfl rfl rfl rfl (Nat.le_of_ble_eq_true rfl) (lt_of_ble rfl)
        apply Wk.sto (i := 3) 7 true ty28 rfl rfl rfl rfl (Nat.le_of_ble_eq_true rfl) (lt_of_ble rfl)
        apply Wk.sto (i := 4) 9 true ty30 rfl rfl rfl rfl (Nat.le_of_ble_eq_true rfl) (lt_of_ble rfl)
        refine Wk.nil (AW.ret ?_)
        exact RetQ.ret [] (.cons ⟨2, 0, _, _, _, rfl, rfl, ty24, rfl⟩ (.cons ⟨3, 0, _, _, _, rfl, rfl, ty28, rfl⟩ (.cons ⟨4, 0, _, _, _, rfl, rfl, ty30, rfl⟩ .nil))) ⟨⟨⟨m0, w0, s0, t0, y0⟩, ⟨e, c, m, bs, a, u, d⟩, ⟨k, s7, k2, p, f, y, g, l, fs⟩, rfl, hbl, hfl, h1, hs7, h3, h4, h5, h6, ⟨he1, he2⟩, ⟨hc1, hc2⟩, ⟨hm1, hm2⟩⟩, rfl⟩ none_kept
      · rfl
      · rfl
  · rintro r ⟨q, x, f, rfl, _⟩; rfl
end Go.Proofs.Ytlmadcpoaedagaa

/- What the laws of RxHear share. Written by tools/mk_RxLaws.py. -/
namespace Go.Proofs.Ytlmadcpoaedagaa
open Go
theorem liBytesE (zs : List Nat) : DataOk Try.prog 22 [.d (bytesD zs), .d (bytesD zs)] (.d (.v (.bool true))) := by
  have h := liBytes_ok zs zs
  simpa using h
theorem liSdusR (sd : Option (List (Fin 256))) : DataOk Try.prog 12 [.d (sdR sd), .d (sdR sd)] (.d (.v (.bool true))) := by
  rcases sd with _ | bs
  · show DataOk Try.prog 12 [rowE, rowE] _
    refine Spec.intro (n := 27) (rv := [.tmp 4]) Try.func12 rfl rfl rfl (by simp) fun C hN hX => ?_
    refine AW.seq ?_
    apply AW.list
    apply Wk.asg (by conv => lhs; whnf) (lt_of_ble rfl)
    refine Wk.nil ?_
    refine AW.seq (AW.seq ?_)
    apply AW.list
    apply Wk.mv (by conv => lhs; whnf) (lt_of_ble rfl)
    apply Wk.len un33 rfl (lt_of_ble rfl)
    apply Wk.mv (by conv => lhs; whnf) (lt_of_ble rfl)
    apply Wk.len un33 rfl (lt_of_ble rfl)
    apply Wk.bin rfl rfl (fun w => by simp [go_sem] <;> rfl) (lt_of_ble rfl)
    refine Wk.nil ?_
    refine AW.cond rfl (fun hc => by simp at hc) (fun _ => AW.skip (thenA_normal ?_))
    refine AW.seq (AW.seq ?_)
    apply AW.list
    apply Wk.asg (by conv => lhs; whnf) (lt_of_ble rfl)
    refine Wk.nil (AW.block ?_)
    refine AW.loop (fun k : Nat => St.of 27 [(0, rowE), (1, rowE), (5, .d (.v (.int .i64 (k : Int))))] []) (fun k => k = 0) (fun k => k) 0 rfl ?_ (fun k hk => ?_)
    · exact fun a w => Rel.keep ⟨rfl, .cons rfl rfl (.cons rfl rfl (.cons rfl rfl .nil)), .nil, hN⟩
    subst hk
    refine AW.seq (AW.seq ?_)
    apply AW.list
    apply Wk.mv (by conv => lhs; whnf) (lt_of_ble rfl)
    apply Wk.mv (by conv => lhs; whnf) (lt_of_ble rfl)
    apply Wk.len un33 rfl (lt_of_ble rfl)
    apply Wk.bin rfl rfl (fun w => by simp [go_sem] <;> rfl) (lt_of_ble rfl)
    refine Wk.nil ?_
    refine AW.cond rfl (fun hc => by simp at hc) (fun hc => ?_)
    refine AW.exit ?_
    repeat (first | refine inBlockA_same ?_ | refine thenA_exit ?_)
    repeat (first | refine thenA_normal ?_ | refine inBlockA_normal ?_)
    refine AW.seq ?_
    apply AW.list
    apply Wk.asg (by conv => lhs; whnf) (lt_of_ble rfl)
    refine Wk.nil (AW.ret ?_)
    repeat (first | refine thenA_ret ?_ | refine inBlockA_ret ?_)
    exact RetQ.ret [] (.cons rfl .nil) ⟨rfl, rfl⟩ none_kept
  · show DataOk Try.prog 12 [.d (.row [[fbytes bs]]), .d (.row [[fbytes bs]])] _
    refine Spec.intro (n := 27) (rv := [.tmp 4]) Try.func12 rfl rfl rfl (by simp) fun C hN hX => ?_
    refine AW.seq ?_
    apply AW.list
    apply Wk.asg (by conv => lhs; whnf) (lt_of_ble rfl)
    refine Wk.nil ?_
    refine AW.seq (AW.seq ?_)
    apply AW.list
    apply Wk.mv (by conv => lhs; whnf) (lt_of_ble rfl)
    apply Wk.len un33 rfl (lt_of_ble rfl)
    apply Wk.mv (by conv => lhs; whnf) (lt_of_ble rfl)
    apply Wk.len un33 rfl (lt_of_ble rfl)
    apply Wk.bin rfl rfl (fun w => by simp [go_sem] <;> rfl) (lt_of_ble rfl)
    refine Wk.nil ?_
    refine AW.cond rfl (fun hc => by simp at hc) (fun _ => AW.skip (thenA_normal ?_))
    refine AW.seq (AW.seq ?_)
    apply AW.list
    apply Wk.asg (by conv => lhs; whnf) (lt_of_ble rfl)
    refine Wk.nil (AW.block ?_)
    refine AW.loop (fun q : Nat => St.of 27 [(0, .d (.row [[fbytes bs]])), (1, .d (.row [[fbytes bs]])), (5, .d (.v (.int .i64 (q : Int))))] []) (fun q => q ≤ 1) (fun q => 1 - q) 0 (by omega) ?_ (fun q hq => ?_)
    · exact fun a w => Rel.keep ⟨rfl, .cons rfl rfl (.cons rfl rfl (.cons rfl rfl .nil)), .nil, hN⟩
    refine AW.seq (AW.seq ?_)
    apply AW.list
    apply Wk.mv (by conv => lhs; whnf) (lt_of_ble rfl)
    apply Wk.mv (by conv => lhs; whnf) (lt_of_ble rfl)
    apply Wk.len un33 rfl (lt_of_ble rfl)
    apply Wk.bin rfl rfl (fun w => by simp [go_sem] <;> rfl) (lt_of_ble rfl)
    refine Wk.nil ?_
    refine AW.cond rfl (fun hc => ?_) (fun hc => ?_)
    · obtain rfl : q = 0 := by
        simp at hc
        omega
      refine AW.skip ?_
      repeat (first | refine thenA_normal ?_ | refine inBlockA_normal ?_)
      refine AW.seq (AW.block (AW.seq ?_))
      apply AW.draw (hm := hmix) (cs := _)
      · apply Wk.mv (by conv => lhs; whnf) (lt_of_ble rfl)
        apply Wk.mv (by conv => lhs; whnf) (lt_of_ble rfl)
        apply Wk.iad 1 false un33 ty22 rfl rfl (Nat.succ_pos _) (all_len rfl) (lt_of_ble rfl)
        apply Wk.ldr 1 false ty22 rfl rfl (by conv => lhs; whnf) (lt_of_ble rfl)
        apply Wk.mv (by conv => lhs; whnf) (lt_of_ble rfl)
        apply Wk.mv (by conv => lhs; whnf) (lt_of_ble rfl)
        apply Wk.iad 1 false un33 ty22 rfl rfl (Nat.succ_pos _) (all_len rfl) (lt_of_ble rfl)
        apply Wk.ldr 1 false ty22 rfl rfl (by conv => lhs; whnf) (lt_of_ble rfl)
        apply Wk.dat (liBytesE (bs.map (·.val))) Try.func22 rfl rfl rfl rfl rfl (lt_of_ble rfl)
        apply Wk.un rfl (fun w => by simp [go_sem] <;> rfl) (lt_of_ble rfl)
        refine Wk.nil ?_
        refine AW.cond rfl (fun hn => by cases hn) (fun hn => ?_)
        refine AW.skip ?_
        repeat (first | refine thenA_normal ?_ | refine inBlockA_normal ?_)
        apply AW.list
        apply Wk.mv (by conv => lhs; whnf) (lt_of_ble rfl)
        apply Wk.addi rfl rfl (by omega) (lt_of_ble rfl)
        apply Wk.asg (by conv => lhs; whnf) (lt_of_ble rfl)
        refine Wk.nil ?_
        exact ⟨1, by omega, by omega, fun a w => Rel.keep ⟨rfl, .cons rfl rfl (.cons rfl rfl (.cons rfl rfl .nil)), .nil, hN⟩⟩
      · rfl
      · rfl
    · refine AW.exit ?_
      repeat (first | refine inBlockA_same ?_ | refine thenA_exit ?_)
      repeat (first | refine thenA_normal ?_ | refine inBlockA_normal ?_)
      refine AW.seq ?_
      apply AW.list
      apply Wk.asg (by conv => lhs; whnf) (lt_of_ble rfl)
      refine Wk.nil (AW.ret ?_)
      repeat (first | refine thenA_ret ?_ | refine inBlockA_ret ?_)
      exact RetQ.ret [] (.cons rfl .nil) ⟨rfl, rfl⟩ none_kept
theorem liFrames0 : DataOk Try.prog 13 [rowE, rowE] (.d (.v (.bool true))) := by
  refine Spec.intro (n := 27) (rv := [.tmp 4]) Try.func13 rfl rfl rfl (by simp) fun C hN hX => ?_
  refine AW.seq ?_
  apply AW.list
  apply Wk.asg (by conv => lhs; whnf) (lt_of_ble rfl)
  refine Wk.nil ?_
  refine AW.seq (AW.seq ?_)
  apply AW.list
  apply Wk.mv (by conv => lhs; whnf) (lt_of_ble rfl)
  apply Wk.len un34 rfl (lt_of_ble rfl)
  apply Wk.mv (by conv => lhs; whnf) (lt_of_ble rfl)
  apply Wk.len un34 rfl (lt_of_ble rfl)
  apply Wk.bin rfl rfl (fun w => by simp [go_sem] <;> rfl) (lt_of_ble rfl)
  refine Wk.nil ?_
  refine AW.cond rfl (fun hc => by simp at hc) (fun _ => AW.skip (thenA_normal ?_))
  refine AW.seq (AW.seq ?_)
  apply AW.list
  apply Wk.asg (by conv => lhs; whnf) (lt_of_ble rfl)
  refine Wk.nil (AW.block ?_)
  refine AW.loop (fun k : Nat => St.of 27 [(0, rowE), (1, rowE), (5, .d (.v (.int .i64 (k : Int))))] []) (fun k => k = 0) (fun k => k) 0 rfl ?_ (fun k hk => ?_)
  · exact fun a w => Rel.keep ⟨rfl, .cons rfl rfl (.cons rfl rfl (.cons rfl rfl .nil)), .nil, hN⟩
  subst hk
  refine AW.seq (AW.seq ?_)
  apply AW.list
  apply Wk.mv (by conv => lhs; whnf) (lt_of_ble rfl)
  apply Wk.mv (by conv => lhs; whnf) (lt_of_ble rfl)
  apply Wk.len un34 rfl (lt_of_ble rfl)
  apply Wk.bin rfl rfl (fun w => by simp [go_sem] <;> rfl) (lt_of_ble rfl)
  refine Wk.nil ?_
  refine AW.cond rfl (fun hc => by simp at hc) (fun hc => ?_)
  refine AW.exit ?_
  repeat (first | refine inBlockA_same ?_ | refine thenA_exit ?_)
  repeat (first | refine thenA_normal ?_ | refine inBlockA_normal ?_)
  refine AW.seq ?_
  apply AW.list
  apply Wk.asg (by conv => lhs; whnf) (lt_of_ble rfl)
  refine Wk.nil (AW.ret ?_)
  repeat (first | refine thenA_ret ?_ | refine inBlockA_ret ?_)
  exact RetQ.ret [] (.cons rfl .nil) ⟨rfl, rfl⟩ none_kept
theorem liFrames1 (k s c : Int) (p f : Bool) (y g l : Int) (bs : List (Fin 256)) : DataOk Try.prog 13 [.d (.row [frmD k s c p f y g l bs]), .d (.row [frmD k s c p f y g l bs])] (.d (.v (.bool true))) := by
  refine Spec.intro (n := 27) (rv := [.tmp 4]) Try.func13 rfl rfl rfl (by simp) fun C hN hX => ?_
  refine AW.seq ?_
  apply AW.list
  apply Wk.asg (by conv => lhs; whnf) (lt_of_ble rfl)
  refine Wk.nil ?_
  refine AW.seq (AW.seq ?_)
  apply AW.list
  apply Wk.mv (by conv => lhs; whnf) (lt_of_ble rfl)
  apply Wk.len un34 rfl (lt_of_ble rfl)
  apply Wk.mv (by conv => lhs; whnf) (lt_of_ble rfl)
  apply Wk.len un34 rfl (lt_of_ble rfl)
  apply Wk.bin rfl rfl (fun w => by simp [go_sem] <;> rfl) (lt_of_ble rfl)
  refine Wk.nil ?_
  refine AW.cond rfl (fun hc => by simp at hc) (fun _ => AW.skip (thenA_normal ?_))
  refine AW.seq (AW.seq ?_)
  apply AW.list
  apply Wk.asg (by conv => lhs; whnf) (lt_of_ble rfl)
  refine Wk.nil (AW.block ?_)
  refine AW.loop (fun q : Nat => St.of 27 [(0, .d (.row [frmD k s c p f y g l bs])), (1, .d (.row [frmD k s c p f y g l bs])), (5, .d (.v (.int .i64 (q : Int))))] []) (fun q => q ≤ 1) (fun q => 1 - q) 0 (by omega) ?_ (fun q hq => ?_)
  · exact fun a w => Rel.keep ⟨rfl, .cons rfl rfl (.cons rfl rfl (.cons rfl rfl .nil)), .nil, hN⟩
  refine AW.seq (AW.seq ?_)
  apply AW.list
  apply Wk.mv (by conv => lhs; whnf) (lt_of_ble rfl)
  apply Wk.mv (by conv => lhs; whnf) (lt_of_ble rfl)
  apply Wk.len un34 rfl (lt_of_ble rfl)
  apply Wk.bin rfl rfl (fun w => by simp [go_sem] <;> rfl) (lt_of_ble rfl)
  refine Wk.nil ?_
  refine AW.cond rfl (fun hc => ?_) (fun hc => ?_)
  · obtain rfl : q = 0 := by
      simp at hc
      omega
    refine AW.skip ?_
    repeat (first | refine thenA_normal ?_ | refine inBlockA_normal ?_)
    refine AW.seq (AW.block (AW.seq ?_))
    apply AW.draw (hm := hmix) (cs := _)
    · apply Wk.mv (by conv => lhs; whnf) (lt_of_ble rfl)
      apply Wk.mv (by conv => lhs; whnf) (lt_of_ble rfl)
      apply Wk.iad 9 true un34 ty30 rfl rfl (Nat.succ_pos _) (all_len rfl) (lt_of_ble rfl)
      apply Wk.ldr 9 true ty30 rfl rfl (by conv => lhs; whnf) (lt_of_ble rfl)
      apply Wk.mv (by conv => lhs; whnf) (lt_of_ble rfl)
      apply Wk.mv (by conv => lhs; whnf) (lt_of_ble rfl)
      apply Wk.iad 9 true un34 ty30 rfl rfl (Nat.succ_pos _) (all_len rfl) (lt_of_ble rfl)
      apply Wk.ldr 9 true ty30 rfl rfl (by conv => lhs; whnf) (lt_of_ble rfl)
      apply Wk.dat (liFrame_ok k s c p f y g l bs) Try.func38 rfl rfl rfl rfl rfl (lt_of_ble rfl)
      apply Wk.un rfl (fun w => by simp [go_sem] <;> rfl) (lt_of_ble rfl)
      refine Wk.nil ?_
      refine AW.cond rfl (fun hn => by cases hn) (fun hn => ?_)
      refine AW.skip ?_
      repeat (first | refine thenA_normal ?_ | refine inBlockA_normal ?_)
      apply AW.list
      apply Wk.mv (by conv => lhs; whnf) (lt_of_ble rfl)
      apply Wk.addi rfl rfl (by omega) (lt_of_ble rfl)
      apply Wk.asg (by conv => lhs; whnf) (lt_of_ble rfl)
      refine Wk.nil ?_
      exact ⟨1, by omega, by omega, fun a w => Rel.keep ⟨rfl, .cons rfl rfl (.cons rfl rfl (.cons rfl rfl .nil)), .nil, hN⟩⟩
    · rfl
    · rfl
  · refine AW.exit ?_
    repeat (first | refine inBlockA_same ?_ | refine thenA_exit ?_)
    repeat (first | refine thenA_normal ?_ | refine inBlockA_normal ?_)
    refine AW.seq ?_
    apply AW.list
    apply Wk.asg (by conv => lhs; whnf) (lt_of_ble rfl)
    refine Wk.nil (AW.ret ?_)
    repeat (first | refine thenA_ret ?_ | refine inBlockA_ret ?_)
    exact RetQ.ret [] (.cons rfl .nil) ⟨rfl, rfl⟩ none_kept
theorem liFramesR (sy : Option (Int × Bool × Int)) : DataOk Try.prog 13 [.d (syR sy), .d (syR sy)] (.d (.v (.bool true))) := by
  rcases sy with _ | ⟨e, f, y⟩
  · exact liFrames0
  · exact liFrames1 2 0 e false f y 0 0 []
theorem liJoinE {m m' : Int} {bs bs' : List (Fin 256)} (h : m' = m) (h' : bs' = bs) : DataOk Try.prog 19 [joinA m' bs', joinA m bs] (.d (.v (.bool true))) := by
  subst h
  subst h'
  exact liJoin_ok _ _
theorem ihearb (q : CF) (x : RX) (f : FR) (hb : x.bs.length ≤ 1000) (hf : f.bs.length ≤ 1000) {h : HO} (hh : hearF q x f = h) : DataOk Try.prog 9 [q.A, x.A, f.A] (resH h) := hh ▸ ihear_ok q x f hb hf
theorem shearb (q : CF) (x : RX) (f : FR) (hb : x.bs.length ≤ 1000) {h : HO} (hh : hearF q x f = h) : DataOk Try.prog 10 [q.A, x.A, f.A] (resH h) := hh ▸ shear_ok q x f hb
end Go.Proofs.Ytlmadcpoaedagaa

/- What comes of a frame that is heard: the ways one by one. -/
namespace Go.Proofs.Ytlmadcpoaedagaa
open Go
theorem hearF_no {q : CF} {x : RX} {f : FR} (h : goesB q x f = false) : hearF q x f = ⟨RX.zero, none, none⟩ := by rw [hearF, if_pos h]
theorem hearF_dead {q : CF} {x : RX} {f : FR} (hg : goesB q x f = true) (hd : x.d = true) : hearF q x f = ⟨x, none, none⟩ := by
  rw [hearF, if_neg (by simp [hg]), if_pos hd]
theorem hearF_say {q : CF} {x : RX} {f : FR} (hg : goesB q x f = true) (hd : x.d = false) (hk : f.k = 2) : hearF q x f = if f.p = true then ⟨⟨x.e, x.c, x.m, x.bs, false, x.u, x.d⟩, none, some (x.e, true, sayOf x.u)⟩ else ⟨x, none, none⟩ := by
  rw [hearF, if_neg (by simp [hg]), if_neg (by simp [hd]), if_pos hk]
theorem hearF_busy {q : CF} {x : RX} {f : FR} (hg : goesB q x f = true) (hd : x.d = false) (hk : f.k = 1) (hu : x.u = true) : hearF q x f = ⟨x, none, some (x.e, false, 2)⟩ := by
  rw [hearF, if_neg (by simp [hg]), if_neg (by simp [hd]), if_neg (by omega), if_pos hu]
theorem takeF_sy (q : CF) (x : RX) (f : FR) : (takeF q x f).sy = none := by
  unfold takeF
  repeat' split
  all_goals rfl
theorem far_ne {a b : Int} (ha : 0 ≤ a ∧ a ≤ 7) (hb : 0 ≤ b ∧ b ≤ 7) : farF a b = 0 ↔ b = a := by
  rw [farF_in (by omega) (by omega)]
  omega
theorem far_pos {a b : Int} (ha : 0 ≤ a ∧ a ≤ 7) (hb : 0 ≤ b ∧ b ≤ 7) : 0 ≤ farF a b := by
  rw [farF_in (by omega) (by omega)]
  omega
theorem rx_e {x : RX} (h : x.ok = true) : 0 ≤ x.e ∧ x.e ≤ 7 := by
  have := RX.ok_iff.1 h
  omega
/-- What is behind is let be. -/
theorem hearF_late {q : CF} {x : RX} {k s c : Int} {p f : Bool} {y g l : Int} {bs : List (Fin 256)} (hq : q.ok = true) (hx : x.ok = true) (hf : FR.ok ⟨k, s, c, p, f, y, g, l, bs⟩ = true) (hk : k = 1) (hu : x.u = false) (s' : Int) (hs0 : 0 ≤ s' ∧ s' ≤ 7) (hs1 : s' ≠ x.e) (hw : q.w ≤ (s' - x.e) % 8) :
    hearF q x ⟨k, s', c, p, f, y, g, l, bs⟩ = ⟨x, none, none⟩ := by
  have hd := FR.data hf hk
  have hf' : FR.ok ⟨k, s', c, p, f, y, g, l, bs⟩ = true := by
    simp only [FR.ok, frmB, decide_eq_true_eq]
    exact .inl ⟨hk, hs0, hd.2.1, hd.2.2.1, hd.2.2.2.1, hd.2.2.2.2⟩
  have hg : goesB q x ⟨k, s', c, p, f, y, g, l, bs⟩ = true := goes_iff.2 ⟨hq, hx, hf', .inl hk⟩
  cases hdd : x.d
  · rw [hearF_data hg hk hdd hu, if_neg hs1, if_pos (.inr (by have := rx_e hx; rw [farF_in (by omega) (by simp only; omega)]; exact hw))]
  · exact hearF_dead hg hdd
/-- What does not come next, to one that is not busy: at most something missing is said, once. -/
theorem hearF_many {q : CF} {x : RX} {f : FR} (hg : goesB q x f = true) (hk : f.k = 1) (hu : x.u = false) (hs : f.s ≠ x.e) : ∃ a', (hearF q x f).x = ⟨x.e, x.c, x.m, x.bs, a', x.u, x.d⟩ ∧ (hearF q x f).sd = none ∧
    ((a' = x.a ∧ (hearF q x f).sy = none) ∨ (x.a = false ∧ a' = true ∧ (hearF q x f).sy = some (x.e, false, 1))) := by
  cases hd : x.d
  · rw [hearF_data hg hk hd hu, if_neg hs]
    split
    · exact ⟨x.a, by rw [← hd], rfl, .inl ⟨rfl, rfl⟩⟩
    · rename_i h
      exact ⟨true, by rw [← hd], rfl, .inr ⟨by simpa using fun e => h (.inl e), rfl, rfl⟩⟩
  · rw [hearF_dead hg hd]
    exact ⟨x.a, by rw [← hd], rfl, .inl ⟨rfl, rfl⟩⟩
end Go.Proofs.Ytlmadcpoaedagaa
