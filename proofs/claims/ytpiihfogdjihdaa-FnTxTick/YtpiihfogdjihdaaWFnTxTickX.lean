/- The law of TxTick, promise 31, returns true at every code. Written by tools/mk_WFnTxTick.py. -/
import Derived.Test.YtpiihfogdjihdaaMa
import Derived.Test.YtpiihfogdjihdaaMb
import Derived.Test.YtpiihfogdjihdaaMc
import Derived.Test.YtpiihfogdjihdaaMd
import Derived.Test.YtpiihfogdjihdaaMe
import Derived.Test.YtpiihfogdjihdaaMf
import Derived.Test.YtpiihfogdjihdaaMg
import Derived.RowKit3
namespace Go.Proofs.Ytpiihfogdjihdaa
open Go Go.RowKit
theorem stick_ok (m0 w0 p0 u0 y0 : Int) (x : TX) (ack : Int) (bu : Bool) (hok : txOkB ⟨m0, w0, p0, u0, y0⟩ x = true) (hack : inB ack 0 7 = true) :
    DataOk Try.prog 17 [cfgA m0 w0 p0 u0 y0, txA x, .d (.v (.int .i64 ack)), .d (.v (.bool bu))] (.tup [txA (tickX y0 x), if tickB y0 x then frmQ ack bu else frmNo, .d (.v (.bool (tickB y0 x)))]) := by
  have f := txOk_facts hok
  have h4 := txOk_four hok
  have ht0 := f.2.2.2.2.2.2.2.2.2.2.2.1
  have hy := f.2.2.2.2.1
  obtain ⟨n, a, fl, s, qu, q, t, hh, c, dd⟩ := x
  simp only at ht0 hy
  by_cases hi : dd = true ∨ (fl = [] ∧ hh = false ∧ q = false)
  · have e1 : tickX y0 ⟨n, a, fl, s, qu, q, t, hh, c, dd⟩ = ⟨n, a, fl, s, qu, q, t, hh, c, dd⟩ := if_pos hi
    have e2 : tickB y0 ⟨n, a, fl, s, qu, q, t, hh, c, dd⟩ = false := decide_eq_false (fun h => h.1 hi)
    rw [e1, e2]
    exact stickYes m0 w0 p0 u0 y0 _ _ ack bu 0 0 0 false false 0 0 0 false hok hack h4.2 h4.2 (stickIdle m0 w0 p0 u0 y0 n a fl s qu q t hh c dd ack bu hi)
  · have hd : dd = false := by cases dd <;> simp_all
    have hi' : ¬ (fl = [] ∧ hh = false ∧ q = false) := fun h => hi (.inr h)
    by_cases ht : t = y0
    · have e1 : tickX y0 ⟨n, a, fl, s, qu, q, t, hh, c, dd⟩ = ⟨n, a, fl, s, qu, q, t, hh, c, true⟩ := by rw [tickX, if_neg hi, if_pos ht]
      have e2 : tickB y0 ⟨n, a, fl, s, qu, q, t, hh, c, dd⟩ = false := decide_eq_false (fun h => h.2 ht)
      rw [e1, e2]
      exact stickYes m0 w0 p0 u0 y0 _ _ ack bu 0 0 0 false false 0 0 0 false hok hack h4.2 h4.2 (stickOut m0 w0 p0 u0 y0 n a fl s qu q t hh c dd ack bu hd hi' ht)
    · have e1 : tickX y0 ⟨n, a, fl, s, qu, q, t, hh, c, dd⟩ = ⟨n, a, fl, s, qu, true, t + 1, hh, c, false⟩ := by rw [tickX, if_neg hi, if_neg ht, hd]
      have e2 : tickB y0 ⟨n, a, fl, s, qu, q, t, hh, c, dd⟩ = true := decide_eq_true ⟨hi, ht⟩
      rw [e1, e2]
      exact stickYes m0 w0 p0 u0 y0 _ _ ack bu 2 0 ack true false (2 * bitZ bu) 0 0 true hok hack h4.2 h4.2 (stickAsk m0 w0 p0 u0 y0 n a fl s qu q t hh c dd ack bu hd hi' ht (by omega))
theorem tick_still {o : Opt} {x : TX} (h : txOkB o x = true) (ht : x.t ≠ o.tri) : txOkB o { x with q := true, t := x.t + 1 } = true := by
  have f := (txOk_facts h).2.2.2.2.2.2.2.2.2.2.2.1
  have e : inB x.t 0 o.tri = true := (inB_iff _ _ _).2 f
  have e' : inB (x.t + 1) 0 o.tri = true := (inB_iff _ _ _).2 (by omega)
  simp only [txOkB] at h ⊢
  rw [e'] 
  rw [e] at h
  exact h
def tickPost (_ : List A) (r : A) : Prop := ∃ (m w p u y : Int) (x : TX) (ack : Int) (bu : Bool), r = .tup [cfgA m w p u y, txA x, .d (.v (.int .i64 ack)), .d (.v (.bool bu))] ∧ x.wide
set_option maxHeartbeats 4000000 in
set_option maxRecDepth 100000 in
theorem drawTick_ok (zs : List (Fin 256)) : DataW Try.prog 15 [.d (bytesD (zs.map (·.val)))] (tickPost []) := by
  refine ⟨?_, ⟨_, 0, 0, 0, 0, 0, tx0, 0, false, rfl, tx0_good.wide⟩, ?_⟩
  · refine id ?_
    refine Spec.intro (n := 29) (rv := [.cell 2 31, .cell 3 25, .tmp 4, .tmp 5]) Try.func15 rfl rfl rfl (by simp) fun C hN hX => ?_
    refine AW.seq ?_
    apply AW.list
    apply Wk.alc 2 [.int .i64 0, .int .i64 0, .int .i64 0, .int .i64 0, .int .i64 0] ze31 rfl rfl (lt_of_ble rfl)
    apply Wk.alc 3 [.int .i64 0, .int .i64 0, .slice none 0 0, .int .i64 0, .slice none 0 0, .bool false, .int .i64 0, .bool false, .int .i64 0, .bool false] ze25 rfl rfl (lt_of_ble rfl)
    apply Wk.asg (by conv => lhs; whnf) (lt_of_ble rfl)
    apply Wk.asg (by conv => lhs; whnf) (lt_of_ble rfl)
    refine Wk.nil ?_
    refine AW.seq ?_
    apply AW.list
    apply Wk.mv (by conv => lhs; whnf) (lt_of_ble rfl)
    apply Wk.opn open_ok Try.func23 rfl rfl rfl rfl (lt_of_ble rfl)
    rintro zs1
    apply Wk.asg (by conv => lhs; whnf) (lt_of_ble rfl)
    refine Wk.nil ?_
    refine AW.seq ?_
    apply AW.list
    apply Wk.mv (by conv => lhs; whnf) (lt_of_ble rfl)
    apply Wk.drw 0 cfg_ok Try.func25 rfl rfl rfl rfl ⟨20, rfl, by omega, by omega⟩ (by omega) rfl (lt_of_ble rfl)
    rintro r2 zs2 p2 ⟨m, w, s, t, y, rfl, hb, _⟩ hp2
    apply Wk.alc 70 [.int .i64 0, .int .i64 0, .int .i64 0, .int .i64 0, .int .i64 0] ze31 rfl rfl (lt_of_ble rfl)
    apply Wk.sto (i := 70) 5 true ty31 rfl rfl rfl rfl (Nat.le_of_ble_eq_true rfl) (lt_of_ble rfl)
    refine Wk.nil ?_
    refine AW.seq ?_
    apply AW.draw (hm := hmix) (cs := _)
    · apply Wk.ld (i := 70) 5 true ty31 rfl rfl (by conv => lhs; whnf) (lt_of_ble rfl)
      apply Wk.mv (by conv => lhs; whnf) (lt_of_ble rfl)
      apply Wk.ld (i := 70) 5 true ty31 rfl rfl (by conv => lhs; whnf) (lt_of_ble rfl)
      apply Wk.drw 0 l20Tx_ok Try.func24 rfl rfl rfl rfl ⟨m, w, s, t, y, 9, rfl, hb, by omega, by omega⟩ (by omega) rfl (lt_of_ble rfl)
      rintro r3 zs3 p3 ⟨x, rfl, hx⟩ hp3
      apply Wk.mv (by conv => lhs; whnf) (lt_of_ble rfl)
      apply Wk.drw 0 pick_ok Try.func38 rfl rfl rfl rfl ⟨_, rfl, by omega⟩ (by omega) rfl (lt_of_ble rfl)
      rintro r4 zs4 p4 ⟨k4, rfl, hk4⟩ hp4
      apply Wk.lst 18 1 false [.int .i64 0] un63 ty3 ze3 rfl rfl (by rfl) (by rfl) (by decide) (by decide) rfl rfl (all_len rfl) (lt_of_ble rfl)
      apply Wk.lst 19 1 false [.int .i64 0] un63 ty3 ze3 rfl rfl (by rfl) (by rfl) (by decide) (by decide) rfl rfl (all_len rfl) (lt_of_ble rfl)
      apply Wk.mv (by conv => lhs; whnf) (lt_of_ble rfl)
      apply Wk.drw 0 pick_ok Try.func38 rfl rfl rfl rfl ⟨_, rfl, by omega⟩ (by omega) rfl (lt_of_ble rfl)
      rintro r5 zs5 p5 ⟨k5, rfl, hk5⟩ hp5
      have hk5' : k5 < 8 := by have := hk5 8 rfl; omega
      obtain ⟨j, hj, hj3⟩ : ∃ j : Nat, partA (List.flatten [[A.d (.v (.int .i64 0))], [A.d (.v (.int .i64 0))], [A.d (.v (.int .i64 0))], [A.d (.v (.int .i64 0))], [A.d (.v (.int .i64 0))], [A.d (.v (.int .i64 0))], [A.d (.v (.int .i64 1))], [A.d (.v (.int .i64 2))]]) (k5 * 1) 1 false = some (.d (.v (.int .i64 (j : Int)))) ∧ j < 3 := by
        rcases (show k5 = 0 ∨ k5 = 1 ∨ k5 = 2 ∨ k5 = 3 ∨ k5 = 4 ∨ k5 = 5 ∨ k5 = 6 ∨ k5 = 7 by omega) with rfl | rfl | rfl | rfl | rfl | rfl | rfl | rfl
        · exact ⟨0, rfl, by omega⟩
        · exact ⟨0, rfl, by omega⟩
        · exact ⟨0, rfl, by omega⟩
        · exact ⟨0, rfl, by omega⟩
        · exact ⟨0, rfl, by omega⟩
        · exact ⟨0, rfl, by omega⟩
        · exact ⟨1, rfl, by omega⟩
        · exact ⟨2, rfl, by omega⟩
      obtain ⟨v, hv⟩ : ∃ v : Int, partA (List.flatten [[A.d (.v (.int .i64 (k4 : Int)))], [A.d (.v (.int .i64 (-1)))], [A.d (.v (.int .i64 8))]]) (j * 1) 1 false = some (.d (.v (.int .i64 v))) := by
        rcases (show j = 0 ∨ j = 1 ∨ j = 2 by omega) with rfl | rfl | rfl <;> exact ⟨_, rfl⟩
      apply Wk.iado 19 1 false un63 ty3 rfl rfl rfl hk5' (lt_of_ble rfl)
      apply Wk.ldo (i := 19) 1 false ty3 rfl rfl hj (lt_of_ble rfl)
      apply Wk.iado 18 1 false un63 ty3 rfl rfl rfl hj3 (lt_of_ble rfl)
      apply Wk.ldo (i := 18) 1 false ty3 rfl rfl hv (lt_of_ble rfl)
      apply Wk.mv (by conv => lhs; whnf) (lt_of_ble rfl)
      apply Wk.drw 0 pick_ok Try.func38 rfl rfl rfl rfl ⟨_, rfl, by omega⟩ (by omega) rfl (lt_of_ble rfl)
      rintro r6 zs6 p6 ⟨k6, rfl, hk6⟩ hp6
      apply Wk.bin rfl rfl (r := .bool ((k6 : Int) == 0)) (fun w => by simp [go_sem]) (lt_of_ble rfl)
      apply Wk.sto (i := 2) 5 true ty31 rfl rfl rfl rfl (Nat.le_of_ble_eq_true rfl) (lt_of_ble rfl)
      apply Wk.sto (i := 3) 10 true ty25 rfl rfl rfl rfl (Nat.le_of_ble_eq_true rfl) (lt_of_ble rfl)
      apply Wk.asg (by conv => lhs; whnf) (lt_of_ble rfl)
      apply Wk.asg (by conv => lhs; whnf) (lt_of_ble rfl)
      refine Wk.nil (AW.ret ?_)
      exact RetQ.ret [] (.cons ⟨2, 0, _, _, _, rfl, rfl, ty31, rfl⟩ (.cons ⟨3, 0, _, _, _, rfl, rfl, ty25, rfl⟩ (.cons rfl (.cons rfl .nil)))) ⟨⟨m, w, s, t, y, x, v, ((k6 : Int) == 0), rfl, hx⟩, rfl⟩ none_kept
    · rfl
    · rfl
  · rintro r ⟨m, w, p, u, y, x, ack, bu, rfl, _⟩; rfl
set_option maxHeartbeats 4000000 in
set_option maxRecDepth 100000 in
theorem lawTxTick_ok (zs : List (Fin 256)) : DataOk Try.prog 5 [.d (bytesD (zs.map (·.val)))] (.d (.v (.bool true))) := by
  refine Spec.intro (n := 151) (rv := [.tmp 2]) Try.func5 rfl rfl rfl (by simp) fun C hN hX => ?_
  refine AW.seq ?_
  apply AW.list
  apply Wk.asg (by conv => lhs; whnf) (lt_of_ble rfl)
  refine Wk.nil ?_
  refine AW.seq (AW.seq ?_)
  apply AW.list
  apply Wk.mv (by conv => lhs; whnf) (lt_of_ble rfl)
  apply Wk.len un22 rfl (lt_of_ble rfl)
  apply Wk.bin rfl rfl (fun w => by simp [go_sem] <;> rfl) (lt_of_ble rfl)
  refine Wk.nil ?_
  refine AW.cond rfl (fun hc => ?_) (fun hc => ?_)
  · refine AW.seq ?_
    apply AW.list
    apply Wk.asg (by conv => lhs; whnf) (lt_of_ble rfl)
    refine Wk.nil (AW.ret ?_)
    refine thenA_ret ?_
    exact RetQ.ret [] (.cons rfl .nil) ⟨rfl, rfl⟩ none_kept
  refine AW.skip (thenA_normal ?_)
  refine AW.seq ?_
  apply AW.list
  apply Wk.mv (by conv => lhs; whnf) (lt_of_ble rfl)
  apply Wk.datw (drawTick_ok zs) Try.func15 rfl rfl rfl rfl (lt_of_ble rfl)
  rintro _ ⟨m, w, p, u, y, x, ack, bu, rfl, hx⟩
  apply Wk.mv (by conv => lhs; whnf) (lt_of_ble rfl)
  apply Wk.ext rfl rfl (lt_of_ble rfl)
  apply Wk.ext rfl rfl (lt_of_ble rfl)
  apply Wk.ext rfl rfl (lt_of_ble rfl)
  apply Wk.ext rfl rfl (lt_of_ble rfl)
  apply Wk.alc 3 [.int .i64 0, .int .i64 0, .int .i64 0, .int .i64 0, .int .i64 0] ze31 rfl rfl (lt_of_ble rfl)
  apply Wk.alc 4 [.int .i64 0, .int .i64 0, .slice none 0 0, .int .i64 0, .slice none 0 0, .bool false, .int .i64 0, .bool false, .int .i64 0, .bool false] ze25 rfl rfl (lt_of_ble rfl)
  apply Wk.sto (i := 3) 5 true ty31 rfl rfl rfl rfl (Nat.le_of_ble_eq_true rfl) (lt_of_ble rfl)
  apply Wk.sto (i := 4) 10 true ty25 rfl rfl rfl rfl (Nat.le_of_ble_eq_true rfl) (lt_of_ble rfl)
  apply Wk.asg (by conv => lhs; whnf) (lt_of_ble rfl)
  apply Wk.asg (by conv => lhs; whnf) (lt_of_ble rfl)
  refine Wk.nil ?_
  by_cases hno : txOkB ⟨m, w, p, u, y⟩ x = false ∨ inB ack 0 7 = false
  · have ci := itickNo m w p u y x ack bu hno
    have cs := stickNo m w p u y x ack bu hno
    refine AW.seq ?_
    apply AW.list
    apply Wk.ld (i := 3) 5 true ty31 rfl rfl (by conv => lhs; whnf) (lt_of_ble rfl)
    apply Wk.ld (i := 4) 10 true ty25 rfl rfl (by conv => lhs; whnf) (lt_of_ble rfl)
    apply Wk.mv (by conv => lhs; whnf) (lt_of_ble rfl)
    apply Wk.mv (by conv => lhs; whnf) (lt_of_ble rfl)
    apply Wk.dat ci Try.func16 rfl rfl rfl rfl rfl (lt_of_ble rfl)
    apply Wk.mv (by conv => lhs; whnf) (lt_of_ble rfl)
    apply Wk.ext rfl rfl (lt_of_ble rfl)
    apply Wk.ext rfl rfl (lt_of_ble rfl)
    apply Wk.ext rfl rfl (lt_of_ble rfl)
    apply Wk.alc 7 [.int .i64 0, .int .i64 0, .slice none 0 0, .int .i64 0, .slice none 0 0, .bool false, .int .i64 0, .bool false, .int .i64 0, .bool false] ze25 rfl rfl (lt_of_ble rfl)
    apply Wk.alc 8 [.int .i64 0, .int .i64 0, .int .i64 0, .bool false, .bool false, .int .i64 0, .int .i64 0, .int .i64 0, .slice none 0 0] ze41 rfl rfl (lt_of_ble rfl)
    apply Wk.sto (i := 7) 10 true ty25 rfl rfl rfl rfl (Nat.le_of_ble_eq_true rfl) (lt_of_ble rfl)
    apply Wk.sto (i := 8) 9 true ty41 rfl rfl rfl rfl (Nat.le_of_ble_eq_true rfl) (lt_of_ble rfl)
    apply Wk.asg (by conv => lhs; whnf) (lt_of_ble rfl)
    refine Wk.nil ?_
    refine AW.seq ?_
    apply AW.list
    apply Wk.ld (i := 3) 5 true ty31 rfl rfl (by conv => lhs; whnf) (lt_of_ble rfl)
    apply Wk.ld (i := 4) 10 true ty25 rfl rfl (by conv => lhs; whnf) (lt_of_ble rfl)
    apply Wk.mv (by conv => lhs; whnf) (lt_of_ble rfl)
    apply Wk.mv (by conv => lhs; whnf) (lt_of_ble rfl)
    apply Wk.dat cs Try.func17 rfl rfl rfl rfl rfl (lt_of_ble rfl)
    apply Wk.mv (by conv => lhs; whnf) (lt_of_ble rfl)
    apply Wk.ext rfl rfl (lt_of_ble rfl)
    apply Wk.ext rfl rfl (lt_of_ble rfl)
    apply Wk.ext rfl rfl (lt_of_ble rfl)
    apply Wk.alc 10 [.int .i64 0, .int .i64 0, .slice none 0 0, .int .i64 0, .slice none 0 0, .bool false, .int .i64 0, .bool false, .int .i64 0, .bool false] ze25 rfl rfl (lt_of_ble rfl)
    apply Wk.alc 11 [.int .i64 0, .int .i64 0, .int .i64 0, .bool false, .bool false, .int .i64 0, .int .i64 0, .int .i64 0, .slice none 0 0] ze41 rfl rfl (lt_of_ble rfl)
    apply Wk.sto (i := 10) 10 true ty25 rfl rfl rfl rfl (Nat.le_of_ble_eq_true rfl) (lt_of_ble rfl)
    apply Wk.sto (i := 11) 9 true ty41 rfl rfl rfl rfl (Nat.le_of_ble_eq_true rfl) (lt_of_ble rfl)
    apply Wk.asg (by conv => lhs; whnf) (lt_of_ble rfl)
    refine Wk.nil ?_
    refine AW.seq (AW.seq ?_)
    apply AW.list
    apply Wk.ld (i := 7) 10 true ty25 rfl rfl (by conv => lhs; whnf) (lt_of_ble rfl)
    apply Wk.ld (i := 10) 10 true ty25 rfl rfl (by conv => lhs; whnf) (lt_of_ble rfl)
    apply Wk.dat (liTxE tx0) Try.func18 rfl rfl rfl rfl rfl (lt_of_ble rfl)
    apply Wk.un rfl (fun w => by simp [go_sem] <;> rfl) (lt_of_ble rfl)
    apply Wk.mv (by conv => lhs; whnf) (lt_of_ble rfl)
    apply Wk.gon 46 rfl rfl
    apply Wk.ld (i := 8) 9 true ty41 rfl rfl (by conv => lhs; whnf) (lt_of_ble rfl)
    apply Wk.gon 46 rfl rfl
    apply Wk.ld (i := 11) 9 true ty41 rfl rfl (by conv => lhs; whnf) (lt_of_ble rfl)
    apply Wk.gon 46 rfl rfl
    apply Wk.dat (liFrmE 0 0 0 false false 0 0 0 []) Try.func19 rfl rfl rfl rfl rfl (lt_of_ble rfl)
    apply Wk.gon 46 rfl rfl
    apply Wk.un rfl (fun w => by simp [go_sem] <;> rfl) (lt_of_ble rfl)
    apply Wk.pckF rfl (by conv => lhs; whnf) (lt_of_ble rfl)
    apply Wk.mv (by conv => lhs; whnf) (lt_of_ble rfl)
    apply Wk.gon 52 rfl rfl
    apply Wk.mv (by conv => lhs; whnf) (lt_of_ble rfl)
    apply Wk.gon 52 rfl rfl
    apply Wk.mv (by conv => lhs; whnf) (lt_of_ble rfl)
    apply Wk.gon 52 rfl rfl
    apply Wk.bin rfl rfl (r := .bool false) (fun w => by simp [go_sem]) (lt_of_ble rfl)
    apply Wk.pckF rfl (by conv => lhs; whnf) (lt_of_ble rfl)
    refine Wk.nil ?_
    refine AW.cond rfl (fun hc => by cases hc) (fun _ => AW.skip (thenA_normal ?_))
    cases hok : txOkB ⟨m, w, p, u, y⟩ x
    · skip
      refine AW.seq (AW.seq ?_)
      apply AW.list
      apply Wk.ld (i := 3) 5 true ty31 rfl rfl (by conv => lhs; whnf) (lt_of_ble rfl)
      apply Wk.ld (i := 4) 10 true ty25 rfl rfl (by conv => lhs; whnf) (lt_of_ble rfl)
      apply Wk.dat (stxb hok) Try.func13 rfl rfl rfl rfl rfl (lt_of_ble rfl)
      apply Wk.un rfl (fun w => by simp [go_sem] <;> rfl) (lt_of_ble rfl)
      apply Wk.mv (by conv => lhs; whnf) (lt_of_ble rfl)
      apply Wk.goff 61 (ok_move _) rfl rfl (by simp)
      apply Wk.goff 61 (ok_bin _ _ _ _ _) rfl rfl (by simp)
      apply Wk.pckT rfl (by conv => lhs; whnf) (lt_of_ble rfl)
      apply Wk.mv (by conv => lhs; whnf) (lt_of_ble rfl)
      apply Wk.goff 65 (ok_move _) rfl rfl (by simp)
      apply Wk.goff 65 (ok_bin _ _ _ _ _) rfl rfl (by simp)
      apply Wk.pckT rfl (by conv => lhs; whnf) (lt_of_ble rfl)
      refine Wk.nil ?_
      refine AW.cond rfl (fun _ => ?_) (fun hc => by cases hc)
      refine AW.seq ?_
      apply AW.list
      apply Wk.mv (by conv => lhs; whnf) (lt_of_ble rfl)
      apply Wk.un rfl (fun w => by simp [go_sem] <;> rfl) (lt_of_ble rfl)
      apply Wk.mv (by conv => lhs; whnf) (lt_of_ble rfl)
      apply Wk.gon 71 rfl rfl
      apply Wk.ld (i := 7) 10 true ty25 rfl rfl (by conv => lhs; whnf) (lt_of_ble rfl)
      apply Wk.gon 71 rfl rfl
      apply Wk.bld [.int .i64 0, .int .i64 0, .slice none 0 0, .int .i64 0, .slice none 0 0, .bool false, .int .i64 0, .bool false, .int .i64 0, .bool false] [(0, 1), (1, 1), (2, 1), (3, 1), (4, 1), (5, 1), (6, 1), (7, 1), (8, 1), (9, 1)] bl25 rfl (by conv => lhs; whnf) (lt_of_ble rfl)
      apply Wk.gon 71 rfl rfl
      apply Wk.dat (liTxE tx0) Try.func18 rfl rfl rfl rfl rfl (lt_of_ble rfl)
      apply Wk.pckT rfl (by conv => lhs; whnf) (lt_of_ble rfl)
      apply Wk.mv (by conv => lhs; whnf) (lt_of_ble rfl)
      apply Wk.gon 76 rfl rfl
      apply Wk.dat liok_ok Try.func10 rfl rfl rfl rfl rfl (lt_of_ble rfl)
      apply Wk.pckT rfl (by conv => lhs; whnf) (lt_of_ble rfl)
      apply Wk.asg (by conv => lhs; whnf) (lt_of_ble rfl)
      refine Wk.nil (AW.ret ?_)
      refine thenA_ret ?_
      exact RetQ.ret [] (.cons rfl .nil) ⟨rfl, rfl⟩ none_kept
    · have hack : inB ack 0 7 = false := by rcases hno with h | h <;> first | exact h | (rw [hok] at h; cases h)
      have hack' := (inB_not ack 0 7).1 hack
      by_cases hneg : ack < 0
      · skip
        refine AW.seq (AW.seq ?_)
        apply AW.list
        apply Wk.ld (i := 3) 5 true ty31 rfl rfl (by conv => lhs; whnf) (lt_of_ble rfl)
        apply Wk.ld (i := 4) 10 true ty25 rfl rfl (by conv => lhs; whnf) (lt_of_ble rfl)
        apply Wk.dat (stxb hok) Try.func13 rfl rfl rfl rfl rfl (lt_of_ble rfl)
        apply Wk.un rfl (fun w => by simp [go_sem] <;> rfl) (lt_of_ble rfl)
        apply Wk.mv (by conv => lhs; whnf) (lt_of_ble rfl)
        apply Wk.gon 61 rfl rfl
        apply Wk.mv (by conv => lhs; whnf) (lt_of_ble rfl)
        apply Wk.gon 61 rfl rfl
        apply Wk.bin rfl rfl (r := .bool true) (fun w => by simp [go_sem, hneg]) (lt_of_ble rfl)
        apply Wk.pckF rfl (by conv => lhs; whnf) (lt_of_ble rfl)
        apply Wk.mv (by conv => lhs; whnf) (lt_of_ble rfl)
        apply Wk.goff 65 (ok_move _) rfl rfl (by simp)
        apply Wk.goff 65 (ok_bin _ _ _ _ _) rfl rfl (by simp)
        apply Wk.pckT rfl (by conv => lhs; whnf) (lt_of_ble rfl)
        refine Wk.nil ?_
        refine AW.cond rfl (fun _ => ?_) (fun hc => by cases hc)
        refine AW.seq ?_
        apply AW.list
        apply Wk.mv (by conv => lhs; whnf) (lt_of_ble rfl)
        apply Wk.un rfl (fun w => by simp [go_sem] <;> rfl) (lt_of_ble rfl)
        apply Wk.mv (by conv => lhs; whnf) (lt_of_ble rfl)
        apply Wk.gon 71 rfl rfl
        apply Wk.ld (i := 7) 10 true ty25 rfl rfl (by conv => lhs; whnf) (lt_of_ble rfl)
        apply Wk.gon 71 rfl rfl
        apply Wk.bld [.int .i64 0, .int .i64 0, .slice none 0 0, .int .i64 0, .slice none 0 0, .bool false, .int .i64 0, .bool false, .int .i64 0, .bool false] [(0, 1), (1, 1), (2, 1), (3, 1), (4, 1), (5, 1), (6, 1), (7, 1), (8, 1), (9, 1)] bl25 rfl (by conv => lhs; whnf) (lt_of_ble rfl)
        apply Wk.gon 71 rfl rfl
        apply Wk.dat (liTxE tx0) Try.func18 rfl rfl rfl rfl rfl (lt_of_ble rfl)
        apply Wk.pckT rfl (by conv => lhs; whnf) (lt_of_ble rfl)
        apply Wk.mv (by conv => lhs; whnf) (lt_of_ble rfl)
        apply Wk.gon 76 rfl rfl
        apply Wk.dat liok_ok Try.func10 rfl rfl rfl rfl rfl (lt_of_ble rfl)
        apply Wk.pckT rfl (by conv => lhs; whnf) (lt_of_ble rfl)
        apply Wk.asg (by conv => lhs; whnf) (lt_of_ble rfl)
        refine Wk.nil (AW.ret ?_)
        refine thenA_ret ?_
        exact RetQ.ret [] (.cons rfl .nil) ⟨rfl, rfl⟩ none_kept
      · skip
        refine AW.seq (AW.seq ?_)
        apply AW.list
        apply Wk.ld (i := 3) 5 true ty31 rfl rfl (by conv => lhs; whnf) (lt_of_ble rfl)
        apply Wk.ld (i := 4) 10 true ty25 rfl rfl (by conv => lhs; whnf) (lt_of_ble rfl)
        apply Wk.dat (stxb hok) Try.func13 rfl rfl rfl rfl rfl (lt_of_ble rfl)
        apply Wk.un rfl (fun w => by simp [go_sem] <;> rfl) (lt_of_ble rfl)
        apply Wk.mv (by conv => lhs; whnf) (lt_of_ble rfl)
        apply Wk.gon 61 rfl rfl
        apply Wk.mv (by conv => lhs; whnf) (lt_of_ble rfl)
        apply Wk.gon 61 rfl rfl
        apply Wk.bin rfl rfl (r := .bool false) (fun w => by simp [go_sem] <;> omega) (lt_of_ble rfl)
        apply Wk.pckF rfl (by conv => lhs; whnf) (lt_of_ble rfl)
        apply Wk.mv (by conv => lhs; whnf) (lt_of_ble rfl)
        apply Wk.gon 65 rfl rfl
        apply Wk.mv (by conv => lhs; whnf) (lt_of_ble rfl)
        apply Wk.gon 65 rfl rfl
        apply Wk.bin rfl rfl (r := .bool true) (fun w => by simp [go_sem] <;> omega) (lt_of_ble rfl)
        apply Wk.pckF rfl (by conv => lhs; whnf) (lt_of_ble rfl)
        refine Wk.nil ?_
        refine AW.cond rfl (fun _ => ?_) (fun hc => by cases hc)
        refine AW.seq ?_
        apply AW.list
        apply Wk.mv (by conv => lhs; whnf) (lt_of_ble rfl)
        apply Wk.un rfl (fun w => by simp [go_sem] <;> rfl) (lt_of_ble rfl)
        apply Wk.mv (by conv => lhs; whnf) (lt_of_ble rfl)
        apply Wk.gon 71 rfl rfl
        apply Wk.ld (i := 7) 10 true ty25 rfl rfl (by conv => lhs; whnf) (lt_of_ble rfl)
        apply Wk.gon 71 rfl rfl
        apply Wk.bld [.int .i64 0, .int .i64 0, .slice none 0 0, .int .i64 0, .slice none 0 0, .bool false, .int .i64 0, .bool false, .int .i64 0, .bool false] [(0, 1), (1, 1), (2, 1), (3, 1), (4, 1), (5, 1), (6, 1), (7, 1), (8, 1), (9, 1)] bl25 rfl (by conv => lhs; whnf) (lt_of_ble rfl)
        apply Wk.gon 71 rfl rfl
        apply Wk.dat (liTxE tx0) Try.func18 rfl rfl rfl rfl rfl (lt_of_ble rfl)
        apply Wk.pckT rfl (by conv => lhs; whnf) (lt_of_ble rfl)
        apply Wk.mv (by conv => lhs; whnf) (lt_of_ble rfl)
        apply Wk.gon 76 rfl rfl
        apply Wk.dat liok_ok Try.func10 rfl rfl rfl rfl rfl (lt_of_ble rfl)
        apply Wk.pckT rfl (by conv => lhs; whnf) (lt_of_ble rfl)
        apply Wk.asg (by conv => lhs; whnf) (lt_of_ble rfl)
        refine Wk.nil (AW.ret ?_)
        refine thenA_ret ?_
        exact RetQ.ret [] (.cons rfl .nil) ⟨rfl, rfl⟩ none_kept
  · simp only [not_or, Bool.not_eq_false] at hno
    obtain ⟨hok, hack⟩ := hno
    have hack' := (inB_iff ack 0 7).1 hack
    have ci := itick_ok m w p u y x ack bu hok hack
    have cs := stick_ok m w p u y x ack bu hok hack
    have f := txOk_facts hok
    have ht0 := f.2.2.2.2.2.2.2.2.2.2.2.1
    have hyy := f.2.2.2.2.1
    obtain ⟨n, a, fl, s, qu, q, t, hh, c, dd⟩ := x
    simp only at ht0 hyy
    have e1 : (((fl.map datD).length : Nat) : Int) = (fl.length : Int) := by rw [List.length_map]
    by_cases hi : dd = true ∨ (fl = [] ∧ hh = false ∧ q = false)
    · have d1 : tickX y ⟨n, a, fl, s, qu, q, t, hh, c, dd⟩ = ⟨n, a, fl, s, qu, q, t, hh, c, dd⟩ := if_pos hi
      have d2 : tickB y ⟨n, a, fl, s, qu, q, t, hh, c, dd⟩ = false := decide_eq_false (fun h => h.1 hi)
      rw [d1, d2] at ci cs
      refine AW.seq ?_
      apply AW.list
      apply Wk.ld (i := 3) 5 true ty31 rfl rfl (by conv => lhs; whnf) (lt_of_ble rfl)
      apply Wk.ld (i := 4) 10 true ty25 rfl rfl (by conv => lhs; whnf) (lt_of_ble rfl)
      apply Wk.mv (by conv => lhs; whnf) (lt_of_ble rfl)
      apply Wk.mv (by conv => lhs; whnf) (lt_of_ble rfl)
      apply Wk.dat ci Try.func16 rfl rfl rfl rfl rfl (lt_of_ble rfl)
      apply Wk.mv (by conv => lhs; whnf) (lt_of_ble rfl)
      apply Wk.ext rfl rfl (lt_of_ble rfl)
      apply Wk.ext rfl rfl (lt_of_ble rfl)
      apply Wk.ext rfl rfl (lt_of_ble rfl)
      apply Wk.alc 7 [.int .i64 0, .int .i64 0, .slice none 0 0, .int .i64 0, .slice none 0 0, .bool false, .int .i64 0, .bool false, .int .i64 0, .bool false] ze25 rfl rfl (lt_of_ble rfl)
      apply Wk.alc 8 [.int .i64 0, .int .i64 0, .int .i64 0, .bool false, .bool false, .int .i64 0, .int .i64 0, .int .i64 0, .slice none 0 0] ze41 rfl rfl (lt_of_ble rfl)
      apply Wk.sto (i := 7) 10 true ty25 rfl rfl rfl rfl (Nat.le_of_ble_eq_true rfl) (lt_of_ble rfl)
      apply Wk.sto (i := 8) 9 true ty41 rfl rfl rfl rfl (Nat.le_of_ble_eq_true rfl) (lt_of_ble rfl)
      apply Wk.asg (by conv => lhs; whnf) (lt_of_ble rfl)
      refine Wk.nil ?_
      refine AW.seq ?_
      apply AW.list
      apply Wk.ld (i := 3) 5 true ty31 rfl rfl (by conv => lhs; whnf) (lt_of_ble rfl)
      apply Wk.ld (i := 4) 10 true ty25 rfl rfl (by conv => lhs; whnf) (lt_of_ble rfl)
      apply Wk.mv (by conv => lhs; whnf) (lt_of_ble rfl)
      apply Wk.mv (by conv => lhs; whnf) (lt_of_ble rfl)
      apply Wk.dat cs Try.func17 rfl rfl rfl rfl rfl (lt_of_ble rfl)
      apply Wk.mv (by conv => lhs; whnf) (lt_of_ble rfl)
      apply Wk.ext rfl rfl (lt_of_ble rfl)
      apply Wk.ext rfl rfl (lt_of_ble rfl)
      apply Wk.ext rfl rfl (lt_of_ble rfl)
      apply Wk.alc 10 [.int .i64 0, .int .i64 0, .slice none 0 0, .int .i64 0, .slice none 0 0, .bool false, .int .i64 0, .bool false, .int .i64 0, .bool false] ze25 rfl rfl (lt_of_ble rfl)
      apply Wk.alc 11 [.int .i64 0, .int .i64 0, .int .i64 0, .bool false, .bool false, .int .i64 0, .int .i64 0, .int .i64 0, .slice none 0 0] ze41 rfl rfl (lt_of_ble rfl)
      apply Wk.sto (i := 10) 10 true ty25 rfl rfl rfl rfl (Nat.le_of_ble_eq_true rfl) (lt_of_ble rfl)
      apply Wk.sto (i := 11) 9 true ty41 rfl rfl rfl rfl (Nat.le_of_ble_eq_true rfl) (lt_of_ble rfl)
      apply Wk.asg (by conv => lhs; whnf) (lt_of_ble rfl)
      refine Wk.nil ?_
      refine AW.seq (AW.seq ?_)
      apply AW.list
      apply Wk.ld (i := 7) 10 true ty25 rfl rfl (by conv => lhs; whnf) (lt_of_ble rfl)
      apply Wk.ld (i := 10) 10 true ty25 rfl rfl (by conv => lhs; whnf) (lt_of_ble rfl)
      apply Wk.dat (liTxE _) Try.func18 rfl rfl rfl rfl rfl (lt_of_ble rfl)
      apply Wk.un rfl (fun w => by simp [go_sem] <;> rfl) (lt_of_ble rfl)
      apply Wk.mv (by conv => lhs; whnf) (lt_of_ble rfl)
      apply Wk.gon 46 rfl rfl
      apply Wk.ld (i := 8) 9 true ty41 rfl rfl (by conv => lhs; whnf) (lt_of_ble rfl)
      apply Wk.gon 46 rfl rfl
      apply Wk.ld (i := 11) 9 true ty41 rfl rfl (by conv => lhs; whnf) (lt_of_ble rfl)
      apply Wk.gon 46 rfl rfl
      apply Wk.dat (liFrmE 0 0 0 false false 0 0 0 []) Try.func19 rfl rfl rfl rfl rfl (lt_of_ble rfl)
      apply Wk.gon 46 rfl rfl
      apply Wk.un rfl (fun w => by simp [go_sem] <;> rfl) (lt_of_ble rfl)
      apply Wk.pckF rfl (by conv => lhs; whnf) (lt_of_ble rfl)
      apply Wk.mv (by conv => lhs; whnf) (lt_of_ble rfl)
      apply Wk.gon 52 rfl rfl
      apply Wk.mv (by conv => lhs; whnf) (lt_of_ble rfl)
      apply Wk.gon 52 rfl rfl
      apply Wk.mv (by conv => lhs; whnf) (lt_of_ble rfl)
      apply Wk.gon 52 rfl rfl
      apply Wk.bin rfl rfl (r := .bool false) (fun w => by simp [go_sem]) (lt_of_ble rfl)
      apply Wk.pckF rfl (by conv => lhs; whnf) (lt_of_ble rfl)
      refine Wk.nil ?_
      refine AW.cond rfl (fun hc => by cases hc) (fun _ => AW.skip (thenA_normal ?_))
      refine AW.seq (AW.seq ?_)
      apply AW.list
      apply Wk.ld (i := 3) 5 true ty31 rfl rfl (by conv => lhs; whnf) (lt_of_ble rfl)
      apply Wk.ld (i := 4) 10 true ty25 rfl rfl (by conv => lhs; whnf) (lt_of_ble rfl)
      apply Wk.dat (stxb hok) Try.func13 rfl rfl rfl rfl rfl (lt_of_ble rfl)
      apply Wk.un rfl (fun w => by simp [go_sem] <;> rfl) (lt_of_ble rfl)
      apply Wk.mv (by conv => lhs; whnf) (lt_of_ble rfl)
      apply Wk.gon 61 rfl rfl
      apply Wk.mv (by conv => lhs; whnf) (lt_of_ble rfl)
      apply Wk.gon 61 rfl rfl
      apply Wk.bin rfl rfl (r := .bool false) (fun w => by simp [go_sem] <;> omega) (lt_of_ble rfl)
      apply Wk.pckF rfl (by conv => lhs; whnf) (lt_of_ble rfl)
      apply Wk.mv (by conv => lhs; whnf) (lt_of_ble rfl)
      apply Wk.gon 65 rfl rfl
      apply Wk.mv (by conv => lhs; whnf) (lt_of_ble rfl)
      apply Wk.gon 65 rfl rfl
      apply Wk.bin rfl rfl (r := .bool false) (fun w => by simp [go_sem] <;> omega) (lt_of_ble rfl)
      apply Wk.pckF rfl (by conv => lhs; whnf) (lt_of_ble rfl)
      refine Wk.nil ?_
      refine AW.cond rfl (fun hc => by cases hc) (fun _ => AW.skip (thenA_normal ?_))
      cases dd
      · obtain ⟨rfl, rfl, rfl⟩ : fl = [] ∧ hh = false ∧ q = false := by simpa using hi
        refine AW.seq ?_
        apply AW.list
        apply Wk.fad 9 0 false fd25_9 rfl (lt_of_ble rfl)
        apply Wk.ld (i := 4) 1 false ty4 rfl rfl (by conv => lhs; whnf) (lt_of_ble rfl)
        apply Wk.un rfl (fun w => by simp [go_sem] <;> rfl) (lt_of_ble rfl)
        apply Wk.mv (by conv => lhs; whnf) (lt_of_ble rfl)
        apply Wk.gon 82 rfl rfl
        apply Wk.fad 2 0 false fd25_2 rfl (lt_of_ble rfl)
        apply Wk.gon 82 rfl rfl
        apply Wk.ld (i := 4) 1 false ty23 rfl rfl (by conv => lhs; whnf) (lt_of_ble rfl)
        apply Wk.gon 82 rfl rfl
        apply Wk.len un23 rfl (lt_of_ble rfl)
        apply Wk.gon 82 rfl rfl
        apply Wk.bin rfl rfl (r := .bool false) (fun w => by rw [e1]; simp [go_sem]) (lt_of_ble rfl)
        apply Wk.gon 82 rfl rfl
        apply Wk.mv (by conv => lhs; whnf) (lt_of_ble rfl)
        apply Wk.gon 87 rfl rfl
        apply Wk.fad 7 0 false fd25_7 rfl (lt_of_ble rfl)
        apply Wk.gon 87 rfl rfl
        apply Wk.ld (i := 4) 1 false ty4 rfl rfl (by conv => lhs; whnf) (lt_of_ble rfl)
        apply Wk.gon 82 rfl rfl
        apply Wk.pckF rfl (by conv => lhs; whnf) (lt_of_ble rfl)
        apply Wk.gon 82 rfl rfl
        apply Wk.mv (by conv => lhs; whnf) (lt_of_ble rfl)
        apply Wk.gon 91 rfl rfl
        apply Wk.fad 5 0 false fd25_5 rfl (lt_of_ble rfl)
        apply Wk.gon 91 rfl rfl
        apply Wk.ld (i := 4) 1 false ty4 rfl rfl (by conv => lhs; whnf) (lt_of_ble rfl)
        apply Wk.gon 82 rfl rfl
        apply Wk.pckF rfl (by conv => lhs; whnf) (lt_of_ble rfl)
        apply Wk.pckT rfl (by conv => lhs; whnf) (lt_of_ble rfl)
        apply Wk.asg (by conv => lhs; whnf) (lt_of_ble rfl)
        refine Wk.nil ?_
        refine AW.seq (AW.seq ?_)
        apply AW.list
        apply Wk.mv (by conv => lhs; whnf) (lt_of_ble rfl)
        apply Wk.un rfl (fun w => by simp [go_sem] <;> rfl) (lt_of_ble rfl)
        refine Wk.nil ?_
        refine AW.cond rfl (fun _ => ?_) (fun hc => by cases hc)
        refine AW.seq ?_
        apply AW.list
        apply Wk.mv (by conv => lhs; whnf) (lt_of_ble rfl)
        apply Wk.un rfl (fun w => by simp [go_sem] <;> rfl) (lt_of_ble rfl)
        apply Wk.mv (by conv => lhs; whnf) (lt_of_ble rfl)
        apply Wk.gon 100 rfl rfl
        apply Wk.ld (i := 7) 10 true ty25 rfl rfl (by conv => lhs; whnf) (lt_of_ble rfl)
        apply Wk.gon 100 rfl rfl
        apply Wk.ld (i := 4) 10 true ty25 rfl rfl (by conv => lhs; whnf) (lt_of_ble rfl)
        apply Wk.gon 100 rfl rfl
        apply Wk.dat (liTxE _) Try.func18 rfl rfl rfl rfl rfl (lt_of_ble rfl)
        apply Wk.pckT rfl (by conv => lhs; whnf) (lt_of_ble rfl)
        apply Wk.asg (by conv => lhs; whnf) (lt_of_ble rfl)
        refine Wk.nil (AW.ret ?_)
        refine thenA_ret ?_
        exact RetQ.ret [] (.cons rfl .nil) ⟨rfl, rfl⟩ none_kept
      · skip
        refine AW.seq ?_
        apply AW.list
        apply Wk.fad 9 0 false fd25_9 rfl (lt_of_ble rfl)
        apply Wk.ld (i := 4) 1 false ty4 rfl rfl (by conv => lhs; whnf) (lt_of_ble rfl)
        apply Wk.un rfl (fun w => by simp [go_sem] <;> rfl) (lt_of_ble rfl)
        apply Wk.mv (by conv => lhs; whnf) (lt_of_ble rfl)
        apply Wk.goff 82 (ok_faddr fd25_2) rfl rfl (by simp)
        apply Wk.goff 82 (ok_load 4 ty23) rfl rfl (by simp)
        apply Wk.goff 82 (ok_len un23) rfl rfl (by simp)
        apply Wk.goff 82 (ok_bin _ _ _ _ _) rfl rfl (by simp)
        apply Wk.goff 82 (ok_move _) rfl rfl (by simp)
        apply Wk.goffu 87 (ok_faddr fd25_7) rfl rfl
        apply Wk.goffu 87 (ok_load 4 ty4) rfl rfl
        apply Wk.goff 82 (ok_pick _ _ _) rfl rfl (by simp)
        apply Wk.goff 82 (ok_move _) rfl rfl (by simp)
        apply Wk.goffu 91 (ok_faddr fd25_5) rfl rfl
        apply Wk.goffu 91 (ok_load 4 ty4) rfl rfl
        apply Wk.goff 82 (ok_pick _ _ _) rfl rfl (by simp)
        apply Wk.pckF rfl (by conv => lhs; whnf) (lt_of_ble rfl)
        apply Wk.asg (by conv => lhs; whnf) (lt_of_ble rfl)
        refine Wk.nil ?_
        refine AW.seq (AW.seq ?_)
        apply AW.list
        apply Wk.mv (by conv => lhs; whnf) (lt_of_ble rfl)
        apply Wk.un rfl (fun w => by simp [go_sem] <;> rfl) (lt_of_ble rfl)
        refine Wk.nil ?_
        refine AW.cond rfl (fun _ => ?_) (fun hc => by cases hc)
        refine AW.seq ?_
        apply AW.list
        apply Wk.mv (by conv => lhs; whnf) (lt_of_ble rfl)
        apply Wk.un rfl (fun w => by simp [go_sem] <;> rfl) (lt_of_ble rfl)
        apply Wk.mv (by conv => lhs; whnf) (lt_of_ble rfl)
        apply Wk.gon 100 rfl rfl
        apply Wk.ld (i := 7) 10 true ty25 rfl rfl (by conv => lhs; whnf) (lt_of_ble rfl)
        apply Wk.gon 100 rfl rfl
        apply Wk.ld (i := 4) 10 true ty25 rfl rfl (by conv => lhs; whnf) (lt_of_ble rfl)
        apply Wk.gon 100 rfl rfl
        apply Wk.dat (liTxE _) Try.func18 rfl rfl rfl rfl rfl (lt_of_ble rfl)
        apply Wk.pckT rfl (by conv => lhs; whnf) (lt_of_ble rfl)
        apply Wk.asg (by conv => lhs; whnf) (lt_of_ble rfl)
        refine Wk.nil (AW.ret ?_)
        refine thenA_ret ?_
        exact RetQ.ret [] (.cons rfl .nil) ⟨rfl, rfl⟩ none_kept
    · obtain rfl : dd = false := by cases dd <;> simp_all
      have hi' : ¬ (fl = [] ∧ hh = false ∧ q = false) := fun h => hi (.inr h)
      by_cases ht : t = y
      · have d1 : tickX y ⟨n, a, fl, s, qu, q, t, hh, c, false⟩ = ⟨n, a, fl, s, qu, q, t, hh, c, true⟩ := by rw [tickX, if_neg hi, if_pos ht]
        have d2 : tickB y ⟨n, a, fl, s, qu, q, t, hh, c, false⟩ = false := decide_eq_false (fun h => h.2 ht)
        rw [d1, d2] at ci cs
        subst ht
        refine AW.seq ?_
        apply AW.list
        apply Wk.ld (i := 3) 5 true ty31 rfl rfl (by conv => lhs; whnf) (lt_of_ble rfl)
        apply Wk.ld (i := 4) 10 true ty25 rfl rfl (by conv => lhs; whnf) (lt_of_ble rfl)
        apply Wk.mv (by conv => lhs; whnf) (lt_of_ble rfl)
        apply Wk.mv (by conv => lhs; whnf) (lt_of_ble rfl)
        apply Wk.dat ci Try.func16 rfl rfl rfl rfl rfl (lt_of_ble rfl)
        apply Wk.mv (by conv => lhs; whnf) (lt_of_ble rfl)
        apply Wk.ext rfl rfl (lt_of_ble rfl)
        apply Wk.ext rfl rfl (lt_of_ble rfl)
        apply Wk.ext rfl rfl (lt_of_ble rfl)
        apply Wk.alc 7 [.int .i64 0, .int .i64 0, .slice none 0 0, .int .i64 0, .slice none 0 0, .bool false, .int .i64 0, .bool false, .int .i64 0, .bool false] ze25 rfl rfl (lt_of_ble rfl)
        apply Wk.alc 8 [.int .i64 0, .int .i64 0, .int .i64 0, .bool false, .bool false, .int .i64 0, .int .i64 0, .int .i64 0, .slice none 0 0] ze41 rfl rfl (lt_of_ble rfl)
        apply Wk.sto (i := 7) 10 true ty25 rfl rfl rfl rfl (Nat.le_of_ble_eq_true rfl) (lt_of_ble rfl)
        apply Wk.sto (i := 8) 9 true ty41 rfl rfl rfl rfl (Nat.le_of_ble_eq_true rfl) (lt_of_ble rfl)
        apply Wk.asg (by conv => lhs; whnf) (lt_of_ble rfl)
        refine Wk.nil ?_
        refine AW.seq ?_
        apply AW.list
        apply Wk.ld (i := 3) 5 true ty31 rfl rfl (by conv => lhs; whnf) (lt_of_ble rfl)
        apply Wk.ld (i := 4) 10 true ty25 rfl rfl (by conv => lhs; whnf) (lt_of_ble rfl)
        apply Wk.mv (by conv => lhs; whnf) (lt_of_ble rfl)
        apply Wk.mv (by conv => lhs; whnf) (lt_of_ble rfl)
        apply Wk.dat cs Try.func17 rfl rfl rfl rfl rfl (lt_of_ble rfl)
        apply Wk.mv (by conv => lhs; whnf) (lt_of_ble rfl)
        apply Wk.ext rfl rfl (lt_of_ble rfl)
        apply Wk.ext rfl rfl (lt_of_ble rfl)
        apply Wk.ext rfl rfl (lt_of_ble rfl)
        apply Wk.alc 10 [.int .i64 0, .int .i64 0, .slice none 0 0, .int .i64 0, .slice none 0 0, .bool false, .int .i64 0, .bool false, .int .i64 0, .bool false] ze25 rfl rfl (lt_of_ble rfl)
        apply Wk.alc 11 [.int .i64 0, .int .i64 0, .int .i64 0, .bool false, .bool false, .int .i64 0, .int .i64 0, .int .i64 0, .slice none 0 0] ze41 rfl rfl (lt_of_ble rfl)
        apply Wk.sto (i := 10) 10 true ty25 rfl rfl rfl rfl (Nat.le_of_ble_eq_true rfl) (lt_of_ble rfl)
        apply Wk.sto (i := 11) 9 true ty41 rfl rfl rfl rfl (Nat.le_of_ble_eq_true rfl) (lt_of_ble rfl)
        apply Wk.asg (by conv => lhs; whnf) (lt_of_ble rfl)
        refine Wk.nil ?_
        refine AW.seq (AW.seq ?_)
        apply AW.list
        apply Wk.ld (i := 7) 10 true ty25 rfl rfl (by conv => lhs; whnf) (lt_of_ble rfl)
        apply Wk.ld (i := 10) 10 true ty25 rfl rfl (by conv => lhs; whnf) (lt_of_ble rfl)
        apply Wk.dat (liTxE _) Try.func18 rfl rfl rfl rfl rfl (lt_of_ble rfl)
        apply Wk.un rfl (fun w => by simp [go_sem] <;> rfl) (lt_of_ble rfl)
        apply Wk.mv (by conv => lhs; whnf) (lt_of_ble rfl)
        apply Wk.gon 46 rfl rfl
        apply Wk.ld (i := 8) 9 true ty41 rfl rfl (by conv => lhs; whnf) (lt_of_ble rfl)
        apply Wk.gon 46 rfl rfl
        apply Wk.ld (i := 11) 9 true ty41 rfl rfl (by conv => lhs; whnf) (lt_of_ble rfl)
        apply Wk.gon 46 rfl rfl
        apply Wk.dat (liFrmE 0 0 0 false false 0 0 0 []) Try.func19 rfl rfl rfl rfl rfl (lt_of_ble rfl)
        apply Wk.gon 46 rfl rfl
        apply Wk.un rfl (fun w => by simp [go_sem] <;> rfl) (lt_of_ble rfl)
        apply Wk.pckF rfl (by conv => lhs; whnf) (lt_of_ble rfl)
        apply Wk.mv (by conv => lhs; whnf) (lt_of_ble rfl)
        apply Wk.gon 52 rfl rfl
        apply Wk.mv (by conv => lhs; whnf) (lt_of_ble rfl)
        apply Wk.gon 52 rfl rfl
        apply Wk.mv (by conv => lhs; whnf) (lt_of_ble rfl)
        apply Wk.gon 52 rfl rfl
        apply Wk.bin rfl rfl (r := .bool false) (fun w => by simp [go_sem]) (lt_of_ble rfl)
        apply Wk.pckF rfl (by conv => lhs; whnf) (lt_of_ble rfl)
        refine Wk.nil ?_
        refine AW.cond rfl (fun hc => by cases hc) (fun _ => AW.skip (thenA_normal ?_))
        refine AW.seq (AW.seq ?_)
        apply AW.list
        apply Wk.ld (i := 3) 5 true ty31 rfl rfl (by conv => lhs; whnf) (lt_of_ble rfl)
        apply Wk.ld (i := 4) 10 true ty25 rfl rfl (by conv => lhs; whnf) (lt_of_ble rfl)
        apply Wk.dat (stxb hok) Try.func13 rfl rfl rfl rfl rfl (lt_of_ble rfl)
        apply Wk.un rfl (fun w => by simp [go_sem] <;> rfl) (lt_of_ble rfl)
        apply Wk.mv (by conv => lhs; whnf) (lt_of_ble rfl)
        apply Wk.gon 61 rfl rfl
        apply Wk.mv (by conv => lhs; whnf) (lt_of_ble rfl)
        apply Wk.gon 61 rfl rfl
        apply Wk.bin rfl rfl (r := .bool false) (fun w => by simp [go_sem] <;> omega) (lt_of_ble rfl)
        apply Wk.pckF rfl (by conv => lhs; whnf) (lt_of_ble rfl)
        apply Wk.mv (by conv => lhs; whnf) (lt_of_ble rfl)
        apply Wk.gon 65 rfl rfl
        apply Wk.mv (by conv => lhs; whnf) (lt_of_ble rfl)
        apply Wk.gon 65 rfl rfl
        apply Wk.bin rfl rfl (r := .bool false) (fun w => by simp [go_sem] <;> omega) (lt_of_ble rfl)
        apply Wk.pckF rfl (by conv => lhs; whnf) (lt_of_ble rfl)
        refine Wk.nil ?_
        refine AW.cond rfl (fun hc => by cases hc) (fun _ => AW.skip (thenA_normal ?_))
        by_cases hlen : fl ≠ []
        · skip
          refine AW.seq ?_
          apply AW.list
          apply Wk.fad 9 0 false fd25_9 rfl (lt_of_ble rfl)
          apply Wk.ld (i := 4) 1 false ty4 rfl rfl (by conv => lhs; whnf) (lt_of_ble rfl)
          apply Wk.un rfl (fun w => by simp [go_sem] <;> rfl) (lt_of_ble rfl)
          apply Wk.mv (by conv => lhs; whnf) (lt_of_ble rfl)
          apply Wk.gon 82 rfl rfl
          apply Wk.fad 2 0 false fd25_2 rfl (lt_of_ble rfl)
          apply Wk.gon 82 rfl rfl
          apply Wk.ld (i := 4) 1 false ty23 rfl rfl (by conv => lhs; whnf) (lt_of_ble rfl)
          apply Wk.gon 82 rfl rfl
          apply Wk.len un23 rfl (lt_of_ble rfl)
          apply Wk.gon 82 rfl rfl
          apply Wk.bin rfl rfl (r := .bool true) (fun w => by rw [e1]; simp [go_sem]; exact List.length_pos_iff.2 hlen) (lt_of_ble rfl)
          apply Wk.gon 82 rfl rfl
          apply Wk.mv (by conv => lhs; whnf) (lt_of_ble rfl)
          apply Wk.goff 87 (ok_faddr fd25_7) rfl rfl (by simp)
          apply Wk.goff 87 (ok_load 4 ty4) rfl rfl (by simp)
          apply Wk.gon 82 rfl rfl
          apply Wk.pckT rfl (by conv => lhs; whnf) (lt_of_ble rfl)
          apply Wk.gon 82 rfl rfl
          apply Wk.mv (by conv => lhs; whnf) (lt_of_ble rfl)
          apply Wk.goff 91 (ok_faddr fd25_5) rfl rfl (by simp)
          apply Wk.goff 91 (ok_load 4 ty4) rfl rfl (by simp)
          apply Wk.gon 82 rfl rfl
          apply Wk.pckT rfl (by conv => lhs; whnf) (lt_of_ble rfl)
          apply Wk.pckT rfl (by conv => lhs; whnf) (lt_of_ble rfl)
          apply Wk.asg (by conv => lhs; whnf) (lt_of_ble rfl)
          refine Wk.nil ?_
          refine AW.seq (AW.seq ?_)
          apply AW.list
          apply Wk.mv (by conv => lhs; whnf) (lt_of_ble rfl)
          apply Wk.un rfl (fun w => by simp [go_sem] <;> rfl) (lt_of_ble rfl)
          refine Wk.nil ?_
          refine AW.cond rfl (fun hc => by cases hc) (fun _ => AW.skip (thenA_normal ?_))
          refine AW.seq (AW.seq ?_)
          apply AW.list
          apply Wk.fad 6 0 false fd25_6 rfl (lt_of_ble rfl)
          apply Wk.ld (i := 4) 1 false ty3 rfl rfl (by conv => lhs; whnf) (lt_of_ble rfl)
          apply Wk.fad 4 0 false fd31_4 rfl (lt_of_ble rfl)
          apply Wk.ld (i := 3) 1 false ty3 rfl rfl (by conv => lhs; whnf) (lt_of_ble rfl)
          apply Wk.bin rfl rfl (r := .bool true) (fun w => by simp [go_sem]) (lt_of_ble rfl)
          refine Wk.nil ?_
          refine AW.cond rfl (fun _ => ?_) (fun hc => by cases hc)
          refine AW.seq ?_
          apply AW.list
          apply Wk.mv (by conv => lhs; whnf) (lt_of_ble rfl)
          apply Wk.un rfl (fun w => by simp [go_sem] <;> rfl) (lt_of_ble rfl)
          apply Wk.mv (by conv => lhs; whnf) (lt_of_ble rfl)
          apply Wk.gon 112 rfl rfl
          apply Wk.fad 9 0 false fd25_9 rfl (lt_of_ble rfl)
          apply Wk.gon 112 rfl rfl
          apply Wk.ld (i := 7) 1 false ty4 rfl rfl (by conv => lhs; whnf) (lt_of_ble rfl)
          apply Wk.pckT rfl (by conv => lhs; whnf) (lt_of_ble rfl)
          apply Wk.asg (by conv => lhs; whnf) (lt_of_ble rfl)
          refine Wk.nil (AW.ret ?_)
          refine thenA_ret ?_
          exact RetQ.ret [] (.cons rfl .nil) ⟨rfl, rfl⟩ none_kept
        · obtain rfl : fl = [] := by simpa using hlen
          cases hh
          · obtain rfl : q = true := by cases q <;> simp_all
            refine AW.seq ?_
            apply AW.list
            apply Wk.fad 9 0 false fd25_9 rfl (lt_of_ble rfl)
            apply Wk.ld (i := 4) 1 false ty4 rfl rfl (by conv => lhs; whnf) (lt_of_ble rfl)
            apply Wk.un rfl (fun w => by simp [go_sem] <;> rfl) (lt_of_ble rfl)
            apply Wk.mv (by conv => lhs; whnf) (lt_of_ble rfl)
            apply Wk.gon 82 rfl rfl
            apply Wk.fad 2 0 false fd25_2 rfl (lt_of_ble rfl)
            apply Wk.gon 82 rfl rfl
            apply Wk.ld (i := 4) 1 false ty23 rfl rfl (by conv => lhs; whnf) (lt_of_ble rfl)
            apply Wk.gon 82 rfl rfl
            apply Wk.len un23 rfl (lt_of_ble rfl)
            apply Wk.gon 82 rfl rfl
            apply Wk.bin rfl rfl (r := .bool false) (fun w => by rw [e1]; simp [go_sem]) (lt_of_ble rfl)
            apply Wk.gon 82 rfl rfl
            apply Wk.mv (by conv => lhs; whnf) (lt_of_ble rfl)
            apply Wk.gon 87 rfl rfl
            apply Wk.fad 7 0 false fd25_7 rfl (lt_of_ble rfl)
            apply Wk.gon 87 rfl rfl
            apply Wk.ld (i := 4) 1 false ty4 rfl rfl (by conv => lhs; whnf) (lt_of_ble rfl)
            apply Wk.gon 82 rfl rfl
            apply Wk.pckF rfl (by conv => lhs; whnf) (lt_of_ble rfl)
            apply Wk.gon 82 rfl rfl
            apply Wk.mv (by conv => lhs; whnf) (lt_of_ble rfl)
            apply Wk.gon 91 rfl rfl
            apply Wk.fad 5 0 false fd25_5 rfl (lt_of_ble rfl)
            apply Wk.gon 91 rfl rfl
            apply Wk.ld (i := 4) 1 false ty4 rfl rfl (by conv => lhs; whnf) (lt_of_ble rfl)
            apply Wk.gon 82 rfl rfl
            apply Wk.pckF rfl (by conv => lhs; whnf) (lt_of_ble rfl)
            apply Wk.pckT rfl (by conv => lhs; whnf) (lt_of_ble rfl)
            apply Wk.asg (by conv => lhs; whnf) (lt_of_ble rfl)
            refine Wk.nil ?_
            refine AW.seq (AW.seq ?_)
            apply AW.list
            apply Wk.mv (by conv => lhs; whnf) (lt_of_ble rfl)
            apply Wk.un rfl (fun w => by simp [go_sem] <;> rfl) (lt_of_ble rfl)
            refine Wk.nil ?_
            refine AW.cond rfl (fun hc => by cases hc) (fun _ => AW.skip (thenA_normal ?_))
            refine AW.seq (AW.seq ?_)
            apply AW.list
            apply Wk.fad 6 0 false fd25_6 rfl (lt_of_ble rfl)
            apply Wk.ld (i := 4) 1 false ty3 rfl rfl (by conv => lhs; whnf) (lt_of_ble rfl)
            apply Wk.fad 4 0 false fd31_4 rfl (lt_of_ble rfl)
            apply Wk.ld (i := 3) 1 false ty3 rfl rfl (by conv => lhs; whnf) (lt_of_ble rfl)
            apply Wk.bin rfl rfl (r := .bool true) (fun w => by simp [go_sem]) (lt_of_ble rfl)
            refine Wk.nil ?_
            refine AW.cond rfl (fun _ => ?_) (fun hc => by cases hc)
            refine AW.seq ?_
            apply AW.list
            apply Wk.mv (by conv => lhs; whnf) (lt_of_ble rfl)
            apply Wk.un rfl (fun w => by simp [go_sem] <;> rfl) (lt_of_ble rfl)
            apply Wk.mv (by conv => lhs; whnf) (lt_of_ble rfl)
            apply Wk.gon 112 rfl rfl
            apply Wk.fad 9 0 false fd25_9 rfl (lt_of_ble rfl)
            apply Wk.gon 112 rfl rfl
            apply Wk.ld (i := 7) 1 false ty4 rfl rfl (by conv => lhs; whnf) (lt_of_ble rfl)
            apply Wk.pckT rfl (by conv => lhs; whnf) (lt_of_ble rfl)
            apply Wk.asg (by conv => lhs; whnf) (lt_of_ble rfl)
            refine Wk.nil (AW.ret ?_)
            refine thenA_ret ?_
            exact RetQ.ret [] (.cons rfl .nil) ⟨rfl, rfl⟩ none_kept
          · skip
            refine AW.seq ?_
            apply AW.list
            apply Wk.fad 9 0 false fd25_9 rfl (lt_of_ble rfl)
            apply Wk.ld (i := 4) 1 false ty4 rfl rfl (by conv => lhs; whnf) (lt_of_ble rfl)
            apply Wk.un rfl (fun w => by simp [go_sem] <;> rfl) (lt_of_ble rfl)
            apply Wk.mv (by conv => lhs; whnf) (lt_of_ble rfl)
            apply Wk.gon 82 rfl rfl
            apply Wk.fad 2 0 false fd25_2 rfl (lt_of_ble rfl)
            apply Wk.gon 82 rfl rfl
            apply Wk.ld (i := 4) 1 false ty23 rfl rfl (by conv => lhs; whnf) (lt_of_ble rfl)
            apply Wk.gon 82 rfl rfl
            apply Wk.len un23 rfl (lt_of_ble rfl)
            apply Wk.gon 82 rfl rfl
            apply Wk.bin rfl rfl (r := .bool false) (fun w => by rw [e1]; simp [go_sem]) (lt_of_ble rfl)
            apply Wk.gon 82 rfl rfl
            apply Wk.mv (by conv => lhs; whnf) (lt_of_ble rfl)
            apply Wk.gon 87 rfl rfl
            apply Wk.fad 7 0 false fd25_7 rfl (lt_of_ble rfl)
            apply Wk.gon 87 rfl rfl
            apply Wk.ld (i := 4) 1 false ty4 rfl rfl (by conv => lhs; whnf) (lt_of_ble rfl)
            apply Wk.gon 82 rfl rfl
            apply Wk.pckF rfl (by conv => lhs; whnf) (lt_of_ble rfl)
            apply Wk.gon 82 rfl rfl
            apply Wk.mv (by conv => lhs; whnf) (lt_of_ble rfl)
            apply Wk.goff 91 (ok_faddr fd25_5) rfl rfl (by simp)
            apply Wk.goff 91 (ok_load 4 ty4) rfl rfl (by simp)
            apply Wk.gon 82 rfl rfl
            apply Wk.pckT rfl (by conv => lhs; whnf) (lt_of_ble rfl)
            apply Wk.pckT rfl (by conv => lhs; whnf) (lt_of_ble rfl)
            apply Wk.asg (by conv => lhs; whnf) (lt_of_ble rfl)
            refine Wk.nil ?_
            refine AW.seq (AW.seq ?_)
            apply AW.list
            apply Wk.mv (by conv => lhs; whnf) (lt_of_ble rfl)
            apply Wk.un rfl (fun w => by simp [go_sem] <;> rfl) (lt_of_ble rfl)
            refine Wk.nil ?_
            refine AW.cond rfl (fun hc => by cases hc) (fun _ => AW.skip (thenA_normal ?_))
            refine AW.seq (AW.seq ?_)
            apply AW.list
            apply Wk.fad 6 0 false fd25_6 rfl (lt_of_ble rfl)
            apply Wk.ld (i := 4) 1 false ty3 rfl rfl (by conv => lhs; whnf) (lt_of_ble rfl)
            apply Wk.fad 4 0 false fd31_4 rfl (lt_of_ble rfl)
            apply Wk.ld (i := 3) 1 false ty3 rfl rfl (by conv => lhs; whnf) (lt_of_ble rfl)
            apply Wk.bin rfl rfl (r := .bool true) (fun w => by simp [go_sem]) (lt_of_ble rfl)
            refine Wk.nil ?_
            refine AW.cond rfl (fun _ => ?_) (fun hc => by cases hc)
            refine AW.seq ?_
            apply AW.list
            apply Wk.mv (by conv => lhs; whnf) (lt_of_ble rfl)
            apply Wk.un rfl (fun w => by simp [go_sem] <;> rfl) (lt_of_ble rfl)
            apply Wk.mv (by conv => lhs; whnf) (lt_of_ble rfl)
            apply Wk.gon 112 rfl rfl
            apply Wk.fad 9 0 false fd25_9 rfl (lt_of_ble rfl)
            apply Wk.gon 112 rfl rfl
            apply Wk.ld (i := 7) 1 false ty4 rfl rfl (by conv => lhs; whnf) (lt_of_ble rfl)
            apply Wk.pckT rfl (by conv => lhs; whnf) (lt_of_ble rfl)
            apply Wk.asg (by conv => lhs; whnf) (lt_of_ble rfl)
            refine Wk.nil (AW.ret ?_)
            refine thenA_ret ?_
            exact RetQ.ret [] (.cons rfl .nil) ⟨rfl, rfl⟩ none_kept
      · have d1 : tickX y ⟨n, a, fl, s, qu, q, t, hh, c, false⟩ = ⟨n, a, fl, s, qu, true, t + 1, hh, c, false⟩ := by rw [tickX, if_neg hi, if_neg ht]
        have d2 : tickB y ⟨n, a, fl, s, qu, q, t, hh, c, false⟩ = true := decide_eq_true ⟨hi, ht⟩
        rw [d1, d2] at ci cs
        have g2 := tick_still hok ht
        simp only at g2
        refine AW.seq ?_
        apply AW.list
        apply Wk.ld (i := 3) 5 true ty31 rfl rfl (by conv => lhs; whnf) (lt_of_ble rfl)
        apply Wk.ld (i := 4) 10 true ty25 rfl rfl (by conv => lhs; whnf) (lt_of_ble rfl)
        apply Wk.mv (by conv => lhs; whnf) (lt_of_ble rfl)
        apply Wk.mv (by conv => lhs; whnf) (lt_of_ble rfl)
        apply Wk.dat ci Try.func16 rfl rfl rfl rfl rfl (lt_of_ble rfl)
        apply Wk.mv (by conv => lhs; whnf) (lt_of_ble rfl)
        apply Wk.ext rfl rfl (lt_of_ble rfl)
        apply Wk.ext rfl rfl (lt_of_ble rfl)
        apply Wk.ext rfl rfl (lt_of_ble rfl)
        apply Wk.alc 7 [.int .i64 0, .int .i64 0, .slice none 0 0, .int .i64 0, .slice none 0 0, .bool false, .int .i64 0, .bool false, .int .i64 0, .bool false] ze25 rfl rfl (lt_of_ble rfl)
        apply Wk.alc 8 [.int .i64 0, .int .i64 0, .int .i64 0, .bool false, .bool false, .int .i64 0, .int .i64 0, .int .i64 0, .slice none 0 0] ze41 rfl rfl (lt_of_ble rfl)
        apply Wk.sto (i := 7) 10 true ty25 rfl rfl rfl rfl (Nat.le_of_ble_eq_true rfl) (lt_of_ble rfl)
        apply Wk.sto (i := 8) 9 true ty41 rfl rfl rfl rfl (Nat.le_of_ble_eq_true rfl) (lt_of_ble rfl)
        apply Wk.asg (by conv => lhs; whnf) (lt_of_ble rfl)
        refine Wk.nil ?_
        refine AW.seq ?_
        apply AW.list
        apply Wk.ld (i := 3) 5 true ty31 rfl rfl (by conv => lhs; whnf) (lt_of_ble rfl)
        apply Wk.ld (i := 4) 10 true ty25 rfl rfl (by conv => lhs; whnf) (lt_of_ble rfl)
        apply Wk.mv (by conv => lhs; whnf) (lt_of_ble rfl)
        apply Wk.mv (by conv => lhs; whnf) (lt_of_ble rfl)
        apply Wk.dat cs Try.func17 rfl rfl rfl rfl rfl (lt_of_ble rfl)
        apply Wk.mv (by conv => lhs; whnf) (lt_of_ble rfl)
        apply Wk.ext rfl rfl (lt_of_ble rfl)
        apply Wk.ext rfl rfl (lt_of_ble rfl)
        apply Wk.ext rfl rfl (lt_of_ble rfl)
        apply Wk.alc 10 [.int .i64 0, .int .i64 0, .slice none 0 0, .int .i64 0, .slice none 0 0, .bool false, .int .i64 0, .bool false, .int .i64 0, .bool false] ze25 rfl rfl (lt_of_ble rfl)
        apply Wk.alc 11 [.int .i64 0, .int .i64 0, .int .i64 0, .bool false, .bool false, .int .i64 0, .int .i64 0, .int .i64 0, .slice none 0 0] ze41 rfl rfl (lt_of_ble rfl)
        apply Wk.sto (i := 10) 10 true ty25 rfl rfl rfl rfl (Nat.le_of_ble_eq_true rfl) (lt_of_ble rfl)
        apply Wk.sto (i := 11) 9 true ty41 rfl rfl rfl rfl (Nat.le_of_ble_eq_true rfl) (lt_of_ble rfl)
        apply Wk.asg (by conv => lhs; whnf) (lt_of_ble rfl)
        refine Wk.nil ?_
        refine AW.seq (AW.seq ?_)
        apply AW.list
        apply Wk.ld (i := 7) 10 true ty25 rfl rfl (by conv => lhs; whnf) (lt_of_ble rfl)
        apply Wk.ld (i := 10) 10 true ty25 rfl rfl (by conv => lhs; whnf) (lt_of_ble rfl)
        apply Wk.dat (liTxE _) Try.func18 rfl rfl rfl rfl rfl (lt_of_ble rfl)
        apply Wk.un rfl (fun w => by simp [go_sem] <;> rfl) (lt_of_ble rfl)
        apply Wk.mv (by conv => lhs; whnf) (lt_of_ble rfl)
        apply Wk.gon 46 rfl rfl
        apply Wk.ld (i := 8) 9 true ty41 rfl rfl (by conv => lhs; whnf) (lt_of_ble rfl)
        apply Wk.gon 46 rfl rfl
        apply Wk.ld (i := 11) 9 true ty41 rfl rfl (by conv => lhs; whnf) (lt_of_ble rfl)
        apply Wk.gon 46 rfl rfl
        apply Wk.dat (liFrmE 2 0 ack true false (2 * bitZ bu) 0 0 []) Try.func19 rfl rfl rfl rfl rfl (lt_of_ble rfl)
        apply Wk.gon 46 rfl rfl
        apply Wk.un rfl (fun w => by simp [go_sem] <;> rfl) (lt_of_ble rfl)
        apply Wk.pckF rfl (by conv => lhs; whnf) (lt_of_ble rfl)
        apply Wk.mv (by conv => lhs; whnf) (lt_of_ble rfl)
        apply Wk.gon 52 rfl rfl
        apply Wk.mv (by conv => lhs; whnf) (lt_of_ble rfl)
        apply Wk.gon 52 rfl rfl
        apply Wk.mv (by conv => lhs; whnf) (lt_of_ble rfl)
        apply Wk.gon 52 rfl rfl
        apply Wk.bin rfl rfl (r := .bool false) (fun w => by simp [go_sem]) (lt_of_ble rfl)
        apply Wk.pckF rfl (by conv => lhs; whnf) (lt_of_ble rfl)
        refine Wk.nil ?_
        refine AW.cond rfl (fun hc => by cases hc) (fun _ => AW.skip (thenA_normal ?_))
        refine AW.seq (AW.seq ?_)
        apply AW.list
        apply Wk.ld (i := 3) 5 true ty31 rfl rfl (by conv => lhs; whnf) (lt_of_ble rfl)
        apply Wk.ld (i := 4) 10 true ty25 rfl rfl (by conv => lhs; whnf) (lt_of_ble rfl)
        apply Wk.dat (stxb hok) Try.func13 rfl rfl rfl rfl rfl (lt_of_ble rfl)
        apply Wk.un rfl (fun w => by simp [go_sem] <;> rfl) (lt_of_ble rfl)
        apply Wk.mv (by conv => lhs; whnf) (lt_of_ble rfl)
        apply Wk.gon 61 rfl rfl
        apply Wk.mv (by conv => lhs; whnf) (lt_of_ble rfl)
        apply Wk.gon 61 rfl rfl
        apply Wk.bin rfl rfl (r := .bool false) (fun w => by simp [go_sem] <;> omega) (lt_of_ble rfl)
        apply Wk.pckF rfl (by conv => lhs; whnf) (lt_of_ble rfl)
        apply Wk.mv (by conv => lhs; whnf) (lt_of_ble rfl)
        apply Wk.gon 65 rfl rfl
        apply Wk.mv (by conv => lhs; whnf) (lt_of_ble rfl)
        apply Wk.gon 65 rfl rfl
        apply Wk.bin rfl rfl (r := .bool false) (fun w => by simp [go_sem] <;> omega) (lt_of_ble rfl)
        apply Wk.pckF rfl (by conv => lhs; whnf) (lt_of_ble rfl)
        refine Wk.nil ?_
        refine AW.cond rfl (fun hc => by cases hc) (fun _ => AW.skip (thenA_normal ?_))
        by_cases hlen : fl ≠ []
        · skip
          refine AW.seq ?_
          apply AW.list
          apply Wk.fad 9 0 false fd25_9 rfl (lt_of_ble rfl)
          apply Wk.ld (i := 4) 1 false ty4 rfl rfl (by conv => lhs; whnf) (lt_of_ble rfl)
          apply Wk.un rfl (fun w => by simp [go_sem] <;> rfl) (lt_of_ble rfl)
          apply Wk.mv (by conv => lhs; whnf) (lt_of_ble rfl)
          apply Wk.gon 82 rfl rfl
          apply Wk.fad 2 0 false fd25_2 rfl (lt_of_ble rfl)
          apply Wk.gon 82 rfl rfl
          apply Wk.ld (i := 4) 1 false ty23 rfl rfl (by conv => lhs; whnf) (lt_of_ble rfl)
          apply Wk.gon 82 rfl rfl
          apply Wk.len un23 rfl (lt_of_ble rfl)
          apply Wk.gon 82 rfl rfl
          apply Wk.bin rfl rfl (r := .bool true) (fun w => by rw [e1]; simp [go_sem]; exact List.length_pos_iff.2 hlen) (lt_of_ble rfl)
          apply Wk.gon 82 rfl rfl
          apply Wk.mv (by conv => lhs; whnf) (lt_of_ble rfl)
          apply Wk.goff 87 (ok_faddr fd25_7) rfl rfl (by simp)
          apply Wk.goff 87 (ok_load 4 ty4) rfl rfl (by simp)
          apply Wk.gon 82 rfl rfl
          apply Wk.pckT rfl (by conv => lhs; whnf) (lt_of_ble rfl)
          apply Wk.gon 82 rfl rfl
          apply Wk.mv (by conv => lhs; whnf) (lt_of_ble rfl)
          apply Wk.goff 91 (ok_faddr fd25_5) rfl rfl (by simp)
          apply Wk.goff 91 (ok_load 4 ty4) rfl rfl (by simp)
          apply Wk.gon 82 rfl rfl
          apply Wk.pckT rfl (by conv => lhs; whnf) (lt_of_ble rfl)
          apply Wk.pckT rfl (by conv => lhs; whnf) (lt_of_ble rfl)
          apply Wk.asg (by conv => lhs; whnf) (lt_of_ble rfl)
          refine Wk.nil ?_
          refine AW.seq (AW.seq ?_)
          apply AW.list
          apply Wk.mv (by conv => lhs; whnf) (lt_of_ble rfl)
          apply Wk.un rfl (fun w => by simp [go_sem] <;> rfl) (lt_of_ble rfl)
          refine Wk.nil ?_
          refine AW.cond rfl (fun hc => by cases hc) (fun _ => AW.skip (thenA_normal ?_))
          refine AW.seq (AW.seq ?_)
          apply AW.list
          apply Wk.fad 6 0 false fd25_6 rfl (lt_of_ble rfl)
          apply Wk.ld (i := 4) 1 false ty3 rfl rfl (by conv => lhs; whnf) (lt_of_ble rfl)
          apply Wk.fad 4 0 false fd31_4 rfl (lt_of_ble rfl)
          apply Wk.ld (i := 3) 1 false ty3 rfl rfl (by conv => lhs; whnf) (lt_of_ble rfl)
          apply Wk.bin rfl rfl (r := .bool false) (fun w => by simp [go_sem, ht]) (lt_of_ble rfl)
          refine Wk.nil ?_
          refine AW.cond rfl (fun hc => by cases hc) (fun _ => AW.skip (thenA_normal ?_))
          refine AW.seq ?_
          apply AW.list
          apply Wk.mv (by conv => lhs; whnf) (lt_of_ble rfl)
          apply Wk.mv (by conv => lhs; whnf) (lt_of_ble rfl)
          apply Wk.gon 117 rfl rfl
          apply Wk.ld (i := 3) 5 true ty31 rfl rfl (by conv => lhs; whnf) (lt_of_ble rfl)
          apply Wk.gon 117 rfl rfl
          apply Wk.ld (i := 7) 10 true ty25 rfl rfl (by conv => lhs; whnf) (lt_of_ble rfl)
          apply Wk.gon 117 rfl rfl
          apply Wk.dat (itxb g2) Try.func12 rfl rfl rfl rfl rfl (lt_of_ble rfl)
          apply Wk.pckT rfl (by conv => lhs; whnf) (lt_of_ble rfl)
          apply Wk.mv (by conv => lhs; whnf) (lt_of_ble rfl)
          apply Wk.gon 122 rfl rfl
          apply Wk.fad 5 0 false fd25_5 rfl (lt_of_ble rfl)
          apply Wk.gon 122 rfl rfl
          apply Wk.ld (i := 7) 1 false ty4 rfl rfl (by conv => lhs; whnf) (lt_of_ble rfl)
          apply Wk.pckT rfl (by conv => lhs; whnf) (lt_of_ble rfl)
          apply Wk.mv (by conv => lhs; whnf) (lt_of_ble rfl)
          apply Wk.gon 126 rfl rfl
          apply Wk.fad 6 0 false fd25_6 rfl (lt_of_ble rfl)
          apply Wk.gon 126 rfl rfl
          apply Wk.ld (i := 7) 1 false ty3 rfl rfl (by conv => lhs; whnf) (lt_of_ble rfl)
          apply Wk.gon 126 rfl rfl
          apply Wk.fad 6 0 false fd25_6 rfl (lt_of_ble rfl)
          apply Wk.gon 126 rfl rfl
          apply Wk.ld (i := 4) 1 false ty3 rfl rfl (by conv => lhs; whnf) (lt_of_ble rfl)
          apply Wk.gon 126 rfl rfl
          apply Wk.addi rfl rfl (by dsimp only; omega) (lt_of_ble rfl)
          apply Wk.gon 126 rfl rfl
          apply Wk.bin rfl rfl (r := .bool true) (fun w => by simp [go_sem]) (lt_of_ble rfl)
          apply Wk.pckT rfl (by conv => lhs; whnf) (lt_of_ble rfl)
          apply Wk.mv (by conv => lhs; whnf) (lt_of_ble rfl)
          apply Wk.gon 134 rfl rfl
          apply Wk.fad 3 0 false fd41_3 rfl (lt_of_ble rfl)
          apply Wk.gon 134 rfl rfl
          apply Wk.ld (i := 8) 1 false ty4 rfl rfl (by conv => lhs; whnf) (lt_of_ble rfl)
          apply Wk.pckT rfl (by conv => lhs; whnf) (lt_of_ble rfl)
          apply Wk.mv (by conv => lhs; whnf) (lt_of_ble rfl)
          apply Wk.gon 138 rfl rfl
          apply Wk.fad 2 0 false fd41_2 rfl (lt_of_ble rfl)
          apply Wk.gon 138 rfl rfl
          apply Wk.ld (i := 8) 1 false ty3 rfl rfl (by conv => lhs; whnf) (lt_of_ble rfl)
          apply Wk.gon 138 rfl rfl
          apply Wk.mv (by conv => lhs; whnf) (lt_of_ble rfl)
          apply Wk.gon 138 rfl rfl
          apply Wk.bin rfl rfl (r := .bool true) (fun w => by simp [go_sem]) (lt_of_ble rfl)
          apply Wk.pckT rfl (by conv => lhs; whnf) (lt_of_ble rfl)
          apply Wk.mv (by conv => lhs; whnf) (lt_of_ble rfl)
          apply Wk.gon 144 rfl rfl
          apply Wk.fad 5 0 false fd41_5 rfl (lt_of_ble rfl)
          apply Wk.gon 144 rfl rfl
          apply Wk.ld (i := 8) 1 false ty3 rfl rfl (by conv => lhs; whnf) (lt_of_ble rfl)
          apply Wk.gon 144 rfl rfl
          apply Wk.bin rfl rfl (r := .bool bu) (fun w => by cases bu <;> simp [go_sem, bitZ]) (lt_of_ble rfl)
          apply Wk.gon 144 rfl rfl
          apply Wk.mv (by conv => lhs; whnf) (lt_of_ble rfl)
          apply Wk.gon 144 rfl rfl
          apply Wk.bin rfl rfl (r := .bool true) (fun w => by simp [go_sem]) (lt_of_ble rfl)
          apply Wk.pckT rfl (by conv => lhs; whnf) (lt_of_ble rfl)
          apply Wk.asg (by conv => lhs; whnf) (lt_of_ble rfl)
          refine Wk.nil (AW.ret ?_)
          exact RetQ.ret [] (.cons rfl .nil) ⟨rfl, rfl⟩ none_kept
        · obtain rfl : fl = [] := by simpa using hlen
          cases hh
          · obtain rfl : q = true := by cases q <;> simp_all
            refine AW.seq ?_
            apply AW.list
            apply Wk.fad 9 0 false fd25_9 rfl (lt_of_ble rfl)
            apply Wk.ld (i := 4) 1 false ty4 rfl rfl (by conv => lhs; whnf) (lt_of_ble rfl)
            apply Wk.un rfl (fun w => by simp [go_sem] <;> rfl) (lt_of_ble rfl)
            apply Wk.mv (by conv => lhs; whnf) (lt_of_ble rfl)
            apply Wk.gon 82 rfl rfl
            apply Wk.fad 2 0 false fd25_2 rfl (lt_of_ble rfl)
            apply Wk.gon 82 rfl rfl
            apply Wk.ld (i := 4) 1 false ty23 rfl rfl (by conv => lhs; whnf) (lt_of_ble rfl)
            apply Wk.gon 82 rfl rfl
            apply Wk.len un23 rfl (lt_of_ble rfl)
            apply Wk.gon 82 rfl rfl
            apply Wk.bin rfl rfl (r := .bool false) (fun w => by rw [e1]; simp [go_sem]) (lt_of_ble rfl)
            apply Wk.gon 82 rfl rfl
            apply Wk.mv (by conv => lhs; whnf) (lt_of_ble rfl)
            apply Wk.gon 87 rfl rfl
            apply Wk.fad 7 0 false fd25_7 rfl (lt_of_ble rfl)
            apply Wk.gon 87 rfl rfl
            apply Wk.ld (i := 4) 1 false ty4 rfl rfl (by conv => lhs; whnf) (lt_of_ble rfl)
            apply Wk.gon 82 rfl rfl
            apply Wk.pckF rfl (by conv => lhs; whnf) (lt_of_ble rfl)
            apply Wk.gon 82 rfl rfl
            apply Wk.mv (by conv => lhs; whnf) (lt_of_ble rfl)
            apply Wk.gon 91 rfl rfl
            apply Wk.fad 5 0 false fd25_5 rfl (lt_of_ble rfl)
            apply Wk.gon 91 rfl rfl
            apply Wk.ld (i := 4) 1 false ty4 rfl rfl (by conv => lhs; whnf) (lt_of_ble rfl)
            apply Wk.gon 82 rfl rfl
            apply Wk.pckF rfl (by conv => lhs; whnf) (lt_of_ble rfl)
            apply Wk.pckT rfl (by conv => lhs; whnf) (lt_of_ble rfl)
            apply Wk.asg (by conv => lhs; whnf) (lt_of_ble rfl)
            refine Wk.nil ?_
            refine AW.seq (AW.seq ?_)
            apply AW.list
            apply Wk.mv (by conv => lhs; whnf) (lt_of_ble rfl)
            apply Wk.un rfl (fun w => by simp [go_sem] <;> rfl) (lt_of_ble rfl)
            refine Wk.nil ?_
            refine AW.cond rfl (fun hc => by cases hc) (fun _ => AW.skip (thenA_normal ?_))
            refine AW.seq (AW.seq ?_)
            apply AW.list
            apply Wk.fad 6 0 false fd25_6 rfl (lt_of_ble rfl)
            apply Wk.ld (i := 4) 1 false ty3 rfl rfl (by conv => lhs; whnf) (lt_of_ble rfl)
            apply Wk.fad 4 0 false fd31_4 rfl (lt_of_ble rfl)
            apply Wk.ld (i := 3) 1 false ty3 rfl rfl (by conv => lhs; whnf) (lt_of_ble rfl)
            apply Wk.bin rfl rfl (r := .bool false) (fun w => by simp [go_sem, ht]) (lt_of_ble rfl)
            refine Wk.nil ?_
            refine AW.cond rfl (fun hc => by cases hc) (fun _ => AW.skip (thenA_normal ?_))
            refine AW.seq ?_
            apply AW.list
            apply Wk.mv (by conv => lhs; whnf) (lt_of_ble rfl)
            apply Wk.mv (by conv => lhs; whnf) (lt_of_ble rfl)
            apply Wk.gon 117 rfl rfl
            apply Wk.ld (i := 3) 5 true ty31 rfl rfl (by conv => lhs; whnf) (lt_of_ble rfl)
            apply Wk.gon 117 rfl rfl
            apply Wk.ld (i := 7) 10 true ty25 rfl rfl (by conv => lhs; whnf) (lt_of_ble rfl)
            apply Wk.gon 117 rfl rfl
            apply Wk.dat (itxb g2) Try.func12 rfl rfl rfl rfl rfl (lt_of_ble rfl)
            apply Wk.pckT rfl (by conv => lhs; whnf) (lt_of_ble rfl)
            apply Wk.mv (by conv => lhs; whnf) (lt_of_ble rfl)
            apply Wk.gon 122 rfl rfl
            apply Wk.fad 5 0 false fd25_5 rfl (lt_of_ble rfl)
            apply Wk.gon 122 rfl rfl
            apply Wk.ld (i := 7) 1 false ty4 rfl rfl (by conv => lhs; whnf) (lt_of_ble rfl)
            apply Wk.pckT rfl (by conv => lhs; whnf) (lt_of_ble rfl)
            apply Wk.mv (by conv => lhs; whnf) (lt_of_ble rfl)
            apply Wk.gon 126 rfl rfl
            apply Wk.fad 6 0 false fd25_6 rfl (lt_of_ble rfl)
            apply Wk.gon 126 rfl rfl
            apply Wk.ld (i := 7) 1 false ty3 rfl rfl (by conv => lhs; whnf) (lt_of_ble rfl)
            apply Wk.gon 126 rfl rfl
            apply Wk.fad 6 0 false fd25_6 rfl (lt_of_ble rfl)
            apply Wk.gon 126 rfl rfl
            apply Wk.ld (i := 4) 1 false ty3 rfl rfl (by conv => lhs; whnf) (lt_of_ble rfl)
            apply Wk.gon 126 rfl rfl
            apply Wk.addi rfl rfl (by dsimp only; omega) (lt_of_ble rfl)
            apply Wk.gon 126 rfl rfl
            apply Wk.bin rfl rfl (r := .bool true) (fun w => by simp [go_sem]) (lt_of_ble rfl)
            apply Wk.pckT rfl (by conv => lhs; whnf) (lt_of_ble rfl)
            apply Wk.mv (by conv => lhs; whnf) (lt_of_ble rfl)
            apply Wk.gon 134 rfl rfl
            apply Wk.fad 3 0 false fd41_3 rfl (lt_of_ble rfl)
            apply Wk.gon 134 rfl rfl
            apply Wk.ld (i := 8) 1 false ty4 rfl rfl (by conv => lhs; whnf) (lt_of_ble rfl)
            apply Wk.pckT rfl (by conv => lhs; whnf) (lt_of_ble rfl)
            apply Wk.mv (by conv => lhs; whnf) (lt_of_ble rfl)
            apply Wk.gon 138 rfl rfl
            apply Wk.fad 2 0 false fd41_2 rfl (lt_of_ble rfl)
            apply Wk.gon 138 rfl rfl
            apply Wk.ld (i := 8) 1 false ty3 rfl rfl (by conv => lhs; whnf) (lt_of_ble rfl)
            apply Wk.gon 138 rfl rfl
            apply Wk.mv (by conv => lhs; whnf) (lt_of_ble rfl)
            apply Wk.gon 138 rfl rfl
            apply Wk.bin rfl rfl (r := .bool true) (fun w => by simp [go_sem]) (lt_of_ble rfl)
            apply Wk.pckT rfl (by conv => lhs; whnf) (lt_of_ble rfl)
            apply Wk.mv (by conv => lhs; whnf) (lt_of_ble rfl)
            apply Wk.gon 144 rfl rfl
            apply Wk.fad 5 0 false fd41_5 rfl (lt_of_ble rfl)
            apply Wk.gon 144 rfl rfl
            apply Wk.ld (i := 8) 1 false ty3 rfl rfl (by conv => lhs; whnf) (lt_of_ble rfl)
            apply Wk.gon 144 rfl rfl
            apply Wk.bin rfl rfl (r := .bool bu) (fun w => by cases bu <;> simp [go_sem, bitZ]) (lt_of_ble rfl)
            apply Wk.gon 144 rfl rfl
            apply Wk.mv (by conv => lhs; whnf) (lt_of_ble rfl)
            apply Wk.gon 144 rfl rfl
            apply Wk.bin rfl rfl (r := .bool true) (fun w => by simp [go_sem]) (lt_of_ble rfl)
            apply Wk.pckT rfl (by conv => lhs; whnf) (lt_of_ble rfl)
            apply Wk.asg (by conv => lhs; whnf) (lt_of_ble rfl)
            refine Wk.nil (AW.ret ?_)
            exact RetQ.ret [] (.cons rfl .nil) ⟨rfl, rfl⟩ none_kept
          · skip
            refine AW.seq ?_
            apply AW.list
            apply Wk.fad 9 0 false fd25_9 rfl (lt_of_ble rfl)
            apply Wk.ld (i := 4) 1 false ty4 rfl rfl (by conv => lhs; whnf) (lt_of_ble rfl)
            apply Wk.un rfl (fun w => by simp [go_sem] <;> rfl) (lt_of_ble rfl)
            apply Wk.mv (by conv => lhs; whnf) (lt_of_ble rfl)
            apply Wk.gon 82 rfl rfl
            apply Wk.fad 2 0 false fd25_2 rfl (lt_of_ble rfl)
            apply Wk.gon 82 rfl rfl
            apply Wk.ld (i := 4) 1 false ty23 rfl rfl (by conv => lhs; whnf) (lt_of_ble rfl)
            apply Wk.gon 82 rfl rfl
            apply Wk.len un23 rfl (lt_of_ble rfl)
            apply Wk.gon 82 rfl rfl
            apply Wk.bin rfl rfl (r := .bool false) (fun w => by rw [e1]; simp [go_sem]) (lt_of_ble rfl)
            apply Wk.gon 82 rfl rfl
            apply Wk.mv (by conv => lhs; whnf) (lt_of_ble rfl)
            apply Wk.gon 87 rfl rfl
            apply Wk.fad 7 0 false fd25_7 rfl (lt_of_ble rfl)
            apply Wk.gon 87 rfl rfl
            apply Wk.ld (i := 4) 1 false ty4 rfl rfl (by conv => lhs; whnf) (lt_of_ble rfl)
            apply Wk.gon 82 rfl rfl
            apply Wk.pckF rfl (by conv => lhs; whnf) (lt_of_ble rfl)
            apply Wk.gon 82 rfl rfl
            apply Wk.mv (by conv => lhs; whnf) (lt_of_ble rfl)
            apply Wk.goff 91 (ok_faddr fd25_5) rfl rfl (by simp)
            apply Wk.goff 91 (ok_load 4 ty4) rfl rfl (by simp)
            apply Wk.gon 82 rfl rfl
            apply Wk.pckT rfl (by conv => lhs; whnf) (lt_of_ble rfl)
            apply Wk.pckT rfl (by conv => lhs; whnf) (lt_of_ble rfl)
            apply Wk.asg (by conv => lhs; whnf) (lt_of_ble rfl)
            refine Wk.nil ?_
            refine AW.seq (AW.seq ?_)
            apply AW.list
            apply Wk.mv (by conv => lhs; whnf) (lt_of_ble rfl)
            apply Wk.un rfl (fun w => by simp [go_sem] <;> rfl) (lt_of_ble rfl)
            refine Wk.nil ?_
            refine AW.cond rfl (fun hc => by cases hc) (fun _ => AW.skip (thenA_normal ?_))
            refine AW.seq (AW.seq ?_)
            apply AW.list
            apply Wk.fad 6 0 false fd25_6 rfl (lt_of_ble rfl)
            apply Wk.ld (i := 4) 1 false ty3 rfl rfl (by conv => lhs; whnf) (lt_of_ble rfl)
            apply Wk.fad 4 0 false fd31_4 rfl (lt_of_ble rfl)
            apply Wk.ld (i := 3) 1 false ty3 rfl rfl (by conv => lhs; whnf) (lt_of_ble rfl)
            apply Wk.bin rfl rfl (r := .bool false) (fun w => by simp [go_sem, ht]) (lt_of_ble rfl)
            refine Wk.nil ?_
            refine AW.cond rfl (fun hc => by cases hc) (fun _ => AW.skip (thenA_normal ?_))
            refine AW.seq ?_
            apply AW.list
            apply Wk.mv (by conv => lhs; whnf) (lt_of_ble rfl)
            apply Wk.mv (by conv => lhs; whnf) (lt_of_ble rfl)
            apply Wk.gon 117 rfl rfl
            apply Wk.ld (i := 3) 5 true ty31 rfl rfl (by conv => lhs; whnf) (lt_of_ble rfl)
            apply Wk.gon 117 rfl rfl
            apply Wk.ld (i := 7) 10 true ty25 rfl rfl (by conv => lhs; whnf) (lt_of_ble rfl)
            apply Wk.gon 117 rfl rfl
            apply Wk.dat (itxb g2) Try.func12 rfl rfl rfl rfl rfl (lt_of_ble rfl)
            apply Wk.pckT rfl (by conv => lhs; whnf) (lt_of_ble rfl)
            apply Wk.mv (by conv => lhs; whnf) (lt_of_ble rfl)
            apply Wk.gon 122 rfl rfl
            apply Wk.fad 5 0 false fd25_5 rfl (lt_of_ble rfl)
            apply Wk.gon 122 rfl rfl
            apply Wk.ld (i := 7) 1 false ty4 rfl rfl (by conv => lhs; whnf) (lt_of_ble rfl)
            apply Wk.pckT rfl (by conv => lhs; whnf) (lt_of_ble rfl)
            apply Wk.mv (by conv => lhs; whnf) (lt_of_ble rfl)
            apply Wk.gon 126 rfl rfl
            apply Wk.fad 6 0 false fd25_6 rfl (lt_of_ble rfl)
            apply Wk.gon 126 rfl rfl
            apply Wk.ld (i := 7) 1 false ty3 rfl rfl (by conv => lhs; whnf) (lt_of_ble rfl)
            apply Wk.gon 126 rfl rfl
            apply Wk.fad 6 0 false fd25_6 rfl (lt_of_ble rfl)
            apply Wk.gon 126 rfl rfl
            apply Wk.ld (i := 4) 1 false ty3 rfl rfl (by conv => lhs; whnf) (lt_of_ble rfl)
            apply Wk.gon 126 rfl rfl
            apply Wk.addi rfl rfl (by dsimp only; omega) (lt_of_ble rfl)
            apply Wk.gon 126 rfl rfl
            apply Wk.bin rfl rfl (r := .bool true) (fun w => by simp [go_sem]) (lt_of_ble rfl)
            apply Wk.pckT rfl (by conv => lhs; whnf) (lt_of_ble rfl)
            apply Wk.mv (by conv => lhs; whnf) (lt_of_ble rfl)
            apply Wk.gon 134 rfl rfl
            apply Wk.fad 3 0 false fd41_3 rfl (lt_of_ble rfl)
            apply Wk.gon 134 rfl rfl
            apply Wk.ld (i := 8) 1 false ty4 rfl rfl (by conv => lhs; whnf) (lt_of_ble rfl)
            apply Wk.pckT rfl (by conv => lhs; whnf) (lt_of_ble rfl)
            apply Wk.mv (by conv => lhs; whnf) (lt_of_ble rfl)
            apply Wk.gon 138 rfl rfl
            apply Wk.fad 2 0 false fd41_2 rfl (lt_of_ble rfl)
            apply Wk.gon 138 rfl rfl
            apply Wk.ld (i := 8) 1 false ty3 rfl rfl (by conv => lhs; whnf) (lt_of_ble rfl)
            apply Wk.gon 138 rfl rfl
            apply Wk.mv (by conv => lhs; whnf) (lt_of_ble rfl)
            apply Wk.gon 138 rfl rfl
            apply Wk.bin rfl rfl (r := .bool true) (fun w => by simp [go_sem]) (lt_of_ble rfl)
            apply Wk.pckT rfl (by conv => lhs; whnf) (lt_of_ble rfl)
            apply Wk.mv (by conv => lhs; whnf) (lt_of_ble rfl)
            apply Wk.gon 144 rfl rfl
            apply Wk.fad 5 0 false fd41_5 rfl (lt_of_ble rfl)
            apply Wk.gon 144 rfl rfl
            apply Wk.ld (i := 8) 1 false ty3 rfl rfl (by conv => lhs; whnf) (lt_of_ble rfl)
            apply Wk.gon 144 rfl rfl
            apply Wk.bin rfl rfl (r := .bool bu) (fun w => by cases bu <;> simp [go_sem, bitZ]) (lt_of_ble rfl)
            apply Wk.gon 144 rfl rfl
            apply Wk.mv (by conv => lhs; whnf) (lt_of_ble rfl)
            apply Wk.gon 144 rfl rfl
            apply Wk.bin rfl rfl (r := .bool true) (fun w => by simp [go_sem]) (lt_of_ble rfl)
            apply Wk.pckT rfl (by conv => lhs; whnf) (lt_of_ble rfl)
            apply Wk.asg (by conv => lhs; whnf) (lt_of_ble rfl)
            refine Wk.nil (AW.ret ?_)
            exact RetQ.ret [] (.cons rfl .nil) ⟨rfl, rfl⟩ none_kept
namespace fnTxTick
set_option maxRecDepth 100000 in
theorem walk (a0 : Option Addr) (len0 cap0 : Nat) (z0 : List Int) (w : World) (w0 : IsRow .u8 w a0 len0 cap0 z0) :
    Calls Try.prog 5 #[.slice a0 len0 cap0] w fun e w' => e = .returned (.bool true) ∧ Below w.heap.size w w' := by
  by_cases hs0 : (1048576 : Int) < (len0 : Int)
  · go_enter Try.func5, Try.ntmps5
    go_wp2
    go_ret
    exact ⟨rfl, Below.refl _ _⟩
  obtain ⟨cz, hR0, _⟩ := w0.rd (by omega)
  obtain ⟨zs, rfl⟩ := byt_fin hR0.1
  exact (lawTxTick_ok zs).run hR0
end fnTxTick
end Go.Proofs.Ytpiihfogdjihdaa
