/- The law of WldNew, promise 48, returns true at every code. Written by tools/mk_WFnWldNew.py. -/
import Derived.Test.YtdjadeegjbhihaaMa
import Derived.Test.YtdjadeegjbhihaaMb
import Derived.Test.YtdjadeegjbhihaaMc
import Derived.Test.YtdjadeegjbhihaaMd
import Derived.Test.YtdjadeegjbhihaaMe
import Derived.Test.YtdjadeegjbhihaaMf
import Derived.RowKit3
namespace Go.Proofs.Ytdjadeegjbhihaa
open Go Go.RowKit
theorem wdNew_ok {m w p u y : Int} (hc : Opt.ok ⟨m, w, p, u, y⟩ = true) : (wdNew m w p u y).okB = true := by
  have hb : (1 ≤ m ∧ m ≤ 2) ∧ (1 ≤ w ∧ w ≤ 4) ∧ (1 ≤ p ∧ p ≤ 8) ∧ (1 ≤ u ∧ u ≤ 24) ∧ (1 ≤ y ∧ y ≤ 5) := by
    simp only [Opt.ok, Bool.and_eq_true, inB_iff] at hc
    omega
  have e0 : EN.okB ⟨m, w, p, u, y⟩ en0 = true := by
    have h1 : txOkB ⟨m, w, p, u, y⟩ en0.tx = true := by
      have q1 : decide ((([] : List Dat).length : Int) ≤ w) = true := decide_eq_true (by simp; omega)
      have q2 : inB 0 0 y = true := (inB_iff _ _ _).2 (by omega)
      show (Opt.ok ⟨m, w, p, u, y⟩ && (inB 0 0 7 && (inB 0 0 7 && (decide ((([] : List Dat).length : Int) ≤ w) && (decide (farF 0 0 = (([] : List Dat).length : Int)) && (inB 0 0 (([] : List Dat).length : Int) && (decide (([] : List Dat).length ≤ 24) && (inB 0 0 y && (inB 0 0 9999 && (decide ((0 : Int) % 8 = 0) && (true && true))))))))))) = true
      rw [hc, q1, q2]
      decide
    have h2 : crdOkB ⟨m, w, p, u, y⟩ en0.cx = true := by
      simp [crdOkB, en0, hc, inB]
    simp only [EN.okB, h1, h2, Bool.true_and]
    rfl
  simp only [WD.okB, wdNew, hc, Bool.true_and]
  simp only [List.all_cons, List.all_nil, e0]
  rfl
def wnPost (_ : List A) (r : A) : Prop := ∃ m w p u y : Int, r = cfgA m w p u y
set_option maxRecDepth 100000 in
theorem drawWldNew_ok (zs : List (Fin 256)) : DataW Try.prog 34 [.d (bytesD (zs.map (·.val)))] (wnPost []) := by
  refine ⟨?_, ⟨_, 0, 0, 0, 0, 0, rfl⟩, ?_⟩
  · refine id ?_
    refine Spec.intro (n := 6) (rv := [.cell 2 29]) Try.func34 rfl rfl rfl (by simp) fun C hN hX => ?_
    refine AW.seq ?_
    apply AW.list
    apply Wk.alc 2 [.int .i64 0, .int .i64 0, .int .i64 0, .int .i64 0, .int .i64 0] ze29 rfl rfl (lt_of_ble rfl)
    refine Wk.nil ?_
    refine AW.seq ?_
    apply AW.list
    apply Wk.mv (by conv => lhs; whnf) (lt_of_ble rfl)
    apply Wk.opn open_ok Try.func69 rfl rfl rfl rfl (lt_of_ble rfl)
    rintro zs1
    apply Wk.drw 0 cfg_ok Try.func68 rfl rfl rfl rfl ⟨4, rfl, by omega, by omega⟩ (by omega) rfl (lt_of_ble rfl)
    rintro r2 zs2 p2 ⟨m, w, s, t, y, rfl, hb, _⟩ hp2
    apply Wk.sto (i := 2) 5 true ty29 rfl rfl rfl rfl (Nat.le_of_ble_eq_true rfl) (lt_of_ble rfl)
    refine Wk.nil (AW.ret ?_)
    exact RetQ.ret [] (.cons ⟨2, 0, _, _, _, rfl, rfl, ty29, rfl⟩ .nil) ⟨⟨m, w, s, t, y, rfl⟩, rfl⟩ none_kept
  · rintro r ⟨m, w, p, u, y, rfl⟩; rfl
set_option maxHeartbeats 8000000 in
set_option maxRecDepth 100000 in
theorem lawWldNew_ok (zs : List (Fin 256)) : DataOk Try.prog 9 [.d (bytesD (zs.map (·.val)))] (.d (.v (.bool true))) := by
  refine Spec.intro (n := 67) (rv := [.tmp 2]) Try.func9 rfl rfl rfl (by simp) fun C hN hX => ?_
  refine AW.seq ?_
  apply AW.list
  apply Wk.asg (by conv => lhs; whnf) (lt_of_ble rfl)
  refine Wk.nil ?_
  refine AW.seq (AW.seq ?_)
  apply AW.list
  apply Wk.mv (by conv => lhs; whnf) (lt_of_ble rfl)
  apply Wk.len un64 rfl (lt_of_ble rfl)
  apply Wk.bin rfl rfl (fun w => by simp [go_sem] <;> rfl) (lt_of_ble rfl)
  refine Wk.nil ?_
  refine AW.cond rfl (fun hc => ?_) (fun hc => ?_)
  · refine AW.seq ?_
    apply AW.list
    apply Wk.asg (by conv => lhs; whnf) (lt_of_ble rfl)
    refine Wk.nil (AW.ret ?_)
    refine thenA_ret ?_
    exact RetQ.ret [] (.cons rfl .nil) ⟨rfl, rfl⟩ none_kept
  refine AW.skip (thenA_normal ?_)
  refine AW.seq ?_
  apply AW.list
  apply Wk.mv (by conv => lhs; whnf) (lt_of_ble rfl)
  apply Wk.datw (drawWldNew_ok zs) Try.func34 rfl rfl rfl rfl (lt_of_ble rfl)
  rintro _ ⟨m, w, p, u, y, rfl⟩
  apply Wk.alc 3 [.int .i64 0, .int .i64 0, .int .i64 0, .int .i64 0, .int .i64 0] ze29 rfl rfl (lt_of_ble rfl)
  apply Wk.sto (i := 3) 5 true ty29 rfl rfl rfl rfl (Nat.le_of_ble_eq_true rfl) (lt_of_ble rfl)
  refine Wk.nil ?_
  cases hc : Opt.ok ⟨m, w, p, u, y⟩
  · skip
    have ki := iwnewNo m w p u y hc
    have ks := swnewNo m w p u y hc
    have kl := liWorldX (wd0) (by simp [wd0]) (by simp [wd0])
    refine AW.seq ?_
    apply AW.list
    apply Wk.ld (i := 3) 5 true ty29 rfl rfl (by conv => lhs; whnf) (lt_of_ble rfl)
    apply Wk.dat ki Try.func31 rfl rfl rfl rfl rfl (lt_of_ble rfl)
    apply Wk.alc 4 [.int .i64 0, .int .i64 0, .int .i64 0, .int .i64 0, .int .i64 0, .slice none 0 0, .slice none 0 0, .int .i64 0] ze57 rfl rfl (lt_of_ble rfl)
    apply Wk.sto (i := 4) 8 true ty57 rfl rfl rfl rfl (Nat.le_of_ble_eq_true rfl) (lt_of_ble rfl)
    refine Wk.nil ?_
    refine AW.seq (AW.seq ?_)
    apply AW.draw (hm := hmix) (cs := _)
    · apply Wk.ld (i := 4) 8 true ty57 rfl rfl (by conv => lhs; whnf) (lt_of_ble rfl)
      apply Wk.ld (i := 3) 5 true ty29 rfl rfl (by conv => lhs; whnf) (lt_of_ble rfl)
      apply Wk.dat ks Try.func30 rfl rfl rfl rfl rfl (lt_of_ble rfl)
      apply Wk.dat kl Try.func35 rfl rfl rfl rfl rfl (lt_of_ble rfl)
      apply Wk.un rfl (fun w => by simp [go_sem] <;> rfl) (lt_of_ble rfl)
      refine Wk.nil ?_
      refine AW.cond rfl (fun hc => by cases hc) (fun _ => AW.skip (thenA_normal ?_))
      refine AW.seq (AW.seq ?_)
      apply AW.list
      apply Wk.ld (i := 3) 5 true ty29 rfl rfl (by conv => lhs; whnf) (lt_of_ble rfl)
      apply Wk.dat (scfgb hc) Try.func36 rfl rfl rfl rfl rfl (lt_of_ble rfl)
      apply Wk.un rfl (fun w => by simp [go_sem] <;> rfl) (lt_of_ble rfl)
      refine Wk.nil ?_
      refine AW.cond rfl (fun _ => ?_) (fun hc => by cases hc)
      refine AW.seq ?_
      apply AW.list
      apply Wk.fad 5 0 false fd57_1 rfl (lt_of_ble rfl)
      apply Wk.ld (i := 4) 1 false ty54 rfl rfl (by conv => lhs; whnf) (lt_of_ble rfl)
      apply Wk.len un54 rfl (lt_of_ble rfl)
      apply Wk.bin rfl rfl (r := .bool true) (fun w => by simp [go_sem, wd0]) (lt_of_ble rfl)
      apply Wk.mv (by conv => lhs; whnf) (lt_of_ble rfl)
      apply Wk.gon 25 rfl rfl
      apply Wk.dat liok_ok Try.func37 rfl rfl rfl rfl rfl (lt_of_ble rfl)
      apply Wk.pckT rfl (by conv => lhs; whnf) (lt_of_ble rfl)
      apply Wk.asg (by conv => lhs; whnf) (lt_of_ble rfl)
      refine Wk.nil (AW.ret ?_)
      repeat (first | refine thenA_ret ?_ | refine inBlockA_ret ?_)
      exact RetQ.ret [] (.cons rfl .nil) ⟨rfl, rfl⟩ none_kept
    · rfl
    · rfl
  · skip
    have ki := iwnewYes m w p u y hc
    have ks := swnewYes m w p u y hc
    have kl := liWorldX (wdNew m w p u y) (by simp [wdNew]) (by simp [wdNew])
    refine AW.seq ?_
    apply AW.list
    apply Wk.ld (i := 3) 5 true ty29 rfl rfl (by conv => lhs; whnf) (lt_of_ble rfl)
    apply Wk.dat ki Try.func31 rfl rfl rfl rfl rfl (lt_of_ble rfl)
    apply Wk.alc 4 [.int .i64 0, .int .i64 0, .int .i64 0, .int .i64 0, .int .i64 0, .slice none 0 0, .slice none 0 0, .int .i64 0] ze57 rfl rfl (lt_of_ble rfl)
    apply Wk.sto (i := 4) 8 true ty57 rfl rfl rfl rfl (Nat.le_of_ble_eq_true rfl) (lt_of_ble rfl)
    refine Wk.nil ?_
    refine AW.seq (AW.seq ?_)
    apply AW.draw (hm := hmix) (cs := _)
    · apply Wk.ld (i := 4) 8 true ty57 rfl rfl (by conv => lhs; whnf) (lt_of_ble rfl)
      apply Wk.ld (i := 3) 5 true ty29 rfl rfl (by conv => lhs; whnf) (lt_of_ble rfl)
      apply Wk.dat ks Try.func30 rfl rfl rfl rfl rfl (lt_of_ble rfl)
      apply Wk.dat kl Try.func35 rfl rfl rfl rfl rfl (lt_of_ble rfl)
      apply Wk.un rfl (fun w => by simp [go_sem] <;> rfl) (lt_of_ble rfl)
      refine Wk.nil ?_
      refine AW.cond rfl (fun hc => by cases hc) (fun _ => AW.skip (thenA_normal ?_))
      refine AW.seq (AW.seq ?_)
      apply AW.list
      apply Wk.ld (i := 3) 5 true ty29 rfl rfl (by conv => lhs; whnf) (lt_of_ble rfl)
      apply Wk.dat (scfgb hc) Try.func36 rfl rfl rfl rfl rfl (lt_of_ble rfl)
      apply Wk.un rfl (fun w => by simp [go_sem] <;> rfl) (lt_of_ble rfl)
      refine Wk.nil ?_
      refine AW.cond rfl (fun hc => by cases hc) (fun _ => AW.skip (thenA_normal ?_))
      refine AW.seq (AW.seq ?_)
      apply AW.list
      apply Wk.asg (by conv => lhs; whnf) (lt_of_ble rfl)
      refine Wk.nil (AW.block ?_)
      refine AW.loop (fun k : Nat => St.of 67 [(3, .ptr 3 0), (4, .ptr 4 0), (5, .d (.v (.int .i64 (k : Int))))] [(3, .var (cfgC m w p u y)), (4, .var ((wdD (wdNew m w p u y)).map A.d))]) (fun k => k ≤ 2) (fun k => 2 - k) 0 (by omega) ?_ ?_
      · exact fun a w => Rel.keep ⟨rfl, .cons rfl rfl (.cons rfl rfl (.cons rfl rfl .nil)), .cons rfl rfl (.cons rfl rfl .nil), hN.mono (by simp [keys])⟩
      rintro k hk
      show AW Try.prog C _ _ (St.of 67 [(3, .ptr 3 0), (4, .ptr 4 0), (5, .d (.v (.int .i64 (k : Int))))] [(3, .var (cfgC m w p u y)), (4, .var ((wdD (wdNew m w p u y)).map A.d))])
      refine AW.seq (AW.seq ?_)
      by_cases hlt : k < 2
      · skip
        apply AW.list
        apply Wk.mv (by conv => lhs; whnf) (lt_of_ble rfl)
        apply Wk.bin rfl rfl (r := .bool true) (fun w => by simp [go_sem]; omega) (lt_of_ble rfl)
        refine Wk.nil ?_
        refine AW.cond rfl (fun _ => AW.skip ?_) (fun hc => by cases hc)
        repeat (first | refine thenA_normal ?_ | refine inBlockA_normal ?_)
        have hget : [enD en0, enD en0][k]? = some (enD en0) := by rcases (show k = 0 ∨ k = 1 by omega) with rfl | rfl <;> rfl
        have nget : [[D.row []], [D.row []]][k]? = some [D.row []] := by rcases (show k = 0 ∨ k = 1 by omega) with rfl | rfl <;> rfl
        have hle := liEndX en0
        refine AW.seq (AW.block (AW.seq ?_))
        apply AW.list
        apply Wk.fad 5 0 false fd57_1 rfl (lt_of_ble rfl)
        apply Wk.ld (i := 4) 1 false ty54 rfl rfl (by conv => lhs; whnf) (lt_of_ble rfl)
        apply Wk.mv (by conv => lhs; whnf) (lt_of_ble rfl)
        apply Wk.iad 28 true un54 ty77 rfl rfl hlt (all_len rfl) (lt_of_ble rfl)
        apply Wk.ldr 28 true ty77 rfl hget (by conv => lhs; whnf) (lt_of_ble rfl)
        apply Wk.bld [.int .i64 0, .int .i64 0, .slice none 0 0, .int .i64 0, .slice none 0 0, .bool false, .int .i64 0, .bool false, .int .i64 0, .bool false, .int .i64 0, .int .i64 0, .int .i64 0, .slice none 0 0, .bool false, .bool false, .bool false, .int .i64 0, .slice none 0 0, .int .i64 0, .int .i64 0, .bool false, .int .i64 0, .int .i64 0, .slice none 0 0, .bool false, .slice none 0 0, .slice none 0 0] [(0, 10), (10, 7), (17, 5), (22, 4), (26, 1), (27, 1)] bl77 rfl (by conv => lhs; whnf) (lt_of_ble rfl)
        apply Wk.dat hle Try.func38 rfl rfl rfl rfl rfl (lt_of_ble rfl)
        apply Wk.un rfl (fun w => by simp [go_sem] <;> rfl) (lt_of_ble rfl)
        apply Wk.mv (by conv => lhs; whnf) (lt_of_ble rfl)
        apply Wk.gon 40 rfl rfl
        apply Wk.fad 6 0 false fd57_2 rfl (lt_of_ble rfl)
        apply Wk.gon 40 rfl rfl
        apply Wk.ld (i := 4) 1 false ty55 rfl rfl (by conv => lhs; whnf) (lt_of_ble rfl)
        apply Wk.gon 40 rfl rfl
        apply Wk.mv (by conv => lhs; whnf) (lt_of_ble rfl)
        apply Wk.gon 40 rfl rfl
        apply Wk.iad 1 false un55 ty78 rfl rfl hlt (all_len rfl) (lt_of_ble rfl)
        apply Wk.gon 40 rfl rfl
        apply Wk.ldr 1 false ty78 rfl nget (by conv => lhs; whnf) (lt_of_ble rfl)
        apply Wk.gon 40 rfl rfl
        apply Wk.len un78 rfl (lt_of_ble rfl)
        apply Wk.gon 40 rfl rfl
        apply Wk.bin rfl rfl (r := .bool false) (fun w => by simp [go_sem]) (lt_of_ble rfl)
        apply Wk.pckF rfl (by conv => lhs; whnf) (lt_of_ble rfl)
        refine Wk.nil ?_
        refine AW.cond rfl (fun hc => by cases hc) (fun _ => AW.skip ?_)
        repeat (first | refine thenA_normal ?_ | refine inBlockA_normal ?_)
        apply AW.list
        apply Wk.mv (by conv => lhs; whnf) (lt_of_ble rfl)
        apply Wk.addn (b := 1) rfl rfl (by omega) (lt_of_ble rfl)
        apply Wk.asg (by conv => lhs; whnf) (lt_of_ble rfl)
        refine Wk.nil ?_
        repeat (first | refine thenA_normal ?_ | refine inBlockA_normal ?_)
        exact ⟨k + 1, by omega, by omega, fun a w => Rel.keep ⟨rfl, .cons rfl rfl (.cons rfl rfl (.cons rfl rfl .nil)), .cons rfl rfl (.cons rfl rfl .nil), hN.mono (by simp [keys])⟩⟩
      · have hk3 : k = 2 := by omega
        subst hk3
        have kok := iwok_ok (wdNew m w p u y)
        rw [wdNew_ok hc] at kok
        have kde := iwdead_ok (wdNew m w p u y)
        apply AW.list
        apply Wk.mv (by conv => lhs; whnf) (lt_of_ble rfl)
        apply Wk.bin rfl rfl (r := .bool false) (fun w => by simp [go_sem]) (lt_of_ble rfl)
        refine Wk.nil ?_
        refine AW.cond rfl (fun hc => by cases hc) (fun _ => AW.exit ?_)
        repeat (first | refine inBlockA_same ?_ | refine thenA_exit ?_)
        repeat (first | refine thenA_normal ?_ | refine inBlockA_normal ?_)
        refine AW.seq ?_
        apply AW.list
        apply Wk.ld (i := 4) 8 true ty57 rfl rfl (by conv => lhs; whnf) (lt_of_ble rfl)
        apply Wk.dat kok Try.func26 rfl rfl rfl rfl rfl (lt_of_ble rfl)
        apply Wk.mv (by conv => lhs; whnf) (lt_of_ble rfl)
        apply Wk.gon 51 rfl rfl
        apply Wk.fad 0 4 true fd57_0 rfl (lt_of_ble rfl)
        apply Wk.gon 51 rfl rfl
        apply Wk.ld (i := 4) 5 true ty29 rfl rfl (by conv => lhs; whnf) (lt_of_ble rfl)
        apply Wk.gon 51 rfl rfl
        apply Wk.ld (i := 3) 5 true ty29 rfl rfl (by conv => lhs; whnf) (lt_of_ble rfl)
        apply Wk.gon 51 rfl rfl
        apply Wk.cfgeq (a := ⟨m, w, p, u, y⟩) (by rfl) (by rfl) (lt_of_ble rfl)
        apply Wk.pckT rfl (by conv => lhs; whnf) (lt_of_ble rfl)
        apply Wk.mv (by conv => lhs; whnf) (lt_of_ble rfl)
        apply Wk.gon 57 rfl rfl
        apply Wk.fad 7 0 false fd57_3 rfl (lt_of_ble rfl)
        apply Wk.gon 57 rfl rfl
        apply Wk.ld (i := 4) 1 false ty3 rfl rfl (by conv => lhs; whnf) (lt_of_ble rfl)
        apply Wk.gon 57 rfl rfl
        apply Wk.bin rfl rfl (r := .bool true) (fun w => by simp [go_sem, wdNew]) (lt_of_ble rfl)
        apply Wk.pckT rfl (by conv => lhs; whnf) (lt_of_ble rfl)
        apply Wk.mv (by conv => lhs; whnf) (lt_of_ble rfl)
        apply Wk.gon 62 rfl rfl
        apply Wk.ld (i := 4) 8 true ty57 rfl rfl (by conv => lhs; whnf) (lt_of_ble rfl)
        apply Wk.gon 62 rfl rfl
        apply Wk.dat kde Try.func29 rfl rfl rfl rfl rfl (lt_of_ble rfl)
        apply Wk.gon 62 rfl rfl
        apply Wk.un rfl (r := .bool true) (fun w => by rfl) (lt_of_ble rfl)
        apply Wk.pckT rfl (by conv => lhs; whnf) (lt_of_ble rfl)
        apply Wk.asg (by conv => lhs; whnf) (lt_of_ble rfl)
        refine Wk.nil (AW.ret ?_)
        repeat (first | refine thenA_ret ?_ | refine inBlockA_ret ?_)
        exact RetQ.ret [] (.cons rfl .nil) ⟨rfl, rfl⟩ none_kept
    · rfl
    · rfl
namespace fnWldNew
set_option maxRecDepth 100000 in
theorem walk (a0 : Option Addr) (len0 cap0 : Nat) (z0 : List Int) (w : World) (w0 : IsRow .u8 w a0 len0 cap0 z0) :
    Calls Try.prog 9 #[.slice a0 len0 cap0] w fun e w' => e = .returned (.bool true) ∧ Below w.heap.size w w' := by
  by_cases hs0 : (1048576 : Int) < (len0 : Int)
  · go_enter Try.func9, Try.ntmps9
    go_wp2
    go_ret
    exact ⟨rfl, Below.refl _ _⟩
  obtain ⟨cz, hR0, _⟩ := w0.rd (by omega)
  obtain ⟨zs, rfl⟩ := byt_fin hR0.1
  exact (lawWldNew_ok zs).run hR0
end fnWldNew
end Go.Proofs.Ytdjadeegjbhihaa
