/- The law of CrdTxOk, promise 43, returns true at every code. -/
import Derived.Test.YtpiihfogdjihdaaMa
import Derived.Test.YtpiihfogdjihdaaMb
import Derived.Test.YtpiihfogdjihdaaMc
import Derived.Test.YtpiihfogdjihdaaMd
import Derived.Test.YtpiihfogdjihdaaMe
import Derived.Test.YtpiihfogdjihdaaMf
import Derived.Test.YtpiihfogdjihdaaMg
import Derived.RowKit3
namespace Go.Proofs.Ytpiihfogdjihdaa
open Go Go.RowKit
def ccxPost (_ : List A) (r : A) : Prop := ∃ (m w p u y : Int) (x : CX), r = .tup [cfgA m w p u y, cxA x] ∧ x.wide
set_option maxRecDepth 100000 in
theorem drawCrdTxOk_ok (zs : List (Fin 256)) : DataW Try.prog 20 [.d (bytesD (zs.map (·.val)))] (ccxPost []) := by
  refine ⟨?_, ⟨_, 0, 0, 0, 0, 0, cx0, rfl, cx0_good.wide⟩, ?_⟩
  · refine id ?_
    refine Spec.intro (n := 14) (rv := [.cell 2 31, .cell 3 47]) Try.func20 rfl rfl rfl (by simp) fun C hN hX => ?_
    refine AW.seq ?_
    apply AW.list
    apply Wk.alc 2 [.int .i64 0, .int .i64 0, .int .i64 0, .int .i64 0, .int .i64 0] ze31 rfl rfl (lt_of_ble rfl)
    apply Wk.alc 3 [.int .i64 0, .slice none 0 0, .int .i64 0, .int .i64 0, .bool false] ze47 rfl rfl (lt_of_ble rfl)
    refine Wk.nil ?_
    refine AW.seq ?_
    apply AW.list
    apply Wk.mv (by conv => lhs; whnf) (lt_of_ble rfl)
    apply Wk.opn open_ok Try.func23 rfl rfl rfl rfl (lt_of_ble rfl)
    rintro zs1
    apply Wk.asg (by conv => lhs; whnf) (lt_of_ble rfl)
    refine Wk.nil ?_
    refine AW.seq ?_
    apply AW.list
    apply Wk.mv (by conv => lhs; whnf) (lt_of_ble rfl)
    apply Wk.drw 0 cfg_ok Try.func25 rfl rfl rfl rfl ⟨12, rfl, by omega, by omega⟩ (by omega) rfl (lt_of_ble rfl)
    rintro r2 zs2 p2 ⟨m, w, s, t, y, rfl, hb, _⟩ hp2
    apply Wk.alc 50 [.int .i64 0, .int .i64 0, .int .i64 0, .int .i64 0, .int .i64 0] ze31 rfl rfl (lt_of_ble rfl)
    apply Wk.sto (i := 50) 5 true ty31 rfl rfl rfl rfl (Nat.le_of_ble_eq_true rfl) (lt_of_ble rfl)
    refine Wk.nil ?_
    refine AW.seq ?_
    apply AW.draw (hm := hmix) (cs := _)
    · apply Wk.ld (i := 50) 5 true ty31 rfl rfl (by conv => lhs; whnf) (lt_of_ble rfl)
      apply Wk.mv (by conv => lhs; whnf) (lt_of_ble rfl)
      apply Wk.ld (i := 50) 5 true ty31 rfl rfl (by conv => lhs; whnf) (lt_of_ble rfl)
      apply Wk.drw 0 l20Ctx_ok Try.func47 rfl rfl rfl rfl ⟨m, w, s, t, y, 2, rfl, hb, by omega, by omega⟩ (by omega) rfl (lt_of_ble rfl)
      rintro r3 zs3 p3 ⟨x, rfl, hx⟩ hp3
      apply Wk.sto (i := 2) 5 true ty31 rfl rfl rfl rfl (Nat.le_of_ble_eq_true rfl) (lt_of_ble rfl)
      apply Wk.sto (i := 3) 5 true ty47 rfl rfl rfl rfl (Nat.le_of_ble_eq_true rfl) (lt_of_ble rfl)
      refine Wk.nil (AW.ret ?_)
      exact RetQ.ret [] (.cons ⟨2, 0, _, _, _, rfl, rfl, ty31, rfl⟩ (.cons ⟨3, 0, _, _, _, rfl, rfl, ty47, rfl⟩ .nil)) ⟨⟨m, w, s, t, y, x, rfl, hx⟩, rfl⟩ none_kept
    · rfl
    · rfl
  · rintro r ⟨m, w, p, u, y, x, rfl, _⟩; rfl
theorem cx_more {o : Opt} {x : CX} (h : crdOkB o x = true) : crdOkB o { x with v := x.v + 1 } = false := by
  have f := crdOk_facts h
  cases hc : crdOkB o { x with v := x.v + 1 } with
  | false => rfl
  | true =>
    have f' := (crdOk_facts hc).2.2.2.2.2.1
    have f2 := f.2.2.2.2.2.1
    simp only at f'
    omega
theorem cx_sent {o : Opt} {x : CX} (h : crdOkB o x = true) (hg : x.g + 1 ≤ 9999) : crdOkB o { x with g := x.g + 1, s := x.s + 1 } = true := by
  simp only [crdOkB, Bool.and_eq_true, decide_eq_true_eq, inB_iff] at h ⊢
  obtain ⟨h1, h2, h3, h4, h5, h6, h7⟩ := h
  exact ⟨h1, h2, h3, by omega, by omega, by omega, h7⟩
theorem cx_sent_no {o : Opt} {x : CX} (hg : ¬ x.g + 1 ≤ 9999) : crdOkB o { x with g := x.g + 1, s := x.s + 1 } = false := by
  cases hc : crdOkB o { x with g := x.g + 1, s := x.s + 1 } with
  | false => rfl
  | true =>
    have f' := (crdOk_facts hc).2.2.2.1
    simp only at f'
    omega
set_option maxHeartbeats 2000000 in
set_option maxRecDepth 100000 in
theorem lawCrdTxOk_ok (zs : List (Fin 256)) : DataOk Try.prog 6 [.d (bytesD (zs.map (·.val)))] (.d (.v (.bool true))) := by
  refine Spec.intro (n := 69) (rv := [.tmp 2]) Try.func6 rfl rfl rfl (by simp) fun C hN hX => ?_
  refine AW.seq ?_
  apply AW.list
  apply Wk.asg (by conv => lhs; whnf) (lt_of_ble rfl)
  refine Wk.nil ?_
  refine AW.seq (AW.seq ?_)
  apply AW.list
  apply Wk.mv (by conv => lhs; whnf) (lt_of_ble rfl)
  apply Wk.len un22 rfl (lt_of_ble rfl)
  apply Wk.bin rfl rfl (fun w => by simp [go_sem] <;> rfl) (lt_of_ble rfl)
  refine Wk.nil ?_
  refine AW.cond rfl (fun hc => ?_) (fun hc => ?_)
  · refine AW.seq ?_
    apply AW.list
    apply Wk.asg (by conv => lhs; whnf) (lt_of_ble rfl)
    refine Wk.nil (AW.ret ?_)
    refine thenA_ret ?_
    exact RetQ.ret [] (.cons rfl .nil) ⟨rfl, rfl⟩ none_kept
  refine AW.skip (thenA_normal ?_)
  refine AW.seq ?_
  apply AW.list
  apply Wk.mv (by conv => lhs; whnf) (lt_of_ble rfl)
  apply Wk.datw (drawCrdTxOk_ok zs) Try.func20 rfl rfl rfl rfl (lt_of_ble rfl)
  rintro _ ⟨m, w, p, u, y, x, rfl, hx⟩
  apply Wk.mv (by conv => lhs; whnf) (lt_of_ble rfl)
  apply Wk.ext rfl rfl (lt_of_ble rfl)
  apply Wk.ext rfl rfl (lt_of_ble rfl)
  apply Wk.alc 3 [.int .i64 0, .int .i64 0, .int .i64 0, .int .i64 0, .int .i64 0] ze31 rfl rfl (lt_of_ble rfl)
  apply Wk.alc 4 [.int .i64 0, .slice none 0 0, .int .i64 0, .int .i64 0, .bool false] ze47 rfl rfl (lt_of_ble rfl)
  apply Wk.sto (i := 3) 5 true ty31 rfl rfl rfl rfl (Nat.le_of_ble_eq_true rfl) (lt_of_ble rfl)
  apply Wk.sto (i := 4) 5 true ty47 rfl rfl rfl rfl (Nat.le_of_ble_eq_true rfl) (lt_of_ble rfl)
  refine Wk.nil ?_
  cases hok : crdOkB ⟨m, w, p, u, y⟩ x
  · refine AW.seq ?_
    apply AW.list
    apply Wk.ld (i := 3) 5 true ty31 rfl rfl (by conv => lhs; whnf) (lt_of_ble rfl)
    apply Wk.ld (i := 4) 5 true ty47 rfl rfl (by conv => lhs; whnf) (lt_of_ble rfl)
    apply Wk.dat (icxb hok) Try.func21 rfl rfl rfl rfl rfl (lt_of_ble rfl)
    apply Wk.asg (by conv => lhs; whnf) (lt_of_ble rfl)
    refine Wk.nil ?_
    refine AW.seq (AW.seq ?_)
    apply AW.list
    apply Wk.mv (by conv => lhs; whnf) (lt_of_ble rfl)
    apply Wk.ld (i := 3) 5 true ty31 rfl rfl (by conv => lhs; whnf) (lt_of_ble rfl)
    apply Wk.ld (i := 4) 5 true ty47 rfl rfl (by conv => lhs; whnf) (lt_of_ble rfl)
    apply Wk.dat (scxb hok) Try.func22 rfl rfl rfl rfl rfl (lt_of_ble rfl)
    apply Wk.bin rfl rfl (r := .bool false) (fun w => by simp [go_sem]) (lt_of_ble rfl)
    refine Wk.nil ?_
    refine AW.cond rfl (fun hc => by cases hc) (fun _ => AW.skip (thenA_normal ?_))
    refine AW.seq (AW.seq ?_)
    apply AW.list
    apply Wk.mv (by conv => lhs; whnf) (lt_of_ble rfl)
    apply Wk.un rfl (fun w => by simp [go_sem] <;> rfl) (lt_of_ble rfl)
    refine Wk.nil ?_
    refine AW.cond rfl (fun _ => ?_) (fun hc => by cases hc)
    refine AW.seq ?_
    apply AW.list
    apply Wk.dat liok_ok Try.func10 rfl rfl rfl rfl rfl (lt_of_ble rfl)
    apply Wk.asg (by conv => lhs; whnf) (lt_of_ble rfl)
    refine Wk.nil (AW.ret ?_)
    refine thenA_ret ?_
    exact RetQ.ret [] (.cons rfl .nil) ⟨rfl, rfl⟩ none_kept
  · have g1 := cx_more hok
    have f := crdOk_facts hok
    have hv := f.2.1
    have hg := f.2.2.2.1
    have hs := f.2.2.2.2.1
    have he := f.2.2.2.2.2.1
    refine AW.seq ?_
    apply AW.list
    apply Wk.ld (i := 3) 5 true ty31 rfl rfl (by conv => lhs; whnf) (lt_of_ble rfl)
    apply Wk.ld (i := 4) 5 true ty47 rfl rfl (by conv => lhs; whnf) (lt_of_ble rfl)
    apply Wk.dat (icxb hok) Try.func21 rfl rfl rfl rfl rfl (lt_of_ble rfl)
    apply Wk.asg (by conv => lhs; whnf) (lt_of_ble rfl)
    refine Wk.nil ?_
    refine AW.seq (AW.seq ?_)
    apply AW.list
    apply Wk.mv (by conv => lhs; whnf) (lt_of_ble rfl)
    apply Wk.ld (i := 3) 5 true ty31 rfl rfl (by conv => lhs; whnf) (lt_of_ble rfl)
    apply Wk.ld (i := 4) 5 true ty47 rfl rfl (by conv => lhs; whnf) (lt_of_ble rfl)
    apply Wk.dat (scxb hok) Try.func22 rfl rfl rfl rfl rfl (lt_of_ble rfl)
    apply Wk.bin rfl rfl (r := .bool false) (fun w => by simp [go_sem]) (lt_of_ble rfl)
    refine Wk.nil ?_
    refine AW.cond rfl (fun hc => by cases hc) (fun _ => AW.skip (thenA_normal ?_))
    refine AW.seq (AW.seq ?_)
    apply AW.list
    apply Wk.mv (by conv => lhs; whnf) (lt_of_ble rfl)
    apply Wk.un rfl (fun w => by simp [go_sem] <;> rfl) (lt_of_ble rfl)
    refine Wk.nil ?_
    refine AW.cond rfl (fun hc => by cases hc) (fun _ => AW.skip (thenA_normal ?_))
    refine AW.seq ?_
    apply AW.list
    apply Wk.ld (i := 4) 5 true ty47 rfl rfl (by conv => lhs; whnf) (lt_of_ble rfl)
    apply Wk.alc 6 [.int .i64 0, .slice none 0 0, .int .i64 0, .int .i64 0, .bool false] ze47 rfl rfl (lt_of_ble rfl)
    apply Wk.sto (i := 6) 5 true ty47 rfl rfl rfl rfl (Nat.le_of_ble_eq_true rfl) (lt_of_ble rfl)
    refine Wk.nil ?_
    refine AW.seq ?_
    apply AW.list
    apply Wk.fad 0 0 false fd47_0 rfl (lt_of_ble rfl)
    apply Wk.ld (i := 4) 1 false ty3 rfl rfl (by conv => lhs; whnf) (lt_of_ble rfl)
    apply Wk.addi rfl rfl (by omega) (lt_of_ble rfl)
    apply Wk.fad 0 0 false fd47_0 rfl (lt_of_ble rfl)
    apply Wk.sto (i := 6) 1 false ty3 rfl rfl rfl rfl (Nat.le_of_ble_eq_true rfl) (lt_of_ble rfl)
    refine Wk.nil ?_
    refine AW.seq ?_
    apply AW.list
    apply Wk.ld (i := 4) 5 true ty47 rfl rfl (by conv => lhs; whnf) (lt_of_ble rfl)
    apply Wk.alc 7 [.int .i64 0, .slice none 0 0, .int .i64 0, .int .i64 0, .bool false] ze47 rfl rfl (lt_of_ble rfl)
    apply Wk.sto (i := 7) 5 true ty47 rfl rfl rfl rfl (Nat.le_of_ble_eq_true rfl) (lt_of_ble rfl)
    refine Wk.nil ?_
    refine AW.seq ?_
    apply AW.list
    apply Wk.fad 2 0 false fd47_2 rfl (lt_of_ble rfl)
    apply Wk.ld (i := 4) 1 false ty3 rfl rfl (by conv => lhs; whnf) (lt_of_ble rfl)
    apply Wk.addi rfl rfl (by omega) (lt_of_ble rfl)
    apply Wk.fad 2 0 false fd47_2 rfl (lt_of_ble rfl)
    apply Wk.sto (i := 7) 1 false ty3 rfl rfl rfl rfl (Nat.le_of_ble_eq_true rfl) (lt_of_ble rfl)
    refine Wk.nil ?_
    refine AW.seq ?_
    apply AW.list
    apply Wk.fad 3 0 false fd47_3 rfl (lt_of_ble rfl)
    apply Wk.ld (i := 4) 1 false ty3 rfl rfl (by conv => lhs; whnf) (lt_of_ble rfl)
    apply Wk.addi rfl rfl (by omega) (lt_of_ble rfl)
    apply Wk.fad 3 0 false fd47_3 rfl (lt_of_ble rfl)
    apply Wk.sto (i := 7) 1 false ty3 rfl rfl rfl rfl (Nat.le_of_ble_eq_true rfl) (lt_of_ble rfl)
    refine Wk.nil ?_
    refine AW.seq ?_
    by_cases hb : x.g + 1 ≤ 9999
    · have g2 := cx_sent hok hb
      apply AW.draw (hm := hmix) (cs := _)
      · apply Wk.ld (i := 3) 5 true ty31 rfl rfl (by conv => lhs; whnf) (lt_of_ble rfl)
        apply Wk.ld (i := 6) 5 true ty47 rfl rfl (by conv => lhs; whnf) (lt_of_ble rfl)
        apply Wk.dat (icxb g1) Try.func21 rfl rfl rfl rfl rfl (lt_of_ble rfl)
        apply Wk.un rfl (fun w => by simp [go_sem] <;> rfl) (lt_of_ble rfl)
        apply Wk.mv (by conv => lhs; whnf) (lt_of_ble rfl)
        apply Wk.gon 45 rfl rfl
        apply Wk.fad 0 0 false fd47_0 rfl (lt_of_ble rfl)
        apply Wk.gon 45 rfl rfl
        apply Wk.ld (i := 4) 1 false ty3 rfl rfl (by conv => lhs; whnf) (lt_of_ble rfl)
        apply Wk.gon 45 rfl rfl
        apply Wk.fad 2 0 false fd47_2 rfl (lt_of_ble rfl)
        apply Wk.gon 45 rfl rfl
        apply Wk.ld (i := 4) 1 false ty3 rfl rfl (by conv => lhs; whnf) (lt_of_ble rfl)
        apply Wk.gon 45 rfl rfl
        apply Wk.fad 3 0 false fd47_3 rfl (lt_of_ble rfl)
        apply Wk.gon 45 rfl rfl
        apply Wk.ld (i := 4) 1 false ty3 rfl rfl (by conv => lhs; whnf) (lt_of_ble rfl)
        apply Wk.gon 45 rfl rfl
        apply Wk.subi rfl rfl (by omega) (lt_of_ble rfl)
        apply Wk.gon 45 rfl rfl
        apply Wk.bin rfl rfl (r := .bool true) (fun w => by simp [go_sem]; omega) (lt_of_ble rfl)
        apply Wk.pckT rfl (by conv => lhs; whnf) (lt_of_ble rfl)
        apply Wk.mv (by conv => lhs; whnf) (lt_of_ble rfl)
        apply Wk.gon 55 rfl rfl
        apply Wk.ld (i := 3) 5 true ty31 rfl rfl (by conv => lhs; whnf) (lt_of_ble rfl)
        apply Wk.gon 55 rfl rfl
        apply Wk.ld (i := 7) 5 true ty47 rfl rfl (by conv => lhs; whnf) (lt_of_ble rfl)
        apply Wk.gon 55 rfl rfl
        apply Wk.dat (icxb g2) Try.func21 rfl rfl rfl rfl rfl (lt_of_ble rfl)
        apply Wk.gon 55 rfl rfl
        apply Wk.fad 2 0 false fd47_2 rfl (lt_of_ble rfl)
        apply Wk.gon 55 rfl rfl
        apply Wk.ld (i := 7) 1 false ty3 rfl rfl (by conv => lhs; whnf) (lt_of_ble rfl)
        apply Wk.gon 55 rfl rfl
        apply Wk.bin rfl rfl (r := .bool true) (fun w => by simp [go_sem] <;> omega) (lt_of_ble rfl)
        apply Wk.gon 55 rfl rfl
        apply Wk.mv (by conv => lhs; whnf) (lt_of_ble rfl)
        apply Wk.gon 62 rfl rfl
        apply Wk.fad 3 0 false fd47_3 rfl (lt_of_ble rfl)
        apply Wk.gon 62 rfl rfl
        apply Wk.ld (i := 7) 1 false ty3 rfl rfl (by conv => lhs; whnf) (lt_of_ble rfl)
        apply Wk.gon 62 rfl rfl
        apply Wk.bin rfl rfl (r := .bool true) (fun w => by simp [go_sem] <;> omega) (lt_of_ble rfl)
        apply Wk.gon 55 rfl rfl
        apply Wk.pckT rfl (by conv => lhs; whnf) (lt_of_ble rfl)
        apply Wk.gon 55 rfl rfl
        apply Wk.bin rfl rfl (r := .bool true) (fun w => by simp [go_sem]) (lt_of_ble rfl)
        apply Wk.pckT rfl (by conv => lhs; whnf) (lt_of_ble rfl)
        apply Wk.asg (by conv => lhs; whnf) (lt_of_ble rfl)
        refine Wk.nil (AW.ret ?_)
        exact RetQ.ret [] (.cons rfl .nil) ⟨rfl, rfl⟩ none_kept
      · rfl
      · rfl
    · have g2 := cx_sent_no (o := ⟨m, w, p, u, y⟩) hb
      apply AW.draw (hm := hmix) (cs := _)
      · apply Wk.ld (i := 3) 5 true ty31 rfl rfl (by conv => lhs; whnf) (lt_of_ble rfl)
        apply Wk.ld (i := 6) 5 true ty47 rfl rfl (by conv => lhs; whnf) (lt_of_ble rfl)
        apply Wk.dat (icxb g1) Try.func21 rfl rfl rfl rfl rfl (lt_of_ble rfl)
        apply Wk.un rfl (fun w => by simp [go_sem] <;> rfl) (lt_of_ble rfl)
        apply Wk.mv (by conv => lhs; whnf) (lt_of_ble rfl)
        apply Wk.gon 45 rfl rfl
        apply Wk.fad 0 0 false fd47_0 rfl (lt_of_ble rfl)
        apply Wk.gon 45 rfl rfl
        apply Wk.ld (i := 4) 1 false ty3 rfl rfl (by conv => lhs; whnf) (lt_of_ble rfl)
        apply Wk.gon 45 rfl rfl
        apply Wk.fad 2 0 false fd47_2 rfl (lt_of_ble rfl)
        apply Wk.gon 45 rfl rfl
        apply Wk.ld (i := 4) 1 false ty3 rfl rfl (by conv => lhs; whnf) (lt_of_ble rfl)
        apply Wk.gon 45 rfl rfl
        apply Wk.fad 3 0 false fd47_3 rfl (lt_of_ble rfl)
        apply Wk.gon 45 rfl rfl
        apply Wk.ld (i := 4) 1 false ty3 rfl rfl (by conv => lhs; whnf) (lt_of_ble rfl)
        apply Wk.gon 45 rfl rfl
        apply Wk.subi rfl rfl (by omega) (lt_of_ble rfl)
        apply Wk.gon 45 rfl rfl
        apply Wk.bin rfl rfl (r := .bool true) (fun w => by simp [go_sem]; omega) (lt_of_ble rfl)
        apply Wk.pckT rfl (by conv => lhs; whnf) (lt_of_ble rfl)
        apply Wk.mv (by conv => lhs; whnf) (lt_of_ble rfl)
        apply Wk.gon 55 rfl rfl
        apply Wk.ld (i := 3) 5 true ty31 rfl rfl (by conv => lhs; whnf) (lt_of_ble rfl)
        apply Wk.gon 55 rfl rfl
        apply Wk.ld (i := 7) 5 true ty47 rfl rfl (by conv => lhs; whnf) (lt_of_ble rfl)
        apply Wk.gon 55 rfl rfl
        apply Wk.dat (icxb g2) Try.func21 rfl rfl rfl rfl rfl (lt_of_ble rfl)
        apply Wk.gon 55 rfl rfl
        apply Wk.fad 2 0 false fd47_2 rfl (lt_of_ble rfl)
        apply Wk.gon 55 rfl rfl
        apply Wk.ld (i := 7) 1 false ty3 rfl rfl (by conv => lhs; whnf) (lt_of_ble rfl)
        apply Wk.gon 55 rfl rfl
        apply Wk.bin rfl rfl (r := .bool false) (fun w => by simp [go_sem] <;> omega) (lt_of_ble rfl)
        apply Wk.gon 55 rfl rfl
        apply Wk.mv (by conv => lhs; whnf) (lt_of_ble rfl)
        apply Wk.goff 62 (ok_faddr fd47_3) rfl rfl (by simp)
        apply Wk.goff 62 (ok_load 7 ty3) rfl rfl (by simp)
        apply Wk.goff 62 (ok_bin _ _ _ _ _) rfl rfl (by simp)
        apply Wk.gon 55 rfl rfl
        apply Wk.pckF rfl (by conv => lhs; whnf) (lt_of_ble rfl)
        apply Wk.gon 55 rfl rfl
        apply Wk.bin rfl rfl (r := .bool true) (fun w => by simp [go_sem]) (lt_of_ble rfl)
        apply Wk.pckT rfl (by conv => lhs; whnf) (lt_of_ble rfl)
        apply Wk.asg (by conv => lhs; whnf) (lt_of_ble rfl)
        refine Wk.nil (AW.ret ?_)
        exact RetQ.ret [] (.cons rfl .nil) ⟨rfl, rfl⟩ none_kept
      · rfl
      · rfl
namespace fnCrdTxOk
set_option maxRecDepth 100000 in
theorem walk (a0 : Option Addr) (len0 cap0 : Nat) (z0 : List Int) (w : World) (w0 : IsRow .u8 w a0 len0 cap0 z0) :
    Calls Try.prog 6 #[.slice a0 len0 cap0] w fun e w' => e = .returned (.bool true) ∧ Below w.heap.size w w' := by
  by_cases hs0 : (1048576 : Int) < (len0 : Int)
  · go_enter Try.func6, Try.ntmps6
    go_wp2
    go_ret
    exact ⟨rfl, Below.refl _ _⟩
  obtain ⟨cz, hR0, _⟩ := w0.rd (by omega)
  obtain ⟨zs, rfl⟩ := byt_fin hR0.1
  exact (lawCrdTxOk_ok zs).run hR0
end fnCrdTxOk
end Go.Proofs.Ytpiihfogdjihdaa
