/- Laws and contracts that the proof stands on: AbsCrdS, AbsWd, AbsIdx, AbsArr, AbsCopyI, AbsWldDead, AbsJoin, AbsRx, AbsFrm, AbsRun, AbsCrxOk. -/
import Derived.Test.YtdjadeegjbhihaaMa
import Derived.Test.YtdjadeegjbhihaaMb
import Derived.Test.YtdjadeegjbhihaaMc
import Derived.Test.YtdjadeegjbhihaaMd
import Derived.RowKit3
import Derived.Laws.MakeOwn
/- Who sends for credits, over what values read as. Written by tools/mk_AbsCrdS.py. -/
namespace Go.Proofs.Ytdjadeegjbhihaa
open Go Go.RowKit
/-- Who sends for credits, as plain data. -/
structure CX where
  v : Int
  qu : List Dat
  g : Int
  s : Int
  d : Bool
def cxC (x : CX) : List A := [.d (.v (.int .i64 x.v)), .d (partsD x.qu), .d (.v (.int .i64 x.g)), .d (.v (.int .i64 x.s)), .d (.v (.bool x.d))]
def cxA (x : CX) : A := .agg [.d (.v (.int .i64 x.v)), .d (partsD x.qu), .d (.v (.int .i64 x.g)), .d (.v (.int .i64 x.s)), .d (.v (.bool x.d))]
def cxOC (x : CX) (l : Nat) : List A := [.d (.v (.int .i64 x.v)), .own 66 l, .d (.v (.int .i64 x.g)), .d (.v (.int .i64 x.s)), .d (.v (.bool x.d))]
def cxO (x : CX) (l : Nat) : A := .agg [.d (.v (.int .i64 x.v)), .own 66 l, .d (.v (.int .i64 x.g)), .d (.v (.int .i64 x.s)), .d (.v (.bool x.d))]
def cxB (qu : List Dat) (l : Nat) : List (Nat × Bx) := [(66, .own l 115 3 (piecesA qu))]
def cxN : List A := [.d (.v (.int .i64 0)), .d (.v (.slice none 0 0)), .d (.v (.int .i64 0)), .d (.v (.int .i64 0)), .d (.v (.bool false))]
def cxNil : A := .agg [.d (.v (.int .i64 0)), .d (.v (.slice none 0 0)), .d (.v (.int .i64 0)), .d (.v (.int .i64 0)), .d (.v (.bool false))]
def CX.few (x : CX) : Prop := x.qu.length ≤ 1000 ∧ ∀ d ∈ x.qu, d.2.2.length ≤ 1000
theorem in_cxB {qu : List Dat} {l q : Nat} {z : Bx} (h : (cxB qu l).lookup q = some z) : q ∈ [66] ∧ z.within [66] = true := by
  obtain ⟨rfl, rfl⟩ := lookup1 h
  exact ⟨by simp, by simp [Bx.within, within_parts]⟩
theorem in_cxO (x : CX) (l : Nat) : (cxO x l).within [66] = true := by simp [cxO, A.within, A.withins]
theorem in_cx (x : CX) (l : Nat) : PostIn [66] (fun r bs => r = cxO x l ∧ bs = cxB x.qu l) := by
  rintro r bs ⟨rfl, rfl⟩
  exact ⟨in_cxO x l, fun i z h => in_cxB h⟩
/-- Who sends for credits is ok. -/
def crdOkB (o : Opt) (x : CX) : Bool := o.ok && (inB x.v 0 255 && (decide (x.qu.length ≤ 24) && (inB x.g 0 9999 && (inB x.s 0 9999 && (decide (x.g - x.s = x.v) && x.qu.all (partM o.mps))))))
theorem crdOk_facts {o : Opt} {x : CX} (h : crdOkB o x = true) : o.ok = true ∧ (0 ≤ x.v ∧ x.v ≤ 255) ∧ x.qu.length ≤ 24 ∧ (0 ≤ x.g ∧ x.g ≤ 9999) ∧ (0 ≤ x.s ∧ x.s ≤ 9999) ∧ x.g - x.s = x.v ∧ ∀ d ∈ x.qu, partM o.mps d = true := by
  simp only [crdOkB, Bool.and_eq_true, decide_eq_true_eq, List.all_eq_true] at h
  obtain ⟨h1, h2, h3, h4, h5, h6, h7⟩ := h
  exact ⟨h1, (inB_iff _ _ _).1 h2, h3, (inB_iff _ _ _).1 h4, (inB_iff _ _ _).1 h5, h6, h7⟩
set_option maxHeartbeats 4000000 in
set_option maxRecDepth 100000 in
theorem scx_ok (m0 w0 p0 u0 y0 : Int) (x : CX) : DataOk Try.prog 19 [cfgA m0 w0 p0 u0 y0, cxA x] (.d (.v (.bool (crdOkB ⟨m0, w0, p0, u0, y0⟩ x)))) := by
  obtain ⟨v, qu, g, s, d⟩ := x
  have e2 : (((qu.map datD).length : Nat) : Int) = (qu.length : Int) := by rw [List.length_map]
  simp only [crdOkB]
  refine Spec.intro (n := 45) (rv := [.tmp 4]) Try.func19 rfl rfl rfl (by simp) fun C hN hX => ?_
  refine AW.seq ?_
  apply AW.list
  apply Wk.bx 2 rfl rfl (lt_of_ble rfl)
  apply Wk.bx 3 rfl rfl (lt_of_ble rfl)
  apply Wk.asg (by conv => lhs; whnf) (lt_of_ble rfl)
  refine Wk.nil ?_
  refine AW.seq ?_
  cases k0 : Opt.ok ⟨m0, w0, p0, u0, y0⟩
  · rw [Bool.false_and]
    apply AW.list
    apply Wk.ld (i := 2) 5 true ty29 rfl rfl (by conv => lhs; whnf) (lt_of_ble rfl)
    apply Wk.dat (scfgb k0) Try.func36 rfl rfl rfl rfl rfl (lt_of_ble rfl)
    apply Wk.mv (by conv => lhs; whnf) (lt_of_ble rfl)
    apply Wk.goff 7 (ok_faddr fd44_0) rfl rfl (by simp)
    apply Wk.goff 7 (ok_load 3 ty3) rfl rfl (by simp)
    apply Wk.goff 7 (ok_datw ((sinb (n := 0) (lo := 0) (hi := 255) rfl).w rfl) Try.func40 rfl rfl) rfl rfl (by simp)
    apply Wk.pckF rfl (by conv => lhs; whnf) (lt_of_ble rfl)
    apply Wk.mv (by conv => lhs; whnf) (lt_of_ble rfl)
    apply Wk.goff 12 (ok_faddr fd44_1) rfl rfl (by simp)
    apply Wk.goff 12 (ok_load 3 ty31) rfl rfl (by simp)
    apply Wk.goff 12 (ok_len un31) rfl rfl (by simp)
    apply Wk.goff 12 (ok_bin _ _ _ _ _) rfl rfl (by simp)
    apply Wk.pckF rfl (by conv => lhs; whnf) (lt_of_ble rfl)
    apply Wk.mv (by conv => lhs; whnf) (lt_of_ble rfl)
    apply Wk.goff 18 (ok_faddr fd44_2) rfl rfl (by simp)
    apply Wk.goff 18 (ok_load 3 ty3) rfl rfl (by simp)
    apply Wk.goff 18 (ok_datw ((sinb (n := 0) (lo := 0) (hi := 9999) rfl).w rfl) Try.func40 rfl rfl) rfl rfl (by simp)
    apply Wk.pckF rfl (by conv => lhs; whnf) (lt_of_ble rfl)
    apply Wk.mv (by conv => lhs; whnf) (lt_of_ble rfl)
    apply Wk.goff 23 (ok_faddr fd44_3) rfl rfl (by simp)
    apply Wk.goff 23 (ok_load 3 ty3) rfl rfl (by simp)
    apply Wk.goff 23 (ok_datw ((sinb (n := 0) (lo := 0) (hi := 9999) rfl).w rfl) Try.func40 rfl rfl) rfl rfl (by simp)
    apply Wk.pckF rfl (by conv => lhs; whnf) (lt_of_ble rfl)
    apply Wk.mv (by conv => lhs; whnf) (lt_of_ble rfl)
    apply Wk.goff 28 (ok_faddr fd44_2) rfl rfl (by simp)
    apply Wk.goff 28 (ok_load 3 ty3) rfl rfl (by simp)
    apply Wk.goff 28 (ok_faddr fd44_3) rfl rfl (by simp)
    apply Wk.goff 28 (ok_load 3 ty3) rfl rfl (by simp)
    apply Wk.goff 28 (ok_bin _ _ _ _ _) rfl rfl (by simp)
    apply Wk.goff 28 (ok_faddr fd44_0) rfl rfl (by simp)
    apply Wk.goff 28 (ok_load 3 ty3) rfl rfl (by simp)
    apply Wk.goff 28 (ok_bin _ _ _ _ _) rfl rfl (by simp)
    apply Wk.pckF rfl (by conv => lhs; whnf) (lt_of_ble rfl)
    apply Wk.mv (by conv => lhs; whnf) (lt_of_ble rfl)
    apply Wk.goff 38 (ok_faddr fd44_1) rfl rfl (by simp)
    apply Wk.goff 38 (ok_load 3 ty31) rfl rfl (by simp)
    apply Wk.goff 38 (ok_faddr fd29_2) rfl rfl (by simp)
    apply Wk.goff 38 (ok_load 2 ty3) rfl rfl (by simp)
    apply Wk.goff 38 (ok_datw ((spartsb [] 0 rfl).w rfl) Try.func43 rfl rfl) rfl rfl (by simp)
    apply Wk.pckF rfl (by conv => lhs; whnf) (lt_of_ble rfl)
    apply Wk.asg (by conv => lhs; whnf) (lt_of_ble rfl)
    refine Wk.nil (AW.ret ?_)
    exact RetQ.ret [] (.cons rfl .nil) ⟨rfl, rfl⟩ none_kept
  · rw [Bool.true_and]
    cases k1 : inB v 0 255
    · rw [Bool.false_and]
      apply AW.list
      apply Wk.ld (i := 2) 5 true ty29 rfl rfl (by conv => lhs; whnf) (lt_of_ble rfl)
      apply Wk.dat (scfgb k0) Try.func36 rfl rfl rfl rfl rfl (lt_of_ble rfl)
      apply Wk.mv (by conv => lhs; whnf) (lt_of_ble rfl)
      apply Wk.gon 7 rfl rfl
      apply Wk.fad 0 0 false fd44_0 rfl (lt_of_ble rfl)
      apply Wk.gon 7 rfl rfl
      apply Wk.ld (i := 3) 1 false ty3 rfl rfl (by conv => lhs; whnf) (lt_of_ble rfl)
      apply Wk.gon 7 rfl rfl
      apply Wk.dat (sinb k1) Try.func40 rfl rfl rfl rfl rfl (lt_of_ble rfl)
      apply Wk.pckT rfl (by conv => lhs; whnf) (lt_of_ble rfl)
      apply Wk.mv (by conv => lhs; whnf) (lt_of_ble rfl)
      apply Wk.goff 12 (ok_faddr fd44_1) rfl rfl (by simp)
      apply Wk.goff 12 (ok_load 3 ty31) rfl rfl (by simp)
      apply Wk.goff 12 (ok_len un31) rfl rfl (by simp)
      apply Wk.goff 12 (ok_bin _ _ _ _ _) rfl rfl (by simp)
      apply Wk.pckF rfl (by conv => lhs; whnf) (lt_of_ble rfl)
      apply Wk.mv (by conv => lhs; whnf) (lt_of_ble rfl)
      apply Wk.goff 18 (ok_faddr fd44_2) rfl rfl (by simp)
      apply Wk.goff 18 (ok_load 3 ty3) rfl rfl (by simp)
      apply Wk.goff 18 (ok_datw ((sinb (n := 0) (lo := 0) (hi := 9999) rfl).w rfl) Try.func40 rfl rfl) rfl rfl (by simp)
      apply Wk.pckF rfl (by conv => lhs; whnf) (lt_of_ble rfl)
      apply Wk.mv (by conv => lhs; whnf) (lt_of_ble rfl)
      apply Wk.goff 23 (ok_faddr fd44_3) rfl rfl (by simp)
      apply Wk.goff 23 (ok_load 3 ty3) rfl rfl (by simp)
      apply Wk.goff 23 (ok_datw ((sinb (n := 0) (lo := 0) (hi := 9999) rfl).w rfl) Try.func40 rfl rfl) rfl rfl (by simp)
      apply Wk.pckF rfl (by conv => lhs; whnf) (lt_of_ble rfl)
      apply Wk.mv (by conv => lhs; whnf) (lt_of_ble rfl)
      apply Wk.goff 28 (ok_faddr fd44_2) rfl rfl (by simp)
      apply Wk.goff 28 (ok_load 3 ty3) rfl rfl (by simp)
      apply Wk.goff 28 (ok_faddr fd44_3) rfl rfl (by simp)
      apply Wk.goff 28 (ok_load 3 ty3) rfl rfl (by simp)
      apply Wk.goff 28 (ok_bin _ _ _ _ _) rfl rfl (by simp)
      apply Wk.goff 28 (ok_faddr fd44_0) rfl rfl (by simp)
      apply Wk.goff 28 (ok_load 3 ty3) rfl rfl (by simp)
      apply Wk.goff 28 (ok_bin _ _ _ _ _) rfl rfl (by simp)
      apply Wk.pckF rfl (by conv => lhs; whnf) (lt_of_ble rfl)
      apply Wk.mv (by conv => lhs; whnf) (lt_of_ble rfl)
      apply Wk.goff 38 (ok_faddr fd44_1) rfl rfl (by simp)
      apply Wk.goff 38 (ok_load 3 ty31) rfl rfl (by simp)
      apply Wk.goff 38 (ok_faddr fd29_2) rfl rfl (by simp)
      apply Wk.goff 38 (ok_load 2 ty3) rfl rfl (by simp)
      apply Wk.goff 38 (ok_datw ((spartsb [] 0 rfl).w rfl) Try.func43 rfl rfl) rfl rfl (by simp)
      apply Wk.pckF rfl (by conv => lhs; whnf) (lt_of_ble rfl)
      apply Wk.asg (by conv => lhs; whnf) (lt_of_ble rfl)
      refine Wk.nil (AW.ret ?_)
      exact RetQ.ret [] (.cons rfl .nil) ⟨rfl, rfl⟩ none_kept
    · rw [Bool.true_and]
      by_cases k2 : qu.length ≤ 24
      · rw [decide_eq_true k2, Bool.true_and]
        cases k3 : inB g 0 9999
        · rw [Bool.false_and]
          apply AW.list
          apply Wk.ld (i := 2) 5 true ty29 rfl rfl (by conv => lhs; whnf) (lt_of_ble rfl)
          apply Wk.dat (scfgb k0) Try.func36 rfl rfl rfl rfl rfl (lt_of_ble rfl)
          apply Wk.mv (by conv => lhs; whnf) (lt_of_ble rfl)
          apply Wk.gon 7 rfl rfl
          apply Wk.fad 0 0 false fd44_0 rfl (lt_of_ble rfl)
          apply Wk.gon 7 rfl rfl
          apply Wk.ld (i := 3) 1 false ty3 rfl rfl (by conv => lhs; whnf) (lt_of_ble rfl)
          apply Wk.gon 7 rfl rfl
          apply Wk.dat (sinb k1) Try.func40 rfl rfl rfl rfl rfl (lt_of_ble rfl)
          apply Wk.pckT rfl (by conv => lhs; whnf) (lt_of_ble rfl)
          apply Wk.mv (by conv => lhs; whnf) (lt_of_ble rfl)
          apply Wk.gon 12 rfl rfl
          apply Wk.fad 1 0 false fd44_1 rfl (lt_of_ble rfl)
          apply Wk.gon 12 rfl rfl
          apply Wk.ld (i := 3) 1 false ty31 rfl rfl (by conv => lhs; whnf) (lt_of_ble rfl)
          apply Wk.gon 12 rfl rfl
          apply Wk.len un31 rfl (lt_of_ble rfl)
          apply Wk.gon 12 rfl rfl
          apply Wk.bin rfl rfl (r := .bool true) (fun w => by rw [e2]; simp [go_sem] <;> omega) (lt_of_ble rfl)
          apply Wk.pckT rfl (by conv => lhs; whnf) (lt_of_ble rfl)
          apply Wk.mv (by conv => lhs; whnf) (lt_of_ble rfl)
          apply Wk.gon 18 rfl rfl
          apply Wk.fad 2 0 false fd44_2 rfl (lt_of_ble rfl)
          apply Wk.gon 18 rfl rfl
          apply Wk.ld (i := 3) 1 false ty3 rfl rfl (by conv => lhs; whnf) (lt_of_ble rfl)
          apply Wk.gon 18 rfl rfl
          apply Wk.dat (sinb k3) Try.func40 rfl rfl rfl rfl rfl (lt_of_ble rfl)
          apply Wk.pckT rfl (by conv => lhs; whnf) (lt_of_ble rfl)
          apply Wk.mv (by conv => lhs; whnf) (lt_of_ble rfl)
          apply Wk.goff 23 (ok_faddr fd44_3) rfl rfl (by simp)
          apply Wk.goff 23 (ok_load 3 ty3) rfl rfl (by simp)
          apply Wk.goff 23 (ok_datw ((sinb (n := 0) (lo := 0) (hi := 9999) rfl).w rfl) Try.func40 rfl rfl) rfl rfl (by simp)
          apply Wk.pckF rfl (by conv => lhs; whnf) (lt_of_ble rfl)
          apply Wk.mv (by conv => lhs; whnf) (lt_of_ble rfl)
          apply Wk.goff 28 (ok_faddr fd44_2) rfl rfl (by simp)
          apply Wk.goff 28 (ok_load 3 ty3) rfl rfl (by simp)
          apply Wk.goff 28 (ok_faddr fd44_3) rfl rfl (by simp)
          apply Wk.goff 28 (ok_load 3 ty3) rfl rfl (by simp)
          apply Wk.goff 28 (ok_bin _ _ _ _ _) rfl rfl (by simp)
          apply Wk.goff 28 (ok_faddr fd44_0) rfl rfl (by simp)
          apply Wk.goff 28 (ok_load 3 ty3) rfl rfl (by simp)
          apply Wk.goff 28 (ok_bin _ _ _ _ _) rfl rfl (by simp)
          apply Wk.pckF rfl (by conv => lhs; whnf) (lt_of_ble rfl)
          apply Wk.mv (by conv => lhs; whnf) (lt_of_ble rfl)
          apply Wk.goff 38 (ok_faddr fd44_1) rfl rfl (by simp)
          apply Wk.goff 38 (ok_load 3 ty31) rfl rfl (by simp)
          apply Wk.goff 38 (ok_faddr fd29_2) rfl rfl (by simp)
          apply Wk.goff 38 (ok_load 2 ty3) rfl rfl (by simp)
          apply Wk.goff 38 (ok_datw ((spartsb [] 0 rfl).w rfl) Try.func43 rfl rfl) rfl rfl (by simp)
          apply Wk.pckF rfl (by conv => lhs; whnf) (lt_of_ble rfl)
          apply Wk.asg (by conv => lhs; whnf) (lt_of_ble rfl)
          refine Wk.nil (AW.ret ?_)
          exact RetQ.ret [] (.cons rfl .nil) ⟨rfl, rfl⟩ none_kept
        · rw [Bool.true_and]
          cases k4 : inB s 0 9999
          · rw [Bool.false_and]
            apply AW.list
            apply Wk.ld (i := 2) 5 true ty29 rfl rfl (by conv => lhs; whnf) (lt_of_ble rfl)
            apply Wk.dat (scfgb k0) Try.func36 rfl rfl rfl rfl rfl (lt_of_ble rfl)
            apply Wk.mv (by conv => lhs; whnf) (lt_of_ble rfl)
            apply Wk.gon 7 rfl rfl
            apply Wk.fad 0 0 false fd44_0 rfl (lt_of_ble rfl)
            apply Wk.gon 7 rfl rfl
            apply Wk.ld (i := 3) 1 false ty3 rfl rfl (by conv => lhs; whnf) (lt_of_ble rfl)
            apply Wk.gon 7 rfl rfl
            apply Wk.dat (sinb k1) Try.func40 rfl rfl rfl rfl rfl (lt_of_ble rfl)
            apply Wk.pckT rfl (by conv => lhs; whnf) (lt_of_ble rfl)
            apply Wk.mv (by conv => lhs; whnf) (lt_of_ble rfl)
            apply Wk.gon 12 rfl rfl
            apply Wk.fad 1 0 false fd44_1 rfl (lt_of_ble rfl)
            apply Wk.gon 12 rfl rfl
            apply Wk.ld (i := 3) 1 false ty31 rfl rfl (by conv => lhs; whnf) (lt_of_ble rfl)
            apply Wk.gon 12 rfl rfl
            apply Wk.len un31 rfl (lt_of_ble rfl)
            apply Wk.gon 12 rfl rfl
            apply Wk.bin rfl rfl (r := .bool true) (fun w => by rw [e2]; simp [go_sem] <;> omega) (lt_of_ble rfl)
            apply Wk.pckT rfl (by conv => lhs; whnf) (lt_of_ble rfl)
            apply Wk.mv (by conv => lhs; whnf) (lt_of_ble rfl)
            apply Wk.gon 18 rfl rfl
            apply Wk.fad 2 0 false fd44_2 rfl (lt_of_ble rfl)
            apply Wk.gon 18 rfl rfl
            apply Wk.ld (i := 3) 1 false ty3 rfl rfl (by conv => lhs; whnf) (lt_of_ble rfl)
            apply Wk.gon 18 rfl rfl
            apply Wk.dat (sinb k3) Try.func40 rfl rfl rfl rfl rfl (lt_of_ble rfl)
            apply Wk.pckT rfl (by conv => lhs; whnf) (lt_of_ble rfl)
            apply Wk.mv (by conv => lhs; whnf) (lt_of_ble rfl)
            apply Wk.gon 23 rfl rfl
            apply Wk.fad 3 0 false fd44_3 rfl (lt_of_ble rfl)
            apply Wk.gon 23 rfl rfl
            apply Wk.ld (i := 3) 1 false ty3 rfl rfl (by conv => lhs; whnf) (lt_of_ble rfl)
            apply Wk.gon 23 rfl rfl
            apply Wk.dat (sinb k4) Try.func40 rfl rfl rfl rfl rfl (lt_of_ble rfl)
            apply Wk.pckT rfl (by conv => lhs; whnf) (lt_of_ble rfl)
            apply Wk.mv (by conv => lhs; whnf) (lt_of_ble rfl)
            apply Wk.goff 28 (ok_faddr fd44_2) rfl rfl (by simp)
            apply Wk.goff 28 (ok_load 3 ty3) rfl rfl (by simp)
            apply Wk.goff 28 (ok_faddr fd44_3) rfl rfl (by simp)
            apply Wk.goff 28 (ok_load 3 ty3) rfl rfl (by simp)
            apply Wk.goff 28 (ok_bin _ _ _ _ _) rfl rfl (by simp)
            apply Wk.goff 28 (ok_faddr fd44_0) rfl rfl (by simp)
            apply Wk.goff 28 (ok_load 3 ty3) rfl rfl (by simp)
            apply Wk.goff 28 (ok_bin _ _ _ _ _) rfl rfl (by simp)
            apply Wk.pckF rfl (by conv => lhs; whnf) (lt_of_ble rfl)
            apply Wk.mv (by conv => lhs; whnf) (lt_of_ble rfl)
            apply Wk.goff 38 (ok_faddr fd44_1) rfl rfl (by simp)
            apply Wk.goff 38 (ok_load 3 ty31) rfl rfl (by simp)
            apply Wk.goff 38 (ok_faddr fd29_2) rfl rfl (by simp)
            apply Wk.goff 38 (ok_load 2 ty3) rfl rfl (by simp)
            apply Wk.goff 38 (ok_datw ((spartsb [] 0 rfl).w rfl) Try.func43 rfl rfl) rfl rfl (by simp)
            apply Wk.pckF rfl (by conv => lhs; whnf) (lt_of_ble rfl)
            apply Wk.asg (by conv => lhs; whnf) (lt_of_ble rfl)
            refine Wk.nil (AW.ret ?_)
            exact RetQ.ret [] (.cons rfl .nil) ⟨rfl, rfl⟩ none_kept
          · rw [Bool.true_and]
            by_cases k5 : g - s = v
            · rw [decide_eq_true k5, Bool.true_and]
              cases k6 : qu.all (partM p0)
              · skip
                apply AW.list
                apply Wk.ld (i := 2) 5 true ty29 rfl rfl (by conv => lhs; whnf) (lt_of_ble rfl)
                apply Wk.dat (scfgb k0) Try.func36 rfl rfl rfl rfl rfl (lt_of_ble rfl)
                apply Wk.mv (by conv => lhs; whnf) (lt_of_ble rfl)
                apply Wk.gon 7 rfl rfl
                apply Wk.fad 0 0 false fd44_0 rfl (lt_of_ble rfl)
                apply Wk.gon 7 rfl rfl
                apply Wk.ld (i := 3) 1 false ty3 rfl rfl (by conv => lhs; whnf) (lt_of_ble rfl)
                apply Wk.gon 7 rfl rfl
                apply Wk.dat (sinb k1) Try.func40 rfl rfl rfl rfl rfl (lt_of_ble rfl)
                apply Wk.pckT rfl (by conv => lhs; whnf) (lt_of_ble rfl)
                apply Wk.mv (by conv => lhs; whnf) (lt_of_ble rfl)
                apply Wk.gon 12 rfl rfl
                apply Wk.fad 1 0 false fd44_1 rfl (lt_of_ble rfl)
                apply Wk.gon 12 rfl rfl
                apply Wk.ld (i := 3) 1 false ty31 rfl rfl (by conv => lhs; whnf) (lt_of_ble rfl)
                apply Wk.gon 12 rfl rfl
                apply Wk.len un31 rfl (lt_of_ble rfl)
                apply Wk.gon 12 rfl rfl
                apply Wk.bin rfl rfl (r := .bool true) (fun w => by rw [e2]; simp [go_sem] <;> omega) (lt_of_ble rfl)
                apply Wk.pckT rfl (by conv => lhs; whnf) (lt_of_ble rfl)
                apply Wk.mv (by conv => lhs; whnf) (lt_of_ble rfl)
                apply Wk.gon 18 rfl rfl
                apply Wk.fad 2 0 false fd44_2 rfl (lt_of_ble rfl)
                apply Wk.gon 18 rfl rfl
                apply Wk.ld (i := 3) 1 false ty3 rfl rfl (by conv => lhs; whnf) (lt_of_ble rfl)
                apply Wk.gon 18 rfl rfl
                apply Wk.dat (sinb k3) Try.func40 rfl rfl rfl rfl rfl (lt_of_ble rfl)
                apply Wk.pckT rfl (by conv => lhs; whnf) (lt_of_ble rfl)
                apply Wk.mv (by conv => lhs; whnf) (lt_of_ble rfl)
                apply Wk.gon 23 rfl rfl
                apply Wk.fad 3 0 false fd44_3 rfl (lt_of_ble rfl)
                apply Wk.gon 23 rfl rfl
                apply Wk.ld (i := 3) 1 false ty3 rfl rfl (by conv => lhs; whnf) (lt_of_ble rfl)
                apply Wk.gon 23 rfl rfl
                apply Wk.dat (sinb k4) Try.func40 rfl rfl rfl rfl rfl (lt_of_ble rfl)
                apply Wk.pckT rfl (by conv => lhs; whnf) (lt_of_ble rfl)
                apply Wk.mv (by conv => lhs; whnf) (lt_of_ble rfl)
                apply Wk.gon 28 rfl rfl
                apply Wk.fad 2 0 false fd44_2 rfl (lt_of_ble rfl)
                apply Wk.gon 28 rfl rfl
                apply Wk.ld (i := 3) 1 false ty3 rfl rfl (by conv => lhs; whnf) (lt_of_ble rfl)
                apply Wk.gon 28 rfl rfl
                apply Wk.fad 3 0 false fd44_3 rfl (lt_of_ble rfl)
                apply Wk.gon 28 rfl rfl
                apply Wk.ld (i := 3) 1 false ty3 rfl rfl (by conv => lhs; whnf) (lt_of_ble rfl)
                apply Wk.gon 28 rfl rfl
                apply Wk.subi rfl rfl (by have := (inB_iff _ _ _).1 k3; have := (inB_iff _ _ _).1 k4; dsimp only; omega) (lt_of_ble rfl)
                apply Wk.gon 28 rfl rfl
                apply Wk.fad 0 0 false fd44_0 rfl (lt_of_ble rfl)
                apply Wk.gon 28 rfl rfl
                apply Wk.ld (i := 3) 1 false ty3 rfl rfl (by conv => lhs; whnf) (lt_of_ble rfl)
                apply Wk.gon 28 rfl rfl
                apply Wk.bin rfl rfl (r := .bool true) (fun w => by simp [go_sem, k5]) (lt_of_ble rfl)
                apply Wk.pckT rfl (by conv => lhs; whnf) (lt_of_ble rfl)
                apply Wk.mv (by conv => lhs; whnf) (lt_of_ble rfl)
                apply Wk.gon 38 rfl rfl
                apply Wk.fad 1 0 false fd44_1 rfl (lt_of_ble rfl)
                apply Wk.gon 38 rfl rfl
                apply Wk.ld (i := 3) 1 false ty31 rfl rfl (by conv => lhs; whnf) (lt_of_ble rfl)
                apply Wk.gon 38 rfl rfl
                apply Wk.fad 2 0 false fd29_2 rfl (lt_of_ble rfl)
                apply Wk.gon 38 rfl rfl
                apply Wk.ld (i := 2) 1 false ty3 rfl rfl (by conv => lhs; whnf) (lt_of_ble rfl)
                apply Wk.gon 38 rfl rfl
                apply Wk.dat (spartsb qu p0 k6) Try.func43 rfl rfl rfl rfl rfl (lt_of_ble rfl)
                apply Wk.pckT rfl (by conv => lhs; whnf) (lt_of_ble rfl)
                apply Wk.asg (by conv => lhs; whnf) (lt_of_ble rfl)
                refine Wk.nil (AW.ret ?_)
                exact RetQ.ret [] (.cons rfl .nil) ⟨rfl, rfl⟩ none_kept
              · skip
                apply AW.list
                apply Wk.ld (i := 2) 5 true ty29 rfl rfl (by conv => lhs; whnf) (lt_of_ble rfl)
                apply Wk.dat (scfgb k0) Try.func36 rfl rfl rfl rfl rfl (lt_of_ble rfl)
                apply Wk.mv (by conv => lhs; whnf) (lt_of_ble rfl)
                apply Wk.gon 7 rfl rfl
                apply Wk.fad 0 0 false fd44_0 rfl (lt_of_ble rfl)
                apply Wk.gon 7 rfl rfl
                apply Wk.ld (i := 3) 1 false ty3 rfl rfl (by conv => lhs; whnf) (lt_of_ble rfl)
                apply Wk.gon 7 rfl rfl
                apply Wk.dat (sinb k1) Try.func40 rfl rfl rfl rfl rfl (lt_of_ble rfl)
                apply Wk.pckT rfl (by conv => lhs; whnf) (lt_of_ble rfl)
                apply Wk.mv (by conv => lhs; whnf) (lt_of_ble rfl)
                apply Wk.gon 12 rfl rfl
                apply Wk.fad 1 0 false fd44_1 rfl (lt_of_ble rfl)
                apply Wk.gon 12 rfl rfl
                apply Wk.ld (i := 3) 1 false ty31 rfl rfl (by conv => lhs; whnf) (lt_of_ble rfl)
                apply Wk.gon 12 rfl rfl
                apply Wk.len un31 rfl (lt_of_ble rfl)
                apply Wk.gon 12 rfl rfl
                apply Wk.bin rfl rfl (r := .bool true) (fun w => by rw [e2]; simp [go_sem] <;> omega) (lt_of_ble rfl)
                apply Wk.pckT rfl (by conv => lhs; whnf) (lt_of_ble rfl)
                apply Wk.mv (by conv => lhs; whnf) (lt_of_ble rfl)
                apply Wk.gon 18 rfl rfl
                apply Wk.fad 2 0 false fd44_2 rfl (lt_of_ble rfl)
                apply Wk.gon 18 rfl rfl
                apply Wk.ld (i := 3) 1 false ty3 rfl rfl (by conv => lhs; whnf) (lt_of_ble rfl)
                apply Wk.gon 18 rfl rfl
                apply Wk.dat (sinb k3) Try.func40 rfl rfl rfl rfl rfl (lt_of_ble rfl)
                apply Wk.pckT rfl (by conv => lhs; whnf) (lt_of_ble rfl)
                apply Wk.mv (by conv => lhs; whnf) (lt_of_ble rfl)
                apply Wk.gon 23 rfl rfl
                apply Wk.fad 3 0 false fd44_3 rfl (lt_of_ble rfl)
                apply Wk.gon 23 rfl rfl
                apply Wk.ld (i := 3) 1 false ty3 rfl rfl (by conv => lhs; whnf) (lt_of_ble rfl)
                apply Wk.gon 23 rfl rfl
                apply Wk.dat (sinb k4) Try.func40 rfl rfl rfl rfl rfl (lt_of_ble rfl)
                apply Wk.pckT rfl (by conv => lhs; whnf) (lt_of_ble rfl)
                apply Wk.mv (by conv => lhs; whnf) (lt_of_ble rfl)
                apply Wk.gon 28 rfl rfl
                apply Wk.fad 2 0 false fd44_2 rfl (lt_of_ble rfl)
                apply Wk.gon 28 rfl rfl
                apply Wk.ld (i := 3) 1 false ty3 rfl rfl (by conv => lhs; whnf) (lt_of_ble rfl)
                apply Wk.gon 28 rfl rfl
                apply Wk.fad 3 0 false fd44_3 rfl (lt_of_ble rfl)
                apply Wk.gon 28 rfl rfl
                apply Wk.ld (i := 3) 1 false ty3 rfl rfl (by conv => lhs; whnf) (lt_of_ble rfl)
                apply Wk.gon 28 rfl rfl
                apply Wk.subi rfl rfl (by have := (inB_iff _ _ _).1 k3; have := (inB_iff _ _ _).1 k4; dsimp only; omega) (lt_of_ble rfl)
                apply Wk.gon 28 rfl rfl
                apply Wk.fad 0 0 false fd44_0 rfl (lt_of_ble rfl)
                apply Wk.gon 28 rfl rfl
                apply Wk.ld (i := 3) 1 false ty3 rfl rfl (by conv => lhs; whnf) (lt_of_ble rfl)
                apply Wk.gon 28 rfl rfl
                apply Wk.bin rfl rfl (r := .bool true) (fun w => by simp [go_sem, k5]) (lt_of_ble rfl)
                apply Wk.pckT rfl (by conv => lhs; whnf) (lt_of_ble rfl)
                apply Wk.mv (by conv => lhs; whnf) (lt_of_ble rfl)
                apply Wk.gon 38 rfl rfl
                apply Wk.fad 1 0 false fd44_1 rfl (lt_of_ble rfl)
                apply Wk.gon 38 rfl rfl
                apply Wk.ld (i := 3) 1 false ty31 rfl rfl (by conv => lhs; whnf) (lt_of_ble rfl)
                apply Wk.gon 38 rfl rfl
                apply Wk.fad 2 0 false fd29_2 rfl (lt_of_ble rfl)
                apply Wk.gon 38 rfl rfl
                apply Wk.ld (i := 2) 1 false ty3 rfl rfl (by conv => lhs; whnf) (lt_of_ble rfl)
                apply Wk.gon 38 rfl rfl
                apply Wk.dat (spartsb qu p0 k6) Try.func43 rfl rfl rfl rfl rfl (lt_of_ble rfl)
                apply Wk.pckT rfl (by conv => lhs; whnf) (lt_of_ble rfl)
                apply Wk.asg (by conv => lhs; whnf) (lt_of_ble rfl)
                refine Wk.nil (AW.ret ?_)
                exact RetQ.ret [] (.cons rfl .nil) ⟨rfl, rfl⟩ none_kept
            · rw [decide_eq_false k5, Bool.false_and]
              apply AW.list
              apply Wk.ld (i := 2) 5 true ty29 rfl rfl (by conv => lhs; whnf) (lt_of_ble rfl)
              apply Wk.dat (scfgb k0) Try.func36 rfl rfl rfl rfl rfl (lt_of_ble rfl)
              apply Wk.mv (by conv => lhs; whnf) (lt_of_ble rfl)
              apply Wk.gon 7 rfl rfl
              apply Wk.fad 0 0 false fd44_0 rfl (lt_of_ble rfl)
              apply Wk.gon 7 rfl rfl
              apply Wk.ld (i := 3) 1 false ty3 rfl rfl (by conv => lhs; whnf) (lt_of_ble rfl)
              apply Wk.gon 7 rfl rfl
              apply Wk.dat (sinb k1) Try.func40 rfl rfl rfl rfl rfl (lt_of_ble rfl)
              apply Wk.pckT rfl (by conv => lhs; whnf) (lt_of_ble rfl)
              apply Wk.mv (by conv => lhs; whnf) (lt_of_ble rfl)
              apply Wk.gon 12 rfl rfl
              apply Wk.fad 1 0 false fd44_1 rfl (lt_of_ble rfl)
              apply Wk.gon 12 rfl rfl
              apply Wk.ld (i := 3) 1 false ty31 rfl rfl (by conv => lhs; whnf) (lt_of_ble rfl)
              apply Wk.gon 12 rfl rfl
              apply Wk.len un31 rfl (lt_of_ble rfl)
              apply Wk.gon 12 rfl rfl
              apply Wk.bin rfl rfl (r := .bool true) (fun w => by rw [e2]; simp [go_sem] <;> omega) (lt_of_ble rfl)
              apply Wk.pckT rfl (by conv => lhs; whnf) (lt_of_ble rfl)
              apply Wk.mv (by conv => lhs; whnf) (lt_of_ble rfl)
              apply Wk.gon 18 rfl rfl
              apply Wk.fad 2 0 false fd44_2 rfl (lt_of_ble rfl)
              apply Wk.gon 18 rfl rfl
              apply Wk.ld (i := 3) 1 false ty3 rfl rfl (by conv => lhs; whnf) (lt_of_ble rfl)
              apply Wk.gon 18 rfl rfl
              apply Wk.dat (sinb k3) Try.func40 rfl rfl rfl rfl rfl (lt_of_ble rfl)
              apply Wk.pckT rfl (by conv => lhs; whnf) (lt_of_ble rfl)
              apply Wk.mv (by conv => lhs; whnf) (lt_of_ble rfl)
              apply Wk.gon 23 rfl rfl
              apply Wk.fad 3 0 false fd44_3 rfl (lt_of_ble rfl)
              apply Wk.gon 23 rfl rfl
              apply Wk.ld (i := 3) 1 false ty3 rfl rfl (by conv => lhs; whnf) (lt_of_ble rfl)
              apply Wk.gon 23 rfl rfl
              apply Wk.dat (sinb k4) Try.func40 rfl rfl rfl rfl rfl (lt_of_ble rfl)
              apply Wk.pckT rfl (by conv => lhs; whnf) (lt_of_ble rfl)
              apply Wk.mv (by conv => lhs; whnf) (lt_of_ble rfl)
              apply Wk.gon 28 rfl rfl
              apply Wk.fad 2 0 false fd44_2 rfl (lt_of_ble rfl)
              apply Wk.gon 28 rfl rfl
              apply Wk.ld (i := 3) 1 false ty3 rfl rfl (by conv => lhs; whnf) (lt_of_ble rfl)
              apply Wk.gon 28 rfl rfl
              apply Wk.fad 3 0 false fd44_3 rfl (lt_of_ble rfl)
              apply Wk.gon 28 rfl rfl
              apply Wk.ld (i := 3) 1 false ty3 rfl rfl (by conv => lhs; whnf) (lt_of_ble rfl)
              apply Wk.gon 28 rfl rfl
              apply Wk.subi rfl rfl (by have := (inB_iff _ _ _).1 k3; have := (inB_iff _ _ _).1 k4; dsimp only; omega) (lt_of_ble rfl)
              apply Wk.gon 28 rfl rfl
              apply Wk.fad 0 0 false fd44_0 rfl (lt_of_ble rfl)
              apply Wk.gon 28 rfl rfl
              apply Wk.ld (i := 3) 1 false ty3 rfl rfl (by conv => lhs; whnf) (lt_of_ble rfl)
              apply Wk.gon 28 rfl rfl
              apply Wk.bin rfl rfl (r := .bool false) (fun w => by simp [go_sem, k5]) (lt_of_ble rfl)
              apply Wk.pckT rfl (by conv => lhs; whnf) (lt_of_ble rfl)
              apply Wk.mv (by conv => lhs; whnf) (lt_of_ble rfl)
              apply Wk.goff 38 (ok_faddr fd44_1) rfl rfl (by simp)
              apply Wk.goff 38 (ok_load 3 ty31) rfl rfl (by simp)
              apply Wk.goff 38 (ok_faddr fd29_2) rfl rfl (by simp)
              apply Wk.goff 38 (ok_load 2 ty3) rfl rfl (by simp)
              apply Wk.goff 38 (ok_datw ((spartsb [] 0 rfl).w rfl) Try.func43 rfl rfl) rfl rfl (by simp)
              apply Wk.pckF rfl (by conv => lhs; whnf) (lt_of_ble rfl)
              apply Wk.asg (by conv => lhs; whnf) (lt_of_ble rfl)
              refine Wk.nil (AW.ret ?_)
              exact RetQ.ret [] (.cons rfl .nil) ⟨rfl, rfl⟩ none_kept
      · rw [decide_eq_false k2, Bool.false_and]
        apply AW.list
        apply Wk.ld (i := 2) 5 true ty29 rfl rfl (by conv => lhs; whnf) (lt_of_ble rfl)
        apply Wk.dat (scfgb k0) Try.func36 rfl rfl rfl rfl rfl (lt_of_ble rfl)
        apply Wk.mv (by conv => lhs; whnf) (lt_of_ble rfl)
        apply Wk.gon 7 rfl rfl
        apply Wk.fad 0 0 false fd44_0 rfl (lt_of_ble rfl)
        apply Wk.gon 7 rfl rfl
        apply Wk.ld (i := 3) 1 false ty3 rfl rfl (by conv => lhs; whnf) (lt_of_ble rfl)
        apply Wk.gon 7 rfl rfl
        apply Wk.dat (sinb k1) Try.func40 rfl rfl rfl rfl rfl (lt_of_ble rfl)
        apply Wk.pckT rfl (by conv => lhs; whnf) (lt_of_ble rfl)
        apply Wk.mv (by conv => lhs; whnf) (lt_of_ble rfl)
        apply Wk.gon 12 rfl rfl
        apply Wk.fad 1 0 false fd44_1 rfl (lt_of_ble rfl)
        apply Wk.gon 12 rfl rfl
        apply Wk.ld (i := 3) 1 false ty31 rfl rfl (by conv => lhs; whnf) (lt_of_ble rfl)
        apply Wk.gon 12 rfl rfl
        apply Wk.len un31 rfl (lt_of_ble rfl)
        apply Wk.gon 12 rfl rfl
        apply Wk.bin rfl rfl (r := .bool false) (fun w => by rw [e2]; simp [go_sem] <;> omega) (lt_of_ble rfl)
        apply Wk.pckT rfl (by conv => lhs; whnf) (lt_of_ble rfl)
        apply Wk.mv (by conv => lhs; whnf) (lt_of_ble rfl)
        apply Wk.goff 18 (ok_faddr fd44_2) rfl rfl (by simp)
        apply Wk.goff 18 (ok_load 3 ty3) rfl rfl (by simp)
        apply Wk.goff 18 (ok_datw ((sinb (n := 0) (lo := 0) (hi := 9999) rfl).w rfl) Try.func40 rfl rfl) rfl rfl (by simp)
        apply Wk.pckF rfl (by conv => lhs; whnf) (lt_of_ble rfl)
        apply Wk.mv (by conv => lhs; whnf) (lt_of_ble rfl)
        apply Wk.goff 23 (ok_faddr fd44_3) rfl rfl (by simp)
        apply Wk.goff 23 (ok_load 3 ty3) rfl rfl (by simp)
        apply Wk.goff 23 (ok_datw ((sinb (n := 0) (lo := 0) (hi := 9999) rfl).w rfl) Try.func40 rfl rfl) rfl rfl (by simp)
        apply Wk.pckF rfl (by conv => lhs; whnf) (lt_of_ble rfl)
        apply Wk.mv (by conv => lhs; whnf) (lt_of_ble rfl)
        apply Wk.goff 28 (ok_faddr fd44_2) rfl rfl (by simp)
        apply Wk.goff 28 (ok_load 3 ty3) rfl rfl (by simp)
        apply Wk.goff 28 (ok_faddr fd44_3) rfl rfl (by simp)
        apply Wk.goff 28 (ok_load 3 ty3) rfl rfl (by simp)
        apply Wk.goff 28 (ok_bin _ _ _ _ _) rfl rfl (by simp)
        apply Wk.goff 28 (ok_faddr fd44_0) rfl rfl (by simp)
        apply Wk.goff 28 (ok_load 3 ty3) rfl rfl (by simp)
        apply Wk.goff 28 (ok_bin _ _ _ _ _) rfl rfl (by simp)
        apply Wk.pckF rfl (by conv => lhs; whnf) (lt_of_ble rfl)
        apply Wk.mv (by conv => lhs; whnf) (lt_of_ble rfl)
        apply Wk.goff 38 (ok_faddr fd44_1) rfl rfl (by simp)
        apply Wk.goff 38 (ok_load 3 ty31) rfl rfl (by simp)
        apply Wk.goff 38 (ok_faddr fd29_2) rfl rfl (by simp)
        apply Wk.goff 38 (ok_load 2 ty3) rfl rfl (by simp)
        apply Wk.goff 38 (ok_datw ((spartsb [] 0 rfl).w rfl) Try.func43 rfl rfl) rfl rfl (by simp)
        apply Wk.pckF rfl (by conv => lhs; whnf) (lt_of_ble rfl)
        apply Wk.asg (by conv => lhs; whnf) (lt_of_ble rfl)
        refine Wk.nil (AW.ret ?_)
        exact RetQ.ret [] (.cons rfl .nil) ⟨rfl, rfl⟩ none_kept
theorem scxb {m w p u y : Int} {x : CX} {b : Bool} (h : crdOkB ⟨m, w, p, u, y⟩ x = b) : DataOk Try.prog 19 [cfgA m w p u y, cxA x] (.d (.v (.bool b))) := h ▸ scx_ok m w p u y x
theorem crdOk_parts (o : Opt) (x : CX) : crdOkB o x = (o.ok && ((inB x.v 0 255 && (inB x.g 0 9999 && (inB x.s 0 9999 && decide (x.v = x.g - x.s)))) && (inB (x.qu.length : Int) 0 24 && x.qu.all (partM o.mps)))) := by
  apply bool_of_iff
  simp only [crdOkB, Bool.and_eq_true, decide_eq_true_eq, inB_iff]
  constructor
  · rintro ⟨k1, k2, k3, k4, k5, k6, k7⟩
    exact ⟨k1, ⟨k2, k4, k5, by omega⟩, ⟨by omega, by omega⟩, k7⟩
  · rintro ⟨k1, ⟨k2, k4, k5, k6⟩, k3, k7⟩
    exact ⟨k1, k2, by omega, k4, k5, by omega, k7⟩
set_option maxHeartbeats 4000000 in
set_option maxRecDepth 100000 in
theorem icx_ok (m0 w0 p0 u0 y0 : Int) (x : CX) : DataOk Try.prog 21 [cfgA m0 w0 p0 u0 y0, cxA x] (.d (.v (.bool (crdOkB ⟨m0, w0, p0, u0, y0⟩ x)))) := by
  rw [crdOk_parts]
  obtain ⟨v, qu, g, s, d⟩ := x
  have e2 : (((qu.map datD).length : Nat) : Int) = (qu.length : Int) := by rw [List.length_map]
  simp only
  rw [← e2]
  obtain ⟨cb, hcb⟩ : ∃ cb, cb = (inB v 0 255 && (inB g 0 9999 && (inB s 0 9999 && decide (v = g - s)))) := ⟨_, rfl⟩
  rw [← hcb]
  refine Spec.intro (n := 47) (rv := [.tmp 4]) Try.func21 rfl rfl rfl (by simp) fun C hN hX => ?_
  refine AW.seq ?_
  apply AW.list
  apply Wk.bx 2 rfl rfl (lt_of_ble rfl)
  apply Wk.bx 3 rfl rfl (lt_of_ble rfl)
  apply Wk.asg (by conv => lhs; whnf) (lt_of_ble rfl)
  refine Wk.nil ?_
  refine AW.via (fun b : Bool => St.of 47 [(2, .ptr 2 0), (3, .ptr 3 0), (5, .d (.v (.bool b)))] [(2, .var [.d (.v (.int .i64 m0)), .d (.v (.int .i64 w0)), .d (.v (.int .i64 p0)), .d (.v (.int .i64 u0)), .d (.v (.int .i64 y0))]), (3, .var [.d (.v (.int .i64 v)), .d (partsD qu), .d (.v (.int .i64 g)), .d (.v (.int .i64 s)), .d (.v (.bool d))])]) (fun b => b = cb) ?_ ?_
  · skip
    cases k0 : inB v 0 255
    · skip
      apply AW.list
      apply Wk.fad 0 0 false fd44_0 rfl (lt_of_ble rfl)
      apply Wk.ld (i := 3) 1 false ty3 rfl rfl (by conv => lhs; whnf) (lt_of_ble rfl)
      apply Wk.dat (inoneb k0) Try.func47 rfl rfl rfl rfl rfl (lt_of_ble rfl)
      apply Wk.mv (by conv => lhs; whnf) (lt_of_ble rfl)
      apply Wk.goff 9 (ok_faddr fd44_2) rfl rfl (by simp)
      apply Wk.goff 9 (ok_load 3 ty3) rfl rfl (by simp)
      apply Wk.goff 9 (ok_datw ((inoneb (n := 0) (hi := 0) rfl).w rfl) Try.func47 rfl rfl) rfl rfl (by simp)
      apply Wk.pckF rfl (by conv => lhs; whnf) (lt_of_ble rfl)
      apply Wk.mv (by conv => lhs; whnf) (lt_of_ble rfl)
      apply Wk.goff 14 (ok_faddr fd44_3) rfl rfl (by simp)
      apply Wk.goff 14 (ok_load 3 ty3) rfl rfl (by simp)
      apply Wk.goff 14 (ok_datw ((inoneb (n := 0) (hi := 0) rfl).w rfl) Try.func47 rfl rfl) rfl rfl (by simp)
      apply Wk.pckF rfl (by conv => lhs; whnf) (lt_of_ble rfl)
      apply Wk.mv (by conv => lhs; whnf) (lt_of_ble rfl)
      apply Wk.goff 19 (ok_faddr fd44_0) rfl rfl (by simp)
      apply Wk.goff 19 (ok_load 3 ty3) rfl rfl (by simp)
      apply Wk.goff 19 (ok_faddr fd44_2) rfl rfl (by simp)
      apply Wk.goff 19 (ok_load 3 ty3) rfl rfl (by simp)
      apply Wk.goff 19 (ok_faddr fd44_3) rfl rfl (by simp)
      apply Wk.goff 19 (ok_load 3 ty3) rfl rfl (by simp)
      apply Wk.goff 19 (ok_bin _ _ _ _ _) rfl rfl (by simp)
      apply Wk.goff 19 (ok_bin _ _ _ _ _) rfl rfl (by simp)
      apply Wk.pckF rfl (by conv => lhs; whnf) (lt_of_ble rfl)
      apply Wk.asg (by conv => lhs; whnf) (lt_of_ble rfl)
      refine Wk.nil (thenA_normal ?_)
      exact ⟨false, by rw [hcb, k0]; rfl, fun a w => Rel.keep ⟨rfl, .cons rfl rfl (.cons rfl rfl (.cons rfl rfl .nil)), .cons rfl rfl (.cons rfl rfl .nil), hN.mono (by simp [keys])⟩⟩
    · skip
      cases k1 : inB g 0 9999
      · skip
        apply AW.list
        apply Wk.fad 0 0 false fd44_0 rfl (lt_of_ble rfl)
        apply Wk.ld (i := 3) 1 false ty3 rfl rfl (by conv => lhs; whnf) (lt_of_ble rfl)
        apply Wk.dat (inoneb k0) Try.func47 rfl rfl rfl rfl rfl (lt_of_ble rfl)
        apply Wk.mv (by conv => lhs; whnf) (lt_of_ble rfl)
        apply Wk.gon 9 rfl rfl
        apply Wk.fad 2 0 false fd44_2 rfl (lt_of_ble rfl)
        apply Wk.gon 9 rfl rfl
        apply Wk.ld (i := 3) 1 false ty3 rfl rfl (by conv => lhs; whnf) (lt_of_ble rfl)
        apply Wk.gon 9 rfl rfl
        apply Wk.dat (inoneb k1) Try.func47 rfl rfl rfl rfl rfl (lt_of_ble rfl)
        apply Wk.pckT rfl (by conv => lhs; whnf) (lt_of_ble rfl)
        apply Wk.mv (by conv => lhs; whnf) (lt_of_ble rfl)
        apply Wk.goff 14 (ok_faddr fd44_3) rfl rfl (by simp)
        apply Wk.goff 14 (ok_load 3 ty3) rfl rfl (by simp)
        apply Wk.goff 14 (ok_datw ((inoneb (n := 0) (hi := 0) rfl).w rfl) Try.func47 rfl rfl) rfl rfl (by simp)
        apply Wk.pckF rfl (by conv => lhs; whnf) (lt_of_ble rfl)
        apply Wk.mv (by conv => lhs; whnf) (lt_of_ble rfl)
        apply Wk.goff 19 (ok_faddr fd44_0) rfl rfl (by simp)
        apply Wk.goff 19 (ok_load 3 ty3) rfl rfl (by simp)
        apply Wk.goff 19 (ok_faddr fd44_2) rfl rfl (by simp)
        apply Wk.goff 19 (ok_load 3 ty3) rfl rfl (by simp)
        apply Wk.goff 19 (ok_faddr fd44_3) rfl rfl (by simp)
        apply Wk.goff 19 (ok_load 3 ty3) rfl rfl (by simp)
        apply Wk.goff 19 (ok_bin _ _ _ _ _) rfl rfl (by simp)
        apply Wk.goff 19 (ok_bin _ _ _ _ _) rfl rfl (by simp)
        apply Wk.pckF rfl (by conv => lhs; whnf) (lt_of_ble rfl)
        apply Wk.asg (by conv => lhs; whnf) (lt_of_ble rfl)
        refine Wk.nil (thenA_normal ?_)
        exact ⟨false, by rw [hcb, k0, k1]; rfl, fun a w => Rel.keep ⟨rfl, .cons rfl rfl (.cons rfl rfl (.cons rfl rfl .nil)), .cons rfl rfl (.cons rfl rfl .nil), hN.mono (by simp [keys])⟩⟩
      · skip
        cases k2 : inB s 0 9999
        · skip
          apply AW.list
          apply Wk.fad 0 0 false fd44_0 rfl (lt_of_ble rfl)
          apply Wk.ld (i := 3) 1 false ty3 rfl rfl (by conv => lhs; whnf) (lt_of_ble rfl)
          apply Wk.dat (inoneb k0) Try.func47 rfl rfl rfl rfl rfl (lt_of_ble rfl)
          apply Wk.mv (by conv => lhs; whnf) (lt_of_ble rfl)
          apply Wk.gon 9 rfl rfl
          apply Wk.fad 2 0 false fd44_2 rfl (lt_of_ble rfl)
          apply Wk.gon 9 rfl rfl
          apply Wk.ld (i := 3) 1 false ty3 rfl rfl (by conv => lhs; whnf) (lt_of_ble rfl)
          apply Wk.gon 9 rfl rfl
          apply Wk.dat (inoneb k1) Try.func47 rfl rfl rfl rfl rfl (lt_of_ble rfl)
          apply Wk.pckT rfl (by conv => lhs; whnf) (lt_of_ble rfl)
          apply Wk.mv (by conv => lhs; whnf) (lt_of_ble rfl)
          apply Wk.gon 14 rfl rfl
          apply Wk.fad 3 0 false fd44_3 rfl (lt_of_ble rfl)
          apply Wk.gon 14 rfl rfl
          apply Wk.ld (i := 3) 1 false ty3 rfl rfl (by conv => lhs; whnf) (lt_of_ble rfl)
          apply Wk.gon 14 rfl rfl
          apply Wk.dat (inoneb k2) Try.func47 rfl rfl rfl rfl rfl (lt_of_ble rfl)
          apply Wk.pckT rfl (by conv => lhs; whnf) (lt_of_ble rfl)
          apply Wk.mv (by conv => lhs; whnf) (lt_of_ble rfl)
          apply Wk.goff 19 (ok_faddr fd44_0) rfl rfl (by simp)
          apply Wk.goff 19 (ok_load 3 ty3) rfl rfl (by simp)
          apply Wk.goff 19 (ok_faddr fd44_2) rfl rfl (by simp)
          apply Wk.goff 19 (ok_load 3 ty3) rfl rfl (by simp)
          apply Wk.goff 19 (ok_faddr fd44_3) rfl rfl (by simp)
          apply Wk.goff 19 (ok_load 3 ty3) rfl rfl (by simp)
          apply Wk.goff 19 (ok_bin _ _ _ _ _) rfl rfl (by simp)
          apply Wk.goff 19 (ok_bin _ _ _ _ _) rfl rfl (by simp)
          apply Wk.pckF rfl (by conv => lhs; whnf) (lt_of_ble rfl)
          apply Wk.asg (by conv => lhs; whnf) (lt_of_ble rfl)
          refine Wk.nil (thenA_normal ?_)
          exact ⟨false, by rw [hcb, k0, k1, k2]; rfl, fun a w => Rel.keep ⟨rfl, .cons rfl rfl (.cons rfl rfl (.cons rfl rfl .nil)), .cons rfl rfl (.cons rfl rfl .nil), hN.mono (by simp [keys])⟩⟩
        · skip
          by_cases k3 : v = g - s
          · skip
            apply AW.list
            apply Wk.fad 0 0 false fd44_0 rfl (lt_of_ble rfl)
            apply Wk.ld (i := 3) 1 false ty3 rfl rfl (by conv => lhs; whnf) (lt_of_ble rfl)
            apply Wk.dat (inoneb k0) Try.func47 rfl rfl rfl rfl rfl (lt_of_ble rfl)
            apply Wk.mv (by conv => lhs; whnf) (lt_of_ble rfl)
            apply Wk.gon 9 rfl rfl
            apply Wk.fad 2 0 false fd44_2 rfl (lt_of_ble rfl)
            apply Wk.gon 9 rfl rfl
            apply Wk.ld (i := 3) 1 false ty3 rfl rfl (by conv => lhs; whnf) (lt_of_ble rfl)
            apply Wk.gon 9 rfl rfl
            apply Wk.dat (inoneb k1) Try.func47 rfl rfl rfl rfl rfl (lt_of_ble rfl)
            apply Wk.pckT rfl (by conv => lhs; whnf) (lt_of_ble rfl)
            apply Wk.mv (by conv => lhs; whnf) (lt_of_ble rfl)
            apply Wk.gon 14 rfl rfl
            apply Wk.fad 3 0 false fd44_3 rfl (lt_of_ble rfl)
            apply Wk.gon 14 rfl rfl
            apply Wk.ld (i := 3) 1 false ty3 rfl rfl (by conv => lhs; whnf) (lt_of_ble rfl)
            apply Wk.gon 14 rfl rfl
            apply Wk.dat (inoneb k2) Try.func47 rfl rfl rfl rfl rfl (lt_of_ble rfl)
            apply Wk.pckT rfl (by conv => lhs; whnf) (lt_of_ble rfl)
            apply Wk.mv (by conv => lhs; whnf) (lt_of_ble rfl)
            apply Wk.gon 19 rfl rfl
            apply Wk.fad 0 0 false fd44_0 rfl (lt_of_ble rfl)
            apply Wk.gon 19 rfl rfl
            apply Wk.ld (i := 3) 1 false ty3 rfl rfl (by conv => lhs; whnf) (lt_of_ble rfl)
            apply Wk.gon 19 rfl rfl
            apply Wk.fad 2 0 false fd44_2 rfl (lt_of_ble rfl)
            apply Wk.gon 19 rfl rfl
            apply Wk.ld (i := 3) 1 false ty3 rfl rfl (by conv => lhs; whnf) (lt_of_ble rfl)
            apply Wk.gon 19 rfl rfl
            apply Wk.fad 3 0 false fd44_3 rfl (lt_of_ble rfl)
            apply Wk.gon 19 rfl rfl
            apply Wk.ld (i := 3) 1 false ty3 rfl rfl (by conv => lhs; whnf) (lt_of_ble rfl)
            apply Wk.gon 19 rfl rfl
            apply Wk.subi rfl rfl (by have := (inB_iff _ _ _).1 k1; have := (inB_iff _ _ _).1 k2; dsimp only; omega) (lt_of_ble rfl)
            apply Wk.gon 19 rfl rfl
            apply Wk.bin rfl rfl (r := .bool true) (fun w => by simp [go_sem, k3]) (lt_of_ble rfl)
            apply Wk.pckT rfl (by conv => lhs; whnf) (lt_of_ble rfl)
            apply Wk.asg (by conv => lhs; whnf) (lt_of_ble rfl)
            refine Wk.nil (thenA_normal ?_)
            exact ⟨true, by rw [hcb, k0, k1, k2, decide_eq_true k3]; rfl, fun a w => Rel.keep ⟨rfl, .cons rfl rfl (.cons rfl rfl (.cons rfl rfl .nil)), .cons rfl rfl (.cons rfl rfl .nil), hN.mono (by simp [keys])⟩⟩
          · skip
            apply AW.list
            apply Wk.fad 0 0 false fd44_0 rfl (lt_of_ble rfl)
            apply Wk.ld (i := 3) 1 false ty3 rfl rfl (by conv => lhs; whnf) (lt_of_ble rfl)
            apply Wk.dat (inoneb k0) Try.func47 rfl rfl rfl rfl rfl (lt_of_ble rfl)
            apply Wk.mv (by conv => lhs; whnf) (lt_of_ble rfl)
            apply Wk.gon 9 rfl rfl
            apply Wk.fad 2 0 false fd44_2 rfl (lt_of_ble rfl)
            apply Wk.gon 9 rfl rfl
            apply Wk.ld (i := 3) 1 false ty3 rfl rfl (by conv => lhs; whnf) (lt_of_ble rfl)
            apply Wk.gon 9 rfl rfl
            apply Wk.dat (inoneb k1) Try.func47 rfl rfl rfl rfl rfl (lt_of_ble rfl)
            apply Wk.pckT rfl (by conv => lhs; whnf) (lt_of_ble rfl)
            apply Wk.mv (by conv => lhs; whnf) (lt_of_ble rfl)
            apply Wk.gon 14 rfl rfl
            apply Wk.fad 3 0 false fd44_3 rfl (lt_of_ble rfl)
            apply Wk.gon 14 rfl rfl
            apply Wk.ld (i := 3) 1 false ty3 rfl rfl (by conv => lhs; whnf) (lt_of_ble rfl)
            apply Wk.gon 14 rfl rfl
            apply Wk.dat (inoneb k2) Try.func47 rfl rfl rfl rfl rfl (lt_of_ble rfl)
            apply Wk.pckT rfl (by conv => lhs; whnf) (lt_of_ble rfl)
            apply Wk.mv (by conv => lhs; whnf) (lt_of_ble rfl)
            apply Wk.gon 19 rfl rfl
            apply Wk.fad 0 0 false fd44_0 rfl (lt_of_ble rfl)
            apply Wk.gon 19 rfl rfl
            apply Wk.ld (i := 3) 1 false ty3 rfl rfl (by conv => lhs; whnf) (lt_of_ble rfl)
            apply Wk.gon 19 rfl rfl
            apply Wk.fad 2 0 false fd44_2 rfl (lt_of_ble rfl)
            apply Wk.gon 19 rfl rfl
            apply Wk.ld (i := 3) 1 false ty3 rfl rfl (by conv => lhs; whnf) (lt_of_ble rfl)
            apply Wk.gon 19 rfl rfl
            apply Wk.fad 3 0 false fd44_3 rfl (lt_of_ble rfl)
            apply Wk.gon 19 rfl rfl
            apply Wk.ld (i := 3) 1 false ty3 rfl rfl (by conv => lhs; whnf) (lt_of_ble rfl)
            apply Wk.gon 19 rfl rfl
            apply Wk.subi rfl rfl (by have := (inB_iff _ _ _).1 k1; have := (inB_iff _ _ _).1 k2; dsimp only; omega) (lt_of_ble rfl)
            apply Wk.gon 19 rfl rfl
            apply Wk.bin rfl rfl (r := .bool false) (fun w => by simp [go_sem, k3]) (lt_of_ble rfl)
            apply Wk.pckT rfl (by conv => lhs; whnf) (lt_of_ble rfl)
            apply Wk.asg (by conv => lhs; whnf) (lt_of_ble rfl)
            refine Wk.nil (thenA_normal ?_)
            exact ⟨false, by rw [hcb, k0, k1, k2, decide_eq_false k3]; rfl, fun a w => Rel.keep ⟨rfl, .cons rfl rfl (.cons rfl rfl (.cons rfl rfl .nil)), .cons rfl rfl (.cons rfl rfl .nil), hN.mono (by simp [keys])⟩⟩
  rintro cb' rfl
  clear hcb
  refine AW.seq ?_
  cases h0 : Opt.ok ⟨m0, w0, p0, u0, y0⟩
  · skip
    apply AW.list
    apply Wk.ld (i := 2) 5 true ty29 rfl rfl (by conv => lhs; whnf) (lt_of_ble rfl)
    apply Wk.dat (icfgb h0) Try.func48 rfl rfl rfl rfl rfl (lt_of_ble rfl)
    apply Wk.mv (by conv => lhs; whnf) (lt_of_ble rfl)
    apply Wk.goff 31 (ok_move _) rfl rfl (by simp)
    apply Wk.pckF rfl (by conv => lhs; whnf) (lt_of_ble rfl)
    apply Wk.mv (by conv => lhs; whnf) (lt_of_ble rfl)
    apply Wk.goff 34 (ok_faddr fd44_1) rfl rfl (by simp)
    apply Wk.goff 34 (ok_load 3 ty31) rfl rfl (by simp)
    apply Wk.goff 34 (ok_len un31) rfl rfl (by simp)
    apply Wk.goff 34 (ok_datw ((inoneb (n := 0) (hi := 24) rfl).w rfl) Try.func47 rfl rfl) rfl rfl (by simp)
    apply Wk.pckF rfl (by conv => lhs; whnf) (lt_of_ble rfl)
    apply Wk.mv (by conv => lhs; whnf) (lt_of_ble rfl)
    apply Wk.goff 40 (ok_faddr fd44_1) rfl rfl (by simp)
    apply Wk.goff 40 (ok_load 3 ty31) rfl rfl (by simp)
    apply Wk.goff 40 (ok_faddr fd29_2) rfl rfl (by simp)
    apply Wk.goff 40 (ok_load 2 ty3) rfl rfl (by simp)
    apply Wk.goff 40 (ok_datw ((ipartsb [] 0 rfl).w rfl) Try.func49 rfl rfl) rfl rfl (by simp)
    apply Wk.pckF rfl (by conv => lhs; whnf) (lt_of_ble rfl)
    apply Wk.asg (by conv => lhs; whnf) (lt_of_ble rfl)
    refine Wk.nil (AW.ret ?_)
    exact RetQ.ret [] (.cons rfl .nil) ⟨rfl, rfl⟩ none_kept
  · skip
    cases cb'
    · skip
      apply AW.list
      apply Wk.ld (i := 2) 5 true ty29 rfl rfl (by conv => lhs; whnf) (lt_of_ble rfl)
      apply Wk.dat (icfgb h0) Try.func48 rfl rfl rfl rfl rfl (lt_of_ble rfl)
      apply Wk.mv (by conv => lhs; whnf) (lt_of_ble rfl)
      apply Wk.gon 31 rfl rfl
      apply Wk.mv (by conv => lhs; whnf) (lt_of_ble rfl)
      apply Wk.pckT rfl (by conv => lhs; whnf) (lt_of_ble rfl)
      apply Wk.mv (by conv => lhs; whnf) (lt_of_ble rfl)
      apply Wk.goff 34 (ok_faddr fd44_1) rfl rfl (by simp)
      apply Wk.goff 34 (ok_load 3 ty31) rfl rfl (by simp)
      apply Wk.goff 34 (ok_len un31) rfl rfl (by simp)
      apply Wk.goff 34 (ok_datw ((inoneb (n := 0) (hi := 24) rfl).w rfl) Try.func47 rfl rfl) rfl rfl (by simp)
      apply Wk.pckF rfl (by conv => lhs; whnf) (lt_of_ble rfl)
      apply Wk.mv (by conv => lhs; whnf) (lt_of_ble rfl)
      apply Wk.goff 40 (ok_faddr fd44_1) rfl rfl (by simp)
      apply Wk.goff 40 (ok_load 3 ty31) rfl rfl (by simp)
      apply Wk.goff 40 (ok_faddr fd29_2) rfl rfl (by simp)
      apply Wk.goff 40 (ok_load 2 ty3) rfl rfl (by simp)
      apply Wk.goff 40 (ok_datw ((ipartsb [] 0 rfl).w rfl) Try.func49 rfl rfl) rfl rfl (by simp)
      apply Wk.pckF rfl (by conv => lhs; whnf) (lt_of_ble rfl)
      apply Wk.asg (by conv => lhs; whnf) (lt_of_ble rfl)
      refine Wk.nil (AW.ret ?_)
      exact RetQ.ret [] (.cons rfl .nil) ⟨rfl, rfl⟩ none_kept
    · skip
      cases h2 : inB (((qu.map datD).length : Nat) : Int) 0 24
      · skip
        apply AW.list
        apply Wk.ld (i := 2) 5 true ty29 rfl rfl (by conv => lhs; whnf) (lt_of_ble rfl)
        apply Wk.dat (icfgb h0) Try.func48 rfl rfl rfl rfl rfl (lt_of_ble rfl)
        apply Wk.mv (by conv => lhs; whnf) (lt_of_ble rfl)
        apply Wk.gon 31 rfl rfl
        apply Wk.mv (by conv => lhs; whnf) (lt_of_ble rfl)
        apply Wk.pckT rfl (by conv => lhs; whnf) (lt_of_ble rfl)
        apply Wk.mv (by conv => lhs; whnf) (lt_of_ble rfl)
        apply Wk.gon 34 rfl rfl
        apply Wk.fad 1 0 false fd44_1 rfl (lt_of_ble rfl)
        apply Wk.gon 34 rfl rfl
        apply Wk.ld (i := 3) 1 false ty31 rfl rfl (by conv => lhs; whnf) (lt_of_ble rfl)
        apply Wk.gon 34 rfl rfl
        apply Wk.len un31 rfl (lt_of_ble rfl)
        apply Wk.gon 34 rfl rfl
        apply Wk.dat (inoneb h2) Try.func47 rfl rfl rfl rfl rfl (lt_of_ble rfl)
        apply Wk.pckT rfl (by conv => lhs; whnf) (lt_of_ble rfl)
        apply Wk.mv (by conv => lhs; whnf) (lt_of_ble rfl)
        apply Wk.goff 40 (ok_faddr fd44_1) rfl rfl (by simp)
        apply Wk.goff 40 (ok_load 3 ty31) rfl rfl (by simp)
        apply Wk.goff 40 (ok_faddr fd29_2) rfl rfl (by simp)
        apply Wk.goff 40 (ok_load 2 ty3) rfl rfl (by simp)
        apply Wk.goff 40 (ok_datw ((ipartsb [] 0 rfl).w rfl) Try.func49 rfl rfl) rfl rfl (by simp)
        apply Wk.pckF rfl (by conv => lhs; whnf) (lt_of_ble rfl)
        apply Wk.asg (by conv => lhs; whnf) (lt_of_ble rfl)
        refine Wk.nil (AW.ret ?_)
        exact RetQ.ret [] (.cons rfl .nil) ⟨rfl, rfl⟩ none_kept
      · skip
        cases h3 : qu.all (partM p0)
        · skip
          apply AW.list
          apply Wk.ld (i := 2) 5 true ty29 rfl rfl (by conv => lhs; whnf) (lt_of_ble rfl)
          apply Wk.dat (icfgb h0) Try.func48 rfl rfl rfl rfl rfl (lt_of_ble rfl)
          apply Wk.mv (by conv => lhs; whnf) (lt_of_ble rfl)
          apply Wk.gon 31 rfl rfl
          apply Wk.mv (by conv => lhs; whnf) (lt_of_ble rfl)
          apply Wk.pckT rfl (by conv => lhs; whnf) (lt_of_ble rfl)
          apply Wk.mv (by conv => lhs; whnf) (lt_of_ble rfl)
          apply Wk.gon 34 rfl rfl
          apply Wk.fad 1 0 false fd44_1 rfl (lt_of_ble rfl)
          apply Wk.gon 34 rfl rfl
          apply Wk.ld (i := 3) 1 false ty31 rfl rfl (by conv => lhs; whnf) (lt_of_ble rfl)
          apply Wk.gon 34 rfl rfl
          apply Wk.len un31 rfl (lt_of_ble rfl)
          apply Wk.gon 34 rfl rfl
          apply Wk.dat (inoneb h2) Try.func47 rfl rfl rfl rfl rfl (lt_of_ble rfl)
          apply Wk.pckT rfl (by conv => lhs; whnf) (lt_of_ble rfl)
          apply Wk.mv (by conv => lhs; whnf) (lt_of_ble rfl)
          apply Wk.gon 40 rfl rfl
          apply Wk.fad 1 0 false fd44_1 rfl (lt_of_ble rfl)
          apply Wk.gon 40 rfl rfl
          apply Wk.ld (i := 3) 1 false ty31 rfl rfl (by conv => lhs; whnf) (lt_of_ble rfl)
          apply Wk.gon 40 rfl rfl
          apply Wk.fad 2 0 false fd29_2 rfl (lt_of_ble rfl)
          apply Wk.gon 40 rfl rfl
          apply Wk.ld (i := 2) 1 false ty3 rfl rfl (by conv => lhs; whnf) (lt_of_ble rfl)
          apply Wk.gon 40 rfl rfl
          apply Wk.dat (ipartsb qu p0 h3) Try.func49 rfl rfl rfl rfl rfl (lt_of_ble rfl)
          apply Wk.pckT rfl (by conv => lhs; whnf) (lt_of_ble rfl)
          apply Wk.asg (by conv => lhs; whnf) (lt_of_ble rfl)
          refine Wk.nil (AW.ret ?_)
          exact RetQ.ret [] (.cons rfl .nil) ⟨rfl, rfl⟩ none_kept
        · skip
          apply AW.list
          apply Wk.ld (i := 2) 5 true ty29 rfl rfl (by conv => lhs; whnf) (lt_of_ble rfl)
          apply Wk.dat (icfgb h0) Try.func48 rfl rfl rfl rfl rfl (lt_of_ble rfl)
          apply Wk.mv (by conv => lhs; whnf) (lt_of_ble rfl)
          apply Wk.gon 31 rfl rfl
          apply Wk.mv (by conv => lhs; whnf) (lt_of_ble rfl)
          apply Wk.pckT rfl (by conv => lhs; whnf) (lt_of_ble rfl)
          apply Wk.mv (by conv => lhs; whnf) (lt_of_ble rfl)
          apply Wk.gon 34 rfl rfl
          apply Wk.fad 1 0 false fd44_1 rfl (lt_of_ble rfl)
          apply Wk.gon 34 rfl rfl
          apply Wk.ld (i := 3) 1 false ty31 rfl rfl (by conv => lhs; whnf) (lt_of_ble rfl)
          apply Wk.gon 34 rfl rfl
          apply Wk.len un31 rfl (lt_of_ble rfl)
          apply Wk.gon 34 rfl rfl
          apply Wk.dat (inoneb h2) Try.func47 rfl rfl rfl rfl rfl (lt_of_ble rfl)
          apply Wk.pckT rfl (by conv => lhs; whnf) (lt_of_ble rfl)
          apply Wk.mv (by conv => lhs; whnf) (lt_of_ble rfl)
          apply Wk.gon 40 rfl rfl
          apply Wk.fad 1 0 false fd44_1 rfl (lt_of_ble rfl)
          apply Wk.gon 40 rfl rfl
          apply Wk.ld (i := 3) 1 false ty31 rfl rfl (by conv => lhs; whnf) (lt_of_ble rfl)
          apply Wk.gon 40 rfl rfl
          apply Wk.fad 2 0 false fd29_2 rfl (lt_of_ble rfl)
          apply Wk.gon 40 rfl rfl
          apply Wk.ld (i := 2) 1 false ty3 rfl rfl (by conv => lhs; whnf) (lt_of_ble rfl)
          apply Wk.gon 40 rfl rfl
          apply Wk.dat (ipartsb qu p0 h3) Try.func49 rfl rfl rfl rfl rfl (lt_of_ble rfl)
          apply Wk.pckT rfl (by conv => lhs; whnf) (lt_of_ble rfl)
          apply Wk.asg (by conv => lhs; whnf) (lt_of_ble rfl)
          refine Wk.nil (AW.ret ?_)
          exact RetQ.ret [] (.cons rfl .nil) ⟨rfl, rfl⟩ none_kept
theorem icxb {m w p u y : Int} {x : CX} {b : Bool} (h : crdOkB ⟨m, w, p, u, y⟩ x = b) : DataOk Try.prog 21 [cfgA m w p u y, cxA x] (.d (.v (.bool b))) := h ▸ icx_ok m w p u y x
theorem in_cput (x : CX) (l : Nat) (b : Bool) : PostIn [66] (fun r bs => r = .tup [cxO x l, .d (.v (.bool b))] ∧ bs = cxB x.qu l) := by
  rintro r bs ⟨rfl, rfl⟩
  exact ⟨by simp [A.within, A.withins, in_cxO], fun i z h => in_cxB h⟩
/-- A message does not fit. -/
def fullC (u : Int) (x : CX) (n k : Nat) : Prop := x.d = true ∨ u < (n : Int) ∨ 24 < x.qu.length + k
def idleC (x : CX) : Prop := x.d = true ∨ x.v = 0 ∨ x.qu = [] ∨ x.s = 9999
/-- Behind a grant. -/
def takeX (x : CX) (n : Int) : CX := if x.d = true then x else if 255 < x.v + n ∨ 9999 < x.g + n then { x with d := true } else { x with v := x.v + n, g := x.g + n }
end Go.Proofs.Ytdjadeegjbhihaa

/- Two ends and what is on its way, as plain data. -/
namespace Go.Proofs.Ytdjadeegjbhihaa
open Go Go.RowKit
/-- Who hears. -/
structure RX where
  e : Int
  c : Int
  m : Int
  bs : List (Fin 256)
  a : Bool
  u : Bool
  d : Bool
/-- Who grants. -/
structure KX where
  v : Int
  m : Int
  bs : List (Fin 256)
  d : Bool
structure EN where
  tx : TX
  rx : RX
  cx : CX
  kx : KX
  put : List (List (Fin 256))
  got : List (List (Fin 256))
structure MSG where
  bent : Bool
  bs : List (Fin 256)
structure WD where
  m : Int
  w : Int
  p : Int
  u : Int
  y : Int
  ends : List EN
  net : List (List MSG)
  link : Int
def rowsD (ms : List (List (Fin 256))) : D := .row (ms.map fun z => [fbytes z])
def bsC (z : List (Fin 256)) : List D := [fbytes z]
def msgC (x : MSG) : List D := [.v (.bool x.bent), fbytes x.bs]
def enD (e : EN) : List D := [.v (.int .i64 e.tx.n), .v (.int .i64 e.tx.a), partsD e.tx.fl, .v (.int .i64 e.tx.s), partsD e.tx.qu, .v (.bool e.tx.q), .v (.int .i64 e.tx.t), .v (.bool e.tx.h), .v (.int .i64 e.tx.c), .v (.bool e.tx.d),
  .v (.int .i64 e.rx.e), .v (.int .i64 e.rx.c), .v (.int .i64 e.rx.m), fbytes e.rx.bs, .v (.bool e.rx.a), .v (.bool e.rx.u), .v (.bool e.rx.d),
  .v (.int .i64 e.cx.v), partsD e.cx.qu, .v (.int .i64 e.cx.g), .v (.int .i64 e.cx.s), .v (.bool e.cx.d),
  .v (.int .i64 e.kx.v), .v (.int .i64 e.kx.m), fbytes e.kx.bs, .v (.bool e.kx.d), .row (e.put.map bsC), .row (e.got.map bsC)]
def wdD (x : WD) : List D := [.v (.int .i64 x.m), .v (.int .i64 x.w), .v (.int .i64 x.p), .v (.int .i64 x.u), .v (.int .i64 x.y), .row (x.ends.map enD), .row (x.net.map fun l => [.row (l.map msgC)]), .v (.int .i64 x.link)]
def wdA (x : WD) : A := .agg ((wdD x).map A.d)
/-- One that is at its end. -/
def EN.dead (e : EN) : Bool := e.tx.d || (e.rx.d || (e.cx.d || e.kx.d))
def WD.dead (x : WD) : Bool := x.ends.any EN.dead
end Go.Proofs.Ytdjadeegjbhihaa

/- slices.IndexFunc and slices.ContainsFunc over lists that read as data. Written by tools/mk_AbsIdx.py. -/
namespace Go.Proofs.Ytdjadeegjbhihaa
open Go Go.RowKit
def idxN {α : Type} (q : α → Bool) : List α → Option Nat
  | [] => none
  | a :: l => if q a = true then some 0 else (idxN q l).map (· + 1)
def idxI {α : Type} (q : α → Bool) (l : List α) : Int := match idxN q l with | some k => (k : Int) | none => -1
theorem idxN_at {α : Type} {q : α → Bool} : ∀ {l : List α} {k : Nat} {d : α}, l[k]? = some d → q d = true → (∀ a ∈ l.take k, q a = false) → idxN q l = some k
  | [], k, d, h, _, _ => by simp at h
  | a :: l, 0, d, h, hd, _ => by
    obtain rfl := Option.some.inj h
    unfold idxN
    rw [if_pos hd]
  | a :: l, k + 1, d, h, hd, hk => by
    have h0 : q a = false := hk a (by simp)
    unfold idxN
    rw [if_neg (by rw [h0]; simp), idxN_at (l := l) (k := k) (by simpa using h) hd (fun b hb => hk b (by simp only [List.take_succ_cons]; exact List.mem_cons_of_mem _ hb))]
    rfl
theorem idxN_none {α : Type} {q : α → Bool} : ∀ {l : List α}, (∀ a ∈ l, q a = false) → idxN q l = none
  | [], _ => rfl
  | a :: l, h => by
    unfold idxN
    rw [if_neg (by rw [h a (by simp)]; simp), idxN_none (l := l) fun b hb => h b (List.mem_cons_of_mem _ hb)]
    rfl
theorem idxI_at {α : Type} {q : α → Bool} {l : List α} {k : Nat} {d : α} (h : l[k]? = some d) (hd : q d = true) (hk : ∀ a ∈ l.take k, q a = false) : idxI q l = (k : Int) := by
  unfold idxI
  rw [idxN_at h hd hk]
theorem idxI_none {α : Type} {q : α → Bool} {l : List α} (h : ∀ a ∈ l, q a = false) : idxI q l = -1 := by
  unfold idxI
  rw [idxN_none h]
theorem idxN_some {α : Type} {q : α → Bool} : ∀ {l : List α}, l.any q = true → ∃ k, idxN q l = some k
  | [], h => by simp at h
  | a :: l, h => by
    unfold idxN
    split
    · exact ⟨0, rfl⟩
    · rename_i hn
      have h2 : l.any q = true := by
        simp only [List.any_cons, Bool.or_eq_true] at h
        rcases h with h | h
        · exact absurd h hn
        · exact h
      obtain ⟨k, hk⟩ := idxN_some h2
      exact ⟨k + 1, by rw [hk]; rfl⟩
theorem idxI_any {α : Type} {q : α → Bool} (l : List α) : decide (0 ≤ idxI q l) = l.any q := by
  cases h : l.any q with
  | false =>
    rw [idxI_none (q := q) (l := l) fun a ha => by
      cases hq : q a with
      | false => rfl
      | true => rw [List.any_eq_true.2 ⟨a, ha, hq⟩] at h; cases h]
    rfl
  | true =>
    obtain ⟨k, hk⟩ := idxN_some h
    unfold idxI
    rw [hk]
    simp
theorem in_ans {x : A} (hx : x.within [] = true) : PostIn ([] ++ []) (fun r bs => r = x ∧ bs = []) := by
  rintro r bs ⟨rfl, rfl⟩
  exact ⟨hx, fun i x h => by cases h⟩
set_option maxHeartbeats 2000000 in
set_option maxRecDepth 100000 in
theorem idxEn_ok (es : List (EN)) (q : EN → Bool) (hq : ∀ a ∈ es, DataOk Try.prog 63 [(A.agg ((enD a).map A.d))] (.d (.v (.bool (q a))))) : DataOk Try.prog 98 [.d (.row (es.map enD)), .fn (.func 63) [] []] (.d (.v (.int .i64 (idxI q es)))) := by
  have hz : ∀ e ∈ (es.map enD), e.length = 28 := by
    intro e he
    obtain ⟨a, _, rfl⟩ := List.mem_map.1 he
    rfl
  refine Spec.intro (n := 19) (rv := [.tmp 4]) Try.func98 rfl rfl rfl (by simp) fun C hN hX => ?_
  refine AW.bound (x := .tmp 0) (es := (es.map enD)) rfl fun hbnd => ?_
  refine AW.seq ?_
  apply AW.list
  apply Wk.asg (by conv => lhs; whnf) (lt_of_ble rfl)
  refine Wk.nil ?_
  refine AW.seq (AW.seq ?_)
  apply AW.list
  apply Wk.mv (by conv => lhs; whnf) (lt_of_ble rfl)
  apply Wk.len un54 rfl (lt_of_ble rfl)
  apply Wk.mv (by conv => lhs; whnf) (lt_of_ble rfl)
  refine Wk.nil (AW.block ?_)
  refine AW.loop (fun k : Nat => St.of 19 [(0, .d (.row (es.map enD))), (1, .fn (.func 63) [] []), (7, .d (.v (.int .i64 (((es.map enD).length : Nat) : Int)))), (8, .d (.v (.int .i64 (k : Int))))] []) (fun k => k ≤ es.length ∧ ∀ a ∈ es.take k, q a = false) (fun k => es.length - k) 0 ⟨Nat.zero_le _, by simp⟩ ?_ ?_
  · exact fun a w => Rel.keep ⟨rfl, .cons rfl rfl (.cons rfl rfl (.cons rfl rfl (.cons rfl rfl .nil))), .nil, hN.mono (by simp [keys])⟩
  rintro k ⟨hk, hk2⟩
  show AW Try.prog C _ _ (St.of 19 [(0, .d (.row (es.map enD))), (1, .fn (.func 63) [] []), (7, .d (.v (.int .i64 (((es.map enD).length : Nat) : Int)))), (8, .d (.v (.int .i64 (k : Int))))] [])
  refine AW.seq ?_
  apply AW.list
  apply Wk.bin rfl rfl (fun w => by simp [go_sem] <;> rfl) (lt_of_ble rfl)
  refine Wk.nil ?_
  refine AW.seq ?_
  refine AW.cond rfl (fun hc => ?_) (fun hc => ?_)
  · have hlt : k < es.length := by simpa using hc
    obtain ⟨d, hd⟩ : ∃ d, es[k]? = some d := ⟨_, List.getElem?_eq_getElem hlt⟩
    have cd := hq d (List.mem_of_getElem? hd)
    have hget : (es.map enD)[k]? = some (enD d) := by simp [hd]
    have hklt : k < (es.map enD).length := by simpa using hlt
    have hb64 : es.length ≤ 9223372036854775807 := by simpa using hbnd
    refine AW.skip ?_
    repeat (first | refine thenA_normal ?_ | refine inBlockA_normal ?_)
    refine AW.seq (AW.block (AW.seq ?_))
    apply AW.list
    apply Wk.mv (by conv => lhs; whnf) (lt_of_ble rfl)
    apply Wk.asg (by conv => lhs; whnf) (lt_of_ble rfl)
    refine Wk.nil ?_
    refine AW.seq ?_
    apply AW.list
    apply Wk.mv (by conv => lhs; whnf) (lt_of_ble rfl)
    apply Wk.mv (by conv => lhs; whnf) (lt_of_ble rfl)
    apply Wk.mv (by conv => lhs; whnf) (lt_of_ble rfl)
    apply Wk.iad 28 true un54 ty77 rfl rfl hklt hz (lt_of_ble rfl)
    apply Wk.ldr 28 true ty77 rfl hget (by conv => lhs; whnf) (lt_of_ble rfl)
    apply Wk.clf [] [] cd (in_ans rfl) ⟨_, _, rfl, rfl⟩ Try.func63 rfl rfl rfl rfl (fun i hi => by cases hi) rfl (fun i hi => by cases hi) (lt_of_ble rfl)
    rintro r bs' ⟨rfl, rfl⟩
    refine Wk.nil ?_
    refine AW.cond rfl (fun hb => ?_) (fun hb => ?_)
    · refine AW.seq ?_
      apply AW.list
      apply Wk.mv (by conv => lhs; whnf) (lt_of_ble rfl)
      apply Wk.asg (by conv => lhs; whnf) (lt_of_ble rfl)
      refine Wk.nil (AW.ret ?_)
      repeat (first | refine thenA_ret ?_ | refine inBlockA_ret ?_)
      rw [idxI_at hd hb hk2]
      exact RetQ.ret [] (.cons rfl .nil) ⟨rfl, rfl⟩ none_kept
    · refine AW.skip ?_
      repeat (first | refine thenA_normal ?_ | refine inBlockA_normal ?_)
      apply AW.list
      apply Wk.addi rfl rfl (by omega) (lt_of_ble rfl)
      apply Wk.mv (by conv => lhs; whnf) (lt_of_ble rfl)
      refine Wk.nil ?_
      refine ⟨k + 1, ⟨by omega, fun a ha => ?_⟩, by omega, fun a w => Rel.keep ⟨rfl, .cons rfl rfl (.cons rfl rfl (.cons rfl rfl (.cons rfl rfl .nil))), .nil, hN.mono (by simp [keys])⟩⟩
      rw [List.take_add_one, hd] at ha
      rcases List.mem_append.1 ha with h | h
      · exact hk2 a h
      · obtain rfl : a = d := by simpa using h
        exact hb
  · have hke : k = es.length := by
      simp at hc
      omega
    subst hke
    rw [List.take_length] at hk2
    refine AW.exit ?_
    repeat (first | refine inBlockA_same ?_ | refine thenA_exit ?_)
    repeat (first | refine thenA_normal ?_ | refine inBlockA_normal ?_)
    refine AW.seq ?_
    apply AW.list
    apply Wk.asg (by conv => lhs; whnf) (lt_of_ble rfl)
    refine Wk.nil (AW.ret ?_)
    repeat (first | refine thenA_ret ?_ | refine inBlockA_ret ?_)
    rw [idxI_none hk2]
    exact RetQ.ret [] (.cons rfl .nil) ⟨rfl, rfl⟩ none_kept
theorem hasEn_ok (es : List (EN)) (q : EN → Bool) (hq : ∀ a ∈ es, DataOk Try.prog 63 [(A.agg ((enD a).map A.d))] (.d (.v (.bool (q a))))) : DataOk Try.prog 62 [.d (.row (es.map enD)), .fn (.func 63) [] []] (.d (.v (.bool (es.any q)))) := by
  have hi := idxEn_ok es q hq
  have ha := idxI_any (q := q) es
  refine Spec.intro (n := 9) (rv := [.tmp 4]) Try.func62 rfl rfl rfl (by simp) fun C hN hX => ?_
  refine AW.seq ?_
  apply AW.list
  apply Wk.asg (by conv => lhs; whnf) (lt_of_ble rfl)
  refine Wk.nil ?_
  refine AW.seq ?_
  apply AW.list
  apply Wk.mv (by conv => lhs; whnf) (lt_of_ble rfl)
  apply Wk.mv (by conv => lhs; whnf) (lt_of_ble rfl)
  apply Wk.dat hi Try.func98 rfl rfl rfl rfl rfl (lt_of_ble rfl)
  apply Wk.bin rfl rfl (r := .bool (es.any q)) (fun w => by rw [← ha]; simp [go_sem]) (lt_of_ble rfl)
  apply Wk.asg (by conv => lhs; whnf) (lt_of_ble rfl)
  refine Wk.nil (AW.ret ?_)
  repeat (first | refine thenA_ret ?_ | refine inBlockA_ret ?_)
  exact RetQ.ret [] (.cons rfl .nil) ⟨rfl, rfl⟩ none_kept
set_option maxHeartbeats 2000000 in
set_option maxRecDepth 100000 in
theorem idxMs_ok (es : List (List (Fin 256))) (q : List (Fin 256) → Bool) (hq : ∀ a ∈ es, DataOk Try.prog 127 [(A.d (fbytes a))] (.d (.v (.bool (q a))))) : DataOk Try.prog 137 [.d (.row (es.map bsC)), .fn (.func 127) [] []] (.d (.v (.int .i64 (idxI q es)))) := by
  have hz : ∀ e ∈ (es.map bsC), e.length = 1 := by
    intro e he
    obtain ⟨a, _, rfl⟩ := List.mem_map.1 he
    rfl
  refine Spec.intro (n := 19) (rv := [.tmp 4]) Try.func137 rfl rfl rfl (by simp) fun C hN hX => ?_
  refine AW.bound (x := .tmp 0) (es := (es.map bsC)) rfl fun hbnd => ?_
  refine AW.seq ?_
  apply AW.list
  apply Wk.asg (by conv => lhs; whnf) (lt_of_ble rfl)
  refine Wk.nil ?_
  refine AW.seq (AW.seq ?_)
  apply AW.list
  apply Wk.mv (by conv => lhs; whnf) (lt_of_ble rfl)
  apply Wk.len un75 rfl (lt_of_ble rfl)
  apply Wk.mv (by conv => lhs; whnf) (lt_of_ble rfl)
  refine Wk.nil (AW.block ?_)
  refine AW.loop (fun k : Nat => St.of 19 [(0, .d (.row (es.map bsC))), (1, .fn (.func 127) [] []), (7, .d (.v (.int .i64 (((es.map bsC).length : Nat) : Int)))), (8, .d (.v (.int .i64 (k : Int))))] []) (fun k => k ≤ es.length ∧ ∀ a ∈ es.take k, q a = false) (fun k => es.length - k) 0 ⟨Nat.zero_le _, by simp⟩ ?_ ?_
  · exact fun a w => Rel.keep ⟨rfl, .cons rfl rfl (.cons rfl rfl (.cons rfl rfl (.cons rfl rfl .nil))), .nil, hN.mono (by simp [keys])⟩
  rintro k ⟨hk, hk2⟩
  show AW Try.prog C _ _ (St.of 19 [(0, .d (.row (es.map bsC))), (1, .fn (.func 127) [] []), (7, .d (.v (.int .i64 (((es.map bsC).length : Nat) : Int)))), (8, .d (.v (.int .i64 (k : Int))))] [])
  refine AW.seq ?_
  apply AW.list
  apply Wk.bin rfl rfl (fun w => by simp [go_sem] <;> rfl) (lt_of_ble rfl)
  refine Wk.nil ?_
  refine AW.seq ?_
  refine AW.cond rfl (fun hc => ?_) (fun hc => ?_)
  · have hlt : k < es.length := by simpa using hc
    obtain ⟨d, hd⟩ : ∃ d, es[k]? = some d := ⟨_, List.getElem?_eq_getElem hlt⟩
    have cd := hq d (List.mem_of_getElem? hd)
    have hget : (es.map bsC)[k]? = some (bsC d) := by simp [hd]
    have hklt : k < (es.map bsC).length := by simpa using hlt
    have hb64 : es.length ≤ 9223372036854775807 := by simpa using hbnd
    refine AW.skip ?_
    repeat (first | refine thenA_normal ?_ | refine inBlockA_normal ?_)
    refine AW.seq (AW.block (AW.seq ?_))
    apply AW.list
    apply Wk.mv (by conv => lhs; whnf) (lt_of_ble rfl)
    apply Wk.asg (by conv => lhs; whnf) (lt_of_ble rfl)
    refine Wk.nil ?_
    refine AW.seq ?_
    apply AW.list
    apply Wk.mv (by conv => lhs; whnf) (lt_of_ble rfl)
    apply Wk.mv (by conv => lhs; whnf) (lt_of_ble rfl)
    apply Wk.mv (by conv => lhs; whnf) (lt_of_ble rfl)
    apply Wk.iad 1 false un75 ty64 rfl rfl hklt hz (lt_of_ble rfl)
    apply Wk.ldr 1 false ty64 rfl hget (by conv => lhs; whnf) (lt_of_ble rfl)
    apply Wk.clf [] [] cd (in_ans rfl) ⟨_, _, rfl, rfl⟩ Try.func127 rfl rfl rfl rfl (fun i hi => by cases hi) rfl (fun i hi => by cases hi) (lt_of_ble rfl)
    rintro r bs' ⟨rfl, rfl⟩
    refine Wk.nil ?_
    refine AW.cond rfl (fun hb => ?_) (fun hb => ?_)
    · refine AW.seq ?_
      apply AW.list
      apply Wk.mv (by conv => lhs; whnf) (lt_of_ble rfl)
      apply Wk.asg (by conv => lhs; whnf) (lt_of_ble rfl)
      refine Wk.nil (AW.ret ?_)
      repeat (first | refine thenA_ret ?_ | refine inBlockA_ret ?_)
      rw [idxI_at hd hb hk2]
      exact RetQ.ret [] (.cons rfl .nil) ⟨rfl, rfl⟩ none_kept
    · refine AW.skip ?_
      repeat (first | refine thenA_normal ?_ | refine inBlockA_normal ?_)
      apply AW.list
      apply Wk.addi rfl rfl (by omega) (lt_of_ble rfl)
      apply Wk.mv (by conv => lhs; whnf) (lt_of_ble rfl)
      refine Wk.nil ?_
      refine ⟨k + 1, ⟨by omega, fun a ha => ?_⟩, by omega, fun a w => Rel.keep ⟨rfl, .cons rfl rfl (.cons rfl rfl (.cons rfl rfl (.cons rfl rfl .nil))), .nil, hN.mono (by simp [keys])⟩⟩
      rw [List.take_add_one, hd] at ha
      rcases List.mem_append.1 ha with h | h
      · exact hk2 a h
      · obtain rfl : a = d := by simpa using h
        exact hb
  · have hke : k = es.length := by
      simp at hc
      omega
    subst hke
    rw [List.take_length] at hk2
    refine AW.exit ?_
    repeat (first | refine inBlockA_same ?_ | refine thenA_exit ?_)
    repeat (first | refine thenA_normal ?_ | refine inBlockA_normal ?_)
    refine AW.seq ?_
    apply AW.list
    apply Wk.asg (by conv => lhs; whnf) (lt_of_ble rfl)
    refine Wk.nil (AW.ret ?_)
    repeat (first | refine thenA_ret ?_ | refine inBlockA_ret ?_)
    rw [idxI_none hk2]
    exact RetQ.ret [] (.cons rfl .nil) ⟨rfl, rfl⟩ none_kept
theorem hasMs_ok (es : List (List (Fin 256))) (q : List (Fin 256) → Bool) (hq : ∀ a ∈ es, DataOk Try.prog 127 [(A.d (fbytes a))] (.d (.v (.bool (q a))))) : DataOk Try.prog 128 [.d (.row (es.map bsC)), .fn (.func 127) [] []] (.d (.v (.bool (es.any q)))) := by
  have hi := idxMs_ok es q hq
  have ha := idxI_any (q := q) es
  refine Spec.intro (n := 9) (rv := [.tmp 4]) Try.func128 rfl rfl rfl (by simp) fun C hN hX => ?_
  refine AW.seq ?_
  apply AW.list
  apply Wk.asg (by conv => lhs; whnf) (lt_of_ble rfl)
  refine Wk.nil ?_
  refine AW.seq ?_
  apply AW.list
  apply Wk.mv (by conv => lhs; whnf) (lt_of_ble rfl)
  apply Wk.mv (by conv => lhs; whnf) (lt_of_ble rfl)
  apply Wk.dat hi Try.func137 rfl rfl rfl rfl rfl (lt_of_ble rfl)
  apply Wk.bin rfl rfl (r := .bool (es.any q)) (fun w => by rw [← ha]; simp [go_sem]) (lt_of_ble rfl)
  apply Wk.asg (by conv => lhs; whnf) (lt_of_ble rfl)
  refine Wk.nil (AW.ret ?_)
  repeat (first | refine thenA_ret ?_ | refine inBlockA_ret ?_)
  exact RetQ.ret [] (.cons rfl .nil) ⟨rfl, rfl⟩ none_kept
set_option maxHeartbeats 2000000 in
set_option maxRecDepth 100000 in
theorem idxNm_ok (es : List (MSG)) (q : MSG → Bool) (hq : ∀ a ∈ es, DataOk Try.prog 94 [(A.agg ((msgC a).map A.d))] (.d (.v (.bool (q a))))) : DataOk Try.prog 129 [.d (.row (es.map msgC)), .fn (.func 94) [] []] (.d (.v (.int .i64 (idxI q es)))) := by
  have hz : ∀ e ∈ (es.map msgC), e.length = 2 := by
    intro e he
    obtain ⟨a, _, rfl⟩ := List.mem_map.1 he
    rfl
  refine Spec.intro (n := 19) (rv := [.tmp 4]) Try.func129 rfl rfl rfl (by simp) fun C hN hX => ?_
  refine AW.bound (x := .tmp 0) (es := (es.map msgC)) rfl fun hbnd => ?_
  refine AW.seq ?_
  apply AW.list
  apply Wk.asg (by conv => lhs; whnf) (lt_of_ble rfl)
  refine Wk.nil ?_
  refine AW.seq (AW.seq ?_)
  apply AW.list
  apply Wk.mv (by conv => lhs; whnf) (lt_of_ble rfl)
  apply Wk.len un78 rfl (lt_of_ble rfl)
  apply Wk.mv (by conv => lhs; whnf) (lt_of_ble rfl)
  refine Wk.nil (AW.block ?_)
  refine AW.loop (fun k : Nat => St.of 19 [(0, .d (.row (es.map msgC))), (1, .fn (.func 94) [] []), (7, .d (.v (.int .i64 (((es.map msgC).length : Nat) : Int)))), (8, .d (.v (.int .i64 (k : Int))))] []) (fun k => k ≤ es.length ∧ ∀ a ∈ es.take k, q a = false) (fun k => es.length - k) 0 ⟨Nat.zero_le _, by simp⟩ ?_ ?_
  · exact fun a w => Rel.keep ⟨rfl, .cons rfl rfl (.cons rfl rfl (.cons rfl rfl (.cons rfl rfl .nil))), .nil, hN.mono (by simp [keys])⟩
  rintro k ⟨hk, hk2⟩
  show AW Try.prog C _ _ (St.of 19 [(0, .d (.row (es.map msgC))), (1, .fn (.func 94) [] []), (7, .d (.v (.int .i64 (((es.map msgC).length : Nat) : Int)))), (8, .d (.v (.int .i64 (k : Int))))] [])
  refine AW.seq ?_
  apply AW.list
  apply Wk.bin rfl rfl (fun w => by simp [go_sem] <;> rfl) (lt_of_ble rfl)
  refine Wk.nil ?_
  refine AW.seq ?_
  refine AW.cond rfl (fun hc => ?_) (fun hc => ?_)
  · have hlt : k < es.length := by simpa using hc
    obtain ⟨d, hd⟩ : ∃ d, es[k]? = some d := ⟨_, List.getElem?_eq_getElem hlt⟩
    have cd := hq d (List.mem_of_getElem? hd)
    have hget : (es.map msgC)[k]? = some (msgC d) := by simp [hd]
    have hklt : k < (es.map msgC).length := by simpa using hlt
    have hb64 : es.length ≤ 9223372036854775807 := by simpa using hbnd
    refine AW.skip ?_
    repeat (first | refine thenA_normal ?_ | refine inBlockA_normal ?_)
    refine AW.seq (AW.block (AW.seq ?_))
    apply AW.list
    apply Wk.mv (by conv => lhs; whnf) (lt_of_ble rfl)
    apply Wk.asg (by conv => lhs; whnf) (lt_of_ble rfl)
    refine Wk.nil ?_
    refine AW.seq ?_
    apply AW.list
    apply Wk.mv (by conv => lhs; whnf) (lt_of_ble rfl)
    apply Wk.mv (by conv => lhs; whnf) (lt_of_ble rfl)
    apply Wk.mv (by conv => lhs; whnf) (lt_of_ble rfl)
    apply Wk.iad 2 true un78 ty92 rfl rfl hklt hz (lt_of_ble rfl)
    apply Wk.ldr 2 true ty92 rfl hget (by conv => lhs; whnf) (lt_of_ble rfl)
    apply Wk.clf [] [] cd (in_ans rfl) ⟨_, _, rfl, rfl⟩ Try.func94 rfl rfl rfl rfl (fun i hi => by cases hi) rfl (fun i hi => by cases hi) (lt_of_ble rfl)
    rintro r bs' ⟨rfl, rfl⟩
    refine Wk.nil ?_
    refine AW.cond rfl (fun hb => ?_) (fun hb => ?_)
    · refine AW.seq ?_
      apply AW.list
      apply Wk.mv (by conv => lhs; whnf) (lt_of_ble rfl)
      apply Wk.asg (by conv => lhs; whnf) (lt_of_ble rfl)
      refine Wk.nil (AW.ret ?_)
      repeat (first | refine thenA_ret ?_ | refine inBlockA_ret ?_)
      rw [idxI_at hd hb hk2]
      exact RetQ.ret [] (.cons rfl .nil) ⟨rfl, rfl⟩ none_kept
    · refine AW.skip ?_
      repeat (first | refine thenA_normal ?_ | refine inBlockA_normal ?_)
      apply AW.list
      apply Wk.addi rfl rfl (by omega) (lt_of_ble rfl)
      apply Wk.mv (by conv => lhs; whnf) (lt_of_ble rfl)
      refine Wk.nil ?_
      refine ⟨k + 1, ⟨by omega, fun a ha => ?_⟩, by omega, fun a w => Rel.keep ⟨rfl, .cons rfl rfl (.cons rfl rfl (.cons rfl rfl (.cons rfl rfl .nil))), .nil, hN.mono (by simp [keys])⟩⟩
      rw [List.take_add_one, hd] at ha
      rcases List.mem_append.1 ha with h | h
      · exact hk2 a h
      · obtain rfl : a = d := by simpa using h
        exact hb
  · have hke : k = es.length := by
      simp at hc
      omega
    subst hke
    rw [List.take_length] at hk2
    refine AW.exit ?_
    repeat (first | refine inBlockA_same ?_ | refine thenA_exit ?_)
    repeat (first | refine thenA_normal ?_ | refine inBlockA_normal ?_)
    refine AW.seq ?_
    apply AW.list
    apply Wk.asg (by conv => lhs; whnf) (lt_of_ble rfl)
    refine Wk.nil (AW.ret ?_)
    repeat (first | refine thenA_ret ?_ | refine inBlockA_ret ?_)
    rw [idxI_none hk2]
    exact RetQ.ret [] (.cons rfl .nil) ⟨rfl, rfl⟩ none_kept
theorem hasNm_ok (es : List (MSG)) (q : MSG → Bool) (hq : ∀ a ∈ es, DataOk Try.prog 94 [(A.agg ((msgC a).map A.d))] (.d (.v (.bool (q a))))) : DataOk Try.prog 95 [.d (.row (es.map msgC)), .fn (.func 94) [] []] (.d (.v (.bool (es.any q)))) := by
  have hi := idxNm_ok es q hq
  have ha := idxI_any (q := q) es
  refine Spec.intro (n := 9) (rv := [.tmp 4]) Try.func95 rfl rfl rfl (by simp) fun C hN hX => ?_
  refine AW.seq ?_
  apply AW.list
  apply Wk.asg (by conv => lhs; whnf) (lt_of_ble rfl)
  refine Wk.nil ?_
  refine AW.seq ?_
  apply AW.list
  apply Wk.mv (by conv => lhs; whnf) (lt_of_ble rfl)
  apply Wk.mv (by conv => lhs; whnf) (lt_of_ble rfl)
  apply Wk.dat hi Try.func129 rfl rfl rfl rfl rfl (lt_of_ble rfl)
  apply Wk.bin rfl rfl (r := .bool (es.any q)) (fun w => by rw [← ha]; simp [go_sem]) (lt_of_ble rfl)
  apply Wk.asg (by conv => lhs; whnf) (lt_of_ble rfl)
  refine Wk.nil (AW.ret ?_)
  repeat (first | refine thenA_ret ?_ | refine inBlockA_ret ?_)
  exact RetQ.ret [] (.cons rfl .nil) ⟨rfl, rfl⟩ none_kept
end Go.Proofs.Ytdjadeegjbhihaa

/- An element's address in an array that lies in a variable; a list of pieces is made, with room. -/
namespace Go.Proofs.Ytdjadeegjbhihaa
open Go Go.RowKit
section
variable {P : Program} {C : Ctx} {ops : Array Oper} {os : List Oper} {cs : List Cert} {σ : St} {K : St → Prop} {d : Nat} {ty : TypeId} {pos : String} {af : Array Edge}
def rIArr (x y : Operand) (sz len : Nat) (σ : St) : Option A :=
  match aev σ x, aev σ y with
  | .ptr i o, .d (.v (.int _ n)) => if 0 ≤ n ∧ n < (len : Int) then some (.ptr i (o + n.toNat * sz)) else none
  | _, _ => none
theorem ok_iarr {xt e : TypeId} {x y : Operand} {sz len : Nat} {row : Bool} (hu : P.underlying xt = some (.array len e)) (ht : tyOf P e = some (sz, row)) :
    OpOk P C ops ⟨some d, .indexAddr xt x y, ty, pos, af, none⟩ ⟨kof x ++ kof y, [T d], beh1 (rIArr x y sz len) d⟩ :=
  OpOk.read rfl rfl (fun σ => by unfold rIArr; rw [aev_mask (fun k h => List.mem_append_left _ h), aev_mask (fun k h => List.mem_append_right _ h)]) fun σ a w F E H r hR h => by
    unfold rIArr at h
    split at h
    · rename_i i o kd n he hi
      split at h
      · rename_i hc
        obtain rfl := Option.some.inj h
        have hd2 := hR.ev y
        rw [hi] at hd2
        have e2 := den_v hd2
        have hd1 := hR.ev x
        rw [he] at hd1
        obtain ⟨b, hE, hv⟩ := den_ptr hd1
        refine ⟨.pointer (some ⟨b, o + n.toNat * sz, none⟩), ?_, .ptr i _ b hE⟩
        simp [execOp, hv, e2, Instr.indexAt, asIntOf, run_underlying hu, run_size ht, hc, Instr.sureAddr, add_at']
      · cases h
    · cases h
theorem Wk.iap {xt e : TypeId} {x y : Operand} (sz len : Nat) (row : Bool) {kd : IntKind} {i o k : Nat} (hu : P.underlying xt = some (.array len e)) (ht : tyOf P e = some (sz, row)) (hx : aev σ x = .ptr i o) (hy : aev σ y = .d (.v (.int kd (k : Int))))
    (hk : k < len) (hd : d < σ.n) (h : Wk P C ops os cs (σ.put (T d) (.a (.ptr i (o + k * sz)))) K) :
    Wk P C ops (⟨some d, .indexAddr xt x y, ty, pos, af, none⟩ :: os) (⟨kof x ++ kof y, [T d], beh1 (rIArr x y sz len) d⟩ :: cs) σ K :=
  Wk.read (ok_iarr hu ht) _ hd (by simp only [rIArr, hx, hy]; rw [if_pos ⟨by omega, by omega⟩]; simp) h
end
section
variable {C : Ctx} {ops : Array Oper} {os : List Oper} {cs : List Cert} {σ : St} {K : St → Prop} {d : Nat} {ty : TypeId} {pos : String} {af : Array Edge}
def rMkP (x y : Operand) (i : Nat) (e : TypeId) (σ : St) : Option (List V) :=
  match aev σ x, aev σ y, σ.b i with
  | .d (.v (.int .i64 m)), .d (.v (.int .i64 n)), .fresh => if m = 0 ∧ 0 ≤ n ∧ n ≤ 1000 then some [.a (.own i 0), .b (.own 0 e 3 [])] else none
  | _, _, _ => none
set_option maxRecDepth 100000 in
theorem ok_mkp {x y : Operand} (i : Nat) : OpOk Try.prog C ops ⟨some d, .makeSlice 31 x y, ty, pos, af, none⟩ ⟨(kof x ++ kof y) ++ [B i], [T d, B i], behs (rMkP x y i 115) d⟩ :=
  OpOk.turn rfl (by simp [dstIn]) (fun σ => by unfold rMkP; rw [aev_mask fun k hk => List.mem_append_left _ (List.mem_append_left _ hk), aev_mask fun k hk => List.mem_append_left _ (List.mem_append_right _ hk), bx_mask (by simp)]) fun σ a w F E H K Q us hR hd h hK => by
    unfold rMkP at h
    split at h
    · rename_i m n hx hy hb
      split at h
      · rename_i hn
        obtain ⟨rfl, hn0, hn1⟩ := hn
        obtain rfl := Option.some.inj h
        obtain ⟨c, rfl⟩ := Int.eq_ofNat_of_zero_le hn0
        have hvx : a.eval x = .int .i64 0 := by
          have := hR.ev x
          rw [hx] at this
          exact den_v this
        have hvy : a.eval y = .int .i64 (c : Int) := by
          have := hR.ev y
          rw [hy] at this
          exact den_v this
        obtain ⟨i0, hi, hz0, hz1, hz2⟩ := info_parts Try.infoP
        obtain ⟨w', hr, ho, hg⟩ := run_makeSlice_owned (P := Try.prog) w 0 31 115 i0 _ 3 Try.underlying31 hi hz0 hz1 .i64 .i64 c (by omega) (by rw [hz2]; omega) (by unfold maxLen; omega) (Nat.zero_le _)
        have hfr := hR.env.box i
        rw [hb] at hfr
        have hset := hR.setown (i := i) (k := 0) (sz := 3) (e := 115) (es := []) (v := .slice (some ⟨w.heap.size, 0, none⟩) 0 c) (w' := w') (fun b hbk => by rw [hb] at hbk; cases hbk) (fun q _ => hfr.2 q) (by rw [hb]; exact hg)
          ho (by intro c hc; cases hc) Pw.nil (.inr (.inr rfl))
        unfold Oper.wp
        have hrun : (execOp a.eval ⟨some d, .makeSlice 31 x y, ty, pos, af, none⟩).run Try.prog w = .ok (.value (.slice (some ⟨w.heap.size, 0, none⟩) 0 c)) w' := by simp only [execOp, Sem.run_bind, hvx, hvy, hr, Result.andThen_ok, Sem.run_pure]
        rw [hrun, Oper.upon_value]
        refine hK _ _ ?_
        exact (RelE.put (d := d) (r := .own i 0) hset hd (.own i 0 _ (upd2_same _ _ _ _) rfl)).r
      · cases h
    · cases h
set_option maxRecDepth 100000 in
theorem Wk.mkp {x y : Operand} (i n : Nat) (hx : aev σ x = .d (.v (.int .i64 0))) (hy : aev σ y = .d (.v (.int .i64 (n : Int)))) (hb : σ.b i = .fresh) (hn : n ≤ 1000) (hd : d < σ.n) (h : Wk Try.prog C ops os cs ((σ.put (T d) (.a (.own i 0))).put (B i) (.b (.own 0 115 3 []))) K) :
    Wk Try.prog C ops (⟨some d, .makeSlice 31 x y, ty, pos, af, none⟩ :: os) (⟨(kof x ++ kof y) ++ [B i], [T d, B i], behs (rMkP x y i 115) d⟩ :: cs) σ K :=
  Wk.turn (ok_mkp i) [.a (.own i 0), .b (.own 0 115 3 [])] hd (by simp only [rMkP, hx, hy, hb]; rw [if_pos ⟨trivial, by omega, by omega⟩]) h
end
end Go.Proofs.Ytdjadeegjbhihaa

/- Copies of pieces, in new memory: the program's. Written by tools/mk_AbsCopyI.py. -/
namespace Go.Proofs.Ytdjadeegjbhihaa
open Go Go.RowKit
theorem asData_rows' (zs : List Nat) : asData ((zs.map fun z : Nat => [D.v (.int .u8 (z : Int))]).map (·.map A.d)) (zs.map fun z : Nat => [.v (.int .u8 (z : Int))]) := by
  simp [asData, nrms, nrm]
theorem Spec.arg {P : Program} {f : FuncId} {ls ls' : List A} {bs : List (Nat × Bx)} {post : A → List (Nat × Bx) → Prop} (h : Spec P f ls bs post) (hl : ls'.length = ls.length) (hd : ∀ (w : World) (F : Nat → Prop) (E : Nat → Option Nat) (H : Nat → Nat → Option Value) (i : Nat) (a a' : A) (v : Value), ls[i]? = some a → ls'[i]? = some a' → Den w F E H a' v → Den w F E H a v) : Spec P f ls' bs post := by
  intro w F E H args hpo hs hda
  refine h w F E H args hpo (by rw [hs, hl]) (fun i a ha => ?_)
  have hi : i < ls'.length := by rw [hl]; exact (List.getElem?_eq_some_iff.1 ha).1
  exact hd w F E H i a _ _ ha (List.getElem?_eq_getElem hi) (hda i _ (List.getElem?_eq_getElem hi))
theorem Spec.fnc {P : Program} {f g : FuncId} {x : A} {bs : List (Nat × Bx)} {post : A → List (Nat × Bx) → Prop} (h : Spec P f [x, .fn (.func g) [] []] bs post) : Spec P f [x, .d (.v (.func (.func g) #[] #[]))] bs post := by
  refine h.arg rfl fun w F E H i a a' v ha ha' hd => ?_
  match i with
  | 0 => obtain rfl := Option.some.inj ha; obtain rfl := Option.some.inj ha'; exact hd
  | 1 =>
    obtain rfl := Option.some.inj ha
    obtain rfl := Option.some.inj ha'
    obtain rfl := den_v hd
    exact .fn _ _ _ _ _ rfl rfl (fun i a h => by simp at h) (fun i a h => by simp at h)
  | n + 2 => simp at ha
theorem in_cpart (d : Dat) : PostIn ([] ++ []) (fun r bs => r = partN d ∧ bs = []) := by
  rintro r bs ⟨rfl, rfl⟩
  exact ⟨rfl, fun i x h => by cases h⟩
end Go.Proofs.Ytdjadeegjbhihaa

/- WldDead over what values read as. Written by tools/mk_AbsWldDead.py. -/
namespace Go.Proofs.Ytdjadeegjbhihaa
open Go Go.RowKit
theorem enD_len (es : List EN) : ∀ e ∈ es.map enD, e.length = 28 := by
  intro e he
  obtain ⟨a, _, rfl⟩ := List.mem_map.1 he
  rfl
set_option maxHeartbeats 2000000 in
set_option maxRecDepth 100000 in
theorem iwdead1_ok (e : EN) : DataOk Try.prog 63 [.agg ((enD e).map A.d)] (.d (.v (.bool e.dead))) := by
  obtain ⟨⟨n, a, fl, s, qu, q, t, h, c, d0⟩, ⟨e1, c1, m1, b1, a1, u1, d1⟩, ⟨v2, q2, g2, s2, d2⟩, ⟨v3, m3, b3, d3⟩, put, got⟩ := e
  cases d0
  · skip
    cases d1
    · skip
      cases d2
      · skip
        refine Spec.intro (n := 21) (rv := [.tmp 2]) Try.func63 rfl rfl rfl (by simp) fun C hN hX => ?_
        refine AW.seq ?_
        apply AW.list
        apply Wk.bx 1 rfl rfl (lt_of_ble rfl)
        apply Wk.asg (by conv => lhs; whnf) (lt_of_ble rfl)
        refine Wk.nil ?_
        refine AW.seq ?_
        apply AW.list
        apply Wk.fad 0 9 true fd77_0 rfl (lt_of_ble rfl)
        apply Wk.fad 9 0 false fd33_9 rfl (lt_of_ble rfl)
        apply Wk.ld (i := 1) 1 false ty4 rfl rfl (by conv => lhs; whnf) (lt_of_ble rfl)
        apply Wk.mv (by conv => lhs; whnf) (lt_of_ble rfl)
        apply Wk.gon 6 rfl rfl
        apply Wk.fad 10 6 true fd77_1 rfl (lt_of_ble rfl)
        apply Wk.gon 6 rfl rfl
        apply Wk.fad 6 0 false fd72_5 rfl (lt_of_ble rfl)
        apply Wk.gon 6 rfl rfl
        apply Wk.ld (i := 1) 1 false ty4 rfl rfl (by conv => lhs; whnf) (lt_of_ble rfl)
        apply Wk.pckF rfl (by conv => lhs; whnf) (lt_of_ble rfl)
        apply Wk.mv (by conv => lhs; whnf) (lt_of_ble rfl)
        apply Wk.gon 11 rfl rfl
        apply Wk.fad 17 4 true fd77_2 rfl (lt_of_ble rfl)
        apply Wk.gon 11 rfl rfl
        apply Wk.fad 4 0 false fd44_4 rfl (lt_of_ble rfl)
        apply Wk.gon 11 rfl rfl
        apply Wk.ld (i := 1) 1 false ty4 rfl rfl (by conv => lhs; whnf) (lt_of_ble rfl)
        apply Wk.pckF rfl (by conv => lhs; whnf) (lt_of_ble rfl)
        apply Wk.mv (by conv => lhs; whnf) (lt_of_ble rfl)
        apply Wk.gon 16 rfl rfl
        apply Wk.fad 22 3 true fd77_3 rfl (lt_of_ble rfl)
        apply Wk.gon 16 rfl rfl
        apply Wk.fad 3 0 false fd74_2 rfl (lt_of_ble rfl)
        apply Wk.gon 16 rfl rfl
        apply Wk.ld (i := 1) 1 false ty4 rfl rfl (by conv => lhs; whnf) (lt_of_ble rfl)
        apply Wk.pckF rfl (by conv => lhs; whnf) (lt_of_ble rfl)
        apply Wk.asg (by conv => lhs; whnf) (lt_of_ble rfl)
        refine Wk.nil (AW.ret ?_)
        repeat (first | refine thenA_ret ?_ | refine inBlockA_ret ?_)
        exact RetQ.ret [] (.cons rfl .nil) ⟨rfl, rfl⟩ none_kept
      · skip
        refine Spec.intro (n := 21) (rv := [.tmp 2]) Try.func63 rfl rfl rfl (by simp) fun C hN hX => ?_
        refine AW.seq ?_
        apply AW.list
        apply Wk.bx 1 rfl rfl (lt_of_ble rfl)
        apply Wk.asg (by conv => lhs; whnf) (lt_of_ble rfl)
        refine Wk.nil ?_
        refine AW.seq ?_
        apply AW.list
        apply Wk.fad 0 9 true fd77_0 rfl (lt_of_ble rfl)
        apply Wk.fad 9 0 false fd33_9 rfl (lt_of_ble rfl)
        apply Wk.ld (i := 1) 1 false ty4 rfl rfl (by conv => lhs; whnf) (lt_of_ble rfl)
        apply Wk.mv (by conv => lhs; whnf) (lt_of_ble rfl)
        apply Wk.gon 6 rfl rfl
        apply Wk.fad 10 6 true fd77_1 rfl (lt_of_ble rfl)
        apply Wk.gon 6 rfl rfl
        apply Wk.fad 6 0 false fd72_5 rfl (lt_of_ble rfl)
        apply Wk.gon 6 rfl rfl
        apply Wk.ld (i := 1) 1 false ty4 rfl rfl (by conv => lhs; whnf) (lt_of_ble rfl)
        apply Wk.pckF rfl (by conv => lhs; whnf) (lt_of_ble rfl)
        apply Wk.mv (by conv => lhs; whnf) (lt_of_ble rfl)
        apply Wk.gon 11 rfl rfl
        apply Wk.fad 17 4 true fd77_2 rfl (lt_of_ble rfl)
        apply Wk.gon 11 rfl rfl
        apply Wk.fad 4 0 false fd44_4 rfl (lt_of_ble rfl)
        apply Wk.gon 11 rfl rfl
        apply Wk.ld (i := 1) 1 false ty4 rfl rfl (by conv => lhs; whnf) (lt_of_ble rfl)
        apply Wk.pckF rfl (by conv => lhs; whnf) (lt_of_ble rfl)
        apply Wk.mv (by conv => lhs; whnf) (lt_of_ble rfl)
        apply Wk.goff 16 (ok_faddr fd77_3) rfl rfl (by simp)
        apply Wk.goff 16 (ok_faddr fd74_2) rfl rfl (by simp)
        apply Wk.goff 16 (ok_load 1 ty4) rfl rfl (by simp)
        apply Wk.pckT rfl (by conv => lhs; whnf) (lt_of_ble rfl)
        apply Wk.asg (by conv => lhs; whnf) (lt_of_ble rfl)
        refine Wk.nil (AW.ret ?_)
        repeat (first | refine thenA_ret ?_ | refine inBlockA_ret ?_)
        exact RetQ.ret [] (.cons rfl .nil) ⟨rfl, rfl⟩ none_kept
    · skip
      refine Spec.intro (n := 21) (rv := [.tmp 2]) Try.func63 rfl rfl rfl (by simp) fun C hN hX => ?_
      refine AW.seq ?_
      apply AW.list
      apply Wk.bx 1 rfl rfl (lt_of_ble rfl)
      apply Wk.asg (by conv => lhs; whnf) (lt_of_ble rfl)
      refine Wk.nil ?_
      refine AW.seq ?_
      apply AW.list
      apply Wk.fad 0 9 true fd77_0 rfl (lt_of_ble rfl)
      apply Wk.fad 9 0 false fd33_9 rfl (lt_of_ble rfl)
      apply Wk.ld (i := 1) 1 false ty4 rfl rfl (by conv => lhs; whnf) (lt_of_ble rfl)
      apply Wk.mv (by conv => lhs; whnf) (lt_of_ble rfl)
      apply Wk.gon 6 rfl rfl
      apply Wk.fad 10 6 true fd77_1 rfl (lt_of_ble rfl)
      apply Wk.gon 6 rfl rfl
      apply Wk.fad 6 0 false fd72_5 rfl (lt_of_ble rfl)
      apply Wk.gon 6 rfl rfl
      apply Wk.ld (i := 1) 1 false ty4 rfl rfl (by conv => lhs; whnf) (lt_of_ble rfl)
      apply Wk.pckF rfl (by conv => lhs; whnf) (lt_of_ble rfl)
      apply Wk.mv (by conv => lhs; whnf) (lt_of_ble rfl)
      apply Wk.goff 11 (ok_faddr fd77_2) rfl rfl (by simp)
      apply Wk.goff 11 (ok_faddr fd44_4) rfl rfl (by simp)
      apply Wk.goff 11 (ok_load 1 ty4) rfl rfl (by simp)
      apply Wk.pckT rfl (by conv => lhs; whnf) (lt_of_ble rfl)
      apply Wk.mv (by conv => lhs; whnf) (lt_of_ble rfl)
      apply Wk.goff 16 (ok_faddr fd77_3) rfl rfl (by simp)
      apply Wk.goff 16 (ok_faddr fd74_2) rfl rfl (by simp)
      apply Wk.goff 16 (ok_load 1 ty4) rfl rfl (by simp)
      apply Wk.pckT rfl (by conv => lhs; whnf) (lt_of_ble rfl)
      apply Wk.asg (by conv => lhs; whnf) (lt_of_ble rfl)
      refine Wk.nil (AW.ret ?_)
      repeat (first | refine thenA_ret ?_ | refine inBlockA_ret ?_)
      exact RetQ.ret [] (.cons rfl .nil) ⟨rfl, rfl⟩ none_kept
  · skip
    refine Spec.intro (n := 21) (rv := [.tmp 2]) Try.func63 rfl rfl rfl (by simp) fun C hN hX => ?_
    refine AW.seq ?_
    apply AW.list
    apply Wk.bx 1 rfl rfl (lt_of_ble rfl)
    apply Wk.asg (by conv => lhs; whnf) (lt_of_ble rfl)
    refine Wk.nil ?_
    refine AW.seq ?_
    apply AW.list
    apply Wk.fad 0 9 true fd77_0 rfl (lt_of_ble rfl)
    apply Wk.fad 9 0 false fd33_9 rfl (lt_of_ble rfl)
    apply Wk.ld (i := 1) 1 false ty4 rfl rfl (by conv => lhs; whnf) (lt_of_ble rfl)
    apply Wk.mv (by conv => lhs; whnf) (lt_of_ble rfl)
    apply Wk.goff 6 (ok_faddr fd77_1) rfl rfl (by simp)
    apply Wk.goff 6 (ok_faddr fd72_5) rfl rfl (by simp)
    apply Wk.goff 6 (ok_load 1 ty4) rfl rfl (by simp)
    apply Wk.pckT rfl (by conv => lhs; whnf) (lt_of_ble rfl)
    apply Wk.mv (by conv => lhs; whnf) (lt_of_ble rfl)
    apply Wk.goff 11 (ok_faddr fd77_2) rfl rfl (by simp)
    apply Wk.goff 11 (ok_faddr fd44_4) rfl rfl (by simp)
    apply Wk.goff 11 (ok_load 1 ty4) rfl rfl (by simp)
    apply Wk.pckT rfl (by conv => lhs; whnf) (lt_of_ble rfl)
    apply Wk.mv (by conv => lhs; whnf) (lt_of_ble rfl)
    apply Wk.goff 16 (ok_faddr fd77_3) rfl rfl (by simp)
    apply Wk.goff 16 (ok_faddr fd74_2) rfl rfl (by simp)
    apply Wk.goff 16 (ok_load 1 ty4) rfl rfl (by simp)
    apply Wk.pckT rfl (by conv => lhs; whnf) (lt_of_ble rfl)
    apply Wk.asg (by conv => lhs; whnf) (lt_of_ble rfl)
    refine Wk.nil (AW.ret ?_)
    repeat (first | refine thenA_ret ?_ | refine inBlockA_ret ?_)
    exact RetQ.ret [] (.cons rfl .nil) ⟨rfl, rfl⟩ none_kept
theorem iwdead_ok (x : WD) : DataOk Try.prog 29 [wdA x] (.d (.v (.bool x.dead))) := by
  have hh := Spec.fnc (hasEn_ok x.ends EN.dead fun e _ => iwdead1_ok e)
  obtain ⟨m, w, p, u, y, ends, net, link⟩ := x
  refine Spec.intro (n := 6) (rv := [.tmp 2]) Try.func29 rfl rfl rfl (by simp) fun C hN hX => ?_
  refine AW.seq ?_
  apply AW.list
  apply Wk.bx 1 rfl rfl (lt_of_ble rfl)
  apply Wk.asg (by conv => lhs; whnf) (lt_of_ble rfl)
  refine Wk.nil ?_
  refine AW.seq ?_
  apply AW.list
  apply Wk.fad 5 0 false fd57_1 rfl (lt_of_ble rfl)
  apply Wk.ld (i := 1) 1 false ty54 rfl rfl (by conv => lhs; whnf) (lt_of_ble rfl)
  apply Wk.dat hh Try.func62 rfl rfl rfl rfl rfl (lt_of_ble rfl)
  apply Wk.asg (by conv => lhs; whnf) (lt_of_ble rfl)
  refine Wk.nil (AW.ret ?_)
  repeat (first | refine thenA_ret ?_ | refine inBlockA_ret ?_)
  exact RetQ.ret [] (.cons rfl .nil) ⟨rfl, rfl⟩ none_kept
set_option maxHeartbeats 4000000 in
set_option maxRecDepth 100000 in
theorem swdead_ok (x : WD) (hx : x.ends.length ≤ 1000000000) : DataOk Try.prog 28 [wdA x] (.d (.v (.bool x.dead))) := by
  obtain ⟨m, w, p, u, y, ends, net, link⟩ := x
  simp only at hx
  refine Spec.intro (n := 35) (rv := [.tmp 2]) Try.func28 rfl rfl rfl (by simp) fun C hN hX => ?_
  refine AW.seq ?_
  apply AW.list
  apply Wk.bx 1 rfl rfl (lt_of_ble rfl)
  apply Wk.asg (by conv => lhs; whnf) (lt_of_ble rfl)
  refine Wk.nil ?_
  refine AW.seq (AW.seq ?_)
  apply AW.list
  apply Wk.asg (by conv => lhs; whnf) (lt_of_ble rfl)
  refine Wk.nil (AW.block ?_)
  refine AW.loop (fun k : Nat => St.of 35 [(1, .ptr 1 0), (3, .d (.v (.int .i64 (k : Int))))] [(1, .var ((wdD ⟨m, w, p, u, y, ends, net, link⟩).map A.d))]) (fun k => k ≤ ends.length ∧ ∀ a ∈ ends.take k, a.dead = false) (fun k => ends.length - k) 0 ⟨Nat.zero_le _, by simp⟩ ?_ ?_
  · exact fun a w => Rel.keep ⟨rfl, .cons rfl rfl (.cons rfl rfl .nil), .cons rfl rfl .nil, hN.mono (by simp [keys])⟩
  rintro k ⟨hk, hk2⟩
  show AW Try.prog C _ _ (St.of 35 [(1, .ptr 1 0), (3, .d (.v (.int .i64 (k : Int))))] [(1, .var ((wdD ⟨m, w, p, u, y, ends, net, link⟩).map A.d))])
  have el : (((ends.map enD).length : Nat) : Int) = (ends.length : Int) := by rw [List.length_map]
  refine AW.seq (AW.seq ?_)
  by_cases hlt : k < ends.length
  · apply AW.list
    apply Wk.mv (by conv => lhs; whnf) (lt_of_ble rfl)
    apply Wk.fad 5 0 false fd57_1 rfl (lt_of_ble rfl)
    apply Wk.ld (i := 1) 1 false ty54 rfl rfl (by conv => lhs; whnf) (lt_of_ble rfl)
    apply Wk.len un54 rfl (lt_of_ble rfl)
    apply Wk.bin rfl rfl (r := .bool true) (fun w => by rw [el]; simp [go_sem]; omega) (lt_of_ble rfl)
    refine Wk.nil ?_
    refine AW.cond rfl (fun _ => AW.skip ?_) (fun hc => by cases hc)
    repeat (first | refine thenA_normal ?_ | refine inBlockA_normal ?_)
    obtain ⟨e, hd⟩ : ∃ d, ends[k]? = some d := ⟨_, List.getElem?_eq_getElem hlt⟩
    have hget : (ends.map enD)[k]? = some (enD e) := by simp [hd]
    have hklt : k < (ends.map enD).length := by simpa using hlt
    have next : e.dead = false → ∃ k', (k' ≤ ends.length ∧ ∀ a ∈ ends.take k', a.dead = false) ∧ ends.length - k' < ends.length - k ∧ k' = k + 1 := fun hb => ⟨k + 1, ⟨by omega, fun a ha => by
      rw [List.take_add_one, hd] at ha
      rcases List.mem_append.1 ha with h | h
      · exact hk2 a h
      · obtain rfl : a = e := by simpa using h
        exact hb⟩, by omega, rfl⟩
    have done : e.dead = true → WD.dead ⟨m, w, p, u, y, ends, net, link⟩ = true := fun hb => List.any_eq_true.2 ⟨e, List.mem_of_getElem? hd, hb⟩
    refine AW.seq (AW.block (AW.seq ?_))
    obtain ⟨⟨n, a, fl, s, qu, q, t, h, c, d0⟩, ⟨e1, c1, m1, b1, a1, u1, d1⟩, ⟨v2, q2, g2, s2, d2⟩, ⟨v3, m3, b3, d3⟩, put, got⟩ := e
    apply AW.list
    apply Wk.fad 5 0 false fd57_1 rfl (lt_of_ble rfl)
    apply Wk.ld (i := 1) 1 false ty54 rfl rfl (by conv => lhs; whnf) (lt_of_ble rfl)
    apply Wk.mv (by conv => lhs; whnf) (lt_of_ble rfl)
    apply Wk.iad 28 true un54 ty77 rfl rfl hklt (enD_len _) (lt_of_ble rfl)
    apply Wk.ldr 28 true ty77 rfl hget (by conv => lhs; whnf) (lt_of_ble rfl)
    apply Wk.alc 4 [.int .i64 0, .int .i64 0, .slice none 0 0, .int .i64 0, .slice none 0 0, .bool false, .int .i64 0, .bool false, .int .i64 0, .bool false, .int .i64 0, .int .i64 0, .int .i64 0, .slice none 0 0, .bool false, .bool false, .bool false, .int .i64 0, .slice none 0 0, .int .i64 0, .int .i64 0, .bool false, .int .i64 0, .int .i64 0, .slice none 0 0, .bool false, .slice none 0 0, .slice none 0 0] ze77 rfl rfl (lt_of_ble rfl)
    apply Wk.sto (i := 4) 28 true ty77 rfl rfl rfl rfl (Nat.le_of_ble_eq_true rfl) (lt_of_ble rfl)
    refine Wk.nil ?_
    refine AW.seq ?_

    cases d0
    · skip
      cases d1
      · skip
        cases d2
        · skip
          cases d3
          · skip
            apply AW.list
            apply Wk.fad 0 9 true fd77_0 rfl (lt_of_ble rfl)
            apply Wk.fad 9 0 false fd33_9 rfl (lt_of_ble rfl)
            apply Wk.ld (i := 4) 1 false ty4 rfl rfl (by conv => lhs; whnf) (lt_of_ble rfl)
            apply Wk.mv (by conv => lhs; whnf) (lt_of_ble rfl)
            apply Wk.gon 20 rfl rfl
            apply Wk.fad 10 6 true fd77_1 rfl (lt_of_ble rfl)
            apply Wk.gon 20 rfl rfl
            apply Wk.fad 6 0 false fd72_5 rfl (lt_of_ble rfl)
            apply Wk.gon 20 rfl rfl
            apply Wk.ld (i := 4) 1 false ty4 rfl rfl (by conv => lhs; whnf) (lt_of_ble rfl)
            apply Wk.pckF rfl (by conv => lhs; whnf) (lt_of_ble rfl)
            apply Wk.mv (by conv => lhs; whnf) (lt_of_ble rfl)
            apply Wk.gon 25 rfl rfl
            apply Wk.fad 17 4 true fd77_2 rfl (lt_of_ble rfl)
            apply Wk.gon 25 rfl rfl
            apply Wk.fad 4 0 false fd44_4 rfl (lt_of_ble rfl)
            apply Wk.gon 25 rfl rfl
            apply Wk.ld (i := 4) 1 false ty4 rfl rfl (by conv => lhs; whnf) (lt_of_ble rfl)
            apply Wk.pckF rfl (by conv => lhs; whnf) (lt_of_ble rfl)
            apply Wk.mv (by conv => lhs; whnf) (lt_of_ble rfl)
            apply Wk.gon 30 rfl rfl
            apply Wk.fad 22 3 true fd77_3 rfl (lt_of_ble rfl)
            apply Wk.gon 30 rfl rfl
            apply Wk.fad 3 0 false fd74_2 rfl (lt_of_ble rfl)
            apply Wk.gon 30 rfl rfl
            apply Wk.ld (i := 4) 1 false ty4 rfl rfl (by conv => lhs; whnf) (lt_of_ble rfl)
            apply Wk.pckF rfl (by conv => lhs; whnf) (lt_of_ble rfl)
            refine Wk.nil ?_
            refine AW.cond rfl (fun hc => by cases hc) (fun _ => AW.skip ?_)
            repeat (first | refine thenA_normal ?_ | refine inBlockA_normal ?_)
            apply AW.list
            apply Wk.mv (by conv => lhs; whnf) (lt_of_ble rfl)
            apply Wk.addn (b := 1) rfl rfl (by omega) (lt_of_ble rfl)
            apply Wk.asg (by conv => lhs; whnf) (lt_of_ble rfl)
            refine Wk.nil ?_
            repeat (first | refine thenA_normal ?_ | refine inBlockA_normal ?_)
            obtain ⟨k', h1, h2, rfl⟩ := next rfl
            exact ⟨k + 1, h1, h2, fun a w => Rel.keep ⟨rfl, .cons rfl rfl (.cons rfl rfl .nil), .cons rfl rfl .nil, hN.mono (by simp [keys])⟩⟩
          · skip
            apply AW.list
            apply Wk.fad 0 9 true fd77_0 rfl (lt_of_ble rfl)
            apply Wk.fad 9 0 false fd33_9 rfl (lt_of_ble rfl)
            apply Wk.ld (i := 4) 1 false ty4 rfl rfl (by conv => lhs; whnf) (lt_of_ble rfl)
            apply Wk.mv (by conv => lhs; whnf) (lt_of_ble rfl)
            apply Wk.gon 20 rfl rfl
            apply Wk.fad 10 6 true fd77_1 rfl (lt_of_ble rfl)
            apply Wk.gon 20 rfl rfl
            apply Wk.fad 6 0 false fd72_5 rfl (lt_of_ble rfl)
            apply Wk.gon 20 rfl rfl
            apply Wk.ld (i := 4) 1 false ty4 rfl rfl (by conv => lhs; whnf) (lt_of_ble rfl)
            apply Wk.pckF rfl (by conv => lhs; whnf) (lt_of_ble rfl)
            apply Wk.mv (by conv => lhs; whnf) (lt_of_ble rfl)
            apply Wk.gon 25 rfl rfl
            apply Wk.fad 17 4 true fd77_2 rfl (lt_of_ble rfl)
            apply Wk.gon 25 rfl rfl
            apply Wk.fad 4 0 false fd44_4 rfl (lt_of_ble rfl)
            apply Wk.gon 25 rfl rfl
            apply Wk.ld (i := 4) 1 false ty4 rfl rfl (by conv => lhs; whnf) (lt_of_ble rfl)
            apply Wk.pckF rfl (by conv => lhs; whnf) (lt_of_ble rfl)
            apply Wk.mv (by conv => lhs; whnf) (lt_of_ble rfl)
            apply Wk.gon 30 rfl rfl
            apply Wk.fad 22 3 true fd77_3 rfl (lt_of_ble rfl)
            apply Wk.gon 30 rfl rfl
            apply Wk.fad 3 0 false fd74_2 rfl (lt_of_ble rfl)
            apply Wk.gon 30 rfl rfl
            apply Wk.ld (i := 4) 1 false ty4 rfl rfl (by conv => lhs; whnf) (lt_of_ble rfl)
            apply Wk.pckF rfl (by conv => lhs; whnf) (lt_of_ble rfl)
            refine Wk.nil ?_
            refine AW.cond rfl (fun _ => ?_) (fun hc => by cases hc)
            refine AW.seq ?_
            apply AW.list
            apply Wk.asg (by conv => lhs; whnf) (lt_of_ble rfl)
            rw [done rfl]
            refine Wk.nil (AW.ret ?_)
            repeat (first | refine thenA_ret ?_ | refine inBlockA_ret ?_)
            exact RetQ.ret [] (.cons rfl .nil) ⟨rfl, rfl⟩ none_kept
        · skip
          apply AW.list
          apply Wk.fad 0 9 true fd77_0 rfl (lt_of_ble rfl)
          apply Wk.fad 9 0 false fd33_9 rfl (lt_of_ble rfl)
          apply Wk.ld (i := 4) 1 false ty4 rfl rfl (by conv => lhs; whnf) (lt_of_ble rfl)
          apply Wk.mv (by conv => lhs; whnf) (lt_of_ble rfl)
          apply Wk.gon 20 rfl rfl
          apply Wk.fad 10 6 true fd77_1 rfl (lt_of_ble rfl)
          apply Wk.gon 20 rfl rfl
          apply Wk.fad 6 0 false fd72_5 rfl (lt_of_ble rfl)
          apply Wk.gon 20 rfl rfl
          apply Wk.ld (i := 4) 1 false ty4 rfl rfl (by conv => lhs; whnf) (lt_of_ble rfl)
          apply Wk.pckF rfl (by conv => lhs; whnf) (lt_of_ble rfl)
          apply Wk.mv (by conv => lhs; whnf) (lt_of_ble rfl)
          apply Wk.gon 25 rfl rfl
          apply Wk.fad 17 4 true fd77_2 rfl (lt_of_ble rfl)
          apply Wk.gon 25 rfl rfl
          apply Wk.fad 4 0 false fd44_4 rfl (lt_of_ble rfl)
          apply Wk.gon 25 rfl rfl
          apply Wk.ld (i := 4) 1 false ty4 rfl rfl (by conv => lhs; whnf) (lt_of_ble rfl)
          apply Wk.pckF rfl (by conv => lhs; whnf) (lt_of_ble rfl)
          apply Wk.mv (by conv => lhs; whnf) (lt_of_ble rfl)
          apply Wk.goff 30 (ok_faddr fd77_3) rfl rfl (by simp)
          apply Wk.goff 30 (ok_faddr fd74_2) rfl rfl (by simp)
          apply Wk.goff 30 (ok_load 4 ty4) rfl rfl (by simp)
          apply Wk.pckT rfl (by conv => lhs; whnf) (lt_of_ble rfl)
          refine Wk.nil ?_
          refine AW.cond rfl (fun _ => ?_) (fun hc => by cases hc)
          refine AW.seq ?_
          apply AW.list
          apply Wk.asg (by conv => lhs; whnf) (lt_of_ble rfl)
          rw [done rfl]
          refine Wk.nil (AW.ret ?_)
          repeat (first | refine thenA_ret ?_ | refine inBlockA_ret ?_)
          exact RetQ.ret [] (.cons rfl .nil) ⟨rfl, rfl⟩ none_kept
      · skip
        apply AW.list
        apply Wk.fad 0 9 true fd77_0 rfl (lt_of_ble rfl)
        apply Wk.fad 9 0 false fd33_9 rfl (lt_of_ble rfl)
        apply Wk.ld (i := 4) 1 false ty4 rfl rfl (by conv => lhs; whnf) (lt_of_ble rfl)
        apply Wk.mv (by conv => lhs; whnf) (lt_of_ble rfl)
        apply Wk.gon 20 rfl rfl
        apply Wk.fad 10 6 true fd77_1 rfl (lt_of_ble rfl)
        apply Wk.gon 20 rfl rfl
        apply Wk.fad 6 0 false fd72_5 rfl (lt_of_ble rfl)
        apply Wk.gon 20 rfl rfl
        apply Wk.ld (i := 4) 1 false ty4 rfl rfl (by conv => lhs; whnf) (lt_of_ble rfl)
        apply Wk.pckF rfl (by conv => lhs; whnf) (lt_of_ble rfl)
        apply Wk.mv (by conv => lhs; whnf) (lt_of_ble rfl)
        apply Wk.goff 25 (ok_faddr fd77_2) rfl rfl (by simp)
        apply Wk.goff 25 (ok_faddr fd44_4) rfl rfl (by simp)
        apply Wk.goff 25 (ok_load 4 ty4) rfl rfl (by simp)
        apply Wk.pckT rfl (by conv => lhs; whnf) (lt_of_ble rfl)
        apply Wk.mv (by conv => lhs; whnf) (lt_of_ble rfl)
        apply Wk.goff 30 (ok_faddr fd77_3) rfl rfl (by simp)
        apply Wk.goff 30 (ok_faddr fd74_2) rfl rfl (by simp)
        apply Wk.goff 30 (ok_load 4 ty4) rfl rfl (by simp)
        apply Wk.pckT rfl (by conv => lhs; whnf) (lt_of_ble rfl)
        refine Wk.nil ?_
        refine AW.cond rfl (fun _ => ?_) (fun hc => by cases hc)
        refine AW.seq ?_
        apply AW.list
        apply Wk.asg (by conv => lhs; whnf) (lt_of_ble rfl)
        rw [done rfl]
        refine Wk.nil (AW.ret ?_)
        repeat (first | refine thenA_ret ?_ | refine inBlockA_ret ?_)
        exact RetQ.ret [] (.cons rfl .nil) ⟨rfl, rfl⟩ none_kept
    · skip
      apply AW.list
      apply Wk.fad 0 9 true fd77_0 rfl (lt_of_ble rfl)
      apply Wk.fad 9 0 false fd33_9 rfl (lt_of_ble rfl)
      apply Wk.ld (i := 4) 1 false ty4 rfl rfl (by conv => lhs; whnf) (lt_of_ble rfl)
      apply Wk.mv (by conv => lhs; whnf) (lt_of_ble rfl)
      apply Wk.goff 20 (ok_faddr fd77_1) rfl rfl (by simp)
      apply Wk.goff 20 (ok_faddr fd72_5) rfl rfl (by simp)
      apply Wk.goff 20 (ok_load 4 ty4) rfl rfl (by simp)
      apply Wk.pckT rfl (by conv => lhs; whnf) (lt_of_ble rfl)
      apply Wk.mv (by conv => lhs; whnf) (lt_of_ble rfl)
      apply Wk.goff 25 (ok_faddr fd77_2) rfl rfl (by simp)
      apply Wk.goff 25 (ok_faddr fd44_4) rfl rfl (by simp)
      apply Wk.goff 25 (ok_load 4 ty4) rfl rfl (by simp)
      apply Wk.pckT rfl (by conv => lhs; whnf) (lt_of_ble rfl)
      apply Wk.mv (by conv => lhs; whnf) (lt_of_ble rfl)
      apply Wk.goff 30 (ok_faddr fd77_3) rfl rfl (by simp)
      apply Wk.goff 30 (ok_faddr fd74_2) rfl rfl (by simp)
      apply Wk.goff 30 (ok_load 4 ty4) rfl rfl (by simp)
      apply Wk.pckT rfl (by conv => lhs; whnf) (lt_of_ble rfl)
      refine Wk.nil ?_
      refine AW.cond rfl (fun _ => ?_) (fun hc => by cases hc)
      refine AW.seq ?_
      apply AW.list
      apply Wk.asg (by conv => lhs; whnf) (lt_of_ble rfl)
      rw [done rfl]
      refine Wk.nil (AW.ret ?_)
      repeat (first | refine thenA_ret ?_ | refine inBlockA_ret ?_)
      exact RetQ.ret [] (.cons rfl .nil) ⟨rfl, rfl⟩ none_kept
  · have hke : k = ends.length := by omega
    subst hke
    rw [List.take_length] at hk2
    apply AW.list
    apply Wk.mv (by conv => lhs; whnf) (lt_of_ble rfl)
    apply Wk.fad 5 0 false fd57_1 rfl (lt_of_ble rfl)
    apply Wk.ld (i := 1) 1 false ty54 rfl rfl (by conv => lhs; whnf) (lt_of_ble rfl)
    apply Wk.len un54 rfl (lt_of_ble rfl)
    apply Wk.bin rfl rfl (r := .bool false) (fun w => by rw [el]; simp [go_sem]) (lt_of_ble rfl)
    refine Wk.nil ?_
    refine AW.cond rfl (fun hc => by cases hc) (fun _ => AW.exit ?_)
    repeat (first | refine inBlockA_same ?_ | refine thenA_exit ?_)
    repeat (first | refine thenA_normal ?_ | refine inBlockA_normal ?_)
    refine AW.seq ?_
    apply AW.list
    apply Wk.asg (by conv => lhs; whnf) (lt_of_ble rfl)
    rw [show WD.dead ⟨m, w, p, u, y, ends, net, link⟩ = false from List.any_eq_false.2 fun e he => by rw [hk2 e he]; simp]
    refine Wk.nil (AW.ret ?_)
    repeat (first | refine thenA_ret ?_ | refine inBlockA_ret ?_)
    exact RetQ.ret [] (.cons rfl .nil) ⟨rfl, rfl⟩ none_kept
end Go.Proofs.Ytdjadeegjbhihaa

/- What has come of a message, drawn; over what values read as. -/
namespace Go.Proofs.Ytdjadeegjbhihaa
open Go
def joinA (m : Int) (bs : List (Fin 256)) : A := .agg [.d (.v (.int .i64 m)), .d (fbytes bs)]
def joinPost (_ : List A) (r : A) : Prop := ∃ (m : Int) (bs : List (Fin 256)), r = joinA m bs ∧ -1 ≤ m ∧ m ≤ 100 ∧ bs.length ≤ 1000
end Go.Proofs.Ytdjadeegjbhihaa

/- Who hears, drawn; over what values read as. -/
namespace Go.Proofs.Ytdjadeegjbhihaa
open Go
def rxA (e c m : Int) (bs : List (Fin 256)) (a u d : Bool) : A := .agg [.d (.v (.int .i64 e)), .d (.v (.int .i64 c)), .d (.v (.int .i64 m)), .d (fbytes bs), .d (.v (.bool a)), .d (.v (.bool u)), .d (.v (.bool d))]
def rxPost (_ : List A) (r : A) : Prop := ∃ (e c m : Int) (bs : List (Fin 256)) (a u d : Bool), r = rxA e c m bs a u d ∧ -1 ≤ e ∧ e ≤ 8 ∧ -1 ≤ c ∧ c ≤ 10000 ∧ -1 ≤ m ∧ m ≤ 100 ∧ bs.length ≤ 1000
def rxZ : List A := [.d (.v (.int .i64 0)), .d (.v (.int .i64 0)), .d (.v (.int .i64 0)), .d (.v (.slice none 0 0)), .d (.v (.bool false)), .d (.v (.bool false)), .d (.v (.bool false))]
end Go.Proofs.Ytdjadeegjbhihaa

/- FrmOk over what values read as. -/
namespace Go.Proofs.Ytdjadeegjbhihaa
open Go Go.RowKit
def frmA (k s c : Int) (p f : Bool) (y g l : Int) (bs : List (Fin 256)) : A := .agg [.d (.v (.int .i64 k)), .d (.v (.int .i64 s)), .d (.v (.int .i64 c)), .d (.v (.bool p)), .d (.v (.bool f)), .d (.v (.int .i64 y)), .d (.v (.int .i64 g)), .d (.v (.int .i64 l)), .d (fbytes bs)]
end Go.Proofs.Ytdjadeegjbhihaa

/- RxOk and FrmOk over what values read as. -/
namespace Go.Proofs.Ytdjadeegjbhihaa
open Go Go.RowKit
theorem rx_args {w : World} {F : Nat → Prop} {E : Nat → Option Nat} {H : Nat → Nat → Option Value} {e c m : Int} {bs : List (Fin 256)} {a u d : Bool} {v : Value} (h : Den w F E H (rxA e c m bs a u d) v) :
    ∃ (g : Option Addr) (cap : Nat), v = .agg #[.int .i64 e, .int .i64 c, .int .i64 m, .slice g bs.length cap, .bool a, .bool u, .bool d] := by
  obtain ⟨cs, rfl, hs, _, h⟩ := den_agg h
  have hs' : cs.toList.length = 7 := by simpa using hs
  match hl : cs.toList, hs' with
  | [x0, x1, x2, x3, x4, x5, x6], _ =>
    obtain rfl : cs = #[x0, x1, x2, x3, x4, x5, x6] := by rw [← Array.toArray_toList (xs := cs), hl]
    obtain rfl := den_v (h 0 _ rfl)
    obtain rfl := den_v (h 1 _ rfl)
    obtain rfl := den_v (h 2 _ rfl)
    obtain rfl := den_v (h 4 _ rfl)
    obtain rfl := den_v (h 5 _ rfl)
    obtain rfl := den_v (h 6 _ rfl)
    have h3 := den_d (h 3 _ rfl)
    obtain ⟨g, n, cap, rfl, hn⟩ := den_row h3
    simp only [List.length_map] at hn
    subst hn
    exact ⟨g, cap, rfl⟩
theorem irx_ok (e c m : Int) (bs : List (Fin 256)) (a u d : Bool) : DataOk Try.prog 91 [rxA e c m bs a u d] (.d (.v (.bool (rxB e c m bs.length)))) := by
  refine DataOk.lift fun w F E H args _ hs hd => ?_
  obtain ⟨v, rfl, hv⟩ := arg1 hs hd
  obtain ⟨g, cap, rfl⟩ := rx_args hv
  exact impl_rx _ _ _ _ _ _ _ _ _ _
theorem srx_ok (e c m : Int) (bs : List (Fin 256)) (a u d : Bool) : DataOk Try.prog 87 [rxA e c m bs a u d] (.d (.v (.bool (rxB e c m bs.length)))) := by
  refine DataOk.lift fun w F E H args _ hs hd => ?_
  obtain ⟨v, rfl, hv⟩ := arg1 hs hd
  obtain ⟨g, cap, rfl⟩ := rx_args hv
  exact spec_rx _ _ _ _ _ _ _ _ _ _
end Go.Proofs.Ytdjadeegjbhihaa

/- Who grants credits is ok, over what values read as. Written by tools/mk_AbsCrx.py. -/
namespace Go.Proofs.Ytdjadeegjbhihaa
open Go Go.RowKit
def crA (v m : Int) (bs : List (Fin 256)) (d : Bool) : A := .agg [.d (.v (.int .i64 v)), .d (.v (.int .i64 m)), .d (fbytes bs), .d (.v (.bool d))]
def crN : List A := [.d (.v (.int .i64 0)), .d (.v (.int .i64 0)), .d (.v (.slice none 0 0)), .d (.v (.bool false))]
def crNil : A := .agg [.d (.v (.int .i64 0)), .d (.v (.int .i64 0)), .d (.v (.slice none 0 0)), .d (.v (.bool false))]
def crxB (v m : Int) (n : Nat) : Bool := inB v 0 255 && joinB m n
theorem ijoinA {m : Int} {bs : List (Fin 256)} {t : Bool} (h : joinB m bs.length = t) : DataOk Try.prog 126 [joinA m bs] (.d (.v (.bool t))) := by
  subst h
  refine DataOk.lift fun w F E H args _ hs hd => ?_
  obtain ⟨v, rfl, hv⟩ := arg1 hs hd
  obtain ⟨cs, rfl, hs', _, h⟩ := den_agg hv
  have hs2 : cs.toList.length = 2 := by simpa using hs'
  match hl' : cs.toList, hs2 with
  | [x0, x1], _ =>
    obtain rfl : cs = #[x0, x1] := by rw [← Array.toArray_toList (xs := cs), hl']
    obtain rfl := den_v (h 0 _ rfl)
    obtain ⟨g, n, cap, rfl, hn⟩ := den_row (den_d (h 1 _ rfl))
    simp only [List.length_map] at hn
    subst hn
    exact impl_join _ _ _ _ _
theorem sjoinA {m : Int} {bs : List (Fin 256)} {t : Bool} (h : joinB m bs.length = t) : DataOk Try.prog 121 [joinA m bs] (.d (.v (.bool t))) := by
  subst h
  refine DataOk.lift fun w F E H args _ hs hd => ?_
  obtain ⟨v, rfl, hv⟩ := arg1 hs hd
  obtain ⟨cs, rfl, hs', _, h⟩ := den_agg hv
  have hs2 : cs.toList.length = 2 := by simpa using hs'
  match hl' : cs.toList, hs2 with
  | [x0, x1], _ =>
    obtain rfl : cs = #[x0, x1] := by rw [← Array.toArray_toList (xs := cs), hl']
    obtain rfl := den_v (h 0 _ rfl)
    obtain ⟨g, n, cap, rfl, hn⟩ := den_row (den_d (h 1 _ rfl))
    simp only [List.length_map] at hn
    subst hn
    exact spec_join _ _ _ _ _
theorem icrx_ok (v m : Int) (bs : List (Fin 256)) (d : Bool) : DataOk Try.prog 92 [crA v m bs d] (.d (.v (.bool (crxB v m bs.length)))) := by
  unfold crxB
  cases k : inB v 0 255
  · skip
    refine Spec.intro (n := 11) (rv := [.tmp 2]) Try.func92 rfl rfl rfl (by simp) fun C hN hX => ?_
    refine AW.seq ?_
    apply AW.list
    apply Wk.bx 1 rfl rfl (lt_of_ble rfl)
    apply Wk.asg (by conv => lhs; whnf) (lt_of_ble rfl)
    refine Wk.nil ?_
    refine AW.seq ?_
    apply AW.list
    apply Wk.fad 0 0 false fd74_0 rfl (lt_of_ble rfl)
    apply Wk.ld (i := 1) 1 false ty3 rfl rfl (by conv => lhs; whnf) (lt_of_ble rfl)
    apply Wk.dat (inoneb k) Try.func47 rfl rfl rfl rfl rfl (lt_of_ble rfl)
    apply Wk.mv (by conv => lhs; whnf) (lt_of_ble rfl)
    apply Wk.goff 6 (ok_faddr fd74_1) rfl rfl (by decide)
    apply Wk.goff 6 (ok_load 1 ty70) rfl rfl (by decide)
    apply Wk.goff 6 (ok_datw ((ijoinA (m := 0) (bs := []) rfl).w rfl) Try.func126 rfl rfl) rfl rfl (by decide)
    apply Wk.pckF rfl (by conv => lhs; whnf) (lt_of_ble rfl)
    apply Wk.asg (by conv => lhs; whnf) (lt_of_ble rfl)
    refine Wk.nil (AW.ret ?_)
    exact RetQ.ret [] (.cons rfl .nil) ⟨rfl, rfl⟩ none_kept
  · skip
    refine Spec.intro (n := 11) (rv := [.tmp 2]) Try.func92 rfl rfl rfl (by simp) fun C hN hX => ?_
    refine AW.seq ?_
    apply AW.list
    apply Wk.bx 1 rfl rfl (lt_of_ble rfl)
    apply Wk.asg (by conv => lhs; whnf) (lt_of_ble rfl)
    refine Wk.nil ?_
    refine AW.seq ?_
    apply AW.list
    apply Wk.fad 0 0 false fd74_0 rfl (lt_of_ble rfl)
    apply Wk.ld (i := 1) 1 false ty3 rfl rfl (by conv => lhs; whnf) (lt_of_ble rfl)
    apply Wk.dat (inoneb k) Try.func47 rfl rfl rfl rfl rfl (lt_of_ble rfl)
    apply Wk.mv (by conv => lhs; whnf) (lt_of_ble rfl)
    apply Wk.gon 6 rfl rfl
    apply Wk.fad 1 1 true fd74_1 rfl (lt_of_ble rfl)
    apply Wk.gon 6 rfl rfl
    apply Wk.ld (i := 1) 2 true ty70 rfl rfl (by conv => lhs; whnf) (lt_of_ble rfl)
    apply Wk.gon 6 rfl rfl
    apply Wk.dat (ijoinA rfl) Try.func126 rfl rfl rfl rfl rfl (lt_of_ble rfl)
    apply Wk.pckT rfl (by conv => lhs; whnf) (lt_of_ble rfl)
    apply Wk.asg (by conv => lhs; whnf) (lt_of_ble rfl)
    refine Wk.nil (AW.ret ?_)
    exact RetQ.ret [] (.cons rfl .nil) ⟨rfl, rfl⟩ none_kept
theorem scrx_ok (v m : Int) (bs : List (Fin 256)) (d : Bool) : DataOk Try.prog 88 [crA v m bs d] (.d (.v (.bool (crxB v m bs.length)))) := by
  unfold crxB
  cases k : inB v 0 255
  · skip
    refine Spec.intro (n := 11) (rv := [.tmp 2]) Try.func88 rfl rfl rfl (by simp) fun C hN hX => ?_
    refine AW.seq ?_
    apply AW.list
    apply Wk.bx 1 rfl rfl (lt_of_ble rfl)
    apply Wk.asg (by conv => lhs; whnf) (lt_of_ble rfl)
    refine Wk.nil ?_
    refine AW.seq ?_
    apply AW.list
    apply Wk.fad 0 0 false fd74_0 rfl (lt_of_ble rfl)
    apply Wk.ld (i := 1) 1 false ty3 rfl rfl (by conv => lhs; whnf) (lt_of_ble rfl)
    apply Wk.dat (sinb k) Try.func40 rfl rfl rfl rfl rfl (lt_of_ble rfl)
    apply Wk.mv (by conv => lhs; whnf) (lt_of_ble rfl)
    apply Wk.goff 6 (ok_faddr fd74_1) rfl rfl (by decide)
    apply Wk.goff 6 (ok_load 1 ty70) rfl rfl (by decide)
    apply Wk.goff 6 (ok_datw ((sjoinA (m := 0) (bs := []) rfl).w rfl) Try.func121 rfl rfl) rfl rfl (by decide)
    apply Wk.pckF rfl (by conv => lhs; whnf) (lt_of_ble rfl)
    apply Wk.asg (by conv => lhs; whnf) (lt_of_ble rfl)
    refine Wk.nil (AW.ret ?_)
    exact RetQ.ret [] (.cons rfl .nil) ⟨rfl, rfl⟩ none_kept
  · skip
    refine Spec.intro (n := 11) (rv := [.tmp 2]) Try.func88 rfl rfl rfl (by simp) fun C hN hX => ?_
    refine AW.seq ?_
    apply AW.list
    apply Wk.bx 1 rfl rfl (lt_of_ble rfl)
    apply Wk.asg (by conv => lhs; whnf) (lt_of_ble rfl)
    refine Wk.nil ?_
    refine AW.seq ?_
    apply AW.list
    apply Wk.fad 0 0 false fd74_0 rfl (lt_of_ble rfl)
    apply Wk.ld (i := 1) 1 false ty3 rfl rfl (by conv => lhs; whnf) (lt_of_ble rfl)
    apply Wk.dat (sinb k) Try.func40 rfl rfl rfl rfl rfl (lt_of_ble rfl)
    apply Wk.mv (by conv => lhs; whnf) (lt_of_ble rfl)
    apply Wk.gon 6 rfl rfl
    apply Wk.fad 1 1 true fd74_1 rfl (lt_of_ble rfl)
    apply Wk.gon 6 rfl rfl
    apply Wk.ld (i := 1) 2 true ty70 rfl rfl (by conv => lhs; whnf) (lt_of_ble rfl)
    apply Wk.gon 6 rfl rfl
    apply Wk.dat (sjoinA rfl) Try.func121 rfl rfl rfl rfl rfl (lt_of_ble rfl)
    apply Wk.pckT rfl (by conv => lhs; whnf) (lt_of_ble rfl)
    apply Wk.asg (by conv => lhs; whnf) (lt_of_ble rfl)
    refine Wk.nil (AW.ret ?_)
    exact RetQ.ret [] (.cons rfl .nil) ⟨rfl, rfl⟩ none_kept
theorem icrxb {v m : Int} {bs : List (Fin 256)} {t : Bool} (d : Bool) (h : crxB v m bs.length = t) : DataOk Try.prog 92 [crA v m bs d] (.d (.v (.bool t))) := h ▸ icrx_ok v m bs d
theorem scrxb {v m : Int} {bs : List (Fin 256)} {t : Bool} (d : Bool) (h : crxB v m bs.length = t) : DataOk Try.prog 88 [crA v m bs d] (.d (.v (.bool t))) := h ▸ scrx_ok v m bs d
end Go.Proofs.Ytdjadeegjbhihaa
