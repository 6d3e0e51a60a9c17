/- Laws and contracts that the proof stands on: AbsCrdS, AbsArr, AbsCopyI, AbsCrdI, AbsPart, PartA3, AbsMk8, AbsPartOr1, AbsPartD, AbsL20Tx. -/
import Derived.Test.YthnlpdjjnfkmeaaDoorMa
import Derived.Test.YthnlpdjjnfkmeaaDoorMb
import Derived.Test.YthnlpdjjnfkmeaaDoorMc
import Derived.Test.YthnlpdjjnfkmeaaDoorMd
import Derived.Laws.MakeOwn
import Derived.Laws.OwnMore
/- Who sends for credits, over what values read as. Written by tools/mk_AbsCrdS.py. -/
namespace Go.Proofs.YthnlpdjjnfkmeaaDoor
open Go Go.RowKit
/-- Who sends for credits, as plain data. -/
structure CX where
  v : Int
  qu : List Dat
  g : Int
  s : Int
  d : Bool
def cxC (x : CX) : List A := [.d (.v (.int .i64 x.v)), .d (partsD x.qu), .d (.v (.int .i64 x.g)), .d (.v (.int .i64 x.s)), .d (.v (.bool x.d))]
def cxA (x : CX) : A := .agg [.d (.v (.int .i64 x.v)), .d (partsD x.qu), .d (.v (.int .i64 x.g)), .d (.v (.int .i64 x.s)), .d (.v (.bool x.d))]
def cxOC (x : CX) (l : Nat) : List A := [.d (.v (.int .i64 x.v)), .own 66 l, .d (.v (.int .i64 x.g)), .d (.v (.int .i64 x.s)), .d (.v (.bool x.d))]
def cxO (x : CX) (l : Nat) : A := .agg [.d (.v (.int .i64 x.v)), .own 66 l, .d (.v (.int .i64 x.g)), .d (.v (.int .i64 x.s)), .d (.v (.bool x.d))]
def cxB (qu : List Dat) (l : Nat) : List (Nat × Bx) := [(66, .own l 77 3 (piecesA qu))]
def cxN : List A := [.d (.v (.int .i64 0)), .d (.v (.slice none 0 0)), .d (.v (.int .i64 0)), .d (.v (.int .i64 0)), .d (.v (.bool false))]
def cxNil : A := .agg [.d (.v (.int .i64 0)), .d (.v (.slice none 0 0)), .d (.v (.int .i64 0)), .d (.v (.int .i64 0)), .d (.v (.bool false))]
def CX.few (x : CX) : Prop := x.qu.length ≤ 1000 ∧ ∀ d ∈ x.qu, d.2.2.length ≤ 1000
theorem in_cxB {qu : List Dat} {l q : Nat} {z : Bx} (h : (cxB qu l).lookup q = some z) : q ∈ [66] ∧ z.within [66] = true := by
  obtain ⟨rfl, rfl⟩ := lookup1 h
  exact ⟨by simp, by simp [Bx.within, within_parts]⟩
theorem in_cxO (x : CX) (l : Nat) : (cxO x l).within [66] = true := by simp [cxO, A.within, A.withins]
theorem in_cx (x : CX) (l : Nat) : PostIn [66] (fun r bs => r = cxO x l ∧ bs = cxB x.qu l) := by
  rintro r bs ⟨rfl, rfl⟩
  exact ⟨in_cxO x l, fun i z h => in_cxB h⟩
/-- Who sends for credits is ok. -/
def crdOkB (o : Opt) (x : CX) : Bool := o.ok && (inB x.v 0 255 && (decide (x.qu.length ≤ 24) && (inB x.g 0 9999 && (inB x.s 0 9999 && (decide (x.g - x.s = x.v) && x.qu.all (partM o.mps))))))
theorem crdOk_facts {o : Opt} {x : CX} (h : crdOkB o x = true) : o.ok = true ∧ (0 ≤ x.v ∧ x.v ≤ 255) ∧ x.qu.length ≤ 24 ∧ (0 ≤ x.g ∧ x.g ≤ 9999) ∧ (0 ≤ x.s ∧ x.s ≤ 9999) ∧ x.g - x.s = x.v ∧ ∀ d ∈ x.qu, partM o.mps d = true := by
  simp only [crdOkB, Bool.and_eq_true, decide_eq_true_eq, List.all_eq_true] at h
  obtain ⟨h1, h2, h3, h4, h5, h6, h7⟩ := h
  exact ⟨h1, (inB_iff _ _ _).1 h2, h3, (inB_iff _ _ _).1 h4, (inB_iff _ _ _).1 h5, h6, h7⟩
set_option maxHeartbeats 4000000 in
set_option maxRecDepth 100000 in
theorem scx_ok (m0 w0 p0 u0 y0 : Int) (x : CX) : DataOk Tryd.prog 17 [cfgA m0 w0 p0 u0 y0, cxA x] (.d (.v (.bool (crdOkB ⟨m0, w0, p0, u0, y0⟩ x)))) := by
  obtain ⟨v, qu, g, s, d⟩ := x
  have e2 : (((qu.map datD).length : Nat) : Int) = (qu.length : Int) := by rw [List.length_map]
  simp only [crdOkB]
  refine Spec.intro (n := 45) (rv := [.tmp 4]) Tryd.func17 rfl rfl rfl (by simp) fun C hN hX => ?_
  refine AW.seq ?_
  apply AW.list
  apply Wk.bx 2 rfl rfl (lt_of_ble rfl)
  apply Wk.bx 3 rfl rfl (lt_of_ble rfl)
  apply Wk.asg (by conv => lhs; whnf) (lt_of_ble rfl)
  refine Wk.nil ?_
  refine AW.seq ?_
  cases k0 : Opt.ok ⟨m0, w0, p0, u0, y0⟩
  · rw [Bool.false_and]
    apply AW.list
    apply Wk.ld (i := 2) 5 true ty35 rfl rfl (by conv => lhs; whnf) (lt_of_ble rfl)
    apply Wk.dat (scfgb k0) Tryd.func39 rfl rfl rfl rfl rfl (lt_of_ble rfl)
    apply Wk.mv (by conv => lhs; whnf) (lt_of_ble rfl)
    apply Wk.goff 7 (ok_faddr fd38_0) rfl rfl (by simp)
    apply Wk.goff 7 (ok_load 3 ty3) rfl rfl (by simp)
    apply Wk.goff 7 (ok_datw ((sinb (n := 0) (lo := 0) (hi := 255) rfl).w rfl) Tryd.func34 rfl rfl) rfl rfl (by simp)
    apply Wk.pckF rfl (by conv => lhs; whnf) (lt_of_ble rfl)
    apply Wk.mv (by conv => lhs; whnf) (lt_of_ble rfl)
    apply Wk.goff 12 (ok_faddr fd38_1) rfl rfl (by simp)
    apply Wk.goff 12 (ok_load 3 ty36) rfl rfl (by simp)
    apply Wk.goff 12 (ok_len un36) rfl rfl (by simp)
    apply Wk.goff 12 (ok_bin _ _ _ _ _) rfl rfl (by simp)
    apply Wk.pckF rfl (by conv => lhs; whnf) (lt_of_ble rfl)
    apply Wk.mv (by conv => lhs; whnf) (lt_of_ble rfl)
    apply Wk.goff 18 (ok_faddr fd38_2) rfl rfl (by simp)
    apply Wk.goff 18 (ok_load 3 ty3) rfl rfl (by simp)
    apply Wk.goff 18 (ok_datw ((sinb (n := 0) (lo := 0) (hi := 9999) rfl).w rfl) Tryd.func34 rfl rfl) rfl rfl (by simp)
    apply Wk.pckF rfl (by conv => lhs; whnf) (lt_of_ble rfl)
    apply Wk.mv (by conv => lhs; whnf) (lt_of_ble rfl)
    apply Wk.goff 23 (ok_faddr fd38_3) rfl rfl (by simp)
    apply Wk.goff 23 (ok_load 3 ty3) rfl rfl (by simp)
    apply Wk.goff 23 (ok_datw ((sinb (n := 0) (lo := 0) (hi := 9999) rfl).w rfl) Tryd.func34 rfl rfl) rfl rfl (by simp)
    apply Wk.pckF rfl (by conv => lhs; whnf) (lt_of_ble rfl)
    apply Wk.mv (by conv => lhs; whnf) (lt_of_ble rfl)
    apply Wk.goff 28 (ok_faddr fd38_2) rfl rfl (by simp)
    apply Wk.goff 28 (ok_load 3 ty3) rfl rfl (by simp)
    apply Wk.goff 28 (ok_faddr fd38_3) rfl rfl (by simp)
    apply Wk.goff 28 (ok_load 3 ty3) rfl rfl (by simp)
    apply Wk.goff 28 (ok_bin _ _ _ _ _) rfl rfl (by simp)
    apply Wk.goff 28 (ok_faddr fd38_0) rfl rfl (by simp)
    apply Wk.goff 28 (ok_load 3 ty3) rfl rfl (by simp)
    apply Wk.goff 28 (ok_bin _ _ _ _ _) rfl rfl (by simp)
    apply Wk.pckF rfl (by conv => lhs; whnf) (lt_of_ble rfl)
    apply Wk.mv (by conv => lhs; whnf) (lt_of_ble rfl)
    apply Wk.goff 38 (ok_faddr fd38_1) rfl rfl (by simp)
    apply Wk.goff 38 (ok_load 3 ty36) rfl rfl (by simp)
    apply Wk.goff 38 (ok_faddr fd35_2) rfl rfl (by simp)
    apply Wk.goff 38 (ok_load 2 ty3) rfl rfl (by simp)
    apply Wk.goff 38 (ok_datw ((spartsb [] 0 rfl).w rfl) Tryd.func40 rfl rfl) rfl rfl (by simp)
    apply Wk.pckF rfl (by conv => lhs; whnf) (lt_of_ble rfl)
    apply Wk.asg (by conv => lhs; whnf) (lt_of_ble rfl)
    refine Wk.nil (AW.ret ?_)
    exact RetQ.ret [] (.cons rfl .nil) ⟨rfl, rfl⟩ none_kept
  · rw [Bool.true_and]
    cases k1 : inB v 0 255
    · rw [Bool.false_and]
      apply AW.list
      apply Wk.ld (i := 2) 5 true ty35 rfl rfl (by conv => lhs; whnf) (lt_of_ble rfl)
      apply Wk.dat (scfgb k0) Tryd.func39 rfl rfl rfl rfl rfl (lt_of_ble rfl)
      apply Wk.mv (by conv => lhs; whnf) (lt_of_ble rfl)
      apply Wk.gon 7 rfl rfl
      apply Wk.fad 0 0 false fd38_0 rfl (lt_of_ble rfl)
      apply Wk.gon 7 rfl rfl
      apply Wk.ld (i := 3) 1 false ty3 rfl rfl (by conv => lhs; whnf) (lt_of_ble rfl)
      apply Wk.gon 7 rfl rfl
      apply Wk.dat (sinb k1) Tryd.func34 rfl rfl rfl rfl rfl (lt_of_ble rfl)
      apply Wk.pckT rfl (by conv => lhs; whnf) (lt_of_ble rfl)
      apply Wk.mv (by conv => lhs; whnf) (lt_of_ble rfl)
      apply Wk.goff 12 (ok_faddr fd38_1) rfl rfl (by simp)
      apply Wk.goff 12 (ok_load 3 ty36) rfl rfl (by simp)
      apply Wk.goff 12 (ok_len un36) rfl rfl (by simp)
      apply Wk.goff 12 (ok_bin _ _ _ _ _) rfl rfl (by simp)
      apply Wk.pckF rfl (by conv => lhs; whnf) (lt_of_ble rfl)
      apply Wk.mv (by conv => lhs; whnf) (lt_of_ble rfl)
      apply Wk.goff 18 (ok_faddr fd38_2) rfl rfl (by simp)
      apply Wk.goff 18 (ok_load 3 ty3) rfl rfl (by simp)
      apply Wk.goff 18 (ok_datw ((sinb (n := 0) (lo := 0) (hi := 9999) rfl).w rfl) Tryd.func34 rfl rfl) rfl rfl (by simp)
      apply Wk.pckF rfl (by conv => lhs; whnf) (lt_of_ble rfl)
      apply Wk.mv (by conv => lhs; whnf) (lt_of_ble rfl)
      apply Wk.goff 23 (ok_faddr fd38_3) rfl rfl (by simp)
      apply Wk.goff 23 (ok_load 3 ty3) rfl rfl (by simp)
      apply Wk.goff 23 (ok_datw ((sinb (n := 0) (lo := 0) (hi := 9999) rfl).w rfl) Tryd.func34 rfl rfl) rfl rfl (by simp)
      apply Wk.pckF rfl (by conv => lhs; whnf) (lt_of_ble rfl)
      apply Wk.mv (by conv => lhs; whnf) (lt_of_ble rfl)
      apply Wk.goff 28 (ok_faddr fd38_2) rfl rfl (by simp)
      apply Wk.goff 28 (ok_load 3 ty3) rfl rfl (by simp)
      apply Wk.goff 28 (ok_faddr fd38_3) rfl rfl (by simp)
      apply Wk.goff 28 (ok_load 3 ty3) rfl rfl (by simp)
      apply Wk.goff 28 (ok_bin _ _ _ _ _) rfl rfl (by simp)
      apply Wk.goff 28 (ok_faddr fd38_0) rfl rfl (by simp)
      apply Wk.goff 28 (ok_load 3 ty3) rfl rfl (by simp)
      apply Wk.goff 28 (ok_bin _ _ _ _ _) rfl rfl (by simp)
      apply Wk.pckF rfl (by conv => lhs; whnf) (lt_of_ble rfl)
      apply Wk.mv (by conv => lhs; whnf) (lt_of_ble rfl)
      apply Wk.goff 38 (ok_faddr fd38_1) rfl rfl (by simp)
      apply Wk.goff 38 (ok_load 3 ty36) rfl rfl (by simp)
      apply Wk.goff 38 (ok_faddr fd35_2) rfl rfl (by simp)
      apply Wk.goff 38 (ok_load 2 ty3) rfl rfl (by simp)
      apply Wk.goff 38 (ok_datw ((spartsb [] 0 rfl).w rfl) Tryd.func40 rfl rfl) rfl rfl (by simp)
      apply Wk.pckF rfl (by conv => lhs; whnf) (lt_of_ble rfl)
      apply Wk.asg (by conv => lhs; whnf) (lt_of_ble rfl)
      refine Wk.nil (AW.ret ?_)
      exact RetQ.ret [] (.cons rfl .nil) ⟨rfl, rfl⟩ none_kept
    · rw [Bool.true_and]
      by_cases k2 : qu.length ≤ 24
      · rw [decide_eq_true k2, Bool.true_and]
        cases k3 : inB g 0 9999
        · rw [Bool.false_and]
          apply AW.list
          apply Wk.ld (i := 2) 5 true ty35 rfl rfl (by conv => lhs; whnf) (lt_of_ble rfl)
          apply Wk.dat (scfgb k0) Tryd.func39 rfl rfl rfl rfl rfl (lt_of_ble rfl)
          apply Wk.mv (by conv => lhs; whnf) (lt_of_ble rfl)
          apply Wk.gon 7 rfl rfl
          apply Wk.fad 0 0 false fd38_0 rfl (lt_of_ble rfl)
          apply Wk.gon 7 rfl rfl
          apply Wk.ld (i := 3) 1 false ty3 rfl rfl (by conv => lhs; whnf) (lt_of_ble rfl)
          apply Wk.gon 7 rfl rfl
          apply Wk.dat (sinb k1) Tryd.func34 rfl rfl rfl rfl rfl (lt_of_ble rfl)
          apply Wk.pckT rfl (by conv => lhs; whnf) (lt_of_ble rfl)
          apply Wk.mv (by conv => lhs; whnf) (lt_of_ble rfl)
          apply Wk.gon 12 rfl rfl
          apply Wk.fad 1 0 false fd38_1 rfl (lt_of_ble rfl)
          apply Wk.gon 12 rfl rfl
          apply Wk.ld (i := 3) 1 false ty36 rfl rfl (by conv => lhs; whnf) (lt_of_ble rfl)
          apply Wk.gon 12 rfl rfl
          apply Wk.len un36 rfl (lt_of_ble rfl)
          apply Wk.gon 12 rfl rfl
          apply Wk.bin rfl rfl (r := .bool true) (fun w => by rw [e2]; simp [go_sem] <;> omega) (lt_of_ble rfl)
          apply Wk.pckT rfl (by conv => lhs; whnf) (lt_of_ble rfl)
          apply Wk.mv (by conv => lhs; whnf) (lt_of_ble rfl)
          apply Wk.gon 18 rfl rfl
          apply Wk.fad 2 0 false fd38_2 rfl (lt_of_ble rfl)
          apply Wk.gon 18 rfl rfl
          apply Wk.ld (i := 3) 1 false ty3 rfl rfl (by conv => lhs; whnf) (lt_of_ble rfl)
          apply Wk.gon 18 rfl rfl
          apply Wk.dat (sinb k3) Tryd.func34 rfl rfl rfl rfl rfl (lt_of_ble rfl)
          apply Wk.pckT rfl (by conv => lhs; whnf) (lt_of_ble rfl)
          apply Wk.mv (by conv => lhs; whnf) (lt_of_ble rfl)
          apply Wk.goff 23 (ok_faddr fd38_3) rfl rfl (by simp)
          apply Wk.goff 23 (ok_load 3 ty3) rfl rfl (by simp)
          apply Wk.goff 23 (ok_datw ((sinb (n := 0) (lo := 0) (hi := 9999) rfl).w rfl) Tryd.func34 rfl rfl) rfl rfl (by simp)
          apply Wk.pckF rfl (by conv => lhs; whnf) (lt_of_ble rfl)
          apply Wk.mv (by conv => lhs; whnf) (lt_of_ble rfl)
          apply Wk.goff 28 (ok_faddr fd38_2) rfl rfl (by simp)
          apply Wk.goff 28 (ok_load 3 ty3) rfl rfl (by simp)
          apply Wk.goff 28 (ok_faddr fd38_3) rfl rfl (by simp)
          apply Wk.goff 28 (ok_load 3 ty3) rfl rfl (by simp)
          apply Wk.goff 28 (ok_bin _ _ _ _ _) rfl rfl (by simp)
          apply Wk.goff 28 (ok_faddr fd38_0) rfl rfl (by simp)
          apply Wk.goff 28 (ok_load 3 ty3) rfl rfl (by simp)
          apply Wk.goff 28 (ok_bin _ _ _ _ _) rfl rfl (by simp)
          apply Wk.pckF rfl (by conv => lhs; whnf) (lt_of_ble rfl)
          apply Wk.mv (by conv => lhs; whnf) (lt_of_ble rfl)
          apply Wk.goff 38 (ok_faddr fd38_1) rfl rfl (by simp)
          apply Wk.goff 38 (ok_load 3 ty36) rfl rfl (by simp)
          apply Wk.goff 38 (ok_faddr fd35_2) rfl rfl (by simp)
          apply Wk.goff 38 (ok_load 2 ty3) rfl rfl (by simp)
          apply Wk.goff 38 (ok_datw ((spartsb [] 0 rfl).w rfl) Tryd.func40 rfl rfl) rfl rfl (by simp)
          apply Wk.pckF rfl (by conv => lhs; whnf) (lt_of_ble rfl)
          apply Wk.asg (by conv => lhs; whnf) (lt_of_ble rfl)
          refine Wk.nil (AW.ret ?_)
          exact RetQ.ret [] (.cons rfl .nil) ⟨rfl, rfl⟩ none_kept
        · rw [Bool.true_and]
          cases k4 : inB s 0 9999
          · rw [Bool.false_and]
            apply AW.list
            apply Wk.ld (i := 2) 5 true ty35 rfl rfl (by conv => lhs; whnf) (lt_of_ble rfl)
            apply Wk.dat (scfgb k0) Tryd.func39 rfl rfl rfl rfl rfl (lt_of_ble rfl)
            apply Wk.mv (by conv => lhs; whnf) (lt_of_ble rfl)
            apply Wk.gon 7 rfl rfl
            apply Wk.fad 0 0 false fd38_0 rfl (lt_of_ble rfl)
            apply Wk.gon 7 rfl rfl
            apply Wk.ld (i := 3) 1 false ty3 rfl rfl (by conv => lhs; whnf) (lt_of_ble rfl)
            apply Wk.gon 7 rfl rfl
            apply Wk.dat (sinb k1) Tryd.func34 rfl rfl rfl rfl rfl (lt_of_ble rfl)
            apply Wk.pckT rfl (by conv => lhs; whnf) (lt_of_ble rfl)
            apply Wk.mv (by conv => lhs; whnf) (lt_of_ble rfl)
            apply Wk.gon 12 rfl rfl
            apply Wk.fad 1 0 false fd38_1 rfl (lt_of_ble rfl)
            apply Wk.gon 12 rfl rfl
            apply Wk.ld (i := 3) 1 false ty36 rfl rfl (by conv => lhs; whnf) (lt_of_ble rfl)
            apply Wk.gon 12 rfl rfl
            apply Wk.len un36 rfl (lt_of_ble rfl)
            apply Wk.gon 12 rfl rfl
            apply Wk.bin rfl rfl (r := .bool true) (fun w => by rw [e2]; simp [go_sem] <;> omega) (lt_of_ble rfl)
            apply Wk.pckT rfl (by conv => lhs; whnf) (lt_of_ble rfl)
            apply Wk.mv (by conv => lhs; whnf) (lt_of_ble rfl)
            apply Wk.gon 18 rfl rfl
            apply Wk.fad 2 0 false fd38_2 rfl (lt_of_ble rfl)
            apply Wk.gon 18 rfl rfl
            apply Wk.ld (i := 3) 1 false ty3 rfl rfl (by conv => lhs; whnf) (lt_of_ble rfl)
            apply Wk.gon 18 rfl rfl
            apply Wk.dat (sinb k3) Tryd.func34 rfl rfl rfl rfl rfl (lt_of_ble rfl)
            apply Wk.pckT rfl (by conv => lhs; whnf) (lt_of_ble rfl)
            apply Wk.mv (by conv => lhs; whnf) (lt_of_ble rfl)
            apply Wk.gon 23 rfl rfl
            apply Wk.fad 3 0 false fd38_3 rfl (lt_of_ble rfl)
            apply Wk.gon 23 rfl rfl
            apply Wk.ld (i := 3) 1 false ty3 rfl rfl (by conv => lhs; whnf) (lt_of_ble rfl)
            apply Wk.gon 23 rfl rfl
            apply Wk.dat (sinb k4) Tryd.func34 rfl rfl rfl rfl rfl (lt_of_ble rfl)
            apply Wk.pckT rfl (by conv => lhs; whnf) (lt_of_ble rfl)
            apply Wk.mv (by conv => lhs; whnf) (lt_of_ble rfl)
            apply Wk.goff 28 (ok_faddr fd38_2) rfl rfl (by simp)
            apply Wk.goff 28 (ok_load 3 ty3) rfl rfl (by simp)
            apply Wk.goff 28 (ok_faddr fd38_3) rfl rfl (by simp)
            apply Wk.goff 28 (ok_load 3 ty3) rfl rfl (by simp)
            apply Wk.goff 28 (ok_bin _ _ _ _ _) rfl rfl (by simp)
            apply Wk.goff 28 (ok_faddr fd38_0) rfl rfl (by simp)
            apply Wk.goff 28 (ok_load 3 ty3) rfl rfl (by simp)
            apply Wk.goff 28 (ok_bin _ _ _ _ _) rfl rfl (by simp)
            apply Wk.pckF rfl (by conv => lhs; whnf) (lt_of_ble rfl)
            apply Wk.mv (by conv => lhs; whnf) (lt_of_ble rfl)
            apply Wk.goff 38 (ok_faddr fd38_1) rfl rfl (by simp)
            apply Wk.goff 38 (ok_load 3 ty36) rfl rfl (by simp)
            apply Wk.goff 38 (ok_faddr fd35_2) rfl rfl (by simp)
            apply Wk.goff 38 (ok_load 2 ty3) rfl rfl (by simp)
            apply Wk.goff 38 (ok_datw ((spartsb [] 0 rfl).w rfl) Tryd.func40 rfl rfl) rfl rfl (by simp)
            apply Wk.pckF rfl (by conv => lhs; whnf) (lt_of_ble rfl)
            apply Wk.asg (by conv => lhs; whnf) (lt_of_ble rfl)
            refine Wk.nil (AW.ret ?_)
            exact RetQ.ret [] (.cons rfl .nil) ⟨rfl, rfl⟩ none_kept
          · rw [Bool.true_and]
            by_cases k5 : g - s = v
            · rw [decide_eq_true k5, Bool.true_and]
              cases k6 : qu.all (partM p0)
              · skip
                apply AW.list
                apply Wk.ld (i := 2) 5 true ty35 rfl rfl (by conv => lhs; whnf) (lt_of_ble rfl)
                apply Wk.dat (scfgb k0) Tryd.func39 rfl rfl rfl rfl rfl (lt_of_ble rfl)
                apply Wk.mv (by conv => lhs; whnf) (lt_of_ble rfl)
                apply Wk.gon 7 rfl rfl
                apply Wk.fad 0 0 false fd38_0 rfl (lt_of_ble rfl)
                apply Wk.gon 7 rfl rfl
                apply Wk.ld (i := 3) 1 false ty3 rfl rfl (by conv => lhs; whnf) (lt_of_ble rfl)
                apply Wk.gon 7 rfl rfl
                apply Wk.dat (sinb k1) Tryd.func34 rfl rfl rfl rfl rfl (lt_of_ble rfl)
                apply Wk.pckT rfl (by conv => lhs; whnf) (lt_of_ble rfl)
                apply Wk.mv (by conv => lhs; whnf) (lt_of_ble rfl)
                apply Wk.gon 12 rfl rfl
                apply Wk.fad 1 0 false fd38_1 rfl (lt_of_ble rfl)
                apply Wk.gon 12 rfl rfl
                apply Wk.ld (i := 3) 1 false ty36 rfl rfl (by conv => lhs; whnf) (lt_of_ble rfl)
                apply Wk.gon 12 rfl rfl
                apply Wk.len un36 rfl (lt_of_ble rfl)
                apply Wk.gon 12 rfl rfl
                apply Wk.bin rfl rfl (r := .bool true) (fun w => by rw [e2]; simp [go_sem] <;> omega) (lt_of_ble rfl)
                apply Wk.pckT rfl (by conv => lhs; whnf) (lt_of_ble rfl)
                apply Wk.mv (by conv => lhs; whnf) (lt_of_ble rfl)
                apply Wk.gon 18 rfl rfl
                apply Wk.fad 2 0 false fd38_2 rfl (lt_of_ble rfl)
                apply Wk.gon 18 rfl rfl
                apply Wk.ld (i := 3) 1 false ty3 rfl rfl (by conv => lhs; whnf) (lt_of_ble rfl)
                apply Wk.gon 18 rfl rfl
                apply Wk.dat (sinb k3) Tryd.func34 rfl rfl rfl rfl rfl (lt_of_ble rfl)
                apply Wk.pckT rfl (by conv => lhs; whnf) (lt_of_ble rfl)
                apply Wk.mv (by conv => lhs; whnf) (lt_of_ble rfl)
                apply Wk.gon 23 rfl rfl
                apply Wk.fad 3 0 false fd38_3 rfl (lt_of_ble rfl)
                apply Wk.gon 23 rfl rfl
                apply Wk.ld (i := 3) 1 false ty3 rfl rfl (by conv => lhs; whnf) (lt_of_ble rfl)
                apply Wk.gon 23 rfl rfl
                apply Wk.dat (sinb k4) Tryd.func34 rfl rfl rfl rfl rfl (lt_of_ble rfl)
                apply Wk.pckT rfl (by conv => lhs; whnf) (lt_of_ble rfl)
                apply Wk.mv (by conv => lhs; whnf) (lt_of_ble rfl)
                apply Wk.gon 28 rfl rfl
                apply Wk.fad 2 0 false fd38_2 rfl (lt_of_ble rfl)
                apply Wk.gon 28 rfl rfl
                apply Wk.ld (i := 3) 1 false ty3 rfl rfl (by conv => lhs; whnf) (lt_of_ble rfl)
                apply Wk.gon 28 rfl rfl
                apply Wk.fad 3 0 false fd38_3 rfl (lt_of_ble rfl)
                apply Wk.gon 28 rfl rfl
                apply Wk.ld (i := 3) 1 false ty3 rfl rfl (by conv => lhs; whnf) (lt_of_ble rfl)
                apply Wk.gon 28 rfl rfl
                apply Wk.subi rfl rfl (by have := (inB_iff _ _ _).1 k3; have := (inB_iff _ _ _).1 k4; dsimp only; omega) (lt_of_ble rfl)
                apply Wk.gon 28 rfl rfl
                apply Wk.fad 0 0 false fd38_0 rfl (lt_of_ble rfl)
                apply Wk.gon 28 rfl rfl
                apply Wk.ld (i := 3) 1 false ty3 rfl rfl (by conv => lhs; whnf) (lt_of_ble rfl)
                apply Wk.gon 28 rfl rfl
                apply Wk.bin rfl rfl (r := .bool true) (fun w => by simp [go_sem, k5]) (lt_of_ble rfl)
                apply Wk.pckT rfl (by conv => lhs; whnf) (lt_of_ble rfl)
                apply Wk.mv (by conv => lhs; whnf) (lt_of_ble rfl)
                apply Wk.gon 38 rfl rfl
                apply Wk.fad 1 0 false fd38_1 rfl (lt_of_ble rfl)
                apply Wk.gon 38 rfl rfl
                apply Wk.ld (i := 3) 1 false ty36 rfl rfl (by conv => lhs; whnf) (lt_of_ble rfl)
                apply Wk.gon 38 rfl rfl
                apply Wk.fad 2 0 false fd35_2 rfl (lt_of_ble rfl)
                apply Wk.gon 38 rfl rfl
                apply Wk.ld (i := 2) 1 false ty3 rfl rfl (by conv => lhs; whnf) (lt_of_ble rfl)
                apply Wk.gon 38 rfl rfl
                apply Wk.dat (spartsb qu p0 k6) Tryd.func40 rfl rfl rfl rfl rfl (lt_of_ble rfl)
                apply Wk.pckT rfl (by conv => lhs; whnf) (lt_of_ble rfl)
                apply Wk.asg (by conv => lhs; whnf) (lt_of_ble rfl)
                refine Wk.nil (AW.ret ?_)
                exact RetQ.ret [] (.cons rfl .nil) ⟨rfl, rfl⟩ none_kept
              · skip
                apply AW.list
                apply Wk.ld (i := 2) 5 true ty35 rfl rfl (by conv => lhs; whnf) (lt_of_ble rfl)
                apply Wk.dat (scfgb k0) Tryd.func39 rfl rfl rfl rfl rfl (lt_of_ble rfl)
                apply Wk.mv (by conv => lhs; whnf) (lt_of_ble rfl)
                apply Wk.gon 7 rfl rfl
                apply Wk.fad 0 0 false fd38_0 rfl (lt_of_ble rfl)
                apply Wk.gon 7 rfl rfl
                apply Wk.ld (i := 3) 1 false ty3 rfl rfl (by conv => lhs; whnf) (lt_of_ble rfl)
                apply Wk.gon 7 rfl rfl
                apply Wk.dat (sinb k1) Tryd.func34 rfl rfl rfl rfl rfl (lt_of_ble rfl)
                apply Wk.pckT rfl (by conv => lhs; whnf) (lt_of_ble rfl)
                apply Wk.mv (by conv => lhs; whnf) (lt_of_ble rfl)
                apply Wk.gon 12 rfl rfl
                apply Wk.fad 1 0 false fd38_1 rfl (lt_of_ble rfl)
                apply Wk.gon 12 rfl rfl
                apply Wk.ld (i := 3) 1 false ty36 rfl rfl (by conv => lhs; whnf) (lt_of_ble rfl)
                apply Wk.gon 12 rfl rfl
                apply Wk.len un36 rfl (lt_of_ble rfl)
                apply Wk.gon 12 rfl rfl
                apply Wk.bin rfl rfl (r := .bool true) (fun w => by rw [e2]; simp [go_sem] <;> omega) (lt_of_ble rfl)
                apply Wk.pckT rfl (by conv => lhs; whnf) (lt_of_ble rfl)
                apply Wk.mv (by conv => lhs; whnf) (lt_of_ble rfl)
                apply Wk.gon 18 rfl rfl
                apply Wk.fad 2 0 false fd38_2 rfl (lt_of_ble rfl)
                apply Wk.gon 18 rfl rfl
                apply Wk.ld (i := 3) 1 false ty3 rfl rfl (by conv => lhs; whnf) (lt_of_ble rfl)
                apply Wk.gon 18 rfl rfl
                apply Wk.dat (sinb k3) Tryd.func34 rfl rfl rfl rfl rfl (lt_of_ble rfl)
                apply Wk.pckT rfl (by conv => lhs; whnf) (lt_of_ble rfl)
                apply Wk.mv (by conv => lhs; whnf) (lt_of_ble rfl)
                apply Wk.gon 23 rfl rfl
                apply Wk.fad 3 0 false fd38_3 rfl (lt_of_ble rfl)
                apply Wk.gon 23 rfl rfl
                apply Wk.ld (i := 3) 1 false ty3 rfl rfl (by conv => lhs; whnf) (lt_of_ble rfl)
                apply Wk.gon 23 rfl rfl
                apply Wk.dat (sinb k4) Tryd.func34 rfl rfl rfl rfl rfl (lt_of_ble rfl)
                apply Wk.pckT rfl (by conv => lhs; whnf) (lt_of_ble rfl)
                apply Wk.mv (by conv => lhs; whnf) (lt_of_ble rfl)
                apply Wk.gon 28 rfl rfl
                apply Wk.fad 2 0 false fd38_2 rfl (lt_of_ble rfl)
                apply Wk.gon 28 rfl rfl
                apply Wk.ld (i := 3) 1 false ty3 rfl rfl (by conv => lhs; whnf) (lt_of_ble rfl)
                apply Wk.gon 28 rfl rfl
                apply Wk.fad 3 0 false fd38_3 rfl (lt_of_ble rfl)
                apply Wk.gon 28 rfl rfl
                apply Wk.ld (i := 3) 1 false ty3 rfl rfl (by conv => lhs; whnf) (lt_of_ble rfl)
                apply Wk.gon 28 rfl rfl
                apply Wk.subi rfl rfl (by have := (inB_iff _ _ _).1 k3; have := (inB_iff _ _ _).1 k4; dsimp only; omega) (lt_of_ble rfl)
                apply Wk.gon 28 rfl rfl
                apply Wk.fad 0 0 false fd38_0 rfl (lt_of_ble rfl)
                apply Wk.gon 28 rfl rfl
                apply Wk.ld (i := 3) 1 false ty3 rfl rfl (by conv => lhs; whnf) (lt_of_ble rfl)
                apply Wk.gon 28 rfl rfl
                apply Wk.bin rfl rfl (r := .bool true) (fun w => by simp [go_sem, k5]) (lt_of_ble rfl)
                apply Wk.pckT rfl (by conv => lhs; whnf) (lt_of_ble rfl)
                apply Wk.mv (by conv => lhs; whnf) (lt_of_ble rfl)
                apply Wk.gon 38 rfl rfl
                apply Wk.fad 1 0 false fd38_1 rfl (lt_of_ble rfl)
                apply Wk.gon 38 rfl rfl
                apply Wk.ld (i := 3) 1 false ty36 rfl rfl (by conv => lhs; whnf) (lt_of_ble rfl)
                apply Wk.gon 38 rfl rfl
                apply Wk.fad 2 0 false fd35_2 rfl (lt_of_ble rfl)
                apply Wk.gon 38 rfl rfl
                apply Wk.ld (i := 2) 1 false ty3 rfl rfl (by conv => lhs; whnf) (lt_of_ble rfl)
                apply Wk.gon 38 rfl rfl
                apply Wk.dat (spartsb qu p0 k6) Tryd.func40 rfl rfl rfl rfl rfl (lt_of_ble rfl)
                apply Wk.pckT rfl (by conv => lhs; whnf) (lt_of_ble rfl)
                apply Wk.asg (by conv => lhs; whnf) (lt_of_ble rfl)
                refine Wk.nil (AW.ret ?_)
                exact RetQ.ret [] (.cons rfl .nil) ⟨rfl, rfl⟩ none_kept
            · rw [decide_eq_false k5, Bool.false_and]
              apply AW.list
              apply Wk.ld (i := 2) 5 true ty35 rfl rfl (by conv => lhs; whnf) (lt_of_ble rfl)
              apply Wk.dat (scfgb k0) Tryd.func39 rfl rfl rfl rfl rfl (lt_of_ble rfl)
              apply Wk.mv (by conv => lhs; whnf) (lt_of_ble rfl)
              apply Wk.gon 7 rfl rfl
              apply Wk.fad 0 0 false fd38_0 rfl (lt_of_ble rfl)
              apply Wk.gon 7 rfl rfl
              apply Wk.ld (i := 3) 1 false ty3 rfl rfl (by conv => lhs; whnf) (lt_of_ble rfl)
              apply Wk.gon 7 rfl rfl
              apply Wk.dat (sinb k1) Tryd.func34 rfl rfl rfl rfl rfl (lt_of_ble rfl)
              apply Wk.pckT rfl (by conv => lhs; whnf) (lt_of_ble rfl)
              apply Wk.mv (by conv => lhs; whnf) (lt_of_ble rfl)
              apply Wk.gon 12 rfl rfl
              apply Wk.fad 1 0 false fd38_1 rfl (lt_of_ble rfl)
              apply Wk.gon 12 rfl rfl
              apply Wk.ld (i := 3) 1 false ty36 rfl rfl (by conv => lhs; whnf) (lt_of_ble rfl)
              apply Wk.gon 12 rfl rfl
              apply Wk.len un36 rfl (lt_of_ble rfl)
              apply Wk.gon 12 rfl rfl
              apply Wk.bin rfl rfl (r := .bool true) (fun w => by rw [e2]; simp [go_sem] <;> omega) (lt_of_ble rfl)
              apply Wk.pckT rfl (by conv => lhs; whnf) (lt_of_ble rfl)
              apply Wk.mv (by conv => lhs; whnf) (lt_of_ble rfl)
              apply Wk.gon 18 rfl rfl
              apply Wk.fad 2 0 false fd38_2 rfl (lt_of_ble rfl)
              apply Wk.gon 18 rfl rfl
              apply Wk.ld (i := 3) 1 false ty3 rfl rfl (by conv => lhs; whnf) (lt_of_ble rfl)
              apply Wk.gon 18 rfl rfl
              apply Wk.dat (sinb k3) Tryd.func34 rfl rfl rfl rfl rfl (lt_of_ble rfl)
              apply Wk.pckT rfl (by conv => lhs; whnf) (lt_of_ble rfl)
              apply Wk.mv (by conv => lhs; whnf) (lt_of_ble rfl)
              apply Wk.gon 23 rfl rfl
              apply Wk.fad 3 0 false fd38_3 rfl (lt_of_ble rfl)
              apply Wk.gon 23 rfl rfl
              apply Wk.ld (i := 3) 1 false ty3 rfl rfl (by conv => lhs; whnf) (lt_of_ble rfl)
              apply Wk.gon 23 rfl rfl
              apply Wk.dat (sinb k4) Tryd.func34 rfl rfl rfl rfl rfl (lt_of_ble rfl)
              apply Wk.pckT rfl (by conv => lhs; whnf) (lt_of_ble rfl)
              apply Wk.mv (by conv => lhs; whnf) (lt_of_ble rfl)
              apply Wk.gon 28 rfl rfl
              apply Wk.fad 2 0 false fd38_2 rfl (lt_of_ble rfl)
              apply Wk.gon 28 rfl rfl
              apply Wk.ld (i := 3) 1 false ty3 rfl rfl (by conv => lhs; whnf) (lt_of_ble rfl)
              apply Wk.gon 28 rfl rfl
              apply Wk.fad 3 0 false fd38_3 rfl (lt_of_ble rfl)
              apply Wk.gon 28 rfl rfl
              apply Wk.ld (i := 3) 1 false ty3 rfl rfl (by conv => lhs; whnf) (lt_of_ble rfl)
              apply Wk.gon 28 rfl rfl
              apply Wk.subi rfl rfl (by have := (inB_iff _ _ _).1 k3; have := (inB_iff _ _ _).1 k4; dsimp only; omega) (lt_of_ble rfl)
              apply Wk.gon 28 rfl rfl
              apply Wk.fad 0 0 false fd38_0 rfl (lt_of_ble rfl)
              apply Wk.gon 28 rfl rfl
              apply Wk.ld (i := 3) 1 false ty3 rfl rfl (by conv => lhs; whnf) (lt_of_ble rfl)
              apply Wk.gon 28 rfl rfl
              apply Wk.bin rfl rfl (r := .bool false) (fun w => by simp [go_sem, k5]) (lt_of_ble rfl)
              apply Wk.pckT rfl (by conv => lhs; whnf) (lt_of_ble rfl)
              apply Wk.mv (by conv => lhs; whnf) (lt_of_ble rfl)
              apply Wk.goff 38 (ok_faddr fd38_1) rfl rfl (by simp)
              apply Wk.goff 38 (ok_load 3 ty36) rfl rfl (by simp)
              apply Wk.goff 38 (ok_faddr fd35_2) rfl rfl (by simp)
              apply Wk.goff 38 (ok_load 2 ty3) rfl rfl (by simp)
              apply Wk.goff 38 (ok_datw ((spartsb [] 0 rfl).w rfl) Tryd.func40 rfl rfl) rfl rfl (by simp)
              apply Wk.pckF rfl (by conv => lhs; whnf) (lt_of_ble rfl)
              apply Wk.asg (by conv => lhs; whnf) (lt_of_ble rfl)
              refine Wk.nil (AW.ret ?_)
              exact RetQ.ret [] (.cons rfl .nil) ⟨rfl, rfl⟩ none_kept
      · rw [decide_eq_false k2, Bool.false_and]
        apply AW.list
        apply Wk.ld (i := 2) 5 true ty35 rfl rfl (by conv => lhs; whnf) (lt_of_ble rfl)
        apply Wk.dat (scfgb k0) Tryd.func39 rfl rfl rfl rfl rfl (lt_of_ble rfl)
        apply Wk.mv (by conv => lhs; whnf) (lt_of_ble rfl)
        apply Wk.gon 7 rfl rfl
        apply Wk.fad 0 0 false fd38_0 rfl (lt_of_ble rfl)
        apply Wk.gon 7 rfl rfl
        apply Wk.ld (i := 3) 1 false ty3 rfl rfl (by conv => lhs; whnf) (lt_of_ble rfl)
        apply Wk.gon 7 rfl rfl
        apply Wk.dat (sinb k1) Tryd.func34 rfl rfl rfl rfl rfl (lt_of_ble rfl)
        apply Wk.pckT rfl (by conv => lhs; whnf) (lt_of_ble rfl)
        apply Wk.mv (by conv => lhs; whnf) (lt_of_ble rfl)
        apply Wk.gon 12 rfl rfl
        apply Wk.fad 1 0 false fd38_1 rfl (lt_of_ble rfl)
        apply Wk.gon 12 rfl rfl
        apply Wk.ld (i := 3) 1 false ty36 rfl rfl (by conv => lhs; whnf) (lt_of_ble rfl)
        apply Wk.gon 12 rfl rfl
        apply Wk.len un36 rfl (lt_of_ble rfl)
        apply Wk.gon 12 rfl rfl
        apply Wk.bin rfl rfl (r := .bool false) (fun w => by rw [e2]; simp [go_sem] <;> omega) (lt_of_ble rfl)
        apply Wk.pckT rfl (by conv => lhs; whnf) (lt_of_ble rfl)
        apply Wk.mv (by conv => lhs; whnf) (lt_of_ble rfl)
        apply Wk.goff 18 (ok_faddr fd38_2) rfl rfl (by simp)
        apply Wk.goff 18 (ok_load 3 ty3) rfl rfl (by simp)
        apply Wk.goff 18 (ok_datw ((sinb (n := 0) (lo := 0) (hi := 9999) rfl).w rfl) Tryd.func34 rfl rfl) rfl rfl (by simp)
        apply Wk.pckF rfl (by conv => lhs; whnf) (lt_of_ble rfl)
        apply Wk.mv (by conv => lhs; whnf) (lt_of_ble rfl)
        apply Wk.goff 23 (ok_faddr fd38_3) rfl rfl (by simp)
        apply Wk.goff 23 (ok_load 3 ty3) rfl rfl (by simp)
        apply Wk.goff 23 (ok_datw ((sinb (n := 0) (lo := 0) (hi := 9999) rfl).w rfl) Tryd.func34 rfl rfl) rfl rfl (by simp)
        apply Wk.pckF rfl (by conv => lhs; whnf) (lt_of_ble rfl)
        apply Wk.mv (by conv => lhs; whnf) (lt_of_ble rfl)
        apply Wk.goff 28 (ok_faddr fd38_2) rfl rfl (by simp)
        apply Wk.goff 28 (ok_load 3 ty3) rfl rfl (by simp)
        apply Wk.goff 28 (ok_faddr fd38_3) rfl rfl (by simp)
        apply Wk.goff 28 (ok_load 3 ty3) rfl rfl (by simp)
        apply Wk.goff 28 (ok_bin _ _ _ _ _) rfl rfl (by simp)
        apply Wk.goff 28 (ok_faddr fd38_0) rfl rfl (by simp)
        apply Wk.goff 28 (ok_load 3 ty3) rfl rfl (by simp)
        apply Wk.goff 28 (ok_bin _ _ _ _ _) rfl rfl (by simp)
        apply Wk.pckF rfl (by conv => lhs; whnf) (lt_of_ble rfl)
        apply Wk.mv (by conv => lhs; whnf) (lt_of_ble rfl)
        apply Wk.goff 38 (ok_faddr fd38_1) rfl rfl (by simp)
        apply Wk.goff 38 (ok_load 3 ty36) rfl rfl (by simp)
        apply Wk.goff 38 (ok_faddr fd35_2) rfl rfl (by simp)
        apply Wk.goff 38 (ok_load 2 ty3) rfl rfl (by simp)
        apply Wk.goff 38 (ok_datw ((spartsb [] 0 rfl).w rfl) Tryd.func40 rfl rfl) rfl rfl (by simp)
        apply Wk.pckF rfl (by conv => lhs; whnf) (lt_of_ble rfl)
        apply Wk.asg (by conv => lhs; whnf) (lt_of_ble rfl)
        refine Wk.nil (AW.ret ?_)
        exact RetQ.ret [] (.cons rfl .nil) ⟨rfl, rfl⟩ none_kept
theorem scxb {m w p u y : Int} {x : CX} {b : Bool} (h : crdOkB ⟨m, w, p, u, y⟩ x = b) : DataOk Tryd.prog 17 [cfgA m w p u y, cxA x] (.d (.v (.bool b))) := h ▸ scx_ok m w p u y x
theorem crdOk_parts (o : Opt) (x : CX) : crdOkB o x = (o.ok && ((inB x.v 0 255 && (inB x.g 0 9999 && (inB x.s 0 9999 && decide (x.v = x.g - x.s)))) && (inB (x.qu.length : Int) 0 24 && x.qu.all (partM o.mps)))) := by
  apply bool_of_iff
  simp only [crdOkB, Bool.and_eq_true, decide_eq_true_eq, inB_iff]
  constructor
  · rintro ⟨k1, k2, k3, k4, k5, k6, k7⟩
    exact ⟨k1, ⟨k2, k4, k5, by omega⟩, ⟨by omega, by omega⟩, k7⟩
  · rintro ⟨k1, ⟨k2, k4, k5, k6⟩, k3, k7⟩
    exact ⟨k1, k2, by omega, k4, k5, by omega, k7⟩
set_option maxHeartbeats 4000000 in
set_option maxRecDepth 100000 in
theorem icx_ok (m0 w0 p0 u0 y0 : Int) (x : CX) : DataOk Tryd.prog 18 [cfgA m0 w0 p0 u0 y0, cxA x] (.d (.v (.bool (crdOkB ⟨m0, w0, p0, u0, y0⟩ x)))) := by
  rw [crdOk_parts]
  obtain ⟨v, qu, g, s, d⟩ := x
  have e2 : (((qu.map datD).length : Nat) : Int) = (qu.length : Int) := by rw [List.length_map]
  simp only
  rw [← e2]
  obtain ⟨cb, hcb⟩ : ∃ cb, cb = (inB v 0 255 && (inB g 0 9999 && (inB s 0 9999 && decide (v = g - s)))) := ⟨_, rfl⟩
  rw [← hcb]
  refine Spec.intro (n := 47) (rv := [.tmp 4]) Tryd.func18 rfl rfl rfl (by simp) fun C hN hX => ?_
  refine AW.seq ?_
  apply AW.list
  apply Wk.bx 2 rfl rfl (lt_of_ble rfl)
  apply Wk.bx 3 rfl rfl (lt_of_ble rfl)
  apply Wk.asg (by conv => lhs; whnf) (lt_of_ble rfl)
  refine Wk.nil ?_
  refine AW.via (fun b : Bool => St.of 47 [(2, .ptr 2 0), (3, .ptr 3 0), (5, .d (.v (.bool b)))] [(2, .var [.d (.v (.int .i64 m0)), .d (.v (.int .i64 w0)), .d (.v (.int .i64 p0)), .d (.v (.int .i64 u0)), .d (.v (.int .i64 y0))]), (3, .var [.d (.v (.int .i64 v)), .d (partsD qu), .d (.v (.int .i64 g)), .d (.v (.int .i64 s)), .d (.v (.bool d))])]) (fun b => b = cb) ?_ ?_
  · skip
    cases k0 : inB v 0 255
    · skip
      apply AW.list
      apply Wk.fad 0 0 false fd38_0 rfl (lt_of_ble rfl)
      apply Wk.ld (i := 3) 1 false ty3 rfl rfl (by conv => lhs; whnf) (lt_of_ble rfl)
      apply Wk.dat (inoneb k0) Tryd.func41 rfl rfl rfl rfl rfl (lt_of_ble rfl)
      apply Wk.mv (by conv => lhs; whnf) (lt_of_ble rfl)
      apply Wk.goff 9 (ok_faddr fd38_2) rfl rfl (by simp)
      apply Wk.goff 9 (ok_load 3 ty3) rfl rfl (by simp)
      apply Wk.goff 9 (ok_datw ((inoneb (n := 0) (hi := 0) rfl).w rfl) Tryd.func41 rfl rfl) rfl rfl (by simp)
      apply Wk.pckF rfl (by conv => lhs; whnf) (lt_of_ble rfl)
      apply Wk.mv (by conv => lhs; whnf) (lt_of_ble rfl)
      apply Wk.goff 14 (ok_faddr fd38_3) rfl rfl (by simp)
      apply Wk.goff 14 (ok_load 3 ty3) rfl rfl (by simp)
      apply Wk.goff 14 (ok_datw ((inoneb (n := 0) (hi := 0) rfl).w rfl) Tryd.func41 rfl rfl) rfl rfl (by simp)
      apply Wk.pckF rfl (by conv => lhs; whnf) (lt_of_ble rfl)
      apply Wk.mv (by conv => lhs; whnf) (lt_of_ble rfl)
      apply Wk.goff 19 (ok_faddr fd38_0) rfl rfl (by simp)
      apply Wk.goff 19 (ok_load 3 ty3) rfl rfl (by simp)
      apply Wk.goff 19 (ok_faddr fd38_2) rfl rfl (by simp)
      apply Wk.goff 19 (ok_load 3 ty3) rfl rfl (by simp)
      apply Wk.goff 19 (ok_faddr fd38_3) rfl rfl (by simp)
      apply Wk.goff 19 (ok_load 3 ty3) rfl rfl (by simp)
      apply Wk.goff 19 (ok_bin _ _ _ _ _) rfl rfl (by simp)
      apply Wk.goff 19 (ok_bin _ _ _ _ _) rfl rfl (by simp)
      apply Wk.pckF rfl (by conv => lhs; whnf) (lt_of_ble rfl)
      apply Wk.asg (by conv => lhs; whnf) (lt_of_ble rfl)
      refine Wk.nil (thenA_normal ?_)
      exact ⟨false, by rw [hcb, k0]; rfl, fun a w => Rel.keep ⟨rfl, .cons rfl rfl (.cons rfl rfl (.cons rfl rfl .nil)), .cons rfl rfl (.cons rfl rfl .nil), hN.mono (by simp [keys])⟩⟩
    · skip
      cases k1 : inB g 0 9999
      · skip
        apply AW.list
        apply Wk.fad 0 0 false fd38_0 rfl (lt_of_ble rfl)
        apply Wk.ld (i := 3) 1 false ty3 rfl rfl (by conv => lhs; whnf) (lt_of_ble rfl)
        apply Wk.dat (inoneb k0) Tryd.func41 rfl rfl rfl rfl rfl (lt_of_ble rfl)
        apply Wk.mv (by conv => lhs; whnf) (lt_of_ble rfl)
        apply Wk.gon 9 rfl rfl
        apply Wk.fad 2 0 false fd38_2 rfl (lt_of_ble rfl)
        apply Wk.gon 9 rfl rfl
        apply Wk.ld (i := 3) 1 false ty3 rfl rfl (by conv => lhs; whnf) (lt_of_ble rfl)
        apply Wk.gon 9 rfl rfl
        apply Wk.dat (inoneb k1) Tryd.func41 rfl rfl rfl rfl rfl (lt_of_ble rfl)
        apply Wk.pckT rfl (by conv => lhs; whnf) (lt_of_ble rfl)
        apply Wk.mv (by conv => lhs; whnf) (lt_of_ble rfl)
        apply Wk.goff 14 (ok_faddr fd38_3) rfl rfl (by simp)
        apply Wk.goff 14 (ok_load 3 ty3) rfl rfl (by simp)
        apply Wk.goff 14 (ok_datw ((inoneb (n := 0) (hi := 0) rfl).w rfl) Tryd.func41 rfl rfl) rfl rfl (by simp)
        apply Wk.pckF rfl (by conv => lhs; whnf) (lt_of_ble rfl)
        apply Wk.mv (by conv => lhs; whnf) (lt_of_ble rfl)
        apply Wk.goff 19 (ok_faddr fd38_0) rfl rfl (by simp)
        apply Wk.goff 19 (ok_load 3 ty3) rfl rfl (by simp)
        apply Wk.goff 19 (ok_faddr fd38_2) rfl rfl (by simp)
        apply Wk.goff 19 (ok_load 3 ty3) rfl rfl (by simp)
        apply Wk.goff 19 (ok_faddr fd38_3) rfl rfl (by simp)
        apply Wk.goff 19 (ok_load 3 ty3) rfl rfl (by simp)
        apply Wk.goff 19 (ok_bin _ _ _ _ _) rfl rfl (by simp)
        apply Wk.goff 19 (ok_bin _ _ _ _ _) rfl rfl (by simp)
        apply Wk.pckF rfl (by conv => lhs; whnf) (lt_of_ble rfl)
        apply Wk.asg (by conv => lhs; whnf) (lt_of_ble rfl)
        refine Wk.nil (thenA_normal ?_)
        exact ⟨false, by rw [hcb, k0, k1]; rfl, fun a w => Rel.keep ⟨rfl, .cons rfl rfl (.cons rfl rfl (.cons rfl rfl .nil)), .cons rfl rfl (.cons rfl rfl .nil), hN.mono (by simp [keys])⟩⟩
      · skip
        cases k2 : inB s 0 9999
        · skip
          apply AW.list
          apply Wk.fad 0 0 false fd38_0 rfl (lt_of_ble rfl)
          apply Wk.ld (i := 3) 1 false ty3 rfl rfl (by conv => lhs; whnf) (lt_of_ble rfl)
          apply Wk.dat (inoneb k0) Tryd.func41 rfl rfl rfl rfl rfl (lt_of_ble rfl)
          apply Wk.mv (by conv => lhs; whnf) (lt_of_ble rfl)
          apply Wk.gon 9 rfl rfl
          apply Wk.fad 2 0 false fd38_2 rfl (lt_of_ble rfl)
          apply Wk.gon 9 rfl rfl
          apply Wk.ld (i := 3) 1 false ty3 rfl rfl (by conv => lhs; whnf) (lt_of_ble rfl)
          apply Wk.gon 9 rfl rfl
          apply Wk.dat (inoneb k1) Tryd.func41 rfl rfl rfl rfl rfl (lt_of_ble rfl)
          apply Wk.pckT rfl (by conv => lhs; whnf) (lt_of_ble rfl)
          apply Wk.mv (by conv => lhs; whnf) (lt_of_ble rfl)
          apply Wk.gon 14 rfl rfl
          apply Wk.fad 3 0 false fd38_3 rfl (lt_of_ble rfl)
          apply Wk.gon 14 rfl rfl
          apply Wk.ld (i := 3) 1 false ty3 rfl rfl (by conv => lhs; whnf) (lt_of_ble rfl)
          apply Wk.gon 14 rfl rfl
          apply Wk.dat (inoneb k2) Tryd.func41 rfl rfl rfl rfl rfl (lt_of_ble rfl)
          apply Wk.pckT rfl (by conv => lhs; whnf) (lt_of_ble rfl)
          apply Wk.mv (by conv => lhs; whnf) (lt_of_ble rfl)
          apply Wk.goff 19 (ok_faddr fd38_0) rfl rfl (by simp)
          apply Wk.goff 19 (ok_load 3 ty3) rfl rfl (by simp)
          apply Wk.goff 19 (ok_faddr fd38_2) rfl rfl (by simp)
          apply Wk.goff 19 (ok_load 3 ty3) rfl rfl (by simp)
          apply Wk.goff 19 (ok_faddr fd38_3) rfl rfl (by simp)
          apply Wk.goff 19 (ok_load 3 ty3) rfl rfl (by simp)
          apply Wk.goff 19 (ok_bin _ _ _ _ _) rfl rfl (by simp)
          apply Wk.goff 19 (ok_bin _ _ _ _ _) rfl rfl (by simp)
          apply Wk.pckF rfl (by conv => lhs; whnf) (lt_of_ble rfl)
          apply Wk.asg (by conv => lhs; whnf) (lt_of_ble rfl)
          refine Wk.nil (thenA_normal ?_)
          exact ⟨false, by rw [hcb, k0, k1, k2]; rfl, fun a w => Rel.keep ⟨rfl, .cons rfl rfl (.cons rfl rfl (.cons rfl rfl .nil)), .cons rfl rfl (.cons rfl rfl .nil), hN.mono (by simp [keys])⟩⟩
        · skip
          by_cases k3 : v = g - s
          · skip
            apply AW.list
            apply Wk.fad 0 0 false fd38_0 rfl (lt_of_ble rfl)
            apply Wk.ld (i := 3) 1 false ty3 rfl rfl (by conv => lhs; whnf) (lt_of_ble rfl)
            apply Wk.dat (inoneb k0) Tryd.func41 rfl rfl rfl rfl rfl (lt_of_ble rfl)
            apply Wk.mv (by conv => lhs; whnf) (lt_of_ble rfl)
            apply Wk.gon 9 rfl rfl
            apply Wk.fad 2 0 false fd38_2 rfl (lt_of_ble rfl)
            apply Wk.gon 9 rfl rfl
            apply Wk.ld (i := 3) 1 false ty3 rfl rfl (by conv => lhs; whnf) (lt_of_ble rfl)
            apply Wk.gon 9 rfl rfl
            apply Wk.dat (inoneb k1) Tryd.func41 rfl rfl rfl rfl rfl (lt_of_ble rfl)
            apply Wk.pckT rfl (by conv => lhs; whnf) (lt_of_ble rfl)
            apply Wk.mv (by conv => lhs; whnf) (lt_of_ble rfl)
            apply Wk.gon 14 rfl rfl
            apply Wk.fad 3 0 false fd38_3 rfl (lt_of_ble rfl)
            apply Wk.gon 14 rfl rfl
            apply Wk.ld (i := 3) 1 false ty3 rfl rfl (by conv => lhs; whnf) (lt_of_ble rfl)
            apply Wk.gon 14 rfl rfl
            apply Wk.dat (inoneb k2) Tryd.func41 rfl rfl rfl rfl rfl (lt_of_ble rfl)
            apply Wk.pckT rfl (by conv => lhs; whnf) (lt_of_ble rfl)
            apply Wk.mv (by conv => lhs; whnf) (lt_of_ble rfl)
            apply Wk.gon 19 rfl rfl
            apply Wk.fad 0 0 false fd38_0 rfl (lt_of_ble rfl)
            apply Wk.gon 19 rfl rfl
            apply Wk.ld (i := 3) 1 false ty3 rfl rfl (by conv => lhs; whnf) (lt_of_ble rfl)
            apply Wk.gon 19 rfl rfl
            apply Wk.fad 2 0 false fd38_2 rfl (lt_of_ble rfl)
            apply Wk.gon 19 rfl rfl
            apply Wk.ld (i := 3) 1 false ty3 rfl rfl (by conv => lhs; whnf) (lt_of_ble rfl)
            apply Wk.gon 19 rfl rfl
            apply Wk.fad 3 0 false fd38_3 rfl (lt_of_ble rfl)
            apply Wk.gon 19 rfl rfl
            apply Wk.ld (i := 3) 1 false ty3 rfl rfl (by conv => lhs; whnf) (lt_of_ble rfl)
            apply Wk.gon 19 rfl rfl
            apply Wk.subi rfl rfl (by have := (inB_iff _ _ _).1 k1; have := (inB_iff _ _ _).1 k2; dsimp only; omega) (lt_of_ble rfl)
            apply Wk.gon 19 rfl rfl
            apply Wk.bin rfl rfl (r := .bool true) (fun w => by simp [go_sem, k3]) (lt_of_ble rfl)
            apply Wk.pckT rfl (by conv => lhs; whnf) (lt_of_ble rfl)
            apply Wk.asg (by conv => lhs; whnf) (lt_of_ble rfl)
            refine Wk.nil (thenA_normal ?_)
            exact ⟨true, by rw [hcb, k0, k1, k2, decide_eq_true k3]; rfl, fun a w => Rel.keep ⟨rfl, .cons rfl rfl (.cons rfl rfl (.cons rfl rfl .nil)), .cons rfl rfl (.cons rfl rfl .nil), hN.mono (by simp [keys])⟩⟩
          · skip
            apply AW.list
            apply Wk.fad 0 0 false fd38_0 rfl (lt_of_ble rfl)
            apply Wk.ld (i := 3) 1 false ty3 rfl rfl (by conv => lhs; whnf) (lt_of_ble rfl)
            apply Wk.dat (inoneb k0) Tryd.func41 rfl rfl rfl rfl rfl (lt_of_ble rfl)
            apply Wk.mv (by conv => lhs; whnf) (lt_of_ble rfl)
            apply Wk.gon 9 rfl rfl
            apply Wk.fad 2 0 false fd38_2 rfl (lt_of_ble rfl)
            apply Wk.gon 9 rfl rfl
            apply Wk.ld (i := 3) 1 false ty3 rfl rfl (by conv => lhs; whnf) (lt_of_ble rfl)
            apply Wk.gon 9 rfl rfl
            apply Wk.dat (inoneb k1) Tryd.func41 rfl rfl rfl rfl rfl (lt_of_ble rfl)
            apply Wk.pckT rfl (by conv => lhs; whnf) (lt_of_ble rfl)
            apply Wk.mv (by conv => lhs; whnf) (lt_of_ble rfl)
            apply Wk.gon 14 rfl rfl
            apply Wk.fad 3 0 false fd38_3 rfl (lt_of_ble rfl)
            apply Wk.gon 14 rfl rfl
            apply Wk.ld (i := 3) 1 false ty3 rfl rfl (by conv => lhs; whnf) (lt_of_ble rfl)
            apply Wk.gon 14 rfl rfl
            apply Wk.dat (inoneb k2) Tryd.func41 rfl rfl rfl rfl rfl (lt_of_ble rfl)
            apply Wk.pckT rfl (by conv => lhs; whnf) (lt_of_ble rfl)
            apply Wk.mv (by conv => lhs; whnf) (lt_of_ble rfl)
            apply Wk.gon 19 rfl rfl
            apply Wk.fad 0 0 false fd38_0 rfl (lt_of_ble rfl)
            apply Wk.gon 19 rfl rfl
            apply Wk.ld (i := 3) 1 false ty3 rfl rfl (by conv => lhs; whnf) (lt_of_ble rfl)
            apply Wk.gon 19 rfl rfl
            apply Wk.fad 2 0 false fd38_2 rfl (lt_of_ble rfl)
            apply Wk.gon 19 rfl rfl
            apply Wk.ld (i := 3) 1 false ty3 rfl rfl (by conv => lhs; whnf) (lt_of_ble rfl)
            apply Wk.gon 19 rfl rfl
            apply Wk.fad 3 0 false fd38_3 rfl (lt_of_ble rfl)
            apply Wk.gon 19 rfl rfl
            apply Wk.ld (i := 3) 1 false ty3 rfl rfl (by conv => lhs; whnf) (lt_of_ble rfl)
            apply Wk.gon 19 rfl rfl
            apply Wk.subi rfl rfl (by have := (inB_iff _ _ _).1 k1; have := (inB_iff _ _ _).1 k2; dsimp only; omega) (lt_of_ble rfl)
            apply Wk.gon 19 rfl rfl
            apply Wk.bin rfl rfl (r := .bool false) (fun w => by simp [go_sem, k3]) (lt_of_ble rfl)
            apply Wk.pckT rfl (by conv => lhs; whnf) (lt_of_ble rfl)
            apply Wk.asg (by conv => lhs; whnf) (lt_of_ble rfl)
            refine Wk.nil (thenA_normal ?_)
            exact ⟨false, by rw [hcb, k0, k1, k2, decide_eq_false k3]; rfl, fun a w => Rel.keep ⟨rfl, .cons rfl rfl (.cons rfl rfl (.cons rfl rfl .nil)), .cons rfl rfl (.cons rfl rfl .nil), hN.mono (by simp [keys])⟩⟩
  rintro cb' rfl
  clear hcb
  refine AW.seq ?_
  cases h0 : Opt.ok ⟨m0, w0, p0, u0, y0⟩
  · skip
    apply AW.list
    apply Wk.ld (i := 2) 5 true ty35 rfl rfl (by conv => lhs; whnf) (lt_of_ble rfl)
    apply Wk.dat (icfgb h0) Tryd.func36 rfl rfl rfl rfl rfl (lt_of_ble rfl)
    apply Wk.mv (by conv => lhs; whnf) (lt_of_ble rfl)
    apply Wk.goff 31 (ok_move _) rfl rfl (by simp)
    apply Wk.pckF rfl (by conv => lhs; whnf) (lt_of_ble rfl)
    apply Wk.mv (by conv => lhs; whnf) (lt_of_ble rfl)
    apply Wk.goff 34 (ok_faddr fd38_1) rfl rfl (by simp)
    apply Wk.goff 34 (ok_load 3 ty36) rfl rfl (by simp)
    apply Wk.goff 34 (ok_len un36) rfl rfl (by simp)
    apply Wk.goff 34 (ok_datw ((inoneb (n := 0) (hi := 24) rfl).w rfl) Tryd.func41 rfl rfl) rfl rfl (by simp)
    apply Wk.pckF rfl (by conv => lhs; whnf) (lt_of_ble rfl)
    apply Wk.mv (by conv => lhs; whnf) (lt_of_ble rfl)
    apply Wk.goff 40 (ok_faddr fd38_1) rfl rfl (by simp)
    apply Wk.goff 40 (ok_load 3 ty36) rfl rfl (by simp)
    apply Wk.goff 40 (ok_faddr fd35_2) rfl rfl (by simp)
    apply Wk.goff 40 (ok_load 2 ty3) rfl rfl (by simp)
    apply Wk.goff 40 (ok_datw ((ipartsb [] 0 rfl).w rfl) Tryd.func42 rfl rfl) rfl rfl (by simp)
    apply Wk.pckF rfl (by conv => lhs; whnf) (lt_of_ble rfl)
    apply Wk.asg (by conv => lhs; whnf) (lt_of_ble rfl)
    refine Wk.nil (AW.ret ?_)
    exact RetQ.ret [] (.cons rfl .nil) ⟨rfl, rfl⟩ none_kept
  · skip
    cases cb'
    · skip
      apply AW.list
      apply Wk.ld (i := 2) 5 true ty35 rfl rfl (by conv => lhs; whnf) (lt_of_ble rfl)
      apply Wk.dat (icfgb h0) Tryd.func36 rfl rfl rfl rfl rfl (lt_of_ble rfl)
      apply Wk.mv (by conv => lhs; whnf) (lt_of_ble rfl)
      apply Wk.gon 31 rfl rfl
      apply Wk.mv (by conv => lhs; whnf) (lt_of_ble rfl)
      apply Wk.pckT rfl (by conv => lhs; whnf) (lt_of_ble rfl)
      apply Wk.mv (by conv => lhs; whnf) (lt_of_ble rfl)
      apply Wk.goff 34 (ok_faddr fd38_1) rfl rfl (by simp)
      apply Wk.goff 34 (ok_load 3 ty36) rfl rfl (by simp)
      apply Wk.goff 34 (ok_len un36) rfl rfl (by simp)
      apply Wk.goff 34 (ok_datw ((inoneb (n := 0) (hi := 24) rfl).w rfl) Tryd.func41 rfl rfl) rfl rfl (by simp)
      apply Wk.pckF rfl (by conv => lhs; whnf) (lt_of_ble rfl)
      apply Wk.mv (by conv => lhs; whnf) (lt_of_ble rfl)
      apply Wk.goff 40 (ok_faddr fd38_1) rfl rfl (by simp)
      apply Wk.goff 40 (ok_load 3 ty36) rfl rfl (by simp)
      apply Wk.goff 40 (ok_faddr fd35_2) rfl rfl (by simp)
      apply Wk.goff 40 (ok_load 2 ty3) rfl rfl (by simp)
      apply Wk.goff 40 (ok_datw ((ipartsb [] 0 rfl).w rfl) Tryd.func42 rfl rfl) rfl rfl (by simp)
      apply Wk.pckF rfl (by conv => lhs; whnf) (lt_of_ble rfl)
      apply Wk.asg (by conv => lhs; whnf) (lt_of_ble rfl)
      refine Wk.nil (AW.ret ?_)
      exact RetQ.ret [] (.cons rfl .nil) ⟨rfl, rfl⟩ none_kept
    · skip
      cases h2 : inB (((qu.map datD).length : Nat) : Int) 0 24
      · skip
        apply AW.list
        apply Wk.ld (i := 2) 5 true ty35 rfl rfl (by conv => lhs; whnf) (lt_of_ble rfl)
        apply Wk.dat (icfgb h0) Tryd.func36 rfl rfl rfl rfl rfl (lt_of_ble rfl)
        apply Wk.mv (by conv => lhs; whnf) (lt_of_ble rfl)
        apply Wk.gon 31 rfl rfl
        apply Wk.mv (by conv => lhs; whnf) (lt_of_ble rfl)
        apply Wk.pckT rfl (by conv => lhs; whnf) (lt_of_ble rfl)
        apply Wk.mv (by conv => lhs; whnf) (lt_of_ble rfl)
        apply Wk.gon 34 rfl rfl
        apply Wk.fad 1 0 false fd38_1 rfl (lt_of_ble rfl)
        apply Wk.gon 34 rfl rfl
        apply Wk.ld (i := 3) 1 false ty36 rfl rfl (by conv => lhs; whnf) (lt_of_ble rfl)
        apply Wk.gon 34 rfl rfl
        apply Wk.len un36 rfl (lt_of_ble rfl)
        apply Wk.gon 34 rfl rfl
        apply Wk.dat (inoneb h2) Tryd.func41 rfl rfl rfl rfl rfl (lt_of_ble rfl)
        apply Wk.pckT rfl (by conv => lhs; whnf) (lt_of_ble rfl)
        apply Wk.mv (by conv => lhs; whnf) (lt_of_ble rfl)
        apply Wk.goff 40 (ok_faddr fd38_1) rfl rfl (by simp)
        apply Wk.goff 40 (ok_load 3 ty36) rfl rfl (by simp)
        apply Wk.goff 40 (ok_faddr fd35_2) rfl rfl (by simp)
        apply Wk.goff 40 (ok_load 2 ty3) rfl rfl (by simp)
        apply Wk.goff 40 (ok_datw ((ipartsb [] 0 rfl).w rfl) Tryd.func42 rfl rfl) rfl rfl (by simp)
        apply Wk.pckF rfl (by conv => lhs; whnf) (lt_of_ble rfl)
        apply Wk.asg (by conv => lhs; whnf) (lt_of_ble rfl)
        refine Wk.nil (AW.ret ?_)
        exact RetQ.ret [] (.cons rfl .nil) ⟨rfl, rfl⟩ none_kept
      · skip
        cases h3 : qu.all (partM p0)
        · skip
          apply AW.list
          apply Wk.ld (i := 2) 5 true ty35 rfl rfl (by conv => lhs; whnf) (lt_of_ble rfl)
          apply Wk.dat (icfgb h0) Tryd.func36 rfl rfl rfl rfl rfl (lt_of_ble rfl)
          apply Wk.mv (by conv => lhs; whnf) (lt_of_ble rfl)
          apply Wk.gon 31 rfl rfl
          apply Wk.mv (by conv => lhs; whnf) (lt_of_ble rfl)
          apply Wk.pckT rfl (by conv => lhs; whnf) (lt_of_ble rfl)
          apply Wk.mv (by conv => lhs; whnf) (lt_of_ble rfl)
          apply Wk.gon 34 rfl rfl
          apply Wk.fad 1 0 false fd38_1 rfl (lt_of_ble rfl)
          apply Wk.gon 34 rfl rfl
          apply Wk.ld (i := 3) 1 false ty36 rfl rfl (by conv => lhs; whnf) (lt_of_ble rfl)
          apply Wk.gon 34 rfl rfl
          apply Wk.len un36 rfl (lt_of_ble rfl)
          apply Wk.gon 34 rfl rfl
          apply Wk.dat (inoneb h2) Tryd.func41 rfl rfl rfl rfl rfl (lt_of_ble rfl)
          apply Wk.pckT rfl (by conv => lhs; whnf) (lt_of_ble rfl)
          apply Wk.mv (by conv => lhs; whnf) (lt_of_ble rfl)
          apply Wk.gon 40 rfl rfl
          apply Wk.fad 1 0 false fd38_1 rfl (lt_of_ble rfl)
          apply Wk.gon 40 rfl rfl
          apply Wk.ld (i := 3) 1 false ty36 rfl rfl (by conv => lhs; whnf) (lt_of_ble rfl)
          apply Wk.gon 40 rfl rfl
          apply Wk.fad 2 0 false fd35_2 rfl (lt_of_ble rfl)
          apply Wk.gon 40 rfl rfl
          apply Wk.ld (i := 2) 1 false ty3 rfl rfl (by conv => lhs; whnf) (lt_of_ble rfl)
          apply Wk.gon 40 rfl rfl
          apply Wk.dat (ipartsb qu p0 h3) Tryd.func42 rfl rfl rfl rfl rfl (lt_of_ble rfl)
          apply Wk.pckT rfl (by conv => lhs; whnf) (lt_of_ble rfl)
          apply Wk.asg (by conv => lhs; whnf) (lt_of_ble rfl)
          refine Wk.nil (AW.ret ?_)
          exact RetQ.ret [] (.cons rfl .nil) ⟨rfl, rfl⟩ none_kept
        · skip
          apply AW.list
          apply Wk.ld (i := 2) 5 true ty35 rfl rfl (by conv => lhs; whnf) (lt_of_ble rfl)
          apply Wk.dat (icfgb h0) Tryd.func36 rfl rfl rfl rfl rfl (lt_of_ble rfl)
          apply Wk.mv (by conv => lhs; whnf) (lt_of_ble rfl)
          apply Wk.gon 31 rfl rfl
          apply Wk.mv (by conv => lhs; whnf) (lt_of_ble rfl)
          apply Wk.pckT rfl (by conv => lhs; whnf) (lt_of_ble rfl)
          apply Wk.mv (by conv => lhs; whnf) (lt_of_ble rfl)
          apply Wk.gon 34 rfl rfl
          apply Wk.fad 1 0 false fd38_1 rfl (lt_of_ble rfl)
          apply Wk.gon 34 rfl rfl
          apply Wk.ld (i := 3) 1 false ty36 rfl rfl (by conv => lhs; whnf) (lt_of_ble rfl)
          apply Wk.gon 34 rfl rfl
          apply Wk.len un36 rfl (lt_of_ble rfl)
          apply Wk.gon 34 rfl rfl
          apply Wk.dat (inoneb h2) Tryd.func41 rfl rfl rfl rfl rfl (lt_of_ble rfl)
          apply Wk.pckT rfl (by conv => lhs; whnf) (lt_of_ble rfl)
          apply Wk.mv (by conv => lhs; whnf) (lt_of_ble rfl)
          apply Wk.gon 40 rfl rfl
          apply Wk.fad 1 0 false fd38_1 rfl (lt_of_ble rfl)
          apply Wk.gon 40 rfl rfl
          apply Wk.ld (i := 3) 1 false ty36 rfl rfl (by conv => lhs; whnf) (lt_of_ble rfl)
          apply Wk.gon 40 rfl rfl
          apply Wk.fad 2 0 false fd35_2 rfl (lt_of_ble rfl)
          apply Wk.gon 40 rfl rfl
          apply Wk.ld (i := 2) 1 false ty3 rfl rfl (by conv => lhs; whnf) (lt_of_ble rfl)
          apply Wk.gon 40 rfl rfl
          apply Wk.dat (ipartsb qu p0 h3) Tryd.func42 rfl rfl rfl rfl rfl (lt_of_ble rfl)
          apply Wk.pckT rfl (by conv => lhs; whnf) (lt_of_ble rfl)
          apply Wk.asg (by conv => lhs; whnf) (lt_of_ble rfl)
          refine Wk.nil (AW.ret ?_)
          exact RetQ.ret [] (.cons rfl .nil) ⟨rfl, rfl⟩ none_kept
theorem icxb {m w p u y : Int} {x : CX} {b : Bool} (h : crdOkB ⟨m, w, p, u, y⟩ x = b) : DataOk Tryd.prog 18 [cfgA m w p u y, cxA x] (.d (.v (.bool b))) := h ▸ icx_ok m w p u y x
set_option maxRecDepth 100000 in
theorem sl8_ok (x : CX) (hx : x.few) : DataOk Tryd.prog 69 [cxA x] (cxA x) := by
  have h1 := slist_ok x.qu hx.1 hx.2
  obtain ⟨v, qu, g, s, d⟩ := x
  simp only at h1
  refine Spec.intro (n := 10) (rv := [.cell 2 38]) Tryd.func69 rfl rfl rfl (by simp) fun C hN hX => ?_
  refine AW.seq ?_
  apply AW.list
  apply Wk.bx 1 rfl rfl (lt_of_ble rfl)
  apply Wk.alc 2 [.int .i64 0, .slice none 0 0, .int .i64 0, .int .i64 0, .bool false] ze38 rfl rfl (lt_of_ble rfl)
  refine Wk.nil ?_
  refine AW.seq ?_
  apply AW.list
  apply Wk.ld (i := 1) 5 true ty38 rfl rfl (by conv => lhs; whnf) (lt_of_ble rfl)
  apply Wk.alc 3 [.int .i64 0, .slice none 0 0, .int .i64 0, .int .i64 0, .bool false] ze38 rfl rfl (lt_of_ble rfl)
  apply Wk.sto (i := 3) 5 true ty38 rfl rfl rfl rfl (Nat.le_of_ble_eq_true rfl) (lt_of_ble rfl)
  refine Wk.nil ?_
  refine AW.seq ?_
  apply AW.list
  apply Wk.fad 1 0 false fd38_1 rfl (lt_of_ble rfl)
  apply Wk.ld (i := 1) 1 false ty36 rfl rfl (by conv => lhs; whnf) (lt_of_ble rfl)
  apply Wk.dat h1 Tryd.func71 rfl rfl rfl rfl rfl (lt_of_ble rfl)
  apply Wk.fad 1 0 false fd38_1 rfl (lt_of_ble rfl)
  apply Wk.sto (i := 3) 1 false ty36 rfl rfl rfl rfl (Nat.le_of_ble_eq_true rfl) (lt_of_ble rfl)
  refine Wk.nil ?_
  refine AW.seq ?_
  apply AW.list
  apply Wk.ld (i := 3) 5 true ty38 rfl rfl (by conv => lhs; whnf) (lt_of_ble rfl)
  apply Wk.sto (i := 2) 5 true ty38 rfl rfl rfl rfl (Nat.le_of_ble_eq_true rfl) (lt_of_ble rfl)
  refine Wk.nil (AW.ret ?_)
  exact RetQ.ret [] (.cons ⟨2, 0, _, _, _, rfl, rfl, ty38, rfl⟩ .nil) ⟨rfl, rfl⟩ none_kept
set_option maxRecDepth 100000 in
theorem sl8O (x : CX) (hx : x.few) : Spec Tryd.prog 69 [cxA x] [] (fun r bs => r = cxO x x.qu.length ∧ bs = cxB x.qu x.qu.length) := by
  have h1 := slistP x.qu hx.1 hx.2
  have i1 := in_slist (L := [] ++ [66]) (i := 66) (k := x.qu.length) (e := 77) (sz := 3) (by simp) (within_parts x.qu)
  obtain ⟨v, qu, g, s, d⟩ := x
  simp only at h1 i1
  refine Spec.intro (n := 10) (rv := [.cell 2 38]) Tryd.func69 rfl rfl rfl (by simp) fun C hN hX => ?_
  refine AW.seq ?_
  apply AW.list
  apply Wk.bx 1 rfl rfl (lt_of_ble rfl)
  apply Wk.alc 2 [.int .i64 0, .slice none 0 0, .int .i64 0, .int .i64 0, .bool false] ze38 rfl rfl (lt_of_ble rfl)
  refine Wk.nil ?_
  refine AW.seq ?_
  apply AW.list
  apply Wk.ld (i := 1) 5 true ty38 rfl rfl (by conv => lhs; whnf) (lt_of_ble rfl)
  apply Wk.alc 3 [.int .i64 0, .slice none 0 0, .int .i64 0, .int .i64 0, .bool false] ze38 rfl rfl (lt_of_ble rfl)
  apply Wk.sto (i := 3) 5 true ty38 rfl rfl rfl rfl (Nat.le_of_ble_eq_true rfl) (lt_of_ble rfl)
  refine Wk.nil ?_
  refine AW.seq ?_
  apply AW.list
  apply Wk.fad 1 0 false fd38_1 rfl (lt_of_ble rfl)
  apply Wk.ld (i := 1) 1 false ty36 rfl rfl (by conv => lhs; whnf) (lt_of_ble rfl)
  apply Wk.cal [] [66] h1 i1 ⟨_, _, rfl, rfl⟩ Tryd.func71 rfl rfl rfl rfl (by simp; rfl) rfl (fun i hi => by cases hi) (lt_of_ble rfl)
  rintro r bs' ⟨rfl, rfl⟩
  apply Wk.fad 1 0 false fd38_1 rfl (lt_of_ble rfl)
  apply Wk.sto (i := 3) 1 false ty36 rfl rfl rfl rfl (Nat.le_of_ble_eq_true rfl) (lt_of_ble rfl)
  refine Wk.nil ?_
  refine AW.seq ?_
  apply AW.list
  apply Wk.ld (i := 3) 5 true ty38 rfl rfl (by conv => lhs; whnf) (lt_of_ble rfl)
  apply Wk.sto (i := 2) 5 true ty38 rfl rfl rfl rfl (Nat.le_of_ble_eq_true rfl) (lt_of_ble rfl)
  refine Wk.nil (AW.ret ?_)
  exact RetQ.ret (cxB qu qu.length) (.cons ⟨2, 0, _, _, _, rfl, rfl, ty38, rfl⟩ .nil) ⟨rfl, rfl⟩ (kept1 rfl)
theorem in_cput (x : CX) (l : Nat) (b : Bool) : PostIn [66] (fun r bs => r = .tup [cxO x l, .d (.v (.bool b))] ∧ bs = cxB x.qu l) := by
  rintro r bs ⟨rfl, rfl⟩
  exact ⟨by simp [A.within, A.withins, in_cxO], fun i z h => in_cxB h⟩
/-- A message does not fit. -/
def fullC (u : Int) (x : CX) (n k : Nat) : Prop := x.d = true ∨ u < (n : Int) ∨ 24 < x.qu.length + k
set_option maxHeartbeats 4000000 in
set_option maxRecDepth 100000 in
theorem scputNo (m0 w0 p0 u0 y0 : Int) (x : CX) (sdu : D) (hok : crdOkB ⟨m0, w0, p0, u0, y0⟩ x = false) : DataOk Tryd.prog 56 [cfgA m0 w0 p0 u0 y0, cxA x, .d sdu] (.tup [cxNil, .d (.v (.bool false))]) := by
  refine Spec.intro (n := 47) (rv := [.cell 6 38, .tmp 7]) Tryd.func56 rfl rfl rfl (by simp) fun C hN hX => ?_
  refine AW.seq ?_
  apply AW.list
  apply Wk.bx 3 rfl rfl (lt_of_ble rfl)
  apply Wk.bx 4 rfl rfl (lt_of_ble rfl)
  apply Wk.alc 6 [.int .i64 0, .slice none 0 0, .int .i64 0, .int .i64 0, .bool false] ze38 rfl rfl (lt_of_ble rfl)
  apply Wk.asg (by conv => lhs; whnf) (lt_of_ble rfl)
  refine Wk.nil ?_
  refine AW.seq (AW.seq ?_)
  apply AW.list
  apply Wk.ld (i := 3) 5 true ty35 rfl rfl (by conv => lhs; whnf) (lt_of_ble rfl)
  apply Wk.ld (i := 4) 5 true ty38 rfl rfl (by conv => lhs; whnf) (lt_of_ble rfl)
  apply Wk.dat (scxb hok) Tryd.func17 rfl rfl rfl rfl rfl (lt_of_ble rfl)
  apply Wk.un rfl (fun w => by simp [go_sem] <;> rfl) (lt_of_ble rfl)
  refine Wk.nil ?_
  refine AW.cond rfl (fun _ => ?_) (fun hc => by cases hc)
  refine AW.seq ?_
  apply AW.list
  apply Wk.bld [.int .i64 0, .slice none 0 0, .int .i64 0, .int .i64 0, .bool false] [(0, 1), (1, 1), (2, 1), (3, 1), (4, 1)] bl38 rfl (by conv => lhs; whnf) (lt_of_ble rfl)
  apply Wk.sto (i := 6) 5 true ty38 rfl rfl rfl rfl (Nat.le_of_ble_eq_true rfl) (lt_of_ble rfl)
  apply Wk.asg (by conv => lhs; whnf) (lt_of_ble rfl)
  refine Wk.nil (AW.ret ?_)
  repeat (first | refine thenA_ret ?_ | refine inBlockA_ret ?_)
  exact RetQ.ret [] (.cons ⟨6, 0, _, _, _, rfl, rfl, ty38, rfl⟩ (.cons rfl .nil)) ⟨rfl, rfl⟩ none_kept
set_option maxHeartbeats 4000000 in
set_option maxRecDepth 100000 in
theorem scputFull (m0 w0 p0 u0 y0 : Int) (x : CX) (sdu : List Nat) (cut : List Dat) (hok : crdOkB ⟨m0, w0, p0, u0, y0⟩ x = true) (hcut : DataOk Tryd.prog 70 [.d (bytesD sdu), .d (.v (.int .i64 p0))] (.d (partsD cut))) (hq : x.qu.length ≤ 1000) (hc : cut.length ≤ 1000) (hx : x.few) (hf : fullC u0 x sdu.length cut.length) :
    Spec Tryd.prog 56 [cfgA m0 w0 p0 u0 y0, cxA x, .d (bytesD sdu)] [] (fun r bs => r = .tup [cxO x x.qu.length, .d (.v (.bool false))] ∧ bs = cxB x.qu x.qu.length) := by
  have c1 := sl8O x hx
  obtain ⟨v, qu, g, s, d⟩ := x
  simp only [fullC] at hf hq
  have e1 : (((sdu.map fun z : Nat => [D.v (.int .u8 (z : Int))]).length : Nat) : Int) = (sdu.length : Int) := by rw [List.length_map]
  have e2 : (((cut.map datD).length : Nat) : Int) = (cut.length : Int) := by rw [List.length_map]
  have e3 : (((qu.map datD).length : Nat) : Int) = (qu.length : Int) := by rw [List.length_map]
  refine Spec.intro (n := 47) (rv := [.cell 6 38, .tmp 7]) Tryd.func56 rfl rfl rfl (by simp) fun C hN hX => ?_
  refine AW.seq ?_
  apply AW.list
  apply Wk.bx 3 rfl rfl (lt_of_ble rfl)
  apply Wk.bx 4 rfl rfl (lt_of_ble rfl)
  apply Wk.alc 6 [.int .i64 0, .slice none 0 0, .int .i64 0, .int .i64 0, .bool false] ze38 rfl rfl (lt_of_ble rfl)
  apply Wk.asg (by conv => lhs; whnf) (lt_of_ble rfl)
  refine Wk.nil ?_
  refine AW.seq (AW.seq ?_)
  apply AW.list
  apply Wk.ld (i := 3) 5 true ty35 rfl rfl (by conv => lhs; whnf) (lt_of_ble rfl)
  apply Wk.ld (i := 4) 5 true ty38 rfl rfl (by conv => lhs; whnf) (lt_of_ble rfl)
  apply Wk.dat (scxb hok) Tryd.func17 rfl rfl rfl rfl rfl (lt_of_ble rfl)
  apply Wk.un rfl (fun w => by simp [go_sem] <;> rfl) (lt_of_ble rfl)
  refine Wk.nil ?_
  refine AW.cond rfl (fun hc => by cases hc) (fun _ => AW.skip (thenA_normal ?_))
  refine AW.seq ?_
  apply AW.list
  apply Wk.ld (i := 4) 5 true ty38 rfl rfl (by conv => lhs; whnf) (lt_of_ble rfl)
  apply Wk.cal [] [66] c1 (in_cx _ _) ⟨_, _, rfl, rfl⟩ Tryd.func69 rfl rfl rfl rfl (by simp; rfl) rfl (fun i hi => by cases hi) (lt_of_ble rfl)
  rintro r bs' ⟨rfl, rfl⟩
  apply Wk.alc 8 [.int .i64 0, .slice none 0 0, .int .i64 0, .int .i64 0, .bool false] ze38 rfl rfl (lt_of_ble rfl)
  apply Wk.sto (i := 8) 5 true ty38 rfl rfl rfl rfl (Nat.le_of_ble_eq_true rfl) (lt_of_ble rfl)
  refine Wk.nil ?_
  refine AW.seq ?_
  apply AW.list
  apply Wk.mv (by conv => lhs; whnf) (lt_of_ble rfl)
  apply Wk.fad 2 0 false fd35_2 rfl (lt_of_ble rfl)
  apply Wk.ld (i := 3) 1 false ty3 rfl rfl (by conv => lhs; whnf) (lt_of_ble rfl)
  apply Wk.dat hcut Tryd.func70 rfl rfl rfl rfl rfl (lt_of_ble rfl)
  apply Wk.asg (by conv => lhs; whnf) (lt_of_ble rfl)
  refine Wk.nil ?_
  refine AW.seq (AW.seq ?_)
  cases d
  · by_cases c2 : u0 < (sdu.length : Int)
    · skip
      apply AW.list
      apply Wk.fad 4 0 false fd38_4 rfl (lt_of_ble rfl)
      apply Wk.ld (i := 4) 1 false ty4 rfl rfl (by conv => lhs; whnf) (lt_of_ble rfl)
      apply Wk.mv (by conv => lhs; whnf) (lt_of_ble rfl)
      apply Wk.gon 23 rfl rfl
      apply Wk.mv (by conv => lhs; whnf) (lt_of_ble rfl)
      apply Wk.gon 23 rfl rfl
      apply Wk.len un22 rfl (lt_of_ble rfl)
      apply Wk.gon 23 rfl rfl
      apply Wk.fad 3 0 false fd35_3 rfl (lt_of_ble rfl)
      apply Wk.gon 23 rfl rfl
      apply Wk.ld (i := 3) 1 false ty3 rfl rfl (by conv => lhs; whnf) (lt_of_ble rfl)
      apply Wk.gon 23 rfl rfl
      apply Wk.bin rfl rfl (r := .bool true) (fun w => by rw [e1]; simp [go_sem] <;> omega) (lt_of_ble rfl)
      apply Wk.pckF rfl (by conv => lhs; whnf) (lt_of_ble rfl)
      apply Wk.mv (by conv => lhs; whnf) (lt_of_ble rfl)
      apply Wk.goff 30 (ok_faddr fd38_1) rfl rfl (by simp)
      apply Wk.goff 30 (ok_load 4 ty36) rfl rfl (by simp)
      apply Wk.goff 30 (ok_len un36) rfl rfl (by simp)
      apply Wk.goff 30 (ok_move _) rfl rfl (by simp)
      apply Wk.goff 30 (ok_len un36) rfl rfl (by simp)
      apply Wk.goff 30 (ok_bin _ _ _ _ _) rfl rfl (by simp)
      apply Wk.goff 30 (ok_bin _ _ _ _ _) rfl rfl (by simp)
      apply Wk.pckT rfl (by conv => lhs; whnf) (lt_of_ble rfl)
      refine Wk.nil ?_
      refine AW.cond rfl (fun _ => ?_) (fun hc => by cases hc)
      refine AW.seq ?_
      apply AW.list
      apply Wk.ld (i := 8) 5 true ty38 rfl rfl (by conv => lhs; whnf) (lt_of_ble rfl)
      apply Wk.sto (i := 6) 5 true ty38 rfl rfl rfl rfl (Nat.le_of_ble_eq_true rfl) (lt_of_ble rfl)
      apply Wk.asg (by conv => lhs; whnf) (lt_of_ble rfl)
      refine Wk.nil (AW.ret ?_)
      repeat (first | refine thenA_ret ?_ | refine inBlockA_ret ?_)
      exact RetQ.ret (cxB qu qu.length) (.cons ⟨6, 0, _, _, _, rfl, rfl, ty38, rfl⟩ (.cons rfl .nil)) ⟨rfl, rfl⟩ (kept1 rfl)
    · have c3 : 24 < qu.length + cut.length := by rcases hf with h | h | h <;> first | exact absurd h c2 | exact h | cases h
      apply AW.list
      apply Wk.fad 4 0 false fd38_4 rfl (lt_of_ble rfl)
      apply Wk.ld (i := 4) 1 false ty4 rfl rfl (by conv => lhs; whnf) (lt_of_ble rfl)
      apply Wk.mv (by conv => lhs; whnf) (lt_of_ble rfl)
      apply Wk.gon 23 rfl rfl
      apply Wk.mv (by conv => lhs; whnf) (lt_of_ble rfl)
      apply Wk.gon 23 rfl rfl
      apply Wk.len un22 rfl (lt_of_ble rfl)
      apply Wk.gon 23 rfl rfl
      apply Wk.fad 3 0 false fd35_3 rfl (lt_of_ble rfl)
      apply Wk.gon 23 rfl rfl
      apply Wk.ld (i := 3) 1 false ty3 rfl rfl (by conv => lhs; whnf) (lt_of_ble rfl)
      apply Wk.gon 23 rfl rfl
      apply Wk.bin rfl rfl (r := .bool false) (fun w => by rw [e1]; simp [go_sem] <;> omega) (lt_of_ble rfl)
      apply Wk.pckF rfl (by conv => lhs; whnf) (lt_of_ble rfl)
      apply Wk.mv (by conv => lhs; whnf) (lt_of_ble rfl)
      apply Wk.gon 30 rfl rfl
      apply Wk.fad 1 0 false fd38_1 rfl (lt_of_ble rfl)
      apply Wk.gon 30 rfl rfl
      apply Wk.ld (i := 4) 1 false ty36 rfl rfl (by conv => lhs; whnf) (lt_of_ble rfl)
      apply Wk.gon 30 rfl rfl
      apply Wk.len un36 rfl (lt_of_ble rfl)
      apply Wk.gon 30 rfl rfl
      apply Wk.mv (by conv => lhs; whnf) (lt_of_ble rfl)
      apply Wk.gon 30 rfl rfl
      apply Wk.len un36 rfl (lt_of_ble rfl)
      apply Wk.gon 30 rfl rfl
      apply Wk.addi rfl rfl (by rw [e2, e3]; omega) (lt_of_ble rfl)
      apply Wk.gon 30 rfl rfl
      apply Wk.bin rfl rfl (r := .bool true) (fun w => by rw [e2, e3]; simp [go_sem] <;> omega) (lt_of_ble rfl)
      apply Wk.pckF rfl (by conv => lhs; whnf) (lt_of_ble rfl)
      refine Wk.nil ?_
      refine AW.cond rfl (fun _ => ?_) (fun hc => by cases hc)
      refine AW.seq ?_
      apply AW.list
      apply Wk.ld (i := 8) 5 true ty38 rfl rfl (by conv => lhs; whnf) (lt_of_ble rfl)
      apply Wk.sto (i := 6) 5 true ty38 rfl rfl rfl rfl (Nat.le_of_ble_eq_true rfl) (lt_of_ble rfl)
      apply Wk.asg (by conv => lhs; whnf) (lt_of_ble rfl)
      refine Wk.nil (AW.ret ?_)
      repeat (first | refine thenA_ret ?_ | refine inBlockA_ret ?_)
      exact RetQ.ret (cxB qu qu.length) (.cons ⟨6, 0, _, _, _, rfl, rfl, ty38, rfl⟩ (.cons rfl .nil)) ⟨rfl, rfl⟩ (kept1 rfl)
  · skip
    apply AW.list
    apply Wk.fad 4 0 false fd38_4 rfl (lt_of_ble rfl)
    apply Wk.ld (i := 4) 1 false ty4 rfl rfl (by conv => lhs; whnf) (lt_of_ble rfl)
    apply Wk.mv (by conv => lhs; whnf) (lt_of_ble rfl)
    apply Wk.goff 23 (ok_move _) rfl rfl (by simp)
    apply Wk.goff 23 (ok_len un22) rfl rfl (by simp)
    apply Wk.goff 23 (ok_faddr fd35_3) rfl rfl (by simp)
    apply Wk.goff 23 (ok_load 3 ty3) rfl rfl (by simp)
    apply Wk.goff 23 (ok_bin _ _ _ _ _) rfl rfl (by simp)
    apply Wk.pckT rfl (by conv => lhs; whnf) (lt_of_ble rfl)
    apply Wk.mv (by conv => lhs; whnf) (lt_of_ble rfl)
    apply Wk.goff 30 (ok_faddr fd38_1) rfl rfl (by simp)
    apply Wk.goff 30 (ok_load 4 ty36) rfl rfl (by simp)
    apply Wk.goff 30 (ok_len un36) rfl rfl (by simp)
    apply Wk.goff 30 (ok_move _) rfl rfl (by simp)
    apply Wk.goff 30 (ok_len un36) rfl rfl (by simp)
    apply Wk.goff 30 (ok_bin _ _ _ _ _) rfl rfl (by simp)
    apply Wk.goff 30 (ok_bin _ _ _ _ _) rfl rfl (by simp)
    apply Wk.pckT rfl (by conv => lhs; whnf) (lt_of_ble rfl)
    refine Wk.nil ?_
    refine AW.cond rfl (fun _ => ?_) (fun hc => by cases hc)
    refine AW.seq ?_
    apply AW.list
    apply Wk.ld (i := 8) 5 true ty38 rfl rfl (by conv => lhs; whnf) (lt_of_ble rfl)
    apply Wk.sto (i := 6) 5 true ty38 rfl rfl rfl rfl (Nat.le_of_ble_eq_true rfl) (lt_of_ble rfl)
    apply Wk.asg (by conv => lhs; whnf) (lt_of_ble rfl)
    refine Wk.nil (AW.ret ?_)
    repeat (first | refine thenA_ret ?_ | refine inBlockA_ret ?_)
    exact RetQ.ret (cxB qu qu.length) (.cons ⟨6, 0, _, _, _, rfl, rfl, ty38, rfl⟩ (.cons rfl .nil)) ⟨rfl, rfl⟩ (kept1 rfl)
set_option maxHeartbeats 4000000 in
set_option maxRecDepth 100000 in
theorem scputYes (m0 w0 p0 u0 y0 : Int) (x : CX) (sdu : List Nat) (cut : List Dat) (hok : crdOkB ⟨m0, w0, p0, u0, y0⟩ x = true) (hcut : DataOk Tryd.prog 70 [.d (bytesD sdu), .d (.v (.int .i64 p0))] (.d (partsD cut))) (hx : x.few) (hx' : CX.few { x with qu := x.qu ++ cut }) (hf : ¬ fullC u0 x sdu.length cut.length) :
    Spec Tryd.prog 56 [cfgA m0 w0 p0 u0 y0, cxA x, .d (bytesD sdu)] [] (fun r bs => r = .tup [cxO { x with qu := x.qu ++ cut } (x.qu ++ cut).length, .d (.v (.bool true))] ∧ bs = cxB (x.qu ++ cut) (x.qu ++ cut).length) := by
  have c2 := sl8O { x with qu := x.qu ++ cut } hx'
  have hq := hx.1
  have c1 := sl8O x hx
  obtain ⟨v, qu, g, s, d⟩ := x
  simp only [fullC, not_or] at hf hq
  have e1 : (((sdu.map fun z : Nat => [D.v (.int .u8 (z : Int))]).length : Nat) : Int) = (sdu.length : Int) := by rw [List.length_map]
  have e2 : (((cut.map datD).length : Nat) : Int) = (cut.length : Int) := by rw [List.length_map]
  have e3 : (((qu.map datD).length : Nat) : Int) = (qu.length : Int) := by rw [List.length_map]
  obtain ⟨hd, hu, hl⟩ := hf
  obtain rfl : d = false := by simpa using hd
  have e4 : piecesA qu ++ (cut.map datD).map (·.map A.d) = piecesA (qu ++ cut) := by simp [piecesA]
  have e5 : (piecesA qu).length + (cut.map datD).length ≤ 1000000 := by rw [piecesA, List.length_map, List.length_map]; omega
  refine Spec.intro (n := 47) (rv := [.cell 6 38, .tmp 7]) Tryd.func56 rfl rfl rfl (by simp) fun C hN hX => ?_
  refine AW.seq ?_
  apply AW.list
  apply Wk.bx 3 rfl rfl (lt_of_ble rfl)
  apply Wk.bx 4 rfl rfl (lt_of_ble rfl)
  apply Wk.alc 6 [.int .i64 0, .slice none 0 0, .int .i64 0, .int .i64 0, .bool false] ze38 rfl rfl (lt_of_ble rfl)
  apply Wk.asg (by conv => lhs; whnf) (lt_of_ble rfl)
  refine Wk.nil ?_
  refine AW.seq (AW.seq ?_)
  apply AW.list
  apply Wk.ld (i := 3) 5 true ty35 rfl rfl (by conv => lhs; whnf) (lt_of_ble rfl)
  apply Wk.ld (i := 4) 5 true ty38 rfl rfl (by conv => lhs; whnf) (lt_of_ble rfl)
  apply Wk.dat (scxb hok) Tryd.func17 rfl rfl rfl rfl rfl (lt_of_ble rfl)
  apply Wk.un rfl (fun w => by simp [go_sem] <;> rfl) (lt_of_ble rfl)
  refine Wk.nil ?_
  refine AW.cond rfl (fun hc => by cases hc) (fun _ => AW.skip (thenA_normal ?_))
  refine AW.seq ?_
  apply AW.list
  apply Wk.ld (i := 4) 5 true ty38 rfl rfl (by conv => lhs; whnf) (lt_of_ble rfl)
  apply Wk.cal [] [66] c1 (in_cx _ _) ⟨_, _, rfl, rfl⟩ Tryd.func69 rfl rfl rfl rfl (by simp; rfl) rfl (fun i hi => by cases hi) (lt_of_ble rfl)
  rintro r bs' ⟨rfl, rfl⟩
  apply Wk.alc 8 [.int .i64 0, .slice none 0 0, .int .i64 0, .int .i64 0, .bool false] ze38 rfl rfl (lt_of_ble rfl)
  apply Wk.sto (i := 8) 5 true ty38 rfl rfl rfl rfl (Nat.le_of_ble_eq_true rfl) (lt_of_ble rfl)
  refine Wk.nil ?_
  refine AW.seq ?_
  apply AW.list
  apply Wk.mv (by conv => lhs; whnf) (lt_of_ble rfl)
  apply Wk.fad 2 0 false fd35_2 rfl (lt_of_ble rfl)
  apply Wk.ld (i := 3) 1 false ty3 rfl rfl (by conv => lhs; whnf) (lt_of_ble rfl)
  apply Wk.dat hcut Tryd.func70 rfl rfl rfl rfl rfl (lt_of_ble rfl)
  apply Wk.asg (by conv => lhs; whnf) (lt_of_ble rfl)
  refine Wk.nil ?_
  refine AW.seq (AW.seq ?_)
  apply AW.list
  apply Wk.fad 4 0 false fd38_4 rfl (lt_of_ble rfl)
  apply Wk.ld (i := 4) 1 false ty4 rfl rfl (by conv => lhs; whnf) (lt_of_ble rfl)
  apply Wk.mv (by conv => lhs; whnf) (lt_of_ble rfl)
  apply Wk.gon 23 rfl rfl
  apply Wk.mv (by conv => lhs; whnf) (lt_of_ble rfl)
  apply Wk.gon 23 rfl rfl
  apply Wk.len un22 rfl (lt_of_ble rfl)
  apply Wk.gon 23 rfl rfl
  apply Wk.fad 3 0 false fd35_3 rfl (lt_of_ble rfl)
  apply Wk.gon 23 rfl rfl
  apply Wk.ld (i := 3) 1 false ty3 rfl rfl (by conv => lhs; whnf) (lt_of_ble rfl)
  apply Wk.gon 23 rfl rfl
  apply Wk.bin rfl rfl (r := .bool false) (fun w => by rw [e1]; simp [go_sem] <;> omega) (lt_of_ble rfl)
  apply Wk.pckF rfl (by conv => lhs; whnf) (lt_of_ble rfl)
  apply Wk.mv (by conv => lhs; whnf) (lt_of_ble rfl)
  apply Wk.gon 30 rfl rfl
  apply Wk.fad 1 0 false fd38_1 rfl (lt_of_ble rfl)
  apply Wk.gon 30 rfl rfl
  apply Wk.ld (i := 4) 1 false ty36 rfl rfl (by conv => lhs; whnf) (lt_of_ble rfl)
  apply Wk.gon 30 rfl rfl
  apply Wk.len un36 rfl (lt_of_ble rfl)
  apply Wk.gon 30 rfl rfl
  apply Wk.mv (by conv => lhs; whnf) (lt_of_ble rfl)
  apply Wk.gon 30 rfl rfl
  apply Wk.len un36 rfl (lt_of_ble rfl)
  apply Wk.gon 30 rfl rfl
  apply Wk.addi rfl rfl (by rw [e2, e3]; omega) (lt_of_ble rfl)
  apply Wk.gon 30 rfl rfl
  apply Wk.bin rfl rfl (r := .bool false) (fun w => by rw [e2, e3]; simp [go_sem] <;> omega) (lt_of_ble rfl)
  apply Wk.pckF rfl (by conv => lhs; whnf) (lt_of_ble rfl)
  refine Wk.nil ?_
  refine AW.cond rfl (fun hc => by cases hc) (fun _ => AW.skip (thenA_normal ?_))
  refine AW.seq ?_
  apply AW.list
  apply Wk.fad 1 0 false fd38_1 rfl (lt_of_ble rfl)
  apply Wk.ld (i := 8) 1 false ty36 rfl rfl (by conv => lhs; whnf) (lt_of_ble rfl)
  apply Wk.mv (by conv => lhs; whnf) (lt_of_ble rfl)
  apply Wk.appOR 66 1000 3 un36 ap77 rfl rfl rfl (.inr rfl) (by decide) (datD_len _) (three_parts _) e5 (lt_of_ble rfl)
  rw [e4]
  apply Wk.fad 1 0 false fd38_1 rfl (lt_of_ble rfl)
  apply Wk.sto (i := 8) 1 false ty36 rfl rfl rfl rfl (Nat.le_of_ble_eq_true rfl) (lt_of_ble rfl)
  refine Wk.nil ?_
  refine AW.thawc (j := 8) (c := 1) (i := 66) _ rfl rfl rfl (asData_parts (qu ++ cut)) hX.none ?_
  refine AW.keep (n := 47) (ts := [(6, .ptr 6 0), (8, .ptr 8 0)]) (bs := [(6, .var cxN), (8, .var (cxC ⟨v, qu ++ cut, g, s, false⟩))]) ⟨rfl, .cons rfl rfl (.cons rfl rfl .nil), .cons rfl rfl (.cons rfl rfl .nil), hN.mono (by simp [keys])⟩ ?_
  refine AW.seq ?_
  apply AW.list
  apply Wk.ld (i := 8) 5 true ty38 rfl rfl (by conv => lhs; whnf) (lt_of_ble rfl)
  apply Wk.cal [] [66] c2 (in_cx _ _) ⟨_, _, rfl, rfl⟩ Tryd.func69 rfl rfl rfl rfl (by simp; rfl) rfl (fun i hi => by cases hi) (lt_of_ble rfl)
  rintro r bs' ⟨rfl, rfl⟩
  apply Wk.sto (i := 6) 5 true ty38 rfl rfl rfl rfl (Nat.le_of_ble_eq_true rfl) (lt_of_ble rfl)
  apply Wk.asg (by conv => lhs; whnf) (lt_of_ble rfl)
  refine Wk.nil (AW.ret ?_)
  exact RetQ.ret (cxB (qu ++ cut) (qu ++ cut).length) (.cons ⟨6, 0, _, _, _, rfl, rfl, ty38, rfl⟩ (.cons rfl .nil)) ⟨rfl, rfl⟩ (kept1 rfl)
set_option maxHeartbeats 4000000 in
set_option maxRecDepth 100000 in
theorem scsendNo (m0 w0 p0 u0 y0 : Int) (x : CX) (hok : crdOkB ⟨m0, w0, p0, u0, y0⟩ x = false) : DataOk Tryd.prog 59 [cfgA m0 w0 p0 u0 y0, cxA x] (.tup [cxNil, frmNo, .d (.v (.bool false))]) := by
  refine Spec.intro (n := 64) (rv := [.cell 4 38, .cell 5 24, .tmp 6]) Tryd.func59 rfl rfl rfl (by simp) fun C hN hX => ?_
  refine AW.seq ?_
  apply AW.list
  apply Wk.bx 2 rfl rfl (lt_of_ble rfl)
  apply Wk.bx 3 rfl rfl (lt_of_ble rfl)
  apply Wk.alc 4 [.int .i64 0, .slice none 0 0, .int .i64 0, .int .i64 0, .bool false] ze38 rfl rfl (lt_of_ble rfl)
  apply Wk.alc 5 [.int .i64 0, .int .i64 0, .int .i64 0, .bool false, .bool false, .int .i64 0, .int .i64 0, .int .i64 0, .slice none 0 0] ze24 rfl rfl (lt_of_ble rfl)
  apply Wk.asg (by conv => lhs; whnf) (lt_of_ble rfl)
  refine Wk.nil ?_
  refine AW.seq (AW.seq ?_)
  apply AW.list
  apply Wk.ld (i := 2) 5 true ty35 rfl rfl (by conv => lhs; whnf) (lt_of_ble rfl)
  apply Wk.ld (i := 3) 5 true ty38 rfl rfl (by conv => lhs; whnf) (lt_of_ble rfl)
  apply Wk.dat (scxb hok) Tryd.func17 rfl rfl rfl rfl rfl (lt_of_ble rfl)
  apply Wk.un rfl (fun w => by simp [go_sem] <;> rfl) (lt_of_ble rfl)
  refine Wk.nil ?_
  refine AW.cond rfl (fun _ => ?_) (fun hc => by cases hc)
  refine AW.seq ?_
  apply AW.list
  apply Wk.bld [.int .i64 0, .slice none 0 0, .int .i64 0, .int .i64 0, .bool false] [(0, 1), (1, 1), (2, 1), (3, 1), (4, 1)] bl38 rfl (by conv => lhs; whnf) (lt_of_ble rfl)
  apply Wk.bld [.int .i64 0, .int .i64 0, .int .i64 0, .bool false, .bool false, .int .i64 0, .int .i64 0, .int .i64 0, .slice none 0 0] [(0, 1), (1, 1), (2, 1), (3, 1), (4, 1), (5, 1), (6, 1), (7, 1), (8, 1)] bl24 rfl (by conv => lhs; whnf) (lt_of_ble rfl)
  apply Wk.sto (i := 4) 5 true ty38 rfl rfl rfl rfl (Nat.le_of_ble_eq_true rfl) (lt_of_ble rfl)
  apply Wk.sto (i := 5) 9 true ty24 rfl rfl rfl rfl (Nat.le_of_ble_eq_true rfl) (lt_of_ble rfl)
  apply Wk.asg (by conv => lhs; whnf) (lt_of_ble rfl)
  refine Wk.nil (AW.ret ?_)
  repeat (first | refine thenA_ret ?_ | refine inBlockA_ret ?_)
  exact RetQ.ret [] (.cons ⟨4, 0, _, _, _, rfl, rfl, ty38, rfl⟩ (.cons ⟨5, 0, _, _, _, rfl, rfl, ty24, rfl⟩ (.cons rfl .nil))) ⟨rfl, rfl⟩ none_kept
def idleC (x : CX) : Prop := x.d = true ∨ x.v = 0 ∨ x.qu = [] ∨ x.s = 9999
set_option maxHeartbeats 4000000 in
set_option maxRecDepth 100000 in
theorem scsendIdle (m0 w0 p0 u0 y0 : Int) (x : CX) (hok : crdOkB ⟨m0, w0, p0, u0, y0⟩ x = true) (hx : x.few) (hi : idleC x) :
    Spec Tryd.prog 59 [cfgA m0 w0 p0 u0 y0, cxA x] [] (fun r bs => r = .tup [cxO x x.qu.length, frmNo, .d (.v (.bool false))] ∧ bs = cxB x.qu x.qu.length) := by
  have c1 := sl8O x hx
  obtain ⟨v, qu, g, s, d⟩ := x
  simp only [idleC] at hi
  have e3 : (((qu.map datD).length : Nat) : Int) = (qu.length : Int) := by rw [List.length_map]
  refine Spec.intro (n := 64) (rv := [.cell 4 38, .cell 5 24, .tmp 6]) Tryd.func59 rfl rfl rfl (by simp) fun C hN hX => ?_
  refine AW.seq ?_
  apply AW.list
  apply Wk.bx 2 rfl rfl (lt_of_ble rfl)
  apply Wk.bx 3 rfl rfl (lt_of_ble rfl)
  apply Wk.alc 4 [.int .i64 0, .slice none 0 0, .int .i64 0, .int .i64 0, .bool false] ze38 rfl rfl (lt_of_ble rfl)
  apply Wk.alc 5 [.int .i64 0, .int .i64 0, .int .i64 0, .bool false, .bool false, .int .i64 0, .int .i64 0, .int .i64 0, .slice none 0 0] ze24 rfl rfl (lt_of_ble rfl)
  apply Wk.asg (by conv => lhs; whnf) (lt_of_ble rfl)
  refine Wk.nil ?_
  refine AW.seq (AW.seq ?_)
  apply AW.list
  apply Wk.ld (i := 2) 5 true ty35 rfl rfl (by conv => lhs; whnf) (lt_of_ble rfl)
  apply Wk.ld (i := 3) 5 true ty38 rfl rfl (by conv => lhs; whnf) (lt_of_ble rfl)
  apply Wk.dat (scxb hok) Tryd.func17 rfl rfl rfl rfl rfl (lt_of_ble rfl)
  apply Wk.un rfl (fun w => by simp [go_sem] <;> rfl) (lt_of_ble rfl)
  refine Wk.nil ?_
  refine AW.cond rfl (fun hc => by cases hc) (fun _ => AW.skip (thenA_normal ?_))
  refine AW.seq ?_
  apply AW.list
  apply Wk.ld (i := 3) 5 true ty38 rfl rfl (by conv => lhs; whnf) (lt_of_ble rfl)
  apply Wk.cal [] [66] c1 (in_cx _ _) ⟨_, _, rfl, rfl⟩ Tryd.func69 rfl rfl rfl rfl (by simp; rfl) rfl (fun i hi => by cases hi) (lt_of_ble rfl)
  rintro r bs' ⟨rfl, rfl⟩
  apply Wk.alc 7 [.int .i64 0, .slice none 0 0, .int .i64 0, .int .i64 0, .bool false] ze38 rfl rfl (lt_of_ble rfl)
  apply Wk.sto (i := 7) 5 true ty38 rfl rfl rfl rfl (Nat.le_of_ble_eq_true rfl) (lt_of_ble rfl)
  refine Wk.nil ?_
  refine AW.seq (AW.seq ?_)
  cases d
  · by_cases c1v : v = 0
    · subst c1v
      apply AW.list
      apply Wk.fad 4 0 false fd38_4 rfl (lt_of_ble rfl)
      apply Wk.ld (i := 3) 1 false ty4 rfl rfl (by conv => lhs; whnf) (lt_of_ble rfl)
      apply Wk.mv (by conv => lhs; whnf) (lt_of_ble rfl)
      apply Wk.gon 19 rfl rfl
      apply Wk.fad 0 0 false fd38_0 rfl (lt_of_ble rfl)
      apply Wk.gon 19 rfl rfl
      apply Wk.ld (i := 3) 1 false ty3 rfl rfl (by conv => lhs; whnf) (lt_of_ble rfl)
      apply Wk.gon 19 rfl rfl
      apply Wk.bin rfl rfl (r := .bool true) (fun w => by simp [go_sem]) (lt_of_ble rfl)
      apply Wk.pckF rfl (by conv => lhs; whnf) (lt_of_ble rfl)
      apply Wk.mv (by conv => lhs; whnf) (lt_of_ble rfl)
      apply Wk.goff 24 (ok_faddr fd38_1) rfl rfl (by simp)
      apply Wk.goff 24 (ok_load 3 ty36) rfl rfl (by simp)
      apply Wk.goff 24 (ok_len un36) rfl rfl (by simp)
      apply Wk.goff 24 (ok_bin _ _ _ _ _) rfl rfl (by simp)
      apply Wk.pckT rfl (by conv => lhs; whnf) (lt_of_ble rfl)
      apply Wk.mv (by conv => lhs; whnf) (lt_of_ble rfl)
      apply Wk.goff 30 (ok_faddr fd38_3) rfl rfl (by simp)
      apply Wk.goff 30 (ok_load 3 ty3) rfl rfl (by simp)
      apply Wk.goff 30 (ok_bin _ _ _ _ _) rfl rfl (by simp)
      apply Wk.pckT rfl (by conv => lhs; whnf) (lt_of_ble rfl)
      refine Wk.nil ?_
      refine AW.cond rfl (fun _ => ?_) (fun hc => by cases hc)
      refine AW.seq ?_
      apply AW.list
      apply Wk.ld (i := 7) 5 true ty38 rfl rfl (by conv => lhs; whnf) (lt_of_ble rfl)
      apply Wk.bld [.int .i64 0, .int .i64 0, .int .i64 0, .bool false, .bool false, .int .i64 0, .int .i64 0, .int .i64 0, .slice none 0 0] [(0, 1), (1, 1), (2, 1), (3, 1), (4, 1), (5, 1), (6, 1), (7, 1), (8, 1)] bl24 rfl (by conv => lhs; whnf) (lt_of_ble rfl)
      apply Wk.sto (i := 4) 5 true ty38 rfl rfl rfl rfl (Nat.le_of_ble_eq_true rfl) (lt_of_ble rfl)
      apply Wk.sto (i := 5) 9 true ty24 rfl rfl rfl rfl (Nat.le_of_ble_eq_true rfl) (lt_of_ble rfl)
      apply Wk.asg (by conv => lhs; whnf) (lt_of_ble rfl)
      refine Wk.nil (AW.ret ?_)
      repeat (first | refine thenA_ret ?_ | refine inBlockA_ret ?_)
      exact RetQ.ret _ (.cons ⟨4, 0, _, _, _, rfl, rfl, ty38, rfl⟩ (.cons ⟨5, 0, _, _, _, rfl, rfl, ty24, rfl⟩ (.cons rfl .nil))) ⟨rfl, rfl⟩ (kept1 rfl)
    · by_cases c2q : qu = []
      · subst c2q
        apply AW.list
        apply Wk.fad 4 0 false fd38_4 rfl (lt_of_ble rfl)
        apply Wk.ld (i := 3) 1 false ty4 rfl rfl (by conv => lhs; whnf) (lt_of_ble rfl)
        apply Wk.mv (by conv => lhs; whnf) (lt_of_ble rfl)
        apply Wk.gon 19 rfl rfl
        apply Wk.fad 0 0 false fd38_0 rfl (lt_of_ble rfl)
        apply Wk.gon 19 rfl rfl
        apply Wk.ld (i := 3) 1 false ty3 rfl rfl (by conv => lhs; whnf) (lt_of_ble rfl)
        apply Wk.gon 19 rfl rfl
        apply Wk.bin rfl rfl (r := .bool false) (fun w => by simp [go_sem, c1v]) (lt_of_ble rfl)
        apply Wk.pckF rfl (by conv => lhs; whnf) (lt_of_ble rfl)
        apply Wk.mv (by conv => lhs; whnf) (lt_of_ble rfl)
        apply Wk.gon 24 rfl rfl
        apply Wk.fad 1 0 false fd38_1 rfl (lt_of_ble rfl)
        apply Wk.gon 24 rfl rfl
        apply Wk.ld (i := 3) 1 false ty36 rfl rfl (by conv => lhs; whnf) (lt_of_ble rfl)
        apply Wk.gon 24 rfl rfl
        apply Wk.len un36 rfl (lt_of_ble rfl)
        apply Wk.gon 24 rfl rfl
        apply Wk.bin rfl rfl (r := .bool true) (fun w => by rw [e3]; simp [go_sem]) (lt_of_ble rfl)
        apply Wk.pckF rfl (by conv => lhs; whnf) (lt_of_ble rfl)
        apply Wk.mv (by conv => lhs; whnf) (lt_of_ble rfl)
        apply Wk.goff 30 (ok_faddr fd38_3) rfl rfl (by simp)
        apply Wk.goff 30 (ok_load 3 ty3) rfl rfl (by simp)
        apply Wk.goff 30 (ok_bin _ _ _ _ _) rfl rfl (by simp)
        apply Wk.pckT rfl (by conv => lhs; whnf) (lt_of_ble rfl)
        refine Wk.nil ?_
        refine AW.cond rfl (fun _ => ?_) (fun hc => by cases hc)
        refine AW.seq ?_
        apply AW.list
        apply Wk.ld (i := 7) 5 true ty38 rfl rfl (by conv => lhs; whnf) (lt_of_ble rfl)
        apply Wk.bld [.int .i64 0, .int .i64 0, .int .i64 0, .bool false, .bool false, .int .i64 0, .int .i64 0, .int .i64 0, .slice none 0 0] [(0, 1), (1, 1), (2, 1), (3, 1), (4, 1), (5, 1), (6, 1), (7, 1), (8, 1)] bl24 rfl (by conv => lhs; whnf) (lt_of_ble rfl)
        apply Wk.sto (i := 4) 5 true ty38 rfl rfl rfl rfl (Nat.le_of_ble_eq_true rfl) (lt_of_ble rfl)
        apply Wk.sto (i := 5) 9 true ty24 rfl rfl rfl rfl (Nat.le_of_ble_eq_true rfl) (lt_of_ble rfl)
        apply Wk.asg (by conv => lhs; whnf) (lt_of_ble rfl)
        refine Wk.nil (AW.ret ?_)
        repeat (first | refine thenA_ret ?_ | refine inBlockA_ret ?_)
        exact RetQ.ret _ (.cons ⟨4, 0, _, _, _, rfl, rfl, ty38, rfl⟩ (.cons ⟨5, 0, _, _, _, rfl, rfl, ty24, rfl⟩ (.cons rfl .nil))) ⟨rfl, rfl⟩ (kept1 rfl)
      · obtain rfl : s = 9999 := by rcases hi with h | h | h | h <;> first | exact h | exact absurd h c1v | exact absurd h c2q | cases h
        apply AW.list
        apply Wk.fad 4 0 false fd38_4 rfl (lt_of_ble rfl)
        apply Wk.ld (i := 3) 1 false ty4 rfl rfl (by conv => lhs; whnf) (lt_of_ble rfl)
        apply Wk.mv (by conv => lhs; whnf) (lt_of_ble rfl)
        apply Wk.gon 19 rfl rfl
        apply Wk.fad 0 0 false fd38_0 rfl (lt_of_ble rfl)
        apply Wk.gon 19 rfl rfl
        apply Wk.ld (i := 3) 1 false ty3 rfl rfl (by conv => lhs; whnf) (lt_of_ble rfl)
        apply Wk.gon 19 rfl rfl
        apply Wk.bin rfl rfl (r := .bool false) (fun w => by simp [go_sem, c1v]) (lt_of_ble rfl)
        apply Wk.pckF rfl (by conv => lhs; whnf) (lt_of_ble rfl)
        apply Wk.mv (by conv => lhs; whnf) (lt_of_ble rfl)
        apply Wk.gon 24 rfl rfl
        apply Wk.fad 1 0 false fd38_1 rfl (lt_of_ble rfl)
        apply Wk.gon 24 rfl rfl
        apply Wk.ld (i := 3) 1 false ty36 rfl rfl (by conv => lhs; whnf) (lt_of_ble rfl)
        apply Wk.gon 24 rfl rfl
        apply Wk.len un36 rfl (lt_of_ble rfl)
        apply Wk.gon 24 rfl rfl
        apply Wk.bin rfl rfl (r := .bool false) (fun w => by rw [e3]; simp [go_sem]; exact c2q) (lt_of_ble rfl)
        apply Wk.pckF rfl (by conv => lhs; whnf) (lt_of_ble rfl)
        apply Wk.mv (by conv => lhs; whnf) (lt_of_ble rfl)
        apply Wk.gon 30 rfl rfl
        apply Wk.fad 3 0 false fd38_3 rfl (lt_of_ble rfl)
        apply Wk.gon 30 rfl rfl
        apply Wk.ld (i := 3) 1 false ty3 rfl rfl (by conv => lhs; whnf) (lt_of_ble rfl)
        apply Wk.gon 30 rfl rfl
        apply Wk.bin rfl rfl (r := .bool true) (fun w => by simp [go_sem]) (lt_of_ble rfl)
        apply Wk.pckF rfl (by conv => lhs; whnf) (lt_of_ble rfl)
        refine Wk.nil ?_
        refine AW.cond rfl (fun _ => ?_) (fun hc => by cases hc)
        refine AW.seq ?_
        apply AW.list
        apply Wk.ld (i := 7) 5 true ty38 rfl rfl (by conv => lhs; whnf) (lt_of_ble rfl)
        apply Wk.bld [.int .i64 0, .int .i64 0, .int .i64 0, .bool false, .bool false, .int .i64 0, .int .i64 0, .int .i64 0, .slice none 0 0] [(0, 1), (1, 1), (2, 1), (3, 1), (4, 1), (5, 1), (6, 1), (7, 1), (8, 1)] bl24 rfl (by conv => lhs; whnf) (lt_of_ble rfl)
        apply Wk.sto (i := 4) 5 true ty38 rfl rfl rfl rfl (Nat.le_of_ble_eq_true rfl) (lt_of_ble rfl)
        apply Wk.sto (i := 5) 9 true ty24 rfl rfl rfl rfl (Nat.le_of_ble_eq_true rfl) (lt_of_ble rfl)
        apply Wk.asg (by conv => lhs; whnf) (lt_of_ble rfl)
        refine Wk.nil (AW.ret ?_)
        repeat (first | refine thenA_ret ?_ | refine inBlockA_ret ?_)
        exact RetQ.ret _ (.cons ⟨4, 0, _, _, _, rfl, rfl, ty38, rfl⟩ (.cons ⟨5, 0, _, _, _, rfl, rfl, ty24, rfl⟩ (.cons rfl .nil))) ⟨rfl, rfl⟩ (kept1 rfl)
  · skip
    apply AW.list
    apply Wk.fad 4 0 false fd38_4 rfl (lt_of_ble rfl)
    apply Wk.ld (i := 3) 1 false ty4 rfl rfl (by conv => lhs; whnf) (lt_of_ble rfl)
    apply Wk.mv (by conv => lhs; whnf) (lt_of_ble rfl)
    apply Wk.goff 19 (ok_faddr fd38_0) rfl rfl (by simp)
    apply Wk.goff 19 (ok_load 3 ty3) rfl rfl (by simp)
    apply Wk.goff 19 (ok_bin _ _ _ _ _) rfl rfl (by simp)
    apply Wk.pckT rfl (by conv => lhs; whnf) (lt_of_ble rfl)
    apply Wk.mv (by conv => lhs; whnf) (lt_of_ble rfl)
    apply Wk.goff 24 (ok_faddr fd38_1) rfl rfl (by simp)
    apply Wk.goff 24 (ok_load 3 ty36) rfl rfl (by simp)
    apply Wk.goff 24 (ok_len un36) rfl rfl (by simp)
    apply Wk.goff 24 (ok_bin _ _ _ _ _) rfl rfl (by simp)
    apply Wk.pckT rfl (by conv => lhs; whnf) (lt_of_ble rfl)
    apply Wk.mv (by conv => lhs; whnf) (lt_of_ble rfl)
    apply Wk.goff 30 (ok_faddr fd38_3) rfl rfl (by simp)
    apply Wk.goff 30 (ok_load 3 ty3) rfl rfl (by simp)
    apply Wk.goff 30 (ok_bin _ _ _ _ _) rfl rfl (by simp)
    apply Wk.pckT rfl (by conv => lhs; whnf) (lt_of_ble rfl)
    refine Wk.nil ?_
    refine AW.cond rfl (fun _ => ?_) (fun hc => by cases hc)
    refine AW.seq ?_
    apply AW.list
    apply Wk.ld (i := 7) 5 true ty38 rfl rfl (by conv => lhs; whnf) (lt_of_ble rfl)
    apply Wk.bld [.int .i64 0, .int .i64 0, .int .i64 0, .bool false, .bool false, .int .i64 0, .int .i64 0, .int .i64 0, .slice none 0 0] [(0, 1), (1, 1), (2, 1), (3, 1), (4, 1), (5, 1), (6, 1), (7, 1), (8, 1)] bl24 rfl (by conv => lhs; whnf) (lt_of_ble rfl)
    apply Wk.sto (i := 4) 5 true ty38 rfl rfl rfl rfl (Nat.le_of_ble_eq_true rfl) (lt_of_ble rfl)
    apply Wk.sto (i := 5) 9 true ty24 rfl rfl rfl rfl (Nat.le_of_ble_eq_true rfl) (lt_of_ble rfl)
    apply Wk.asg (by conv => lhs; whnf) (lt_of_ble rfl)
    refine Wk.nil (AW.ret ?_)
    repeat (first | refine thenA_ret ?_ | refine inBlockA_ret ?_)
    exact RetQ.ret _ (.cons ⟨4, 0, _, _, _, rfl, rfl, ty38, rfl⟩ (.cons ⟨5, 0, _, _, _, rfl, rfl, ty24, rfl⟩ (.cons rfl .nil))) ⟨rfl, rfl⟩ (kept1 rfl)
set_option maxHeartbeats 4000000 in
set_option maxRecDepth 100000 in
theorem scsendOn (m0 w0 p0 u0 y0 : Int) (v : Int) (qu : List Dat) (g s : Int) (e : Dat) (qs : List Dat) (hqu : qu = e :: qs) (hok : crdOkB ⟨m0, w0, p0, u0, y0⟩ ⟨v, qu, g, s, false⟩ = true) (hx : CX.few ⟨v, qu, g, s, false⟩) (c1v : ¬ v = 0) (c3s : ¬ s = 9999) :
    Spec Tryd.prog 59 [cfgA m0 w0 p0 u0 y0, cxA ⟨v, qu, g, s, false⟩] [] (fun r bs => r = .tup [cxO ⟨v - 1, qs, g, s + 1, false⟩ qs.length, frmZ 3 0 0 false false 0 e.1 e.2.1 (bytesD e.2.2), .d (.v (.bool true))] ∧ bs = cxB qs qs.length) := by
  have c1 := sl8_ok _ hx
  have hf := crdOk_facts hok
  have hv := hf.2.1
  have hs := hf.2.2.2.2.1
  simp only at hv hs
  have e3 : (((qu.map datD).length : Nat) : Int) = (qu.length : Int) := by rw [List.length_map]
  have c2q : ¬ qu = [] := by rw [hqu]; simp
  have hpos : 0 < qu.length := by rw [hqu]; simp
  have hget : (qu.map datD)[0]? = some (datD e) := by rw [hqu]; rfl
  have h0lt : 0 < (qu.map datD).length := by rw [List.length_map]; exact hpos
  have hel := hx.2 e (by rw [hqu]; simp)
  have cl := slistP_cut qu 1 hx.1 hx.2
  have ed : qu.drop 1 = qs := by rw [hqu]; rfl
  rw [ed] at cl
  have i6 := in_slist (L := [] ++ [66]) (i := 66) (k := qs.length) (e := 77) (sz := 3) (by simp) (within_parts qs)
  have as9 := asData_rows e.2.2
  refine Spec.intro (n := 64) (rv := [.cell 4 38, .cell 5 24, .tmp 6]) Tryd.func59 rfl rfl rfl (by simp) fun C hN hX => ?_
  refine AW.seq ?_
  apply AW.list
  apply Wk.bx 2 rfl rfl (lt_of_ble rfl)
  apply Wk.bx 3 rfl rfl (lt_of_ble rfl)
  apply Wk.alc 4 [.int .i64 0, .slice none 0 0, .int .i64 0, .int .i64 0, .bool false] ze38 rfl rfl (lt_of_ble rfl)
  apply Wk.alc 5 [.int .i64 0, .int .i64 0, .int .i64 0, .bool false, .bool false, .int .i64 0, .int .i64 0, .int .i64 0, .slice none 0 0] ze24 rfl rfl (lt_of_ble rfl)
  apply Wk.asg (by conv => lhs; whnf) (lt_of_ble rfl)
  refine Wk.nil ?_
  refine AW.seq (AW.seq ?_)
  apply AW.list
  apply Wk.ld (i := 2) 5 true ty35 rfl rfl (by conv => lhs; whnf) (lt_of_ble rfl)
  apply Wk.ld (i := 3) 5 true ty38 rfl rfl (by conv => lhs; whnf) (lt_of_ble rfl)
  apply Wk.dat (scxb hok) Tryd.func17 rfl rfl rfl rfl rfl (lt_of_ble rfl)
  apply Wk.un rfl (fun w => by simp [go_sem] <;> rfl) (lt_of_ble rfl)
  refine Wk.nil ?_
  refine AW.cond rfl (fun hc => by cases hc) (fun _ => AW.skip (thenA_normal ?_))
  refine AW.seq ?_
  apply AW.list
  apply Wk.ld (i := 3) 5 true ty38 rfl rfl (by conv => lhs; whnf) (lt_of_ble rfl)
  apply Wk.dat c1 Tryd.func69 rfl rfl rfl rfl rfl (lt_of_ble rfl)
  apply Wk.alc 7 [.int .i64 0, .slice none 0 0, .int .i64 0, .int .i64 0, .bool false] ze38 rfl rfl (lt_of_ble rfl)
  apply Wk.sto (i := 7) 5 true ty38 rfl rfl rfl rfl (Nat.le_of_ble_eq_true rfl) (lt_of_ble rfl)
  refine Wk.nil ?_
  refine AW.seq (AW.seq ?_)
  apply AW.list
  apply Wk.fad 4 0 false fd38_4 rfl (lt_of_ble rfl)
  apply Wk.ld (i := 3) 1 false ty4 rfl rfl (by conv => lhs; whnf) (lt_of_ble rfl)
  apply Wk.mv (by conv => lhs; whnf) (lt_of_ble rfl)
  apply Wk.gon 19 rfl rfl
  apply Wk.fad 0 0 false fd38_0 rfl (lt_of_ble rfl)
  apply Wk.gon 19 rfl rfl
  apply Wk.ld (i := 3) 1 false ty3 rfl rfl (by conv => lhs; whnf) (lt_of_ble rfl)
  apply Wk.gon 19 rfl rfl
  apply Wk.bin rfl rfl (r := .bool false) (fun w => by simp [go_sem, c1v]) (lt_of_ble rfl)
  apply Wk.pckF rfl (by conv => lhs; whnf) (lt_of_ble rfl)
  apply Wk.mv (by conv => lhs; whnf) (lt_of_ble rfl)
  apply Wk.gon 24 rfl rfl
  apply Wk.fad 1 0 false fd38_1 rfl (lt_of_ble rfl)
  apply Wk.gon 24 rfl rfl
  apply Wk.ld (i := 3) 1 false ty36 rfl rfl (by conv => lhs; whnf) (lt_of_ble rfl)
  apply Wk.gon 24 rfl rfl
  apply Wk.len un36 rfl (lt_of_ble rfl)
  apply Wk.gon 24 rfl rfl
  apply Wk.bin rfl rfl (r := .bool false) (fun w => by rw [e3]; simp [go_sem]; exact c2q) (lt_of_ble rfl)
  apply Wk.pckF rfl (by conv => lhs; whnf) (lt_of_ble rfl)
  apply Wk.mv (by conv => lhs; whnf) (lt_of_ble rfl)
  apply Wk.gon 30 rfl rfl
  apply Wk.fad 3 0 false fd38_3 rfl (lt_of_ble rfl)
  apply Wk.gon 30 rfl rfl
  apply Wk.ld (i := 3) 1 false ty3 rfl rfl (by conv => lhs; whnf) (lt_of_ble rfl)
  apply Wk.gon 30 rfl rfl
  apply Wk.bin rfl rfl (r := .bool false) (fun w => by simp [go_sem, c3s]) (lt_of_ble rfl)
  apply Wk.pckF rfl (by conv => lhs; whnf) (lt_of_ble rfl)
  refine Wk.nil ?_
  refine AW.cond rfl (fun hc => by cases hc) (fun _ => AW.skip (thenA_normal ?_))
  refine AW.seq ?_
  apply AW.list
  apply Wk.fad 1 0 false fd38_1 rfl (lt_of_ble rfl)
  apply Wk.ld (i := 7) 1 false ty36 rfl rfl (by conv => lhs; whnf) (lt_of_ble rfl)
  apply Wk.iad 3 true un36 ty77 rfl rfl h0lt (datD_len _) (lt_of_ble rfl)
  apply Wk.ldr 3 true ty77 rfl hget (by conv => lhs; whnf) (lt_of_ble rfl)
  apply Wk.alc 8 [.int .i64 0, .int .i64 0, .slice none 0 0] ze77 rfl rfl (lt_of_ble rfl)
  apply Wk.sto (i := 8) 3 true ty77 rfl rfl rfl rfl (Nat.le_of_ble_eq_true rfl) (lt_of_ble rfl)
  refine Wk.nil ?_
  refine AW.seq ?_
  apply AW.list
  apply Wk.fad 1 0 false fd38_1 rfl (lt_of_ble rfl)
  apply Wk.ld (i := 7) 1 false ty36 rfl rfl (by conv => lhs; whnf) (lt_of_ble rfl)
  apply Wk.slc (m := (qu.map datD).length) (l := 1) 3 true un36 ty77 rfl rfl (by exact if_pos ⟨by decide, by simp; omega⟩) (datD_len _) (lt_of_ble rfl)
  apply Wk.cal [] [66] cl i6 ⟨_, _, rfl, rfl⟩ Tryd.func71 rfl rfl rfl rfl (by simp; rfl) rfl (fun i hi => by cases hi) (lt_of_ble rfl)
  rintro r bs' ⟨rfl, rfl⟩
  apply Wk.fad 1 0 false fd38_1 rfl (lt_of_ble rfl)
  apply Wk.sto (i := 7) 1 false ty36 rfl rfl rfl rfl (Nat.le_of_ble_eq_true rfl) (lt_of_ble rfl)
  refine Wk.nil ?_
  refine AW.seq ?_
  apply AW.list
  apply Wk.fad 0 0 false fd38_0 rfl (lt_of_ble rfl)
  apply Wk.ld (i := 3) 1 false ty3 rfl rfl (by conv => lhs; whnf) (lt_of_ble rfl)
  apply Wk.subi rfl rfl (by omega) (lt_of_ble rfl)
  apply Wk.fad 0 0 false fd38_0 rfl (lt_of_ble rfl)
  apply Wk.sto (i := 7) 1 false ty3 rfl rfl rfl rfl (Nat.le_of_ble_eq_true rfl) (lt_of_ble rfl)
  refine Wk.nil ?_
  refine AW.seq ?_
  apply AW.list
  apply Wk.fad 3 0 false fd38_3 rfl (lt_of_ble rfl)
  apply Wk.ld (i := 3) 1 false ty3 rfl rfl (by conv => lhs; whnf) (lt_of_ble rfl)
  apply Wk.addi rfl rfl (by omega) (lt_of_ble rfl)
  apply Wk.fad 3 0 false fd38_3 rfl (lt_of_ble rfl)
  apply Wk.sto (i := 7) 1 false ty3 rfl rfl rfl rfl (Nat.le_of_ble_eq_true rfl) (lt_of_ble rfl)
  refine Wk.nil ?_
  refine AW.seq ?_
  apply AW.draw (hm := hmix) (cs := _)
  · apply Wk.ld (i := 7) 5 true ty38 rfl rfl (by conv => lhs; whnf) (lt_of_ble rfl)
    apply Wk.fad 0 0 false fd77_0 rfl (lt_of_ble rfl)
    apply Wk.ld (i := 8) 1 false ty3 rfl rfl (by conv => lhs; whnf) (lt_of_ble rfl)
    apply Wk.fad 1 0 false fd77_1 rfl (lt_of_ble rfl)
    apply Wk.ld (i := 8) 1 false ty3 rfl rfl (by conv => lhs; whnf) (lt_of_ble rfl)
    apply Wk.lst 59 1 false [.int .u8 0] un22 ty5 ze5 rfl rfl (by rfl) (by rfl) (by decide) (by decide) rfl rfl (all_len rfl) (lt_of_ble rfl)
    apply Wk.fad 2 0 false fd77_2 rfl (lt_of_ble rfl)
    apply Wk.ld (i := 8) 1 false ty22 rfl rfl (by conv => lhs; whnf) (lt_of_ble rfl)
    apply Wk.appOR 59 1000 1 un22 ap5 rfl rfl rfl (.inr rfl) (by decide) (one_bytes _) (by simp) (by simp; omega) (lt_of_ble rfl)
    apply Wk.thaw 62 59 _ hX rfl (by rfl) as9
    apply Wk.bld [.int .i64 0, .int .i64 0, .int .i64 0, .bool false, .bool false, .int .i64 0, .int .i64 0, .int .i64 0, .slice none 0 0] [(0, 1), (1, 1), (2, 1), (3, 1), (4, 1), (5, 1), (6, 1), (7, 1), (8, 1)] bl24 rfl (by conv => lhs; whnf) (lt_of_ble rfl)
    apply Wk.sto (i := 4) 5 true ty38 rfl rfl rfl rfl (Nat.le_of_ble_eq_true rfl) (lt_of_ble rfl)
    apply Wk.sto (i := 5) 9 true ty24 rfl rfl rfl rfl (Nat.le_of_ble_eq_true rfl) (lt_of_ble rfl)
    apply Wk.asg (by conv => lhs; whnf) (lt_of_ble rfl)
    refine Wk.nil (AW.ret ?_)
    exact RetQ.ret (cxB qs qs.length) (.cons ⟨4, 0, _, _, _, rfl, rfl, ty38, rfl⟩ (.cons ⟨5, 0, _, _, _, rfl, rfl, ty24, rfl⟩ (.cons rfl .nil))) ⟨rfl, rfl⟩ (kept1 rfl)
  · rfl
  · rfl
set_option maxHeartbeats 4000000 in
set_option maxRecDepth 100000 in
theorem sctakeNo (m0 w0 p0 u0 y0 : Int) (x : CX) (n : Int) (hno : crdOkB ⟨m0, w0, p0, u0, y0⟩ x = false ∨ inB n 1 255 = false) : DataOk Tryd.prog 58 [cfgA m0 w0 p0 u0 y0, cxA x, .d (.v (.int .i64 n))] cxNil := by
  cases hok : crdOkB ⟨m0, w0, p0, u0, y0⟩ x
  · skip
    refine Spec.intro (n := 48) (rv := [.cell 6 38]) Tryd.func58 rfl rfl rfl (by simp) fun C hN hX => ?_
    refine AW.seq ?_
    apply AW.list
    apply Wk.bx 3 rfl rfl (lt_of_ble rfl)
    apply Wk.bx 4 rfl rfl (lt_of_ble rfl)
    apply Wk.alc 6 [.int .i64 0, .slice none 0 0, .int .i64 0, .int .i64 0, .bool false] ze38 rfl rfl (lt_of_ble rfl)
    refine Wk.nil ?_
    refine AW.seq (AW.seq ?_)
    apply AW.list
    apply Wk.ld (i := 3) 5 true ty35 rfl rfl (by conv => lhs; whnf) (lt_of_ble rfl)
    apply Wk.ld (i := 4) 5 true ty38 rfl rfl (by conv => lhs; whnf) (lt_of_ble rfl)
    apply Wk.dat (scxb hok) Tryd.func17 rfl rfl rfl rfl rfl (lt_of_ble rfl)
    apply Wk.un rfl (fun w => by simp [go_sem] <;> rfl) (lt_of_ble rfl)
    apply Wk.mv (by conv => lhs; whnf) (lt_of_ble rfl)
    apply Wk.goff 12 (ok_move _) rfl rfl (by simp)
    apply Wk.goff 12 (ok_datw ((sinb (n := 0) (lo := 1) (hi := 255) rfl).w rfl) Tryd.func34 rfl rfl) rfl rfl (by simp)
    apply Wk.goff 12 (ok_un _ _ _) rfl rfl (by simp)
    apply Wk.pckT rfl (by conv => lhs; whnf) (lt_of_ble rfl)
    refine Wk.nil ?_
    refine AW.cond rfl (fun _ => ?_) (fun hc => by cases hc)
    refine AW.seq ?_
    apply AW.list
    apply Wk.bld [.int .i64 0, .slice none 0 0, .int .i64 0, .int .i64 0, .bool false] [(0, 1), (1, 1), (2, 1), (3, 1), (4, 1)] bl38 rfl (by conv => lhs; whnf) (lt_of_ble rfl)
    apply Wk.sto (i := 6) 5 true ty38 rfl rfl rfl rfl (Nat.le_of_ble_eq_true rfl) (lt_of_ble rfl)
    refine Wk.nil (AW.ret ?_)
    repeat (first | refine thenA_ret ?_ | refine inBlockA_ret ?_)
    exact RetQ.ret [] (.cons ⟨6, 0, _, _, _, rfl, rfl, ty38, rfl⟩ .nil) ⟨rfl, rfl⟩ none_kept
  · have hn : inB n 1 255 = false := by rcases hno with h | h <;> first | exact h | (rw [hok] at h; cases h)
    refine Spec.intro (n := 48) (rv := [.cell 6 38]) Tryd.func58 rfl rfl rfl (by simp) fun C hN hX => ?_
    refine AW.seq ?_
    apply AW.list
    apply Wk.bx 3 rfl rfl (lt_of_ble rfl)
    apply Wk.bx 4 rfl rfl (lt_of_ble rfl)
    apply Wk.alc 6 [.int .i64 0, .slice none 0 0, .int .i64 0, .int .i64 0, .bool false] ze38 rfl rfl (lt_of_ble rfl)
    refine Wk.nil ?_
    refine AW.seq (AW.seq ?_)
    apply AW.list
    apply Wk.ld (i := 3) 5 true ty35 rfl rfl (by conv => lhs; whnf) (lt_of_ble rfl)
    apply Wk.ld (i := 4) 5 true ty38 rfl rfl (by conv => lhs; whnf) (lt_of_ble rfl)
    apply Wk.dat (scxb hok) Tryd.func17 rfl rfl rfl rfl rfl (lt_of_ble rfl)
    apply Wk.un rfl (fun w => by simp [go_sem] <;> rfl) (lt_of_ble rfl)
    apply Wk.mv (by conv => lhs; whnf) (lt_of_ble rfl)
    apply Wk.gon 12 rfl rfl
    apply Wk.mv (by conv => lhs; whnf) (lt_of_ble rfl)
    apply Wk.gon 12 rfl rfl
    apply Wk.dat (sinb hn) Tryd.func34 rfl rfl rfl rfl rfl (lt_of_ble rfl)
    apply Wk.gon 12 rfl rfl
    apply Wk.un rfl (fun w => by simp [go_sem] <;> rfl) (lt_of_ble rfl)
    apply Wk.pckF rfl (by conv => lhs; whnf) (lt_of_ble rfl)
    refine Wk.nil ?_
    refine AW.cond rfl (fun _ => ?_) (fun hc => by cases hc)
    refine AW.seq ?_
    apply AW.list
    apply Wk.bld [.int .i64 0, .slice none 0 0, .int .i64 0, .int .i64 0, .bool false] [(0, 1), (1, 1), (2, 1), (3, 1), (4, 1)] bl38 rfl (by conv => lhs; whnf) (lt_of_ble rfl)
    apply Wk.sto (i := 6) 5 true ty38 rfl rfl rfl rfl (Nat.le_of_ble_eq_true rfl) (lt_of_ble rfl)
    refine Wk.nil (AW.ret ?_)
    repeat (first | refine thenA_ret ?_ | refine inBlockA_ret ?_)
    exact RetQ.ret [] (.cons ⟨6, 0, _, _, _, rfl, rfl, ty38, rfl⟩ .nil) ⟨rfl, rfl⟩ none_kept
/-- Behind a grant. -/
def takeX (x : CX) (n : Int) : CX := if x.d = true then x else if 255 < x.v + n ∨ 9999 < x.g + n then { x with d := true } else { x with v := x.v + n, g := x.g + n }
set_option maxHeartbeats 4000000 in
set_option maxRecDepth 100000 in
theorem sctakeYes (m0 w0 p0 u0 y0 : Int) (x : CX) (n : Int) (hok : crdOkB ⟨m0, w0, p0, u0, y0⟩ x = true) (hn : inB n 1 255 = true) (hx : x.few) :
    Spec Tryd.prog 58 [cfgA m0 w0 p0 u0 y0, cxA x, .d (.v (.int .i64 n))] [] (fun r bs => r = cxO (takeX x n) x.qu.length ∧ bs = cxB x.qu x.qu.length) := by
  have c1 := sl8O x hx
  have hf := crdOk_facts hok
  have hn' := (inB_iff _ _ _).1 hn
  obtain ⟨v, qu, g, s, d⟩ := x
  have hv := hf.2.1
  have hg := hf.2.2.2.1
  simp only at hv hg
  refine Spec.intro (n := 48) (rv := [.cell 6 38]) Tryd.func58 rfl rfl rfl (by simp) fun C hN hX => ?_
  refine AW.seq ?_
  apply AW.list
  apply Wk.bx 3 rfl rfl (lt_of_ble rfl)
  apply Wk.bx 4 rfl rfl (lt_of_ble rfl)
  apply Wk.alc 6 [.int .i64 0, .slice none 0 0, .int .i64 0, .int .i64 0, .bool false] ze38 rfl rfl (lt_of_ble rfl)
  refine Wk.nil ?_
  refine AW.seq (AW.seq ?_)
  apply AW.list
  apply Wk.ld (i := 3) 5 true ty35 rfl rfl (by conv => lhs; whnf) (lt_of_ble rfl)
  apply Wk.ld (i := 4) 5 true ty38 rfl rfl (by conv => lhs; whnf) (lt_of_ble rfl)
  apply Wk.dat (scxb hok) Tryd.func17 rfl rfl rfl rfl rfl (lt_of_ble rfl)
  apply Wk.un rfl (fun w => by simp [go_sem] <;> rfl) (lt_of_ble rfl)
  apply Wk.mv (by conv => lhs; whnf) (lt_of_ble rfl)
  apply Wk.gon 12 rfl rfl
  apply Wk.mv (by conv => lhs; whnf) (lt_of_ble rfl)
  apply Wk.gon 12 rfl rfl
  apply Wk.dat (sinb hn) Tryd.func34 rfl rfl rfl rfl rfl (lt_of_ble rfl)
  apply Wk.gon 12 rfl rfl
  apply Wk.un rfl (fun w => by simp [go_sem] <;> rfl) (lt_of_ble rfl)
  apply Wk.pckF rfl (by conv => lhs; whnf) (lt_of_ble rfl)
  refine Wk.nil ?_
  refine AW.cond rfl (fun hc => by cases hc) (fun _ => AW.skip (thenA_normal ?_))
  refine AW.seq ?_
  apply AW.list
  apply Wk.ld (i := 4) 5 true ty38 rfl rfl (by conv => lhs; whnf) (lt_of_ble rfl)
  apply Wk.cal [] [66] c1 (in_cx _ _) ⟨_, _, rfl, rfl⟩ Tryd.func69 rfl rfl rfl rfl (by simp; rfl) rfl (fun i hi => by cases hi) (lt_of_ble rfl)
  rintro r bs' ⟨rfl, rfl⟩
  apply Wk.alc 7 [.int .i64 0, .slice none 0 0, .int .i64 0, .int .i64 0, .bool false] ze38 rfl rfl (lt_of_ble rfl)
  apply Wk.sto (i := 7) 5 true ty38 rfl rfl rfl rfl (Nat.le_of_ble_eq_true rfl) (lt_of_ble rfl)
  refine Wk.nil ?_
  refine AW.seq (AW.seq ?_)
  apply AW.list
  apply Wk.fad 4 0 false fd38_4 rfl (lt_of_ble rfl)
  apply Wk.ld (i := 4) 1 false ty4 rfl rfl (by conv => lhs; whnf) (lt_of_ble rfl)
  refine Wk.nil ?_
  cases d
  · refine AW.cond rfl (fun hc => by cases hc) (fun _ => AW.skip (thenA_normal ?_))
    refine AW.seq (AW.seq ?_)
    by_cases k1 : 255 < v + n
    · skip
      apply AW.list
      apply Wk.fad 0 0 false fd38_0 rfl (lt_of_ble rfl)
      apply Wk.ld (i := 4) 1 false ty3 rfl rfl (by conv => lhs; whnf) (lt_of_ble rfl)
      apply Wk.mv (by conv => lhs; whnf) (lt_of_ble rfl)
      apply Wk.addi rfl rfl (by omega) (lt_of_ble rfl)
      apply Wk.bin rfl rfl (r := .bool true) (fun w => by simp [go_sem] <;> omega) (lt_of_ble rfl)
      apply Wk.mv (by conv => lhs; whnf) (lt_of_ble rfl)
      apply Wk.goff 28 (ok_faddr fd38_2) rfl rfl (by simp)
      apply Wk.goff 28 (ok_load 4 ty3) rfl rfl (by simp)
      apply Wk.goff 28 (ok_move _) rfl rfl (by simp)
      apply Wk.goff 28 (ok_bin _ _ _ _ _) rfl rfl (by simp)
      apply Wk.goff 28 (ok_bin _ _ _ _ _) rfl rfl (by simp)
      apply Wk.pckT rfl (by conv => lhs; whnf) (lt_of_ble rfl)
      refine Wk.nil ?_
      refine AW.cond rfl (fun _ => ?_) (fun hc => by cases hc)
      refine AW.seq ?_
      apply AW.list
      apply Wk.fad 4 0 false fd38_4 rfl (lt_of_ble rfl)
      apply Wk.sto (i := 7) 1 false ty4 rfl rfl rfl rfl (Nat.le_of_ble_eq_true rfl) (lt_of_ble rfl)
      refine Wk.nil ?_
      refine AW.seq ?_
      apply AW.list
      apply Wk.ld (i := 7) 5 true ty38 rfl rfl (by conv => lhs; whnf) (lt_of_ble rfl)
      apply Wk.sto (i := 6) 5 true ty38 rfl rfl rfl rfl (Nat.le_of_ble_eq_true rfl) (lt_of_ble rfl)
      refine Wk.nil (AW.ret ?_)
      repeat (first | refine thenA_ret ?_ | refine inBlockA_ret ?_)
      exact RetQ.ret (cxB qu qu.length) (.cons ⟨6, 0, _, _, _, rfl, rfl, ty38, rfl⟩ .nil) ⟨by rw [takeX, if_neg (by simp), if_pos (by simp only; omega)]; rfl, rfl⟩ (kept1 rfl)
    · by_cases k2 : 9999 < g + n
      · skip
        apply AW.list
        apply Wk.fad 0 0 false fd38_0 rfl (lt_of_ble rfl)
        apply Wk.ld (i := 4) 1 false ty3 rfl rfl (by conv => lhs; whnf) (lt_of_ble rfl)
        apply Wk.mv (by conv => lhs; whnf) (lt_of_ble rfl)
        apply Wk.addi rfl rfl (by omega) (lt_of_ble rfl)
        apply Wk.bin rfl rfl (r := .bool false) (fun w => by simp [go_sem] <;> omega) (lt_of_ble rfl)
        apply Wk.mv (by conv => lhs; whnf) (lt_of_ble rfl)
        apply Wk.gon 28 rfl rfl
        apply Wk.fad 2 0 false fd38_2 rfl (lt_of_ble rfl)
        apply Wk.gon 28 rfl rfl
        apply Wk.ld (i := 4) 1 false ty3 rfl rfl (by conv => lhs; whnf) (lt_of_ble rfl)
        apply Wk.gon 28 rfl rfl
        apply Wk.mv (by conv => lhs; whnf) (lt_of_ble rfl)
        apply Wk.gon 28 rfl rfl
        apply Wk.addi rfl rfl (by omega) (lt_of_ble rfl)
        apply Wk.gon 28 rfl rfl
        apply Wk.bin rfl rfl (r := .bool true) (fun w => by simp [go_sem] <;> omega) (lt_of_ble rfl)
        apply Wk.pckF rfl (by conv => lhs; whnf) (lt_of_ble rfl)
        refine Wk.nil ?_
        refine AW.cond rfl (fun _ => ?_) (fun hc => by cases hc)
        refine AW.seq ?_
        apply AW.list
        apply Wk.fad 4 0 false fd38_4 rfl (lt_of_ble rfl)
        apply Wk.sto (i := 7) 1 false ty4 rfl rfl rfl rfl (Nat.le_of_ble_eq_true rfl) (lt_of_ble rfl)
        refine Wk.nil ?_
        refine AW.seq ?_
        apply AW.list
        apply Wk.ld (i := 7) 5 true ty38 rfl rfl (by conv => lhs; whnf) (lt_of_ble rfl)
        apply Wk.sto (i := 6) 5 true ty38 rfl rfl rfl rfl (Nat.le_of_ble_eq_true rfl) (lt_of_ble rfl)
        refine Wk.nil (AW.ret ?_)
        repeat (first | refine thenA_ret ?_ | refine inBlockA_ret ?_)
        exact RetQ.ret (cxB qu qu.length) (.cons ⟨6, 0, _, _, _, rfl, rfl, ty38, rfl⟩ .nil) ⟨by rw [takeX, if_neg (by simp), if_pos (by simp only; omega)]; rfl, rfl⟩ (kept1 rfl)
      · skip
        apply AW.list
        apply Wk.fad 0 0 false fd38_0 rfl (lt_of_ble rfl)
        apply Wk.ld (i := 4) 1 false ty3 rfl rfl (by conv => lhs; whnf) (lt_of_ble rfl)
        apply Wk.mv (by conv => lhs; whnf) (lt_of_ble rfl)
        apply Wk.addi rfl rfl (by omega) (lt_of_ble rfl)
        apply Wk.bin rfl rfl (r := .bool false) (fun w => by simp [go_sem] <;> omega) (lt_of_ble rfl)
        apply Wk.mv (by conv => lhs; whnf) (lt_of_ble rfl)
        apply Wk.gon 28 rfl rfl
        apply Wk.fad 2 0 false fd38_2 rfl (lt_of_ble rfl)
        apply Wk.gon 28 rfl rfl
        apply Wk.ld (i := 4) 1 false ty3 rfl rfl (by conv => lhs; whnf) (lt_of_ble rfl)
        apply Wk.gon 28 rfl rfl
        apply Wk.mv (by conv => lhs; whnf) (lt_of_ble rfl)
        apply Wk.gon 28 rfl rfl
        apply Wk.addi rfl rfl (by omega) (lt_of_ble rfl)
        apply Wk.gon 28 rfl rfl
        apply Wk.bin rfl rfl (r := .bool false) (fun w => by simp [go_sem] <;> omega) (lt_of_ble rfl)
        apply Wk.pckF rfl (by conv => lhs; whnf) (lt_of_ble rfl)
        refine Wk.nil ?_
        refine AW.cond rfl (fun hc => by cases hc) (fun _ => AW.skip (thenA_normal ?_))
        refine AW.seq ?_
        apply AW.list
        apply Wk.fad 0 0 false fd38_0 rfl (lt_of_ble rfl)
        apply Wk.ld (i := 4) 1 false ty3 rfl rfl (by conv => lhs; whnf) (lt_of_ble rfl)
        apply Wk.mv (by conv => lhs; whnf) (lt_of_ble rfl)
        apply Wk.addi rfl rfl (by omega) (lt_of_ble rfl)
        apply Wk.fad 0 0 false fd38_0 rfl (lt_of_ble rfl)
        apply Wk.sto (i := 7) 1 false ty3 rfl rfl rfl rfl (Nat.le_of_ble_eq_true rfl) (lt_of_ble rfl)
        refine Wk.nil ?_
        refine AW.seq ?_
        apply AW.list
        apply Wk.fad 2 0 false fd38_2 rfl (lt_of_ble rfl)
        apply Wk.ld (i := 4) 1 false ty3 rfl rfl (by conv => lhs; whnf) (lt_of_ble rfl)
        apply Wk.mv (by conv => lhs; whnf) (lt_of_ble rfl)
        apply Wk.addi rfl rfl (by omega) (lt_of_ble rfl)
        apply Wk.fad 2 0 false fd38_2 rfl (lt_of_ble rfl)
        apply Wk.sto (i := 7) 1 false ty3 rfl rfl rfl rfl (Nat.le_of_ble_eq_true rfl) (lt_of_ble rfl)
        refine Wk.nil ?_
        refine AW.seq ?_
        apply AW.list
        apply Wk.ld (i := 7) 5 true ty38 rfl rfl (by conv => lhs; whnf) (lt_of_ble rfl)
        apply Wk.sto (i := 6) 5 true ty38 rfl rfl rfl rfl (Nat.le_of_ble_eq_true rfl) (lt_of_ble rfl)
        refine Wk.nil (AW.ret ?_)
        exact RetQ.ret (cxB qu qu.length) (.cons ⟨6, 0, _, _, _, rfl, rfl, ty38, rfl⟩ .nil) ⟨by rw [takeX, if_neg (by simp), if_neg (by simp only; omega)]; rfl, rfl⟩ (kept1 rfl)
  · refine AW.cond rfl (fun _ => ?_) (fun hc => by cases hc)
    refine AW.seq ?_
    apply AW.list
    apply Wk.ld (i := 7) 5 true ty38 rfl rfl (by conv => lhs; whnf) (lt_of_ble rfl)
    apply Wk.sto (i := 6) 5 true ty38 rfl rfl rfl rfl (Nat.le_of_ble_eq_true rfl) (lt_of_ble rfl)
    refine Wk.nil (AW.ret ?_)
    repeat (first | refine thenA_ret ?_ | refine inBlockA_ret ?_)
    exact RetQ.ret (cxB qu qu.length) (.cons ⟨6, 0, _, _, _, rfl, rfl, ty38, rfl⟩ .nil) ⟨rfl, rfl⟩ (kept1 rfl)
end Go.Proofs.YthnlpdjjnfkmeaaDoor

/- An element's address in an array that lies in a variable; a list of pieces is made, with room. -/
namespace Go.Proofs.YthnlpdjjnfkmeaaDoor
open Go Go.RowKit
section
variable {P : Program} {C : Ctx} {ops : Array Oper} {os : List Oper} {cs : List Cert} {σ : St} {K : St → Prop} {d : Nat} {ty : TypeId} {pos : String} {af : Array Edge}
def rIArr (x y : Operand) (sz len : Nat) (σ : St) : Option A :=
  match aev σ x, aev σ y with
  | .ptr i o, .d (.v (.int _ n)) => if 0 ≤ n ∧ n < (len : Int) then some (.ptr i (o + n.toNat * sz)) else none
  | _, _ => none
theorem ok_iarr {xt e : TypeId} {x y : Operand} {sz len : Nat} {row : Bool} (hu : P.underlying xt = some (.array len e)) (ht : tyOf P e = some (sz, row)) :
    OpOk P C ops ⟨some d, .indexAddr xt x y, ty, pos, af, none⟩ ⟨kof x ++ kof y, [T d], beh1 (rIArr x y sz len) d⟩ :=
  OpOk.read rfl rfl (fun σ => by unfold rIArr; rw [aev_mask (fun k h => List.mem_append_left _ h), aev_mask (fun k h => List.mem_append_right _ h)]) fun σ a w F E H r hR h => by
    unfold rIArr at h
    split at h
    · rename_i i o kd n he hi
      split at h
      · rename_i hc
        obtain rfl := Option.some.inj h
        have hd2 := hR.ev y
        rw [hi] at hd2
        have e2 := den_v hd2
        have hd1 := hR.ev x
        rw [he] at hd1
        obtain ⟨b, hE, hv⟩ := den_ptr hd1
        refine ⟨.pointer (some ⟨b, o + n.toNat * sz, none⟩), ?_, .ptr i _ b hE⟩
        simp [execOp, hv, e2, Instr.indexAt, asIntOf, run_underlying hu, run_size ht, hc, Instr.sureAddr, add_at']
      · cases h
    · cases h
theorem Wk.iap {xt e : TypeId} {x y : Operand} (sz len : Nat) (row : Bool) {kd : IntKind} {i o k : Nat} (hu : P.underlying xt = some (.array len e)) (ht : tyOf P e = some (sz, row)) (hx : aev σ x = .ptr i o) (hy : aev σ y = .d (.v (.int kd (k : Int))))
    (hk : k < len) (hd : d < σ.n) (h : Wk P C ops os cs (σ.put (T d) (.a (.ptr i (o + k * sz)))) K) :
    Wk P C ops (⟨some d, .indexAddr xt x y, ty, pos, af, none⟩ :: os) (⟨kof x ++ kof y, [T d], beh1 (rIArr x y sz len) d⟩ :: cs) σ K :=
  Wk.read (ok_iarr hu ht) _ hd (by simp only [rIArr, hx, hy]; rw [if_pos ⟨by omega, by omega⟩]; simp) h
end
section
variable {C : Ctx} {ops : Array Oper} {os : List Oper} {cs : List Cert} {σ : St} {K : St → Prop} {d : Nat} {ty : TypeId} {pos : String} {af : Array Edge}
def rMkP (x y : Operand) (i : Nat) (e : TypeId) (σ : St) : Option (List V) :=
  match aev σ x, aev σ y, σ.b i with
  | .d (.v (.int .i64 m)), .d (.v (.int .i64 n)), .fresh => if m = 0 ∧ 0 ≤ n ∧ n ≤ 1000 then some [.a (.own i 0), .b (.own 0 e 3 [])] else none
  | _, _, _ => none
set_option maxRecDepth 100000 in
theorem ok_mkp {x y : Operand} (i : Nat) : OpOk Tryd.prog C ops ⟨some d, .makeSlice 36 x y, ty, pos, af, none⟩ ⟨(kof x ++ kof y) ++ [B i], [T d, B i], behs (rMkP x y i 77) d⟩ :=
  OpOk.turn rfl (by simp [dstIn]) (fun σ => by unfold rMkP; rw [aev_mask fun k hk => List.mem_append_left _ (List.mem_append_left _ hk), aev_mask fun k hk => List.mem_append_left _ (List.mem_append_right _ hk), bx_mask (by simp)]) fun σ a w F E H K Q us hR hd h hK => by
    unfold rMkP at h
    split at h
    · rename_i m n hx hy hb
      split at h
      · rename_i hn
        obtain ⟨rfl, hn0, hn1⟩ := hn
        obtain rfl := Option.some.inj h
        obtain ⟨c, rfl⟩ := Int.eq_ofNat_of_zero_le hn0
        have hvx : a.eval x = .int .i64 0 := by
          have := hR.ev x
          rw [hx] at this
          exact den_v this
        have hvy : a.eval y = .int .i64 (c : Int) := by
          have := hR.ev y
          rw [hy] at this
          exact den_v this
        obtain ⟨i0, hi, hz0, hz1, hz2⟩ := info_parts Tryd.infoP
        obtain ⟨w', hr, ho, hg⟩ := run_makeSlice_owned (P := Tryd.prog) w 0 36 77 i0 _ 3 Tryd.underlying36 hi hz0 hz1 .i64 .i64 c (by omega) (by rw [hz2]; omega) (by unfold maxLen; omega) (Nat.zero_le _)
        have hfr := hR.env.box i
        rw [hb] at hfr
        have hset := hR.setown (i := i) (k := 0) (sz := 3) (e := 77) (es := []) (v := .slice (some ⟨w.heap.size, 0, none⟩) 0 c) (w' := w') (fun b hbk => by rw [hb] at hbk; cases hbk) (fun q _ => hfr.2 q) (by rw [hb]; exact hg)
          ho (by intro c hc; cases hc) Pw.nil (.inr (.inr rfl))
        unfold Oper.wp
        have hrun : (execOp a.eval ⟨some d, .makeSlice 36 x y, ty, pos, af, none⟩).run Tryd.prog w = .ok (.value (.slice (some ⟨w.heap.size, 0, none⟩) 0 c)) w' := by simp only [execOp, Sem.run_bind, hvx, hvy, hr, Result.andThen_ok, Sem.run_pure]
        rw [hrun, Oper.upon_value]
        refine hK _ _ ?_
        exact (RelE.put (d := d) (r := .own i 0) hset hd (.own i 0 _ (upd2_same _ _ _ _) rfl)).r
      · cases h
    · cases h
set_option maxRecDepth 100000 in
theorem Wk.mkp {x y : Operand} (i n : Nat) (hx : aev σ x = .d (.v (.int .i64 0))) (hy : aev σ y = .d (.v (.int .i64 (n : Int)))) (hb : σ.b i = .fresh) (hn : n ≤ 1000) (hd : d < σ.n) (h : Wk Tryd.prog C ops os cs ((σ.put (T d) (.a (.own i 0))).put (B i) (.b (.own 0 77 3 []))) K) :
    Wk Tryd.prog C ops (⟨some d, .makeSlice 36 x y, ty, pos, af, none⟩ :: os) (⟨(kof x ++ kof y) ++ [B i], [T d, B i], behs (rMkP x y i 77) d⟩ :: cs) σ K :=
  Wk.turn (ok_mkp i) [.a (.own i 0), .b (.own 0 77 3 [])] hd (by simp only [rMkP, hx, hy, hb]; rw [if_pos ⟨trivial, by omega, by omega⟩]) h
end
end Go.Proofs.YthnlpdjjnfkmeaaDoor

/- Copies of pieces, in new memory: the program's. Written by tools/mk_AbsCopyI.py. -/
namespace Go.Proofs.YthnlpdjjnfkmeaaDoor
open Go Go.RowKit
theorem asData_rows' (zs : List Nat) : asData ((zs.map fun z : Nat => [D.v (.int .u8 (z : Int))]).map (·.map A.d)) (zs.map fun z : Nat => [.v (.int .u8 (z : Int))]) := by
  simp [asData, nrms, nrm]
set_option maxRecDepth 100000 in
theorem inew_ok (d : Dat) (hd : d.2.2.length ≤ 1000) : DataOk Tryd.prog 66 [.d (.v (.int .i64 d.1)), .d (.v (.int .i64 d.2.1)), .d (bytesD d.2.2)] (partN d) := by
  obtain ⟨g, l, ys⟩ := d
  have as9 := asData_rows' ys
  simp only at hd
  refine Spec.intro (n := 12) (rv := [.cell 6 77]) Tryd.func66 rfl rfl rfl (by simp) fun C hN hX => ?_
  refine AW.seq ?_
  apply AW.list
  apply Wk.alc 6 [.int .i64 0, .int .i64 0, .slice none 0 0] ze77 rfl rfl (lt_of_ble rfl)
  refine Wk.nil ?_
  refine AW.seq ?_
  apply AW.list
  apply Wk.mv (by conv => lhs; whnf) (lt_of_ble rfl)
  apply Wk.mv (by conv => lhs; whnf) (lt_of_ble rfl)
  apply Wk.mv (by conv => lhs; whnf) (lt_of_ble rfl)
  apply Wk.appNR 10 1000 1 un22 ap5 rfl rfl rfl (.inr rfl) (by decide) (one_bytes _) (by simp; omega) (lt_of_ble rfl)
  apply Wk.thaw 10 10 _ hX rfl (by rfl) as9
  apply Wk.bld [.int .i64 0, .int .i64 0, .slice none 0 0] [(0, 1), (1, 1), (2, 1)] bl77 rfl (by conv => lhs; whnf) (lt_of_ble rfl)
  apply Wk.sto (i := 6) 3 true ty77 rfl rfl rfl rfl (Nat.le_of_ble_eq_true rfl) (lt_of_ble rfl)
  refine Wk.nil (AW.ret ?_)
  exact RetQ.ret [] (.cons ⟨6, 0, _, _, _, rfl, rfl, ty77, rfl⟩ .nil) ⟨rfl, rfl⟩ none_kept
set_option maxRecDepth 100000 in
theorem icpart_ok (d : Dat) (hd : d.2.2.length ≤ 1000) : DataOk Tryd.prog 46 [partN d] (partN d) := by
  have h := inew_ok d hd
  obtain ⟨g, l, ys⟩ := d
  refine Spec.intro (n := 10) (rv := [.cell 2 77]) Tryd.func46 rfl rfl rfl (by simp) fun C hN hX => ?_
  refine AW.seq ?_
  apply AW.list
  apply Wk.bx 1 rfl rfl (lt_of_ble rfl)
  apply Wk.alc 2 [.int .i64 0, .int .i64 0, .slice none 0 0] ze77 rfl rfl (lt_of_ble rfl)
  refine Wk.nil ?_
  refine AW.seq ?_
  apply AW.list
  apply Wk.fad 0 0 false fd77_0 rfl (lt_of_ble rfl)
  apply Wk.ld (i := 1) 1 false ty3 rfl rfl (by conv => lhs; whnf) (lt_of_ble rfl)
  apply Wk.fad 1 0 false fd77_1 rfl (lt_of_ble rfl)
  apply Wk.ld (i := 1) 1 false ty3 rfl rfl (by conv => lhs; whnf) (lt_of_ble rfl)
  apply Wk.fad 2 0 false fd77_2 rfl (lt_of_ble rfl)
  apply Wk.ld (i := 1) 1 false ty22 rfl rfl (by conv => lhs; whnf) (lt_of_ble rfl)
  apply Wk.dat h Tryd.func66 rfl rfl rfl rfl rfl (lt_of_ble rfl)
  apply Wk.sto (i := 2) 3 true ty77 rfl rfl rfl rfl (Nat.le_of_ble_eq_true rfl) (lt_of_ble rfl)
  refine Wk.nil (AW.ret ?_)
  exact RetQ.ret [] (.cons ⟨2, 0, _, _, _, rfl, rfl, ty77, rfl⟩ .nil) ⟨rfl, rfl⟩ none_kept
theorem Spec.arg {P : Program} {f : FuncId} {ls ls' : List A} {bs : List (Nat × Bx)} {post : A → List (Nat × Bx) → Prop} (h : Spec P f ls bs post) (hl : ls'.length = ls.length) (hd : ∀ (w : World) (F : Nat → Prop) (E : Nat → Option Nat) (H : Nat → Nat → Option Value) (i : Nat) (a a' : A) (v : Value), ls[i]? = some a → ls'[i]? = some a' → Den w F E H a' v → Den w F E H a v) : Spec P f ls' bs post := by
  intro w F E H args hpo hs hda
  refine h w F E H args hpo (by rw [hs, hl]) (fun i a ha => ?_)
  have hi : i < ls'.length := by rw [hl]; exact (List.getElem?_eq_some_iff.1 ha).1
  exact hd w F E H i a _ _ ha (List.getElem?_eq_getElem hi) (hda i _ (List.getElem?_eq_getElem hi))
theorem Spec.fnc {P : Program} {f g : FuncId} {x : A} {bs : List (Nat × Bx)} {post : A → List (Nat × Bx) → Prop} (h : Spec P f [x, .fn (.func g) [] []] bs post) : Spec P f [x, .d (.v (.func (.func g) #[] #[]))] bs post := by
  refine h.arg rfl fun w F E H i a a' v ha ha' hd => ?_
  match i with
  | 0 => obtain rfl := Option.some.inj ha; obtain rfl := Option.some.inj ha'; exact hd
  | 1 =>
    obtain rfl := Option.some.inj ha
    obtain rfl := Option.some.inj ha'
    obtain rfl := den_v hd
    exact .fn _ _ _ _ _ rfl rfl (fun i a h => by simp at h) (fun i a h => by simp at h)
  | n + 2 => simp at ha
theorem in_cpart (d : Dat) : PostIn ([] ++ []) (fun r bs => r = partN d ∧ bs = []) := by
  rintro r bs ⟨rfl, rfl⟩
  exact ⟨rfl, fun i x h => by cases h⟩
set_option maxHeartbeats 4000000 in
set_option maxRecDepth 100000 in
theorem ieach_ok (ds : List Dat) (h0 : ds ≠ []) (hn : ds.length ≤ 1000) (hs : ∀ d ∈ ds, d.2.2.length ≤ 1000) : DataOk Tryd.prog 65 [.d (partsD ds), .fn (.func 46) [] []] (.d (partsD ds)) := by
  have e1 : (((ds.map datD).length : Nat) : Int) = (ds.length : Int) := by rw [List.length_map]
  have hpos : ds.length ≠ 0 := fun h => h0 (List.length_eq_zero_iff.1 h)
  refine Spec.intro (n := 28) (rv := [.tmp 4]) Tryd.func65 rfl rfl rfl (by simp) fun C hN hX => ?_
  refine AW.seq ?_
  apply AW.list
  apply Wk.asg (by conv => lhs; whnf) (lt_of_ble rfl)
  refine Wk.nil ?_
  refine AW.seq (AW.seq ?_)
  apply AW.list
  apply Wk.mv (by conv => lhs; whnf) (lt_of_ble rfl)
  apply Wk.len un36 rfl (lt_of_ble rfl)
  apply Wk.bin rfl rfl (r := .bool false) (fun w => by rw [e1]; simp [go_sem, h0]) (lt_of_ble rfl)
  refine Wk.nil ?_
  refine AW.cond rfl (fun hc => by cases hc) (fun _ => AW.skip (thenA_normal ?_))
  refine AW.seq ?_
  apply AW.list
  apply Wk.mv (by conv => lhs; whnf) (lt_of_ble rfl)
  apply Wk.len un36 rfl (lt_of_ble rfl)
  apply Wk.mkp 66 (ds.map datD).length rfl rfl rfl (by rw [List.length_map]; exact hn) (lt_of_ble rfl)
  apply Wk.asg (by conv => lhs; whnf) (lt_of_ble rfl)
  refine Wk.nil ?_
  refine AW.seq (AW.seq ?_)
  apply AW.list
  apply Wk.mv (by conv => lhs; whnf) (lt_of_ble rfl)
  apply Wk.len un36 rfl (lt_of_ble rfl)
  apply Wk.mv (by conv => lhs; whnf) (lt_of_ble rfl)
  refine Wk.nil (AW.block ?_)
  refine AW.loop (fun k : Nat => St.of 28 [(1, .fn (.func 46) [] []), (5, .own 66 k), (14, .d (partsD ds)), (15, .d (.v (.int .i64 (((ds.map datD).length : Nat) : Int)))), (16, .d (.v (.int .i64 (k : Int))))] [(66, .own k 77 3 (piecesA (ds.take k)))]) (fun k => k ≤ ds.length) (fun k => ds.length - k) 0 (Nat.zero_le _) ?_ ?_
  · exact fun a w => Rel.keep ⟨rfl, .cons rfl rfl (.cons rfl rfl (.cons rfl rfl (.cons rfl rfl (.cons rfl rfl .nil)))), .cons rfl rfl .nil, hN.mono (by simp [keys])⟩
  rintro k hk
  show AW Tryd.prog C _ _ (St.of 28 [(1, .fn (.func 46) [] []), (5, .own 66 k), (14, .d (partsD ds)), (15, .d (.v (.int .i64 (((ds.map datD).length : Nat) : Int)))), (16, .d (.v (.int .i64 (k : Int))))] [(66, .own k 77 3 (piecesA (ds.take k)))])
  refine AW.seq ?_
  apply AW.list
  apply Wk.bin rfl rfl (fun w => by simp [go_sem] <;> rfl) (lt_of_ble rfl)
  refine Wk.nil ?_
  refine AW.seq ?_
  refine AW.cond rfl (fun hc => ?_) (fun hc => ?_)
  · have hlt : k < ds.length := by simpa using hc
    obtain ⟨d, hd⟩ : ∃ d, ds[k]? = some d := ⟨_, List.getElem?_eq_getElem hlt⟩
    have hds := hs d (List.mem_of_getElem? hd)
    have hget : (ds.map datD)[k]? = some (datD d) := by simp [hd]
    have hklt : k < (ds.map datD).length := by simpa using hlt
    have htk : ds.take (k + 1) = ds.take k ++ [d] := by rw [List.take_add_one, hd]; rfl
    have cd := icpart_ok d hds
    refine AW.skip ?_
    repeat (first | refine thenA_normal ?_ | refine inBlockA_normal ?_)
    refine AW.seq (AW.block (AW.seq ?_))
    apply AW.list
    apply Wk.iad 3 true un36 ty77 rfl rfl hklt (datD_len _) (lt_of_ble rfl)
    apply Wk.ldr 3 true ty77 rfl hget (by conv => lhs; whnf) (lt_of_ble rfl)
    apply Wk.alc 7 [.int .i64 0, .int .i64 0, .slice none 0 0] ze77 rfl rfl (lt_of_ble rfl)
    apply Wk.sto (i := 7) 3 true ty77 rfl rfl rfl rfl (Nat.le_of_ble_eq_true rfl) (lt_of_ble rfl)
    refine Wk.nil ?_
    apply AW.list
    apply Wk.mv (by conv => lhs; whnf) (lt_of_ble rfl)
    apply Wk.mv (by conv => lhs; whnf) (lt_of_ble rfl)
    apply Wk.ld (i := 7) 3 true ty77 rfl rfl (by conv => lhs; whnf) (lt_of_ble rfl)
    apply Wk.clf [] [] cd (in_cpart d) ⟨_, _, rfl, rfl⟩ Tryd.func46 rfl rfl rfl rfl (fun i hi => by cases hi) rfl (fun i hi => by cases hi) (lt_of_ble rfl)
    rintro r bs' ⟨rfl, rfl⟩
    apply Wk.lst 24 3 true [.int .i64 0, .int .i64 0, .slice none 0 0] un36 ty77 ze77 rfl rfl (by rfl) (by rfl) (by decide) (by decide) rfl rfl (all_len rfl) (lt_of_ble rfl)
    apply Wk.appOO 66 24 3 un36 ap77 rfl rfl rfl rfl (by decide) (all_len rfl) (three_parts _) (by simp [piecesA]; omega) (lt_of_ble rfl)
    apply Wk.asg (by conv => lhs; whnf) (lt_of_ble rfl)
    refine Wk.nil ?_
    repeat (first | refine thenA_normal ?_ | refine inBlockA_normal ?_)
    apply AW.list
    apply Wk.addi rfl rfl (by omega) (lt_of_ble rfl)
    apply Wk.mv (by conv => lhs; whnf) (lt_of_ble rfl)
    refine Wk.nil ?_
    refine ⟨k + 1, by omega, by omega, ?_⟩
    refine fun a w => Rel.keep ⟨rfl, .cons rfl rfl (.cons rfl rfl (.cons rfl rfl (.cons rfl rfl (.cons rfl rfl .nil)))), .cons ?_ (by exact within_parts _) .nil, hN.mono (by simp [keys])⟩
    simp only [htk, piecesA, List.map_append]
    rfl
  · have hke : k = ds.length := by
      simp at hc
      omega
    subst hke
    refine AW.exit ?_
    repeat (first | refine inBlockA_same ?_ | refine thenA_exit ?_)
    repeat (first | refine thenA_normal ?_ | refine inBlockA_normal ?_)
    rw [List.take_length]
    refine AW.seq ?_
    apply AW.list
    apply Wk.mv (by conv => lhs; whnf) (lt_of_ble rfl)
    apply Wk.asg (by conv => lhs; whnf) (lt_of_ble rfl)
    refine Wk.nil ?_
    refine AW.thaw (t := 4) (i := 66) _ rfl rfl (asData_parts ds) hX.none ?_
    refine AW.ret ?_
    repeat (first | refine thenA_ret ?_ | refine inBlockA_ret ?_)
    exact RetQ.ret [] (.cons rfl .nil) ⟨rfl, rfl⟩ none_kept
set_option maxHeartbeats 4000000 in
set_option maxRecDepth 100000 in
theorem ieachO (ds : List Dat) (h0 : ds ≠ []) (hn : ds.length ≤ 1000) (hs : ∀ d ∈ ds, d.2.2.length ≤ 1000) : Spec Tryd.prog 65 [.d (partsD ds), .fn (.func 46) [] []] [] (fun r bs => r = .own 66 ds.length ∧ bs = [(66, .own ds.length 77 3 (piecesA ds))]) := by
  have e1 : (((ds.map datD).length : Nat) : Int) = (ds.length : Int) := by rw [List.length_map]
  have hpos : ds.length ≠ 0 := fun h => h0 (List.length_eq_zero_iff.1 h)
  refine Spec.intro (n := 28) (rv := [.tmp 4]) Tryd.func65 rfl rfl rfl (by simp) fun C hN hX => ?_
  refine AW.seq ?_
  apply AW.list
  apply Wk.asg (by conv => lhs; whnf) (lt_of_ble rfl)
  refine Wk.nil ?_
  refine AW.seq (AW.seq ?_)
  apply AW.list
  apply Wk.mv (by conv => lhs; whnf) (lt_of_ble rfl)
  apply Wk.len un36 rfl (lt_of_ble rfl)
  apply Wk.bin rfl rfl (r := .bool false) (fun w => by rw [e1]; simp [go_sem, h0]) (lt_of_ble rfl)
  refine Wk.nil ?_
  refine AW.cond rfl (fun hc => by cases hc) (fun _ => AW.skip (thenA_normal ?_))
  refine AW.seq ?_
  apply AW.list
  apply Wk.mv (by conv => lhs; whnf) (lt_of_ble rfl)
  apply Wk.len un36 rfl (lt_of_ble rfl)
  apply Wk.mkp 66 (ds.map datD).length rfl rfl rfl (by rw [List.length_map]; exact hn) (lt_of_ble rfl)
  apply Wk.asg (by conv => lhs; whnf) (lt_of_ble rfl)
  refine Wk.nil ?_
  refine AW.seq (AW.seq ?_)
  apply AW.list
  apply Wk.mv (by conv => lhs; whnf) (lt_of_ble rfl)
  apply Wk.len un36 rfl (lt_of_ble rfl)
  apply Wk.mv (by conv => lhs; whnf) (lt_of_ble rfl)
  refine Wk.nil (AW.block ?_)
  refine AW.loop (fun k : Nat => St.of 28 [(1, .fn (.func 46) [] []), (5, .own 66 k), (14, .d (partsD ds)), (15, .d (.v (.int .i64 (((ds.map datD).length : Nat) : Int)))), (16, .d (.v (.int .i64 (k : Int))))] [(66, .own k 77 3 (piecesA (ds.take k)))]) (fun k => k ≤ ds.length) (fun k => ds.length - k) 0 (Nat.zero_le _) ?_ ?_
  · exact fun a w => Rel.keep ⟨rfl, .cons rfl rfl (.cons rfl rfl (.cons rfl rfl (.cons rfl rfl (.cons rfl rfl .nil)))), .cons rfl rfl .nil, hN.mono (by simp [keys])⟩
  rintro k hk
  show AW Tryd.prog C _ _ (St.of 28 [(1, .fn (.func 46) [] []), (5, .own 66 k), (14, .d (partsD ds)), (15, .d (.v (.int .i64 (((ds.map datD).length : Nat) : Int)))), (16, .d (.v (.int .i64 (k : Int))))] [(66, .own k 77 3 (piecesA (ds.take k)))])
  refine AW.seq ?_
  apply AW.list
  apply Wk.bin rfl rfl (fun w => by simp [go_sem] <;> rfl) (lt_of_ble rfl)
  refine Wk.nil ?_
  refine AW.seq ?_
  refine AW.cond rfl (fun hc => ?_) (fun hc => ?_)
  · have hlt : k < ds.length := by simpa using hc
    obtain ⟨d, hd⟩ : ∃ d, ds[k]? = some d := ⟨_, List.getElem?_eq_getElem hlt⟩
    have hds := hs d (List.mem_of_getElem? hd)
    have hget : (ds.map datD)[k]? = some (datD d) := by simp [hd]
    have hklt : k < (ds.map datD).length := by simpa using hlt
    have htk : ds.take (k + 1) = ds.take k ++ [d] := by rw [List.take_add_one, hd]; rfl
    have cd := icpart_ok d hds
    refine AW.skip ?_
    repeat (first | refine thenA_normal ?_ | refine inBlockA_normal ?_)
    refine AW.seq (AW.block (AW.seq ?_))
    apply AW.list
    apply Wk.iad 3 true un36 ty77 rfl rfl hklt (datD_len _) (lt_of_ble rfl)
    apply Wk.ldr 3 true ty77 rfl hget (by conv => lhs; whnf) (lt_of_ble rfl)
    apply Wk.alc 7 [.int .i64 0, .int .i64 0, .slice none 0 0] ze77 rfl rfl (lt_of_ble rfl)
    apply Wk.sto (i := 7) 3 true ty77 rfl rfl rfl rfl (Nat.le_of_ble_eq_true rfl) (lt_of_ble rfl)
    refine Wk.nil ?_
    apply AW.list
    apply Wk.mv (by conv => lhs; whnf) (lt_of_ble rfl)
    apply Wk.mv (by conv => lhs; whnf) (lt_of_ble rfl)
    apply Wk.ld (i := 7) 3 true ty77 rfl rfl (by conv => lhs; whnf) (lt_of_ble rfl)
    apply Wk.clf [] [] cd (in_cpart d) ⟨_, _, rfl, rfl⟩ Tryd.func46 rfl rfl rfl rfl (fun i hi => by cases hi) rfl (fun i hi => by cases hi) (lt_of_ble rfl)
    rintro r bs' ⟨rfl, rfl⟩
    apply Wk.lst 24 3 true [.int .i64 0, .int .i64 0, .slice none 0 0] un36 ty77 ze77 rfl rfl (by rfl) (by rfl) (by decide) (by decide) rfl rfl (all_len rfl) (lt_of_ble rfl)
    apply Wk.appOO 66 24 3 un36 ap77 rfl rfl rfl rfl (by decide) (all_len rfl) (three_parts _) (by simp [piecesA]; omega) (lt_of_ble rfl)
    apply Wk.asg (by conv => lhs; whnf) (lt_of_ble rfl)
    refine Wk.nil ?_
    repeat (first | refine thenA_normal ?_ | refine inBlockA_normal ?_)
    apply AW.list
    apply Wk.addi rfl rfl (by omega) (lt_of_ble rfl)
    apply Wk.mv (by conv => lhs; whnf) (lt_of_ble rfl)
    refine Wk.nil ?_
    refine ⟨k + 1, by omega, by omega, ?_⟩
    refine fun a w => Rel.keep ⟨rfl, .cons rfl rfl (.cons rfl rfl (.cons rfl rfl (.cons rfl rfl (.cons rfl rfl .nil)))), .cons ?_ (by exact within_parts _) .nil, hN.mono (by simp [keys])⟩
    simp only [htk, piecesA, List.map_append]
    rfl
  · have hke : k = ds.length := by
      simp at hc
      omega
    subst hke
    refine AW.exit ?_
    repeat (first | refine inBlockA_same ?_ | refine thenA_exit ?_)
    repeat (first | refine thenA_normal ?_ | refine inBlockA_normal ?_)
    rw [List.take_length]
    refine AW.seq ?_
    apply AW.list
    apply Wk.mv (by conv => lhs; whnf) (lt_of_ble rfl)
    apply Wk.asg (by conv => lhs; whnf) (lt_of_ble rfl)
    refine Wk.nil ?_
    refine AW.ret ?_
    repeat (first | refine thenA_ret ?_ | refine inBlockA_ret ?_)
    exact RetQ.ret [(66, .own ds.length 77 3 (piecesA ds))] (.cons rfl .nil) ⟨rfl, rfl⟩ (kept1 rfl)
set_option maxRecDepth 100000 in
theorem ieachNil : DataOk Tryd.prog 65 [.d (partsD []), .fn (.func 46) [] []] (.d (.v (.slice none 0 0))) := by
  refine Spec.intro (n := 28) (rv := [.tmp 4]) Tryd.func65 rfl rfl rfl (by simp) fun C hN hX => ?_
  refine AW.seq ?_
  apply AW.list
  apply Wk.asg (by conv => lhs; whnf) (lt_of_ble rfl)
  refine Wk.nil ?_
  refine AW.seq (AW.seq ?_)
  apply AW.list
  apply Wk.mv (by conv => lhs; whnf) (lt_of_ble rfl)
  apply Wk.len un36 rfl (lt_of_ble rfl)
  apply Wk.bin rfl rfl (r := .bool true) (fun w => by simp [go_sem]) (lt_of_ble rfl)
  refine Wk.nil ?_
  refine AW.cond rfl (fun _ => ?_) (fun hc => by cases hc)
  refine AW.seq ?_
  apply AW.list
  apply Wk.asg (by conv => lhs; whnf) (lt_of_ble rfl)
  refine Wk.nil (AW.ret ?_)
  repeat (first | refine thenA_ret ?_ | refine inBlockA_ret ?_)
  exact RetQ.ret [] (.cons rfl .nil) ⟨rfl, rfl⟩ none_kept
set_option maxRecDepth 100000 in
theorem icopyNil : DataOk Tryd.prog 45 [.d (partsD [])] (.d (.v (.slice none 0 0))) := by
  have h : DataOk Tryd.prog 65 [.d (partsD []), .d (.v (.func (.func 46) #[] #[]))] (.d (.v (.slice none 0 0))) := Spec.fnc ieachNil
  refine Spec.intro (n := 5) (rv := [.tmp 2]) Tryd.func45 rfl rfl rfl (by simp) fun C hN hX => ?_
  refine AW.seq ?_
  apply AW.list
  apply Wk.asg (by conv => lhs; whnf) (lt_of_ble rfl)
  refine Wk.nil ?_
  refine AW.seq ?_
  apply AW.list
  apply Wk.mv (by conv => lhs; whnf) (lt_of_ble rfl)
  apply Wk.dat h Tryd.func65 rfl rfl rfl rfl rfl (lt_of_ble rfl)
  apply Wk.asg (by conv => lhs; whnf) (lt_of_ble rfl)
  refine Wk.nil (AW.ret ?_)
  exact RetQ.ret [] (.cons rfl .nil) ⟨rfl, rfl⟩ none_kept
set_option maxRecDepth 100000 in
theorem icopy_ok (ds : List Dat) (hn : ds.length ≤ 1000) (hs : ∀ d ∈ ds, d.2.2.length ≤ 1000) : DataOk Tryd.prog 45 [.d (partsD ds)] (.d (partsD ds)) := by
  by_cases h0 : ds = []
  · subst h0
    exact icopyNil.nrm
  have h : DataOk Tryd.prog 65 [.d (partsD ds), .d (.v (.func (.func 46) #[] #[]))] (.d (partsD ds)) := Spec.fnc (ieach_ok ds h0 hn hs)
  refine Spec.intro (n := 5) (rv := [.tmp 2]) Tryd.func45 rfl rfl rfl (by simp) fun C hN hX => ?_
  refine AW.seq ?_
  apply AW.list
  apply Wk.asg (by conv => lhs; whnf) (lt_of_ble rfl)
  refine Wk.nil ?_
  refine AW.seq ?_
  apply AW.list
  apply Wk.mv (by conv => lhs; whnf) (lt_of_ble rfl)
  apply Wk.dat h Tryd.func65 rfl rfl rfl rfl rfl (lt_of_ble rfl)
  apply Wk.asg (by conv => lhs; whnf) (lt_of_ble rfl)
  refine Wk.nil (AW.ret ?_)
  exact RetQ.ret [] (.cons rfl .nil) ⟨rfl, rfl⟩ none_kept
set_option maxRecDepth 100000 in
theorem icopyO (ds : List Dat) (h0 : ds ≠ []) (hn : ds.length ≤ 1000) (hs : ∀ d ∈ ds, d.2.2.length ≤ 1000) : Spec Tryd.prog 45 [.d (partsD ds)] [] (fun r bs => r = .own 66 ds.length ∧ bs = [(66, .own ds.length 77 3 (piecesA ds))]) := by
  have h := (ieachO ds h0 hn hs).fnc
  have i1 := in_slist (L := [] ++ [66]) (i := 66) (k := ds.length) (e := 77) (sz := 3) (by simp) (within_parts ds)
  refine Spec.intro (n := 5) (rv := [.tmp 2]) Tryd.func45 rfl rfl rfl (by simp) fun C hN hX => ?_
  refine AW.seq ?_
  apply AW.list
  apply Wk.asg (by conv => lhs; whnf) (lt_of_ble rfl)
  refine Wk.nil ?_
  refine AW.seq ?_
  apply AW.list
  apply Wk.mv (by conv => lhs; whnf) (lt_of_ble rfl)
  apply Wk.cal [] [66] h i1 ⟨_, _, rfl, rfl⟩ Tryd.func65 rfl rfl rfl rfl (by simp; rfl) rfl (fun i hi => by cases hi) (lt_of_ble rfl)
  rintro r bs' ⟨rfl, rfl⟩
  apply Wk.asg (by conv => lhs; whnf) (lt_of_ble rfl)
  refine Wk.nil (AW.ret ?_)
  exact RetQ.ret [(66, .own ds.length 77 3 (piecesA ds))] (.cons rfl .nil) ⟨rfl, rfl⟩ (kept1 rfl)
end Go.Proofs.YthnlpdjjnfkmeaaDoor

/- Who sends for credits: the program's sending and taking, where the package's errors are what they are; the specification's, as data. Written by tools/mk_AbsCrdI.py. -/
namespace Go.Proofs.YthnlpdjjnfkmeaaDoor
open Go Go.RowKit
theorem thw_cx (x : CX) (l : Nat) : thwA 66 l (.row (x.qu.map datD)) (cxO x l) = cxA x := by simp [cxO, cxA, thwA, thwAs, partsD]
theorem thw_frmZ (i l : Nat) (ds : D) (k s c : Int) (p f : Bool) (y g m : Int) (z : D) : thwA i l ds (frmZ k s c p f y g m z) = frmZ k s c p f y g m z := by simp [frmZ, frmZC, thwA, thwAs]
theorem thw_no (i l : Nat) (ds : D) : thwA i l ds frmNo = frmNo := by simp [frmNo, thwA, thwAs]
theorem scsendIdleD (m0 w0 p0 u0 y0 : Int) (x : CX) (hok : crdOkB ⟨m0, w0, p0, u0, y0⟩ x = true) (hx : x.few) (hi : idleC x) :
    DataOk Tryd.prog 59 [cfgA m0 w0 p0 u0 y0, cxA x] (.tup [cxA x, frmNo, .d (.v (.bool false))]) := by
  have h := Spec.thw (asData_parts x.qu) (scsendIdle m0 w0 p0 u0 y0 x hok hx hi)
  simpa [thwA, thwAs, thw_cx, thw_no] using h
theorem scsendOnD (m0 w0 p0 u0 y0 : Int) (v : Int) (qu : List Dat) (g s : Int) (e : Dat) (qs : List Dat) (hqu : qu = e :: qs) (hok : crdOkB ⟨m0, w0, p0, u0, y0⟩ ⟨v, qu, g, s, false⟩ = true) (hx : CX.few ⟨v, qu, g, s, false⟩) (c1v : ¬ v = 0) (c3s : ¬ s = 9999) :
    DataOk Tryd.prog 59 [cfgA m0 w0 p0 u0 y0, cxA ⟨v, qu, g, s, false⟩] (.tup [cxA ⟨v - 1, qs, g, s + 1, false⟩, frmZ 3 0 0 false false 0 e.1 e.2.1 (bytesD e.2.2), .d (.v (.bool true))]) := by
  have h := Spec.thw (asData_parts qs) (scsendOn m0 w0 p0 u0 y0 v qu g s e qs hqu hok hx c1v c3s)
  have e1 : thwA 66 qs.length (.row (qs.map datD)) (cxO ⟨v - 1, qs, g, s + 1, false⟩ qs.length) = cxA ⟨v - 1, qs, g, s + 1, false⟩ := thw_cx ⟨v - 1, qs, g, s + 1, false⟩ _
  simpa [thwA, thwAs, e1, thw_frmZ] using h
theorem sctakeD (m0 w0 p0 u0 y0 : Int) (x : CX) (n : Int) (hok : crdOkB ⟨m0, w0, p0, u0, y0⟩ x = true) (hn : inB n 1 255 = true) (hx : x.few) :
    DataOk Tryd.prog 58 [cfgA m0 w0 p0 u0 y0, cxA x, .d (.v (.int .i64 n))] (cxA (takeX x n)) := by
  have h := Spec.thw (asData_parts x.qu) (sctakeYes m0 w0 p0 u0 y0 x n hok hn hx)
  have eq : (takeX x n).qu = x.qu := by unfold takeX; split <;> (try split) <;> rfl
  have e1 : thwA 66 x.qu.length (.row (x.qu.map datD)) (cxO (takeX x n) x.qu.length) = cxA (takeX x n) := by
    have := thw_cx (takeX x n) x.qu.length
    rwa [eq] at this
  rwa [e1] at h

/-! The program. -/
section
variable {V : List (Nat × Value)} {a b : Addr}
theorem ispendNo (n : Int) (hn : n < 1) (h0 : (0, errV a) ∈ V) : DataV Tryd.prog V 43 [.d (.v (.int .i64 n))] (.tup [.d (.v (.int .i64 n)), .d (.v (errV a))]) := by
  refine DataV.intro (n := 10) (rv := [.tmp 2, .tmp 3]) Tryd.func43 rfl rfl rfl (by simp) fun C hV hN hX => ?_
  refine AW.seq ?_
  apply AW.list
  apply Wk.asg (by conv => lhs; whnf) (lt_of_ble rfl)
  apply Wk.asg (by conv => lhs; whnf) (lt_of_ble rfl)
  refine Wk.nil ?_
  refine AW.seq (AW.seq ?_)
  apply AW.list
  apply Wk.mv (by conv => lhs; whnf) (lt_of_ble rfl)
  apply Wk.bin rfl rfl (r := .bool true) (fun w => by simp [go_sem] <;> omega) (lt_of_ble rfl)
  refine Wk.nil ?_
  refine AW.cond rfl (fun _ => ?_) (fun hc => by cases hc)
  refine AW.seq ?_
  apply AW.draw (hm := hmix) (cs := _)
  · apply Wk.mv (by conv => lhs; whnf) (lt_of_ble rfl)
    apply Wk.ldv hX hV tyErr h0 (lt_of_ble rfl)
    apply Wk.asg (by conv => lhs; whnf) (lt_of_ble rfl)
    apply Wk.asg (by conv => lhs; whnf) (lt_of_ble rfl)
    refine Wk.nil (AW.ret ?_)
    repeat (first | refine thenA_ret ?_ | refine inBlockA_ret ?_)
    exact RetQ.ret [] (.cons rfl (.cons rfl .nil)) ⟨rfl, rfl⟩ none_kept
  · rfl
  · rfl
theorem ispendOn (n : Int) (hn : 1 ≤ n) (hn2 : n ≤ 1000000) : DataV Tryd.prog V 43 [.d (.v (.int .i64 n))] (.tup [.d (.v (.int .i64 (n - 1))), .d (.v .nilIface)]) := by
  refine DataV.intro (n := 10) (rv := [.tmp 2, .tmp 3]) Tryd.func43 rfl rfl rfl (by simp) fun C hV hN hX => ?_
  refine AW.seq ?_
  apply AW.list
  apply Wk.asg (by conv => lhs; whnf) (lt_of_ble rfl)
  apply Wk.asg (by conv => lhs; whnf) (lt_of_ble rfl)
  refine Wk.nil ?_
  refine AW.seq (AW.seq ?_)
  apply AW.list
  apply Wk.mv (by conv => lhs; whnf) (lt_of_ble rfl)
  apply Wk.bin rfl rfl (r := .bool false) (fun w => by simp [go_sem] <;> omega) (lt_of_ble rfl)
  refine Wk.nil ?_
  refine AW.cond rfl (fun hc => by cases hc) (fun _ => AW.skip (thenA_normal ?_))
  refine AW.seq ?_
  apply AW.list
  apply Wk.mv (by conv => lhs; whnf) (lt_of_ble rfl)
  apply Wk.subi rfl rfl (by omega) (lt_of_ble rfl)
  apply Wk.asg (by conv => lhs; whnf) (lt_of_ble rfl)
  apply Wk.asg (by conv => lhs; whnf) (lt_of_ble rfl)
  refine Wk.nil (AW.ret ?_)
  exact RetQ.ret [] (.cons rfl (.cons rfl .nil)) ⟨rfl, rfl⟩ none_kept
theorem iupb {n k : Int} {t : Bool} (h : inB n 1 k = t) : DataOk Tryd.prog 55 [.d (.v (.int .i64 n)), .d (.v (.int .i64 k))] (.d (.v (.bool t))) := by
  subst h
  refine DataOk.lift fun w F E H args _ hs hd => ?_
  obtain ⟨v, u, rfl, hv, hu⟩ := args2 hs hd
  obtain rfl := den_v hv
  obtain rfl := den_v hu
  refine (upto_any _ _ _).mono ?_
  rintro e w' ⟨rfl, rfl⟩
  exact ⟨rfl, Below.refl _ _⟩
set_option maxHeartbeats 4000000 in
set_option maxRecDepth 100000 in
theorem icsendNo (m0 w0 p0 u0 y0 : Int) (x : CX) (hok : crdOkB ⟨m0, w0, p0, u0, y0⟩ x = false) : DataV Tryd.prog V 19 [cfgA m0 w0 p0 u0 y0, cxA x] (.tup [cxNil, frmNo, .d (.v (.bool false))]) := by
  refine DataV.intro (n := 65) (rv := [.cell 4 38, .cell 5 24, .tmp 6]) Tryd.func19 rfl rfl rfl (by simp) fun C hV hN hX => ?_
  refine AW.seq ?_
  apply AW.list
  apply Wk.bx 2 rfl rfl (lt_of_ble rfl)
  apply Wk.bx 3 rfl rfl (lt_of_ble rfl)
  apply Wk.alc 4 [.int .i64 0, .slice none 0 0, .int .i64 0, .int .i64 0, .bool false] ze38 rfl rfl (lt_of_ble rfl)
  apply Wk.alc 5 [.int .i64 0, .int .i64 0, .int .i64 0, .bool false, .bool false, .int .i64 0, .int .i64 0, .int .i64 0, .slice none 0 0] ze24 rfl rfl (lt_of_ble rfl)
  apply Wk.asg (by conv => lhs; whnf) (lt_of_ble rfl)
  refine Wk.nil ?_
  refine AW.seq (AW.seq ?_)
  apply AW.list
  apply Wk.ld (i := 2) 5 true ty35 rfl rfl (by conv => lhs; whnf) (lt_of_ble rfl)
  apply Wk.ld (i := 3) 5 true ty38 rfl rfl (by conv => lhs; whnf) (lt_of_ble rfl)
  apply Wk.dat (icxb hok) Tryd.func18 rfl rfl rfl rfl rfl (lt_of_ble rfl)
  apply Wk.un rfl (fun w => by simp [go_sem] <;> rfl) (lt_of_ble rfl)
  refine Wk.nil ?_
  refine AW.cond rfl (fun _ => ?_) (fun hc => by cases hc)
  refine AW.seq ?_
  apply AW.list
  apply Wk.bld [.int .i64 0, .slice none 0 0, .int .i64 0, .int .i64 0, .bool false] [(0, 1), (1, 1), (2, 1), (3, 1), (4, 1)] bl38 rfl (by conv => lhs; whnf) (lt_of_ble rfl)
  apply Wk.bld [.int .i64 0, .int .i64 0, .int .i64 0, .bool false, .bool false, .int .i64 0, .int .i64 0, .int .i64 0, .slice none 0 0] [(0, 1), (1, 1), (2, 1), (3, 1), (4, 1), (5, 1), (6, 1), (7, 1), (8, 1)] bl24 rfl (by conv => lhs; whnf) (lt_of_ble rfl)
  apply Wk.sto (i := 4) 5 true ty38 rfl rfl rfl rfl (Nat.le_of_ble_eq_true rfl) (lt_of_ble rfl)
  apply Wk.sto (i := 5) 9 true ty24 rfl rfl rfl rfl (Nat.le_of_ble_eq_true rfl) (lt_of_ble rfl)
  apply Wk.asg (by conv => lhs; whnf) (lt_of_ble rfl)
  refine Wk.nil (AW.ret ?_)
  repeat (first | refine thenA_ret ?_ | refine inBlockA_ret ?_)
  exact RetQ.ret [] (.cons ⟨4, 0, _, _, _, rfl, rfl, ty38, rfl⟩ (.cons ⟨5, 0, _, _, _, rfl, rfl, ty24, rfl⟩ (.cons rfl .nil))) ⟨rfl, rfl⟩ none_kept
set_option maxHeartbeats 4000000 in
set_option maxRecDepth 100000 in
theorem icsendIdle (m0 w0 p0 u0 y0 : Int) (x : CX) (hok : crdOkB ⟨m0, w0, p0, u0, y0⟩ x = true) (hx : x.few) (hi : idleC x) (h0 : (0, errV a) ∈ V) :
    DataV Tryd.prog V 19 [cfgA m0 w0 p0 u0 y0, cxA x] (.tup [cxA x, frmNo, .d (.v (.bool false))]) := by
  have f := crdOk_facts hok
  have ic := icopy_ok x.qu hx.1 hx.2
  obtain ⟨v, qu, g, s, d⟩ := x
  simp only [idleC] at hi
  simp only at f ic
  obtain ⟨_, hv, _, hg, hs, hgs, _⟩ := f
  have e3 : (((qu.map datD).length : Nat) : Int) = (qu.length : Int) := by rw [List.length_map]
  obtain ⟨c, er, hsp, hisd, her⟩ : ∃ (c : Int) (er : Value), DataV Tryd.prog V 43 [.d (.v (.int .i64 v))] (.tup [.d (.v (.int .i64 c)), .d (.v er)]) ∧ DataV Tryd.prog V 44 [.d (.v er), .d (.v (errV a))] (.d (.v (.bool (decide (v < 1))))) ∧ (v < 1 → er = errV a) := by
    by_cases h1 : v < 1
    · exact ⟨_, _, ispendNo v h1 h0, by rw [decide_eq_true h1]; exact (isSame_ok a).v, fun _ => rfl⟩
    · exact ⟨_, _, ispendOn v (by omega) (by omega), by rw [decide_eq_false h1]; exact (isNil_ok a).v, fun h => absurd h h1⟩
  refine DataV.intro (n := 65) (rv := [.cell 4 38, .cell 5 24, .tmp 6]) Tryd.func19 rfl rfl rfl (by simp) fun C hV hN hX => ?_
  refine AW.seq ?_
  apply AW.list
  apply Wk.bx 2 rfl rfl (lt_of_ble rfl)
  apply Wk.bx 3 rfl rfl (lt_of_ble rfl)
  apply Wk.alc 4 [.int .i64 0, .slice none 0 0, .int .i64 0, .int .i64 0, .bool false] ze38 rfl rfl (lt_of_ble rfl)
  apply Wk.alc 5 [.int .i64 0, .int .i64 0, .int .i64 0, .bool false, .bool false, .int .i64 0, .int .i64 0, .int .i64 0, .slice none 0 0] ze24 rfl rfl (lt_of_ble rfl)
  apply Wk.asg (by conv => lhs; whnf) (lt_of_ble rfl)
  refine Wk.nil ?_
  refine AW.seq (AW.seq ?_)
  apply AW.list
  apply Wk.ld (i := 2) 5 true ty35 rfl rfl (by conv => lhs; whnf) (lt_of_ble rfl)
  apply Wk.ld (i := 3) 5 true ty38 rfl rfl (by conv => lhs; whnf) (lt_of_ble rfl)
  apply Wk.dat (icxb hok) Tryd.func18 rfl rfl rfl rfl rfl (lt_of_ble rfl)
  apply Wk.un rfl (fun w => by simp [go_sem] <;> rfl) (lt_of_ble rfl)
  refine Wk.nil ?_
  refine AW.cond rfl (fun hc => by cases hc) (fun _ => AW.skip (thenA_normal ?_))
  refine AW.seq ?_
  apply AW.list
  apply Wk.fad 0 0 false fd38_0 rfl (lt_of_ble rfl)
  apply Wk.ld (i := 3) 1 false ty3 rfl rfl (by conv => lhs; whnf) (lt_of_ble rfl)
  apply Wk.dav hsp hX hV Tryd.func43 rfl rfl rfl rfl rfl (lt_of_ble rfl)
  apply Wk.mv (by conv => lhs; whnf) (lt_of_ble rfl)
  apply Wk.ext rfl rfl (lt_of_ble rfl)
  apply Wk.ext rfl rfl (lt_of_ble rfl)
  apply Wk.asg (by conv => lhs; whnf) (lt_of_ble rfl)
  apply Wk.asg (by conv => lhs; whnf) (lt_of_ble rfl)
  refine Wk.nil ?_
  refine AW.seq (AW.seq ?_)
  cases d
  · by_cases hq : qu = []
    · subst hq
      apply AW.list
      apply Wk.fad 4 0 false fd38_4 rfl (lt_of_ble rfl)
      apply Wk.ld (i := 3) 1 false ty4 rfl rfl (by conv => lhs; whnf) (lt_of_ble rfl)
      apply Wk.mv (by conv => lhs; whnf) (lt_of_ble rfl)
      apply Wk.gon 24 rfl rfl
      apply Wk.fad 1 0 false fd38_1 rfl (lt_of_ble rfl)
      apply Wk.gon 24 rfl rfl
      apply Wk.ld (i := 3) 1 false ty36 rfl rfl (by conv => lhs; whnf) (lt_of_ble rfl)
      apply Wk.gon 24 rfl rfl
      apply Wk.len un36 rfl (lt_of_ble rfl)
      apply Wk.gon 24 rfl rfl
      apply Wk.bin rfl rfl (r := .bool true) (fun w => by rw [e3]; simp [go_sem]) (lt_of_ble rfl)
      apply Wk.pckF rfl (by conv => lhs; whnf) (lt_of_ble rfl)
      apply Wk.mv (by conv => lhs; whnf) (lt_of_ble rfl)
      apply Wk.goff 30 (ok_move _) rfl rfl (by simp)
      apply Wk.goff 30 (ok_ldv hX hV tyErr h0) rfl rfl (by simp)
      apply Wk.goff 30 (ok_dav hisd rfl hX hV Tryd.func44 rfl rfl) rfl rfl (by simp)
      apply Wk.pckT rfl (by conv => lhs; whnf) (lt_of_ble rfl)
      refine Wk.nil ?_
      refine AW.cond rfl (fun _ => ?_) (fun hc => by cases hc)
      refine AW.seq ?_
      apply AW.list
      apply Wk.fad 1 0 false fd38_1 rfl (lt_of_ble rfl)
      apply Wk.ld (i := 3) 1 false ty36 rfl rfl (by conv => lhs; whnf) (lt_of_ble rfl)
      apply Wk.dat ic Tryd.func45 rfl rfl rfl rfl rfl (lt_of_ble rfl)
      apply Wk.fad 1 0 false fd38_1 rfl (lt_of_ble rfl)
      apply Wk.sto (i := 3) 1 false ty36 rfl rfl rfl rfl (Nat.le_of_ble_eq_true rfl) (lt_of_ble rfl)
      refine Wk.nil ?_
      refine AW.seq ?_
      apply AW.list
      apply Wk.ld (i := 3) 5 true ty38 rfl rfl (by conv => lhs; whnf) (lt_of_ble rfl)
      apply Wk.bld [.int .i64 0, .int .i64 0, .int .i64 0, .bool false, .bool false, .int .i64 0, .int .i64 0, .int .i64 0, .slice none 0 0] [(0, 1), (1, 1), (2, 1), (3, 1), (4, 1), (5, 1), (6, 1), (7, 1), (8, 1)] bl24 rfl (by conv => lhs; whnf) (lt_of_ble rfl)
      apply Wk.sto (i := 4) 5 true ty38 rfl rfl rfl rfl (Nat.le_of_ble_eq_true rfl) (lt_of_ble rfl)
      apply Wk.sto (i := 5) 9 true ty24 rfl rfl rfl rfl (Nat.le_of_ble_eq_true rfl) (lt_of_ble rfl)
      apply Wk.asg (by conv => lhs; whnf) (lt_of_ble rfl)
      refine Wk.nil (AW.ret ?_)
      repeat (first | refine thenA_ret ?_ | refine inBlockA_ret ?_)
      exact RetQ.ret [] (.cons ⟨4, 0, _, _, _, rfl, rfl, ty38, rfl⟩ (.cons ⟨5, 0, _, _, _, rfl, rfl, ty24, rfl⟩ (.cons rfl .nil))) ⟨rfl, rfl⟩ none_kept

    · obtain hv0 : v < 1 := by
        rcases hi with h | h | h | h
        · cases h
        · omega
        · exact absurd h hq
        · omega
      rw [decide_eq_true hv0] at hisd
      obtain rfl := her hv0
      apply AW.list
      apply Wk.fad 4 0 false fd38_4 rfl (lt_of_ble rfl)
      apply Wk.ld (i := 3) 1 false ty4 rfl rfl (by conv => lhs; whnf) (lt_of_ble rfl)
      apply Wk.mv (by conv => lhs; whnf) (lt_of_ble rfl)
      apply Wk.gon 24 rfl rfl
      apply Wk.fad 1 0 false fd38_1 rfl (lt_of_ble rfl)
      apply Wk.gon 24 rfl rfl
      apply Wk.ld (i := 3) 1 false ty36 rfl rfl (by conv => lhs; whnf) (lt_of_ble rfl)
      apply Wk.gon 24 rfl rfl
      apply Wk.len un36 rfl (lt_of_ble rfl)
      apply Wk.gon 24 rfl rfl
      apply Wk.bin rfl rfl (r := .bool false) (fun w => by rw [e3]; simp [go_sem]; exact hq) (lt_of_ble rfl)
      apply Wk.pckF rfl (by conv => lhs; whnf) (lt_of_ble rfl)
      apply Wk.mv (by conv => lhs; whnf) (lt_of_ble rfl)
      apply Wk.gon 30 rfl rfl
      apply Wk.mv (by conv => lhs; whnf) (lt_of_ble rfl)
      apply Wk.gon 30 rfl rfl
      apply Wk.ldv hX hV tyErr h0 (lt_of_ble rfl)
      apply Wk.gon 30 rfl rfl
      apply Wk.dav hisd hX hV Tryd.func44 rfl rfl rfl rfl rfl (lt_of_ble rfl)
      apply Wk.pckF rfl (by conv => lhs; whnf) (lt_of_ble rfl)
      refine Wk.nil ?_
      refine AW.cond rfl (fun _ => ?_) (fun hc => by cases hc)
      refine AW.seq ?_
      apply AW.list
      apply Wk.fad 1 0 false fd38_1 rfl (lt_of_ble rfl)
      apply Wk.ld (i := 3) 1 false ty36 rfl rfl (by conv => lhs; whnf) (lt_of_ble rfl)
      apply Wk.dat ic Tryd.func45 rfl rfl rfl rfl rfl (lt_of_ble rfl)
      apply Wk.fad 1 0 false fd38_1 rfl (lt_of_ble rfl)
      apply Wk.sto (i := 3) 1 false ty36 rfl rfl rfl rfl (Nat.le_of_ble_eq_true rfl) (lt_of_ble rfl)
      refine Wk.nil ?_
      refine AW.seq ?_
      apply AW.list
      apply Wk.ld (i := 3) 5 true ty38 rfl rfl (by conv => lhs; whnf) (lt_of_ble rfl)
      apply Wk.bld [.int .i64 0, .int .i64 0, .int .i64 0, .bool false, .bool false, .int .i64 0, .int .i64 0, .int .i64 0, .slice none 0 0] [(0, 1), (1, 1), (2, 1), (3, 1), (4, 1), (5, 1), (6, 1), (7, 1), (8, 1)] bl24 rfl (by conv => lhs; whnf) (lt_of_ble rfl)
      apply Wk.sto (i := 4) 5 true ty38 rfl rfl rfl rfl (Nat.le_of_ble_eq_true rfl) (lt_of_ble rfl)
      apply Wk.sto (i := 5) 9 true ty24 rfl rfl rfl rfl (Nat.le_of_ble_eq_true rfl) (lt_of_ble rfl)
      apply Wk.asg (by conv => lhs; whnf) (lt_of_ble rfl)
      refine Wk.nil (AW.ret ?_)
      repeat (first | refine thenA_ret ?_ | refine inBlockA_ret ?_)
      exact RetQ.ret [] (.cons ⟨4, 0, _, _, _, rfl, rfl, ty38, rfl⟩ (.cons ⟨5, 0, _, _, _, rfl, rfl, ty24, rfl⟩ (.cons rfl .nil))) ⟨rfl, rfl⟩ none_kept

  · skip
    apply AW.list
    apply Wk.fad 4 0 false fd38_4 rfl (lt_of_ble rfl)
    apply Wk.ld (i := 3) 1 false ty4 rfl rfl (by conv => lhs; whnf) (lt_of_ble rfl)
    apply Wk.mv (by conv => lhs; whnf) (lt_of_ble rfl)
    apply Wk.goff 24 (ok_faddr fd38_1) rfl rfl (by simp)
    apply Wk.goff 24 (ok_load 3 ty36) rfl rfl (by simp)
    apply Wk.goff 24 (ok_len un36) rfl rfl (by simp)
    apply Wk.goff 24 (ok_bin _ _ _ _ _) rfl rfl (by simp)
    apply Wk.pckT rfl (by conv => lhs; whnf) (lt_of_ble rfl)
    apply Wk.mv (by conv => lhs; whnf) (lt_of_ble rfl)
    apply Wk.goff 30 (ok_move _) rfl rfl (by simp)
    apply Wk.goff 30 (ok_ldv hX hV tyErr h0) rfl rfl (by simp)
    apply Wk.goff 30 (ok_dav hisd rfl hX hV Tryd.func44 rfl rfl) rfl rfl (by simp)
    apply Wk.pckT rfl (by conv => lhs; whnf) (lt_of_ble rfl)
    refine Wk.nil ?_
    refine AW.cond rfl (fun _ => ?_) (fun hc => by cases hc)
    refine AW.seq ?_
    apply AW.list
    apply Wk.fad 1 0 false fd38_1 rfl (lt_of_ble rfl)
    apply Wk.ld (i := 3) 1 false ty36 rfl rfl (by conv => lhs; whnf) (lt_of_ble rfl)
    apply Wk.dat ic Tryd.func45 rfl rfl rfl rfl rfl (lt_of_ble rfl)
    apply Wk.fad 1 0 false fd38_1 rfl (lt_of_ble rfl)
    apply Wk.sto (i := 3) 1 false ty36 rfl rfl rfl rfl (Nat.le_of_ble_eq_true rfl) (lt_of_ble rfl)
    refine Wk.nil ?_
    refine AW.seq ?_
    apply AW.list
    apply Wk.ld (i := 3) 5 true ty38 rfl rfl (by conv => lhs; whnf) (lt_of_ble rfl)
    apply Wk.bld [.int .i64 0, .int .i64 0, .int .i64 0, .bool false, .bool false, .int .i64 0, .int .i64 0, .int .i64 0, .slice none 0 0] [(0, 1), (1, 1), (2, 1), (3, 1), (4, 1), (5, 1), (6, 1), (7, 1), (8, 1)] bl24 rfl (by conv => lhs; whnf) (lt_of_ble rfl)
    apply Wk.sto (i := 4) 5 true ty38 rfl rfl rfl rfl (Nat.le_of_ble_eq_true rfl) (lt_of_ble rfl)
    apply Wk.sto (i := 5) 9 true ty24 rfl rfl rfl rfl (Nat.le_of_ble_eq_true rfl) (lt_of_ble rfl)
    apply Wk.asg (by conv => lhs; whnf) (lt_of_ble rfl)
    refine Wk.nil (AW.ret ?_)
    repeat (first | refine thenA_ret ?_ | refine inBlockA_ret ?_)
    exact RetQ.ret [] (.cons ⟨4, 0, _, _, _, rfl, rfl, ty38, rfl⟩ (.cons ⟨5, 0, _, _, _, rfl, rfl, ty24, rfl⟩ (.cons rfl .nil))) ⟨rfl, rfl⟩ none_kept

set_option maxHeartbeats 4000000 in
set_option maxRecDepth 100000 in
theorem icsendOn (m0 w0 p0 u0 y0 : Int) (v : Int) (qu : List Dat) (g s : Int) (e : Dat) (qs : List Dat) (hqu : qu = e :: qs) (hok : crdOkB ⟨m0, w0, p0, u0, y0⟩ ⟨v, qu, g, s, false⟩ = true) (hx : CX.few ⟨v, qu, g, s, false⟩) (hv1 : 1 ≤ v) (h0 : (0, errV a) ∈ V) :
    DataV Tryd.prog V 19 [cfgA m0 w0 p0 u0 y0, cxA ⟨v, qu, g, s, false⟩] (.tup [cxA ⟨v - 1, qs, g, s + 1, false⟩, frmZ 3 0 0 false false 0 e.1 e.2.1 (bytesD e.2.2), .d (.v (.bool true))]) := by
  have f := crdOk_facts hok
  simp only at f
  obtain ⟨_, hv, _, hg, hs, hgs, _⟩ := f
  have hsp := ispendOn (V := V) v hv1 (by omega)
  have hisd := (isNil_ok a).v (V := V)
  have ic := icopy_ok qs (by have := hx.1; rw [hqu] at this; simp at this; omega) (fun d hd => hx.2 d (by simp only [hqu]; exact List.mem_cons_of_mem _ hd))
  have ip := icpart_ok e (hx.2 e (by simp only [hqu]; exact List.mem_cons_self))
  have e3 : (((qu.map datD).length : Nat) : Int) = (qu.length : Int) := by rw [List.length_map]
  have hq : ¬ qu = [] := by rw [hqu]; simp
  have h0lt : 0 < (qu.map datD).length := by rw [hqu]; simp
  have hget : (qu.map datD)[0]? = some (datD e) := by rw [hqu]; rfl
  have hdrop : ((qu.map datD).drop 1).take ((qu.map datD).length - 1) = qs.map datD := by rw [hqu]; simp [List.take_of_length_le]
  refine DataV.intro (n := 65) (rv := [.cell 4 38, .cell 5 24, .tmp 6]) Tryd.func19 rfl rfl rfl (by simp) fun C hV hN hX => ?_
  refine AW.seq ?_
  apply AW.list
  apply Wk.bx 2 rfl rfl (lt_of_ble rfl)
  apply Wk.bx 3 rfl rfl (lt_of_ble rfl)
  apply Wk.alc 4 [.int .i64 0, .slice none 0 0, .int .i64 0, .int .i64 0, .bool false] ze38 rfl rfl (lt_of_ble rfl)
  apply Wk.alc 5 [.int .i64 0, .int .i64 0, .int .i64 0, .bool false, .bool false, .int .i64 0, .int .i64 0, .int .i64 0, .slice none 0 0] ze24 rfl rfl (lt_of_ble rfl)
  apply Wk.asg (by conv => lhs; whnf) (lt_of_ble rfl)
  refine Wk.nil ?_
  refine AW.seq (AW.seq ?_)
  apply AW.list
  apply Wk.ld (i := 2) 5 true ty35 rfl rfl (by conv => lhs; whnf) (lt_of_ble rfl)
  apply Wk.ld (i := 3) 5 true ty38 rfl rfl (by conv => lhs; whnf) (lt_of_ble rfl)
  apply Wk.dat (icxb hok) Tryd.func18 rfl rfl rfl rfl rfl (lt_of_ble rfl)
  apply Wk.un rfl (fun w => by simp [go_sem] <;> rfl) (lt_of_ble rfl)
  refine Wk.nil ?_
  refine AW.cond rfl (fun hc => by cases hc) (fun _ => AW.skip (thenA_normal ?_))
  refine AW.seq ?_
  apply AW.list
  apply Wk.fad 0 0 false fd38_0 rfl (lt_of_ble rfl)
  apply Wk.ld (i := 3) 1 false ty3 rfl rfl (by conv => lhs; whnf) (lt_of_ble rfl)
  apply Wk.dav hsp hX hV Tryd.func43 rfl rfl rfl rfl rfl (lt_of_ble rfl)
  apply Wk.mv (by conv => lhs; whnf) (lt_of_ble rfl)
  apply Wk.ext rfl rfl (lt_of_ble rfl)
  apply Wk.ext rfl rfl (lt_of_ble rfl)
  apply Wk.asg (by conv => lhs; whnf) (lt_of_ble rfl)
  apply Wk.asg (by conv => lhs; whnf) (lt_of_ble rfl)
  refine Wk.nil ?_
  refine AW.seq (AW.seq ?_)
  apply AW.list
  apply Wk.fad 4 0 false fd38_4 rfl (lt_of_ble rfl)
  apply Wk.ld (i := 3) 1 false ty4 rfl rfl (by conv => lhs; whnf) (lt_of_ble rfl)
  apply Wk.mv (by conv => lhs; whnf) (lt_of_ble rfl)
  apply Wk.gon 24 rfl rfl
  apply Wk.fad 1 0 false fd38_1 rfl (lt_of_ble rfl)
  apply Wk.gon 24 rfl rfl
  apply Wk.ld (i := 3) 1 false ty36 rfl rfl (by conv => lhs; whnf) (lt_of_ble rfl)
  apply Wk.gon 24 rfl rfl
  apply Wk.len un36 rfl (lt_of_ble rfl)
  apply Wk.gon 24 rfl rfl
  apply Wk.bin rfl rfl (r := .bool false) (fun w => by rw [e3]; simp [go_sem]; exact hq) (lt_of_ble rfl)
  apply Wk.pckF rfl (by conv => lhs; whnf) (lt_of_ble rfl)
  apply Wk.mv (by conv => lhs; whnf) (lt_of_ble rfl)
  apply Wk.gon 30 rfl rfl
  apply Wk.mv (by conv => lhs; whnf) (lt_of_ble rfl)
  apply Wk.gon 30 rfl rfl
  apply Wk.ldv hX hV tyErr h0 (lt_of_ble rfl)
  apply Wk.gon 30 rfl rfl
  apply Wk.dav hisd hX hV Tryd.func44 rfl rfl rfl rfl rfl (lt_of_ble rfl)
  apply Wk.pckF rfl (by conv => lhs; whnf) (lt_of_ble rfl)
  refine Wk.nil ?_
  refine AW.cond rfl (fun hc => by cases hc) (fun _ => AW.skip (thenA_normal ?_))
  refine AW.seq ?_
  apply AW.list
  apply Wk.fad 1 0 false fd38_1 rfl (lt_of_ble rfl)
  apply Wk.ld (i := 3) 1 false ty36 rfl rfl (by conv => lhs; whnf) (lt_of_ble rfl)
  apply Wk.iad 3 true un36 ty77 rfl rfl h0lt (datD_len _) (lt_of_ble rfl)
  apply Wk.ldr 3 true ty77 rfl hget (by conv => lhs; whnf) (lt_of_ble rfl)
  apply Wk.dat ip Tryd.func46 rfl rfl rfl rfl rfl (lt_of_ble rfl)
  apply Wk.alc 9 [.int .i64 0, .int .i64 0, .slice none 0 0] ze77 rfl rfl (lt_of_ble rfl)
  apply Wk.sto (i := 9) 3 true ty77 rfl rfl rfl rfl (Nat.le_of_ble_eq_true rfl) (lt_of_ble rfl)
  refine Wk.nil ?_
  refine AW.seq ?_
  apply AW.list
  apply Wk.fad 1 0 false fd38_1 rfl (lt_of_ble rfl)
  apply Wk.ld (i := 3) 1 false ty36 rfl rfl (by conv => lhs; whnf) (lt_of_ble rfl)
  apply Wk.slc (m := (qu.map datD).length) (l := 1) 3 true un36 ty77 rfl rfl (by exact if_pos ⟨by decide, by rw [hqu]; simp; omega⟩) (datD_len _) (lt_of_ble rfl)
  rw [hdrop]
  apply Wk.dat ic Tryd.func45 rfl rfl rfl rfl rfl (lt_of_ble rfl)
  apply Wk.fad 1 0 false fd38_1 rfl (lt_of_ble rfl)
  apply Wk.sto (i := 3) 1 false ty36 rfl rfl rfl rfl (Nat.le_of_ble_eq_true rfl) (lt_of_ble rfl)
  refine Wk.nil ?_
  refine AW.seq ?_
  apply AW.list
  apply Wk.mv (by conv => lhs; whnf) (lt_of_ble rfl)
  apply Wk.fad 0 0 false fd38_0 rfl (lt_of_ble rfl)
  apply Wk.sto (i := 3) 1 false ty3 rfl rfl rfl rfl (Nat.le_of_ble_eq_true rfl) (lt_of_ble rfl)
  refine Wk.nil ?_
  refine AW.seq ?_
  apply AW.list
  apply Wk.fad 3 0 false fd38_3 rfl (lt_of_ble rfl)
  apply Wk.ld (i := 3) 1 false ty3 rfl rfl (by conv => lhs; whnf) (lt_of_ble rfl)
  apply Wk.addi rfl rfl (by dsimp only; omega) (lt_of_ble rfl)
  apply Wk.fad 3 0 false fd38_3 rfl (lt_of_ble rfl)
  apply Wk.sto (i := 3) 1 false ty3 rfl rfl rfl rfl (Nat.le_of_ble_eq_true rfl) (lt_of_ble rfl)
  refine Wk.nil ?_
  refine AW.seq ?_
  apply AW.draw (hm := hmix) (cs := _)
  · apply Wk.ld (i := 3) 5 true ty38 rfl rfl (by conv => lhs; whnf) (lt_of_ble rfl)
    apply Wk.fad 0 0 false fd77_0 rfl (lt_of_ble rfl)
    apply Wk.ld (i := 9) 1 false ty3 rfl rfl (by conv => lhs; whnf) (lt_of_ble rfl)
    apply Wk.fad 1 0 false fd77_1 rfl (lt_of_ble rfl)
    apply Wk.ld (i := 9) 1 false ty3 rfl rfl (by conv => lhs; whnf) (lt_of_ble rfl)
    apply Wk.fad 2 0 false fd77_2 rfl (lt_of_ble rfl)
    apply Wk.ld (i := 9) 1 false ty22 rfl rfl (by conv => lhs; whnf) (lt_of_ble rfl)
    apply Wk.bld [.int .i64 0, .int .i64 0, .int .i64 0, .bool false, .bool false, .int .i64 0, .int .i64 0, .int .i64 0, .slice none 0 0] [(0, 1), (1, 1), (2, 1), (3, 1), (4, 1), (5, 1), (6, 1), (7, 1), (8, 1)] bl24 rfl (by conv => lhs; whnf) (lt_of_ble rfl)
    apply Wk.sto (i := 4) 5 true ty38 rfl rfl rfl rfl (Nat.le_of_ble_eq_true rfl) (lt_of_ble rfl)
    apply Wk.sto (i := 5) 9 true ty24 rfl rfl rfl rfl (Nat.le_of_ble_eq_true rfl) (lt_of_ble rfl)
    apply Wk.asg (by conv => lhs; whnf) (lt_of_ble rfl)
    refine Wk.nil (AW.ret ?_)
    exact RetQ.ret [] (.cons ⟨4, 0, _, _, _, rfl, rfl, ty38, rfl⟩ (.cons ⟨5, 0, _, _, _, rfl, rfl, ty24, rfl⟩ (.cons rfl .nil))) ⟨rfl, rfl⟩ none_kept
  · rfl
  · rfl
end
end Go.Proofs.YthnlpdjjnfkmeaaDoor

/- A piece, drawn, whose bytes are a list of the call's own; over what values read as. -/
namespace Go.Proofs.YthnlpdjjnfkmeaaDoor
open Go
def ownB (q : Nat) (bs : List (Fin 256)) : Bx := .own q 5 1 (cellsB bs)
theorem ownB_in {q : Nat} {bs : List (Fin 256)} {K : List Nat} : (ownB q bs).within K = true := within_cellsB bs
/-- Bytes, drawn, that are a list of the call's own. -/
def bytesOPost (rest : List A) (r : A) (ex : List (Nat × Bx)) : Prop := ∃ q bs, r = .own 7 q ∧ ex = [(7, ownB q bs)] ∧ ∀ n : Nat, rest = [.d (.v (.int .i64 (n : Int)))] → bs.length ≤ n
set_option maxRecDepth 100000 in
theorem bytesO_ok : DrawX Tryd.prog 57 (fun rest => ∃ n : Nat, rest = [.d (.v (.int .i64 (n : Int)))] ∧ n ≤ 1000) bytesOPost 3001 [7] := by
 refine ⟨?_, ?_, ?_⟩
 · rintro zs p rest ⟨n, rfl, hn⟩ hp
   refine Spec.intro (n := 30) (rv := [.tmp 4]) Tryd.func57 rfl rfl rfl (by simp) fun C hN hX => ?_
   refine AW.seq ?_
   apply AW.list
   apply Wk.asg (by conv => lhs; whnf) (lt_of_ble rfl)
   refine Wk.nil ?_
   refine AW.seq ?_
   apply AW.list
   apply Wk.lst 7 1 false [.int .u8 0] un22 ty5 ze5 rfl rfl (by rfl) (by rfl) (by decide) (by decide) rfl rfl (all_len rfl) (lt_of_ble rfl)
   apply Wk.asg (by conv => lhs; whnf) (lt_of_ble rfl)
   refine Wk.nil ?_
   refine AW.seq (AW.seq ?_)
   apply AW.list
   apply Wk.mv (by conv => lhs; whnf) (lt_of_ble rfl)
   apply Wk.mv (by conv => lhs; whnf) (lt_of_ble rfl)
   apply Wk.addi rfl rfl (by omega) (lt_of_ble rfl)
   apply Wk.drw 0 pick_ok Tryd.func22 rfl rfl rfl rfl ⟨(n : Int) + 1, rfl, by omega⟩ (by omega) rfl (lt_of_ble rfl)
   rintro r zs1 p1 ⟨k, rfl, hk⟩ hp1
   replace hk := hk _ rfl
   apply Wk.asg (by conv => lhs; whnf) (lt_of_ble rfl)
   refine Wk.nil ?_
   refine AW.block ?_
   let inv : Nat × Nat × List (Fin 256) × Nat × List (Fin 256) → St := fun x => St.of 30 [(0, .ptr 0 0), (5, .own 7 x.2.1), (6, .d (.v (.int .i64 (x.1 : Int))))] [(0, rdr x.2.2.1 x.2.2.2.1), (7, .own x.2.1 5 1 (cellsB x.2.2.2.2))]
   refine AW.loop inv (fun x => x.1 ≤ k ∧ x.2.2.2.1 + 3 * x.1 ≤ p + 1 + 3 * k ∧ x.2.2.2.2.length + x.1 ≤ k) (fun x => x.1) (k, 0, zs1, p1, []) ⟨Nat.le_refl _, by simp only; omega, by simp⟩ ?_ ?_
   · exact fun a w => Rel.keep ⟨rfl, .cons rfl rfl (.cons rfl rfl (.cons rfl rfl .nil)), .cons rfl rfl (.cons rfl rfl .nil), ⟨fun i b hb => by have := hN.1 i b hb; simp [keys] at this ⊢; exact .inl this, fun i q v hv => by have := hN.2 i q v hv; simp [keys] at this ⊢; exact .inl this⟩⟩
   · rintro ⟨m, q, zs2, p2, bs⟩ ⟨h1, h2, h3⟩
     simp only at h1 h2 h3
     show AW Tryd.prog C _ _ (St.of 30 [(0, .ptr 0 0), (5, .own 7 q), (6, .d (.v (.int .i64 (m : Int))))] [(0, rdr zs2 p2), (7, .own q 5 1 (cellsB bs))])
     refine AW.seq (AW.seq ?_)
     apply AW.list
     apply Wk.mv (by conv => lhs; whnf) (lt_of_ble rfl)
     apply Wk.bin rfl rfl (fun w => by simp [go_sem] <;> rfl) (lt_of_ble rfl)
     refine Wk.nil ?_
     refine AW.cond rfl (fun hc => ?_) (fun hc => ?_)
     · have hm : 0 < m := by simpa using hc
       refine AW.skip (thenA_normal ?_)
       refine AW.seq (AW.block ?_)
       apply AW.list
       apply Wk.mv (by conv => lhs; whnf) (lt_of_ble rfl)
       apply Wk.mv (by conv => lhs; whnf) (lt_of_ble rfl)
       apply Wk.drw 0 pick_ok Tryd.func22 rfl rfl rfl rfl ⟨_, rfl, by omega⟩ (by omega) rfl (lt_of_ble rfl)
       rintro r1 zs3 p3 ⟨k1, rfl, hk1⟩ hp3
       apply Wk.mv (by conv => lhs; whnf) (lt_of_ble rfl)
       apply Wk.drw 0 pick_ok Tryd.func22 rfl rfl rfl rfl ⟨_, rfl, by omega⟩ (by omega) rfl (lt_of_ble rfl)
       rintro r2 zs4 p4 ⟨k2, rfl, hk2⟩ hp4
       apply Wk.lst 21 1 false [.int .i64 0] un80 ty3 ze3 rfl rfl (by rfl) (by rfl) (by decide) (by decide) rfl rfl (all_len rfl) (lt_of_ble rfl)
       apply Wk.mv (by conv => lhs; whnf) (lt_of_ble rfl)
       apply Wk.drw 0 pick_ok Tryd.func22 rfl rfl rfl rfl ⟨_, rfl, by omega⟩ (by omega) rfl (lt_of_ble rfl)
       rintro r3 zs5 p5 ⟨k3, rfl, hk3⟩ hp5
       have hk3 : k3 < 3 := by have := hk3 3 rfl; omega
       obtain ⟨v, hv⟩ : ∃ v : Int, partA (List.flatten [[A.d (.v (.int .i64 (k1 : Int)))], [.d (.v (.int .i64 (k2 : Int)))], [.d (.v (.int .i64 255))]]) (k3 * 1) 1 false = some (.d (.v (.int .i64 v))) := by
         rcases (show k3 = 0 ∨ k3 = 1 ∨ k3 = 2 by omega) with rfl | rfl | rfl <;> exact ⟨_, rfl⟩
       apply Wk.iado 21 1 false un80 ty3 rfl rfl rfl hk3 (lt_of_ble rfl)
       apply Wk.ldo (i := 21) 1 false ty3 rfl rfl hv (lt_of_ble rfl)
       apply Wk.convb rfl ui3 ui5 (lt_of_ble rfl)
       intro z
       apply Wk.lst 27 1 false [.int .u8 0] un22 ty5 ze5 rfl rfl (by rfl) (by rfl) (by decide) (by decide) rfl rfl (all_len rfl) (lt_of_ble rfl)
       apply Wk.appOO 7 27 1 un22 ap5 rfl rfl rfl rfl (by decide) (all_len rfl) (one_cellsB bs) (by simp [cellsB]; omega) (lt_of_ble rfl)
       apply Wk.asg (by conv => lhs; whnf) (lt_of_ble rfl)
       refine Wk.nil (inBlockA_normal (thenA_normal ?_))
       apply AW.list
       apply Wk.mv (by conv => lhs; whnf) (lt_of_ble rfl)
       apply Wk.subn (b := 1) rfl rfl (by omega) (by omega) (lt_of_ble rfl)
       apply Wk.asg (by conv => lhs; whnf) (lt_of_ble rfl)
       refine Wk.nil ?_
       refine ⟨(m - 1, q + 1, zs5, p5, bs ++ [z]), ⟨by simp only; omega, by simp only; omega, by simp; omega⟩, by simp only; omega, ?_⟩
       refine fun a w => Rel.keep ⟨rfl, .cons rfl rfl (.cons rfl rfl (.cons rfl rfl .nil)), .cons rfl rfl (.cons ?_ ?_ .nil), ⟨fun i b hb => by have := hN.1 i b hb; simp [keys] at this ⊢; exact .inl this, fun i q v hv => by have := hN.2 i q v hv; simp [keys] at this ⊢; exact .inl this⟩⟩
       · simp only [cellsB, List.map_append]
         rfl
       · exact within_cellsB _
     · have hm : m = 0 := by simpa using hc
       refine AW.exit ?_
       repeat (first | refine inBlockA_same ?_ | refine thenA_exit ?_)
       refine thenA_normal ?_
       refine AW.seq ?_
       apply AW.list
       apply Wk.mv (by conv => lhs; whnf) (lt_of_ble rfl)
       apply Wk.asg (by conv => lhs; whnf) (lt_of_ble rfl)
       refine Wk.nil (AW.ret ?_)
       refine RetQ.ret [(0, rdr zs2 p2), (7, ownB q bs)] (.cons rfl .nil) ⟨zs2, p2, _, rfl, by omega, q, bs, rfl, rfl, fun n' e => ?_⟩ (kept2 rfl rfl)
       simp only [List.cons.injEq, A.d.injEq, D.v.injEq, Value.int.injEq, true_and, and_true] at e
       omega
 · rintro rest ⟨n, rfl, _⟩; exact ⟨_, _, 0, [], rfl, rfl, fun n e => by simp⟩
 · rintro rest r ex ⟨q, bs, rfl, rfl, _⟩; exact ⟨rfl, by simp [ownB_in]⟩

/-- A piece: its bytes the call's own, by the name 7. -/
def partOA (sg ln : Int) (q : Nat) : List A := [.d (.v (.int .i64 sg)), .d (.v (.int .i64 ln)), .own 7 q]
def partOPost (_ : List A) (r : A) (ex : List (Nat × Bx)) : Prop := ∃ sg ln q bs, r = .agg (partOA sg ln q) ∧ ex = [(7, ownB q bs)] ∧ 0 ≤ sg ∧ sg ≤ 3 ∧ 0 ≤ ln ∧ ln ≤ 40 ∧ bs.length ≤ 8
set_option maxRecDepth 100000 in
theorem partO_ok : DrawX Tryd.prog 47 (fun rest => rest = []) partOPost 3003 [7] := by
 refine ⟨?_, ?_, ?_⟩
 · rintro zs p rest rfl hp
   refine Spec.intro (n := 43) (rv := [.cell 2 77]) Tryd.func47 rfl rfl rfl (by simp) fun C hN hX => ?_
   refine AW.seq ?_
   apply AW.list
   apply Wk.alc 2 [.int .i64 0, .int .i64 0, .slice none 0 0] ze77 rfl rfl (lt_of_ble rfl)
   refine Wk.nil ?_
   refine AW.seq ?_
   apply AW.list
   apply Wk.mv (by conv => lhs; whnf) (lt_of_ble rfl)
   apply Wk.drw 0 pick_ok Tryd.func22 rfl rfl rfl rfl ⟨_, rfl, by omega⟩ (by omega) rfl (lt_of_ble rfl)
   rintro r1 zs1 p1 ⟨k1, rfl, hk1⟩ hp1
   apply Wk.mv (by conv => lhs; whnf) (lt_of_ble rfl)
   apply Wk.drx [7] bytesO_ok Tryd.func57 rfl rfl rfl rfl ⟨8, rfl, by decide⟩ (by omega) rfl (by simp; rfl) (lt_of_ble rfl)
   rintro r zs2 p2 ex ⟨q, bs, rfl, rfl, hbl⟩ hp2
   replace hbl := hbl 8 rfl
   apply Wk.bld [.int .i64 0, .int .i64 0, .slice none 0 0] [(0, 1), (1, 1), (2, 1)] bl77 rfl (by conv => lhs; whnf) (lt_of_ble rfl)
   apply Wk.alc 3 [.int .i64 0, .int .i64 0, .slice none 0 0] ze77 rfl rfl (lt_of_ble rfl)
   apply Wk.sto (i := 3) 3 true ty77 rfl rfl rfl rfl (Nat.le_of_ble_eq_true rfl) (lt_of_ble rfl)
   refine Wk.nil ?_
   have hk1' : k1 < 4 := by have := hk1 4 rfl; omega
   let inv : List (Fin 256) × Nat × Int × Nat × List (Fin 256) → St := fun x => St.of 43 [(0, .ptr 0 0), (2, .ptr 2 0), (3, .ptr 3 0)] [(0, rdr x.1 x.2.1), (2, .var [.d (.v (.int .i64 0)), .d (.v (.int .i64 0)), .d (.v (.slice none 0 0))]), (3, .var (partOA (k1 : Int) x.2.2.1 x.2.2.2.1)), (7, ownB x.2.2.2.1 x.2.2.2.2)]
   let ok : Nat → List (Fin 256) × Nat × Int × Nat × List (Fin 256) → Prop := fun m x => x.2.1 ≤ p + m ∧ 0 ≤ x.2.2.1 ∧ x.2.2.1 ≤ 40 ∧ x.2.2.2.2.length ≤ 8
   have fin : ∀ (zs : List (Fin 256)) (p : Nat) (ln : Int) (q : Nat) (bs : List (Fin 256)) (σ : St), σ.n = 43 → σ.t 0 = .ptr 0 0 → σ.t 2 = .ptr 2 0 → σ.t 3 = .ptr 3 0 → σ.b 0 = rdr zs p → σ.b 2 = .var [.d (.v (.int .i64 0)), .d (.v (.int .i64 0)), .d (.v (.slice none 0 0))] → σ.b 3 = .var (partOA (k1 : Int) ln q) → σ.b 7 = ownB q bs →
       ∀ a w, Rel C σ a w → Rel C (inv (zs, p, ln, q, bs)) a w := fun zs p ln q bs σ h0 h1 h2 h3 h4 h5 h6 h7 a w => Rel.keep ⟨h0.symm, .cons h1 rfl (.cons h2 rfl (.cons h3 rfl .nil)), .cons h4 rfl (.cons h5 rfl (.cons h6 rfl (.cons h7 ownB_in .nil))), hN.mono (by simp [keys])⟩
   refine AW.via inv (ok 3002) ?_ ?_
   · refine AW.seq ?_
     by_cases h1 : k1 = 0
     · subst h1
       apply AW.list
       apply Wk.fad 0 0 false fd77_0 rfl (lt_of_ble rfl)
       apply Wk.ld (i := 3) 1 false ty3 rfl rfl (by conv => lhs; whnf) (lt_of_ble rfl)
       apply Wk.bin rfl rfl (r := .bool false) (fun w => by simp [go_sem]) (lt_of_ble rfl)
       apply Wk.mv (by conv => lhs; whnf) (lt_of_ble rfl)
       apply Wk.goff 12 (ok_faddr fd77_2) rfl rfl (by decide)
       apply Wk.goff 12 (ok_load 3 ty22) rfl rfl (by decide)
       apply Wk.goff 12 (ok_leno 7 un22) rfl rfl (by decide)
       apply Wk.goff 12 (ok_bin _ _ _ _ _) rfl rfl (by decide)
       apply Wk.pckF rfl (by conv => lhs; whnf) (lt_of_ble rfl)
       refine Wk.nil ?_
       refine AW.cond rfl (fun hc => by cases hc) (fun _ => AW.skip (thenA_normal ?_))
       exact ⟨(zs2, p2, 0, q, bs), ⟨by simp only; omega, by simp only; omega, by simp only; omega, hbl⟩, fin _ _ _ _ _ _ rfl rfl rfl rfl rfl rfl rfl rfl⟩
     · apply AW.list
       apply Wk.fad 0 0 false fd77_0 rfl (lt_of_ble rfl)
       apply Wk.ld (i := 3) 1 false ty3 rfl rfl (by conv => lhs; whnf) (lt_of_ble rfl)
       apply Wk.bin rfl rfl (r := .bool true) (fun w => by simp [go_sem, h1]) (lt_of_ble rfl)
       apply Wk.mv (by conv => lhs; whnf) (lt_of_ble rfl)
       apply Wk.gon 12 rfl rfl
       apply Wk.fad 2 0 false fd77_2 rfl (lt_of_ble rfl)
       apply Wk.gon 12 rfl rfl
       apply Wk.ld (i := 3) 1 false ty22 rfl rfl (by conv => lhs; whnf) (lt_of_ble rfl)
       apply Wk.gon 12 rfl rfl
       apply Wk.leno (i := 7) un22 rfl rfl (lt_of_ble rfl)
       apply Wk.gon 12 rfl rfl
       apply Wk.bin rfl rfl (fun w => by simp [go_sem] <;> rfl) (lt_of_ble rfl)
       apply Wk.pckT rfl (by conv => lhs; whnf) (lt_of_ble rfl)
       refine Wk.nil ?_
       refine AW.cond rfl (fun hc => ?_) (fun hc => AW.skip (thenA_normal ?_))
       · apply AW.list
         apply Wk.lst 18 1 false [.int .u8 0] un22 ty5 ze5 rfl rfl (by rfl) (by rfl) (by decide) (by decide) rfl rfl (all_len rfl) (lt_of_ble rfl)
         apply Wk.fad 2 0 false fd77_2 rfl (lt_of_ble rfl)
         apply Wk.sto (i := 3) 1 false ty22 rfl rfl rfl rfl (Nat.le_of_ble_eq_true rfl) (lt_of_ble rfl)
         refine Wk.nil (thenA_normal ?_)
         refine ⟨(zs2, p2, 0, q + 1, [7]), ⟨by simp only; omega, by simp only; omega, by simp only; omega, by simp⟩, fun a w hR => ?_⟩
         have h := Rel.renc (j := 3) (c := 2) (i := 18) (i' := 7) (k' := q + 1) rfl rfl (by rfl) (.inr ⟨_, _, _, _, rfl, rfl⟩) (by decide) hR
         exact fin _ _ _ _ _ _ rfl rfl rfl rfl rfl rfl rfl rfl a w h
       · exact ⟨(zs2, p2, 0, q, bs), ⟨by simp only; omega, by simp only; omega, by simp only; omega, hbl⟩, fin _ _ _ _ _ _ rfl rfl rfl rfl rfl rfl rfl rfl⟩
   · rintro ⟨zs3, p3, l3, q3, bs3⟩ ⟨hp3, hl1, hl2, hb3⟩
     simp only at hp3 hl1 hl2 hb3
     show AW Tryd.prog C _ _ (St.of 43 [(0, .ptr 0 0), (2, .ptr 2 0), (3, .ptr 3 0)] [(0, rdr zs3 p3), (2, .var [.d (.v (.int .i64 0)), .d (.v (.int .i64 0)), .d (.v (.slice none 0 0))]), (3, .var (partOA (k1 : Int) l3 q3)), (7, ownB q3 bs3)])
     refine AW.via inv (ok 3002) ?_ ?_
     · refine AW.seq ?_
       apply AW.list
       apply Wk.fad 0 0 false fd77_0 rfl (lt_of_ble rfl)
       apply Wk.ld (i := 3) 1 false ty3 rfl rfl (by conv => lhs; whnf) (lt_of_ble rfl)
       apply Wk.bin rfl rfl (fun w => by simp [go_sem] <;> rfl) (lt_of_ble rfl)
       refine Wk.nil ?_
       refine AW.cond rfl (fun hc => ?_) (fun hc => AW.skip (thenA_normal ?_))
       · apply AW.list
         apply Wk.fad 2 0 false fd77_2 rfl (lt_of_ble rfl)
         apply Wk.ld (i := 3) 1 false ty22 rfl rfl (by conv => lhs; whnf) (lt_of_ble rfl)
         apply Wk.leno (i := 7) un22 rfl rfl (lt_of_ble rfl)
         apply Wk.fad 1 0 false fd77_1 rfl (lt_of_ble rfl)
         apply Wk.sto (i := 3) 1 false ty3 rfl rfl rfl rfl (Nat.le_of_ble_eq_true rfl) (lt_of_ble rfl)
         refine Wk.nil (thenA_normal ?_)
         have e5 : (cellsB bs3).length = bs3.length := by simp [cellsB]
         refine ⟨(zs3, p3, ((cellsB bs3).length : Int), q3, bs3), ⟨hp3, by simp only; omega, by simp only; omega, hb3⟩, fin _ _ _ _ _ _ rfl rfl rfl rfl rfl rfl rfl rfl⟩
       · exact ⟨(zs3, p3, l3, q3, bs3), ⟨hp3, hl1, hl2, hb3⟩, fin _ _ _ _ _ _ rfl rfl rfl rfl rfl rfl rfl rfl⟩
     · rintro ⟨zs4, p4, l4, q4, bs4⟩ ⟨hp4, hl3, hl4, hb4⟩
       simp only at hp4 hl3 hl4 hb4
       show AW Tryd.prog C _ _ (St.of 43 [(0, .ptr 0 0), (2, .ptr 2 0), (3, .ptr 3 0)] [(0, rdr zs4 p4), (2, .var [.d (.v (.int .i64 0)), .d (.v (.int .i64 0)), .d (.v (.slice none 0 0))]), (3, .var (partOA (k1 : Int) l4 q4)), (7, ownB q4 bs4)])
       have e5 : (cellsB bs4).length = bs4.length := by simp [cellsB]
       refine AW.via inv (ok 3003) ?_ ?_
       · refine AW.seq ?_
         apply AW.list
         apply Wk.fad 0 0 false fd77_0 rfl (lt_of_ble rfl)
         apply Wk.ld (i := 3) 1 false ty3 rfl rfl (by conv => lhs; whnf) (lt_of_ble rfl)
         apply Wk.bin rfl rfl (fun w => by simp [go_sem] <;> rfl) (lt_of_ble rfl)
         refine Wk.nil ?_
         refine AW.cond rfl (fun hc => ?_) (fun hc => AW.skip (thenA_normal ?_))
         · apply AW.draw (hm := hmix) (cs := _)
           · apply Wk.fad 2 0 false fd77_2 rfl (lt_of_ble rfl)
             apply Wk.ld (i := 3) 1 false ty22 rfl rfl (by conv => lhs; whnf) (lt_of_ble rfl)
             apply Wk.leno (i := 7) un22 rfl rfl (lt_of_ble rfl)
             apply Wk.addi rfl rfl (by omega) (lt_of_ble rfl)
             apply Wk.mv (by conv => lhs; whnf) (lt_of_ble rfl)
             apply Wk.fad 2 0 false fd77_2 rfl (lt_of_ble rfl)
             apply Wk.ld (i := 3) 1 false ty22 rfl rfl (by conv => lhs; whnf) (lt_of_ble rfl)
             apply Wk.leno (i := 7) un22 rfl rfl (lt_of_ble rfl)
             apply Wk.subi rfl rfl (by omega) (lt_of_ble rfl)
             apply Wk.drw 0 pick_ok Tryd.func22 rfl rfl rfl rfl ⟨_, rfl, by omega⟩ (by omega) rfl (lt_of_ble rfl)
             rintro r9 zs9 p9 ⟨k9, rfl, hk9⟩ hp9
             replace hk9 := hk9 _ rfl
             apply Wk.addi rfl rfl (by omega) (lt_of_ble rfl)
             apply Wk.fad 1 0 false fd77_1 rfl (lt_of_ble rfl)
             apply Wk.sto (i := 3) 1 false ty3 rfl rfl rfl rfl (Nat.le_of_ble_eq_true rfl) (lt_of_ble rfl)
             refine Wk.nil (thenA_normal ?_)
             refine ⟨(zs9, p9, ((cellsB bs4).length : Int) + 1 + (k9 : Int), q4, bs4), ⟨by simp only; omega, by simp only; omega, by simp only; omega, hb4⟩, fin _ _ _ _ _ _ rfl rfl rfl rfl rfl rfl rfl rfl⟩
           · rfl
           · rfl
         · exact ⟨(zs4, p4, l4, q4, bs4), ⟨by simp only; omega, hl3, hl4, hb4⟩, fin _ _ _ _ _ _ rfl rfl rfl rfl rfl rfl rfl rfl⟩
       · rintro ⟨zs5, p5, l5, q5, bs5⟩ ⟨hp5, hl5, hl6, hb5⟩
         simp only at hp5 hl5 hl6 hb5
         show AW Tryd.prog C _ _ (St.of 43 [(0, .ptr 0 0), (2, .ptr 2 0), (3, .ptr 3 0)] [(0, rdr zs5 p5), (2, .var [.d (.v (.int .i64 0)), .d (.v (.int .i64 0)), .d (.v (.slice none 0 0))]), (3, .var (partOA (k1 : Int) l5 q5)), (7, ownB q5 bs5)])
         refine AW.seq ?_
         apply AW.list
         apply Wk.ld (i := 3) 3 true ty77 rfl rfl (by conv => lhs; whnf) (lt_of_ble rfl)
         apply Wk.sto (i := 2) 3 true ty77 rfl rfl rfl rfl (Nat.le_of_ble_eq_true rfl) (lt_of_ble rfl)
         refine Wk.nil (AW.ret ?_)
         exact RetQ.ret [(0, rdr zs5 p5), (7, ownB q5 bs5)] (.cons ⟨2, 0, _, _, _, rfl, rfl, ty77, rfl⟩ .nil) ⟨_, _, _, rfl, by omega, (k1 : Int), l5, q5, bs5, rfl, rfl, by omega, by omega, hl5, hl6, hb5⟩ (kept2 rfl rfl)
 · rintro rest rfl; exact ⟨_, _, 0, 0, 0, [], rfl, rfl, by simp⟩
 · rintro rest r ex ⟨sg, ln, q, bs, rfl, rfl, _⟩; exact ⟨rfl, by simp [ownB_in]⟩
end Go.Proofs.YthnlpdjjnfkmeaaDoor

/- A piece as an answer: its cells. -/
namespace Go.Proofs.YthnlpdjjnfkmeaaDoor
open Go
def partA3 (g l : Int) (bs : List (Fin 256)) : A := .agg [.d (.v (.int .i64 g)), .d (.v (.int .i64 l)), .d (fbytes bs)]
end Go.Proofs.YthnlpdjjnfkmeaaDoor

/- Lists of zero bytes are made; the lesser of two numbers; over what values read as. -/
namespace Go.Proofs.YthnlpdjjnfkmeaaDoor
open Go Go.RowKit
section
variable {C : Ctx} {ops : Array Oper} {os : List Oper} {cs : List Cert} {σ : St} {K : St → Prop} {d : Nat} {ty : TypeId} {pos : String} {af : Array Edge}
def zero8 (n : Nat) : List (List A) := List.replicate n [A.d (.v (.int .u8 0))]
def rMk8 (x : Operand) (i : Nat) (e : TypeId) (σ : St) : Option (List V) :=
  match aev σ x, σ.b i with
  | .d (.v (.int .i64 n)), .fresh => if 0 ≤ n ∧ n ≤ 1000 then some [.a (.own i 0), .b (.own 0 e 1 (zero8 n.toNat))] else none
  | _, _ => none
set_option maxRecDepth 100000 in
theorem ok_mk8 {x : Operand} (i : Nat) : OpOk Tryd.prog C ops ⟨some d, .makeSlice 22 x x, ty, pos, af, none⟩ ⟨kof x ++ [B i], [T d, B i], behs (rMk8 x i 5) d⟩ :=
  OpOk.turn rfl (by simp [dstIn]) (fun σ => by unfold rMk8; rw [aev_mask fun k hk => List.mem_append_left _ hk, bx_mask (by simp)]) fun σ a w F E H K Q us hR hd h hK => by
    unfold rMk8 at h
    split at h
    · rename_i n hx hb
      split at h
      · rename_i hn
        obtain rfl := Option.some.inj h
        obtain ⟨m, rfl⟩ := Int.eq_ofNat_of_zero_le hn.1
        have hm : m ≤ 1000 := by omega
        have hv : a.eval x = .int .i64 (m : Int) := by
          have := hR.ev x
          rw [hx] at this
          exact den_v this
        obtain ⟨i0, hi, hz0, hz1, hz2⟩ := info_parts Tryd.infoB
        obtain ⟨w', hr, ho, hg⟩ := run_makeSlice_full (P := Tryd.prog) w 0 22 5 i0 _ 1 Tryd.underlying22 hi hz0 hz1 .i64 .i64 m (by omega) (by rw [hz2]; omega) (by unfold maxLen; omega) (Nat.zero_le _)
        have hfr := hR.env.box i
        rw [hb] at hfr
        have hlen : (zero8 m).length = m := by simp [zero8]
        have hflat : (zero8 m).flatten = List.replicate m (A.d (.v (.int .u8 0))) := by
          simp only [zero8]
          clear hR hK h hb hx hv hr ho hn hm hfr hlen
          induction m with
          | zero => rfl
          | succ m ih => rw [List.replicate_succ, List.flatten_cons, ih, List.replicate_succ]; rfl
        have hset := hR.setown (i := i) (k := 0) (sz := 1) (e := 5) (es := zero8 m) (v := .slice (some ⟨w.heap.size, 0, none⟩) m m) (w' := w') (fun b hbk => by rw [hb] at hbk; cases hbk) (fun q _ => hfr.2 q) (by rw [hb]; exact hg)
          (by rw [hlen]; exact ho) (by intro c hc; rw [(List.mem_replicate.1 hc).2]; rfl) (by
            rw [hflat]
            have hl1 := ho.1
            refine ⟨by rw [List.length_replicate, hl1]; omega, fun j q u hq hu => ?_⟩
            obtain rfl := (List.mem_replicate.1 (List.mem_of_getElem? hq)).2
            have hu0 : u = .int .u8 0 := by
              simp only [madeCells, Array.toList_map, Array.toList_range, List.getElem?_map, Option.map_eq_some_iff] at hu
              obtain ⟨y, _, rfl⟩ := hu
              simp [Value.cells, Nat.mod_one]
            rw [hu0]
            exact ⟨rfl, .d _ _ (.v _)⟩) (.inr (.inr rfl))
        unfold Oper.wp
        have hrun : (execOp a.eval ⟨some d, .makeSlice 22 x x, ty, pos, af, none⟩).run Tryd.prog w = .ok (.value (.slice (some ⟨w.heap.size, 0, none⟩) m m)) w' := by simp only [execOp, Sem.run_bind, hv, hr, Result.andThen_ok, Sem.run_pure]
        rw [hrun, Oper.upon_value]
        refine hK _ _ ?_
        exact (RelE.put (d := d) (r := .own i 0) hset hd (.own i 0 _ (upd2_same _ _ _ _) rfl)).r
      · cases h
    · cases h
set_option maxRecDepth 100000 in
theorem Wk.mk8 {x : Operand} (i n : Nat) (hx : aev σ x = .d (.v (.int .i64 (n : Int)))) (hb : σ.b i = .fresh) (hn : n ≤ 1000) (hd : d < σ.n) (h : Wk Tryd.prog C ops os cs ((σ.put (T d) (.a (.own i 0))).put (B i) (.b (.own 0 5 1 (zero8 n)))) K) :
    Wk Tryd.prog C ops (⟨some d, .makeSlice 22 x x, ty, pos, af, none⟩ :: os) (⟨kof x ++ [B i], [T d, B i], behs (rMk8 x i 5) d⟩ :: cs) σ K :=
  Wk.turn (ok_mk8 i) [.a (.own i 0), .b (.own 0 5 1 (zero8 n))] hd (by simp only [rMk8, hx, hb]; rw [if_pos ⟨by omega, by omega⟩]; simp) h
set_option maxRecDepth 100000 in
theorem asData_zero8 (n : Nat) : asData (zero8 n) ((List.replicate n (0 : Fin 256)).map (fun z => z.val) |>.map fun z : Nat => [D.v (.int .u8 (z : Int))]) := by
  simp [asData, zero8, nrms, nrm]
variable {P : Program}
def rMin (x y : Operand) (σ : St) : Option A := (sc (aev σ x)).bind fun u => (sc (aev σ y)).bind fun v => match u, v with | .int k a, .int _ b => some (.d (.v (.int k (if b < a then b else a)))) | _, _ => none
set_option maxRecDepth 100000 in
theorem ok_min (x y : Operand) {at_ : Array TypeId} : OpOk P C ops ⟨some d, .call { callee := .builtin .min, args := #[x, y], argTypes := at_ }, ty, pos, af, none⟩ ⟨kof x ++ kof y, [T d], beh1 (rMin x y) d⟩ :=
  OpOk.read rfl rfl (fun σ => by unfold rMin; rw [aev_mask (fun k h => List.mem_append_left _ h), aev_mask (fun k h => List.mem_append_right _ h)]) fun σ a w F E H r hR h => by
    simp only [rMin, Option.bind_eq_some_iff] at h
    obtain ⟨u, hu, v, hv, h⟩ := h
    have e1 := den_sc hu (hR.ev x)
    have e2 := den_sc hv (hR.ev y)
    split at h
    · obtain rfl := Option.some.inj h
      refine ⟨_, ?_, .d _ _ (.v _)⟩
      simp [execOp, resolve, invoke, builtin, e1, e2, Builtin.min_, Builtin.min2]
    · cases h
set_option maxRecDepth 100000 in
theorem Wk.min2 {x y : Operand} {at_ : Array TypeId} {k k' : IntKind} {u v r : Int} (hx : aev σ x = .d (.v (.int k u))) (hy : aev σ y = .d (.v (.int k' v))) (hr : (if v < u then v else u) = r) (hd : d < σ.n)
    (h : Wk P C ops os cs (σ.put (T d) (.a (.d (.v (.int k r))))) K) : Wk P C ops (⟨some d, .call { callee := .builtin .min, args := #[x, y], argTypes := at_ }, ty, pos, af, none⟩ :: os) (⟨kof x ++ kof y, [T d], beh1 (rMin x y) d⟩ :: cs) σ K :=
  Wk.read (ok_min x y) _ hd (by simp only [rMin, hx, hy, sc, Option.bind_some, hr]) h
end
end Go.Proofs.YthnlpdjjnfkmeaaDoor

/- A piece, drawn, perhaps with something wrong; over what values read as. -/
namespace Go.Proofs.YthnlpdjjnfkmeaaDoor
open Go Go.RowKit
def partPost (_ : List A) (r : A) : Prop := ∃ (sg ln : Int) (bs : List (Fin 256)), r = partA3 sg ln bs ∧ (-1 ≤ sg ∧ sg ≤ 4) ∧ (-1 ≤ ln ∧ ln ≤ 40) ∧ bs.length ≤ 16
set_option maxHeartbeats 4000000 in
set_option maxRecDepth 100000 in
theorem partOr_ok : DrawOk Tryd.prog 60 (fun rest => ∃ n : Int, rest = [.d (.v (.int .i64 n))] ∧ n ≤ 1000000 ∧ -1000000 ≤ n) partPost 3010 := by
 refine DrawOk.zero ?_ ?_ ?_ ?_
 · rintro zs p rest ⟨n, rfl, hn, hn'⟩ hp
   refine Spec.intro (n := 35) (rv := [.cell 4 77]) Tryd.func60 rfl rfl rfl (by simp) fun C hN hX => ?_
   let inv : List (Fin 256) × Nat × Int × Int × Nat × List (Fin 256) → St := fun x => St.of 35 [(0, .ptr 0 0), (4, .ptr 4 0), (5, .ptr 5 0)] [(0, rdr x.1 x.2.1), (4, .var [.d (.v (.int .i64 0)), .d (.v (.int .i64 0)), .d (.v (.slice none 0 0))]), (5, .var (partOA x.2.2.1 x.2.2.2.1 x.2.2.2.2.1)), (7, ownB x.2.2.2.2.1 x.2.2.2.2.2)]
   have fin : ∀ (zs : List (Fin 256)) (p : Nat) (sg ln : Int) (q : Nat) (bs : List (Fin 256)) (σ : St), σ.n = 35 → σ.t 0 = .ptr 0 0 → σ.t 4 = .ptr 4 0 → σ.t 5 = .ptr 5 0 → σ.b 0 = rdr zs p → σ.b 4 = .var [.d (.v (.int .i64 0)), .d (.v (.int .i64 0)), .d (.v (.slice none 0 0))] → σ.b 5 = .var (partOA sg ln q) → σ.b 7 = ownB q bs →
       ∀ a w, Rel C σ a w → Rel C (inv (zs, p, sg, ln, q, bs)) a w := fun zs p sg ln q bs σ h0 h1 h2 h3 h4 h5 h6 h7 a w => Rel.keep ⟨h0.symm, .cons h1 rfl (.cons h2 rfl (.cons h3 rfl .nil)), .cons h4 rfl (.cons h5 rfl (.cons h6 rfl (.cons h7 ownB_in .nil))), hN.mono (by simp [keys])⟩
   refine AW.seq ?_
   apply AW.list
   apply Wk.alc 4 [.int .i64 0, .int .i64 0, .slice none 0 0] ze77 rfl rfl (lt_of_ble rfl)
   refine Wk.nil ?_
   refine AW.seq ?_
   apply AW.list
   apply Wk.mv (by conv => lhs; whnf) (lt_of_ble rfl)
   apply Wk.drx [7] partO_ok Tryd.func47 rfl rfl rfl rfl rfl (by omega) rfl (by simp; rfl) (lt_of_ble rfl)
   rintro r2 zs2 p2 ex ⟨sg, ln, q, bs, rfl, rfl, hs1, hs2, hl1, hl2, hbl⟩ hp2
   apply Wk.alc 5 [.int .i64 0, .int .i64 0, .slice none 0 0] ze77 rfl rfl (lt_of_ble rfl)
   apply Wk.sto (i := 5) 3 true ty77 rfl rfl rfl rfl (Nat.le_of_ble_eq_true rfl) (lt_of_ble rfl)
   refine Wk.nil ?_
   refine AW.via inv (fun x => x.2.1 ≤ p + 3010 ∧ (-1 ≤ x.2.2.1 ∧ x.2.2.1 ≤ 4) ∧ (-1 ≤ x.2.2.2.1 ∧ x.2.2.2.1 ≤ 40) ∧ x.2.2.2.2.2.length ≤ 16) ?_ ?_
   · refine AW.seq ?_
     apply AW.list
     apply Wk.mv (by conv => lhs; whnf) (lt_of_ble rfl)
     apply Wk.mv (by conv => lhs; whnf) (lt_of_ble rfl)
     apply Wk.drw 0 odd_ok Tryd.func48 rfl rfl rfl rfl ⟨_, rfl, by omega⟩ (by omega) rfl (lt_of_ble rfl)
     rintro r3 zs3 p3 ⟨b3, rfl, _⟩ hp3
     refine Wk.nil ?_
     refine AW.cond rfl (fun hc => ?_) (fun hc => AW.skip (thenA_normal ?_))
     · refine AW.seq ?_
       apply AW.list
       apply Wk.mv (by conv => lhs; whnf) (lt_of_ble rfl)
       apply Wk.drw 0 pick_ok Tryd.func22 rfl rfl rfl rfl ⟨_, rfl, by omega⟩ (by omega) rfl (lt_of_ble rfl)
       rintro r4 zs4 p4 ⟨k4, rfl, hk4⟩ hp4
       refine Wk.nil (AW.block ?_)
       refine AW.seq ?_
       apply AW.list
       apply Wk.bin rfl rfl (fun w => by simp [go_sem] <;> rfl) (lt_of_ble rfl)
       apply Wk.asg (by conv => lhs; whnf) (lt_of_ble rfl)
       refine Wk.nil ?_
       refine AW.cond rfl (fun hc => ?_) (fun hc => ?_)
       · apply AW.list
         apply Wk.lst 20 1 false [.int .i64 0] un80 ty3 ze3 rfl rfl (by rfl) (by rfl) (by decide) (by decide) rfl rfl (all_len rfl) (lt_of_ble rfl)
         apply Wk.mv (by conv => lhs; whnf) (lt_of_ble rfl)
         apply Wk.drw 0 pick_ok Tryd.func22 rfl rfl rfl rfl ⟨_, rfl, by omega⟩ (by omega) rfl (lt_of_ble rfl)
         rintro r9 zs9 p9 ⟨k9, rfl, hk9⟩ hp9
         have hk9' : k9 < 3 := by have := hk9 3 rfl; omega
         obtain ⟨v, hv, hv1, hv2⟩ : ∃ v : Int, partA (List.flatten [[A.d (.v (.int .i64 (-1)))], [.d (.v (.int .i64 4))], [.d (.v (.int .i64 1))]]) (k9 * 1) 1 false = some (.d (.v (.int .i64 v))) ∧ -1 ≤ v ∧ v ≤ 4 := by
           rcases (show k9 = 0 ∨ k9 = 1 ∨ k9 = 2 by omega) with rfl | rfl | rfl
           · exact ⟨_, rfl, by omega, by omega⟩
           · exact ⟨_, rfl, by omega, by omega⟩
           · exact ⟨_, rfl, by omega, by omega⟩
         apply Wk.iado 20 1 false un80 ty3 rfl rfl rfl hk9' (lt_of_ble rfl)
         apply Wk.ldo (i := 20) 1 false ty3 rfl rfl hv (lt_of_ble rfl)
         apply Wk.fad 0 0 false fd77_0 rfl (lt_of_ble rfl)
         apply Wk.sto (i := 5) 1 false ty3 rfl rfl rfl rfl (Nat.le_of_ble_eq_true rfl) (lt_of_ble rfl)
         refine Wk.nil (inBlockA_normal (thenA_normal ?_))
         exact ⟨(zs9, p9, v, ln, q, bs), ⟨by simp only; omega, ⟨by simp only; omega, by simp only; omega⟩, ⟨by simp only; omega, by simp only; omega⟩, by simp only; omega⟩, fin _ _ _ _ _ _ _ rfl rfl rfl rfl rfl rfl rfl rfl⟩
       · refine AW.seq ?_
         apply AW.list
         apply Wk.bin rfl rfl (fun w => by simp [go_sem] <;> rfl) (lt_of_ble rfl)
         apply Wk.asg (by conv => lhs; whnf) (lt_of_ble rfl)
         refine Wk.nil ?_
         refine AW.cond rfl (fun hc => ?_) (fun hc => ?_)
         · apply AW.list
           apply Wk.lst 28 1 false [.int .i64 0] un80 ty3 ze3 rfl rfl (by rfl) (by rfl) (by decide) (by decide) rfl rfl (all_len rfl) (lt_of_ble rfl)
           apply Wk.mv (by conv => lhs; whnf) (lt_of_ble rfl)
           apply Wk.drw 0 pick_ok Tryd.func22 rfl rfl rfl rfl ⟨_, rfl, by omega⟩ (by omega) rfl (lt_of_ble rfl)
           rintro r9 zs9 p9 ⟨k9, rfl, hk9⟩ hp9
           have hk9' : k9 < 3 := by have := hk9 3 rfl; omega
           obtain ⟨v, hv, hv1, hv2⟩ : ∃ v : Int, partA (List.flatten [[A.d (.v (.int .i64 (-1)))], [.d (.v (.int .i64 25))], [.d (.v (.int .i64 3))]]) (k9 * 1) 1 false = some (.d (.v (.int .i64 v))) ∧ -1 ≤ v ∧ v ≤ 40 := by
             rcases (show k9 = 0 ∨ k9 = 1 ∨ k9 = 2 by omega) with rfl | rfl | rfl
             · exact ⟨_, rfl, by omega, by omega⟩
             · exact ⟨_, rfl, by omega, by omega⟩
             · exact ⟨_, rfl, by omega, by omega⟩
           apply Wk.iado 28 1 false un80 ty3 rfl rfl rfl hk9' (lt_of_ble rfl)
           apply Wk.ldo (i := 28) 1 false ty3 rfl rfl hv (lt_of_ble rfl)
           apply Wk.fad 1 0 false fd77_1 rfl (lt_of_ble rfl)
           apply Wk.sto (i := 5) 1 false ty3 rfl rfl rfl rfl (Nat.le_of_ble_eq_true rfl) (lt_of_ble rfl)
           refine Wk.nil (inBlockA_normal (thenA_normal ?_))
           exact ⟨(zs9, p9, sg, v, q, bs), ⟨by simp only; omega, ⟨by simp only; omega, by simp only; omega⟩, ⟨by simp only; omega, by simp only; omega⟩, by simp only; omega⟩, fin _ _ _ _ _ _ _ rfl rfl rfl rfl rfl rfl rfl rfl⟩
         · apply AW.list
           apply Wk.fad 2 0 false fd77_2 rfl (lt_of_ble rfl)
           apply Wk.ld (i := 5) 1 false ty22 rfl rfl (by conv => lhs; whnf) (lt_of_ble rfl)
           apply Wk.lst 15 1 false [.int .u8 0] un22 ty5 ze5 rfl rfl (by rfl) (by rfl) (by decide) (by decide) rfl rfl (all_len rfl) (lt_of_ble rfl)
           apply Wk.appOO 7 15 1 un22 ap5 rfl rfl rfl rfl (by decide) (all_len rfl) (one_cellsB bs) (by simp [cellsB]; omega) (lt_of_ble rfl)
           apply Wk.fad 2 0 false fd77_2 rfl (lt_of_ble rfl)
           apply Wk.sto (i := 5) 1 false ty22 rfl rfl rfl rfl (Nat.le_of_ble_eq_true rfl) (lt_of_ble rfl)
           refine Wk.nil (inBlockA_normal (thenA_normal ?_))
           have e9 : cellsB (bs ++ [1, 2, 3, 4, 5, 6, 7, 8]) = cellsB bs ++ cellsB [1, 2, 3, 4, 5, 6, 7, 8] := by simp [cellsB]
           exact ⟨(zs4, p4, sg, ln, q + 1, bs ++ [1, 2, 3, 4, 5, 6, 7, 8]), ⟨by simp only; omega, ⟨by simp only; omega, by simp only; omega⟩, ⟨by simp only; omega, by simp only; omega⟩, by simp; omega⟩, fin _ _ _ _ _ _ _ rfl rfl rfl rfl rfl rfl rfl (by unfold ownB; rw [e9]; rfl)⟩
     · exact ⟨(zs3, p3, sg, ln, q, bs), ⟨by simp only; omega, ⟨by simp only; omega, by simp only; omega⟩, ⟨by simp only; omega, by simp only; omega⟩, by simp only; omega⟩, fin _ _ _ _ _ _ _ rfl rfl rfl rfl rfl rfl rfl rfl⟩
   · rintro ⟨zs6, p6, s6, l6, q6, bs6⟩ ⟨hp6, hs6, hl6, hb6⟩
     simp only at hp6 hs6 hl6 hb6
     show AW Tryd.prog C _ _ (St.of 35 [(0, .ptr 0 0), (4, .ptr 4 0), (5, .ptr 5 0)] [(0, rdr zs6 p6), (4, .var [.d (.v (.int .i64 0)), .d (.v (.int .i64 0)), .d (.v (.slice none 0 0))]), (5, .var (partOA s6 l6 q6)), (7, ownB q6 bs6)])
     refine AW.thawc (j := 5) (c := 2) (i := 7) (cellsD bs6) rfl rfl (by rfl) (asData_cells bs6) (hX.one (by decide) rfl) ?_
     refine AW.seq ?_
     apply AW.list
     apply Wk.ld (i := 5) 3 true ty77 rfl rfl (by conv => lhs; whnf) (lt_of_ble rfl)
     apply Wk.sto (i := 4) 3 true ty77 rfl rfl rfl rfl (Nat.le_of_ble_eq_true rfl) (lt_of_ble rfl)
     refine Wk.nil (AW.ret ?_)
     exact RetQ.ret [(0, rdr zs6 p6)] (.cons ⟨4, 0, _, _, _, rfl, rfl, ty77, rfl⟩ .nil) ⟨⟨s6, l6, bs6, rfl, hs6, hl6, hb6⟩, _, _, rfl, hp6⟩ (kept1 rfl)
 · rintro rest ⟨n, rfl, _⟩; rfl
 · rintro rest _; exact ⟨_, 0, 0, [], rfl, by simp⟩
 · rintro rest r ⟨sg, ln, bs, rfl, _⟩; rfl
end Go.Proofs.YthnlpdjjnfkmeaaDoor

/- A piece, drawn, as data. Out of AbsPart. -/
namespace Go.Proofs.YthnlpdjjnfkmeaaDoor
open Go
set_option maxRecDepth 100000 in
theorem partD_ok : DrawOk Tryd.prog 47 (fun rest => rest = []) partPost 3003 := by
 refine DrawOk.zero ?_ ?_ ?_ ?_
 · rintro zs p rest rfl hp
   refine Spec.intro (n := 43) (rv := [.cell 2 77]) Tryd.func47 rfl rfl rfl (by simp) fun C hN hX => ?_
   refine AW.seq ?_
   apply AW.list
   apply Wk.alc 2 [.int .i64 0, .int .i64 0, .slice none 0 0] ze77 rfl rfl (lt_of_ble rfl)
   refine Wk.nil ?_
   refine AW.seq ?_
   apply AW.list
   apply Wk.mv (by conv => lhs; whnf) (lt_of_ble rfl)
   apply Wk.drw 0 pick_ok Tryd.func22 rfl rfl rfl rfl ⟨_, rfl, by omega⟩ (by omega) rfl (lt_of_ble rfl)
   rintro r1 zs1 p1 ⟨k1, rfl, hk1⟩ hp1
   apply Wk.mv (by conv => lhs; whnf) (lt_of_ble rfl)
   apply Wk.drx [7] bytesO_ok Tryd.func57 rfl rfl rfl rfl ⟨8, rfl, by decide⟩ (by omega) rfl (by simp; rfl) (lt_of_ble rfl)
   rintro r zs2 p2 ex ⟨q, bs, rfl, rfl, hbl⟩ hp2
   replace hbl := hbl 8 rfl
   apply Wk.bld [.int .i64 0, .int .i64 0, .slice none 0 0] [(0, 1), (1, 1), (2, 1)] bl77 rfl (by conv => lhs; whnf) (lt_of_ble rfl)
   apply Wk.alc 3 [.int .i64 0, .int .i64 0, .slice none 0 0] ze77 rfl rfl (lt_of_ble rfl)
   apply Wk.sto (i := 3) 3 true ty77 rfl rfl rfl rfl (Nat.le_of_ble_eq_true rfl) (lt_of_ble rfl)
   refine Wk.nil ?_
   have hk1' : k1 < 4 := by have := hk1 4 rfl; omega
   let inv : List (Fin 256) × Nat × Int × Nat × List (Fin 256) → St := fun x => St.of 43 [(0, .ptr 0 0), (2, .ptr 2 0), (3, .ptr 3 0)] [(0, rdr x.1 x.2.1), (2, .var [.d (.v (.int .i64 0)), .d (.v (.int .i64 0)), .d (.v (.slice none 0 0))]), (3, .var (partOA (k1 : Int) x.2.2.1 x.2.2.2.1)), (7, ownB x.2.2.2.1 x.2.2.2.2)]
   let ok : Nat → List (Fin 256) × Nat × Int × Nat × List (Fin 256) → Prop := fun m x => x.2.1 ≤ p + m ∧ 0 ≤ x.2.2.1 ∧ x.2.2.1 ≤ 40 ∧ x.2.2.2.2.length ≤ 8
   have fin : ∀ (zs : List (Fin 256)) (p : Nat) (ln : Int) (q : Nat) (bs : List (Fin 256)) (σ : St), σ.n = 43 → σ.t 0 = .ptr 0 0 → σ.t 2 = .ptr 2 0 → σ.t 3 = .ptr 3 0 → σ.b 0 = rdr zs p → σ.b 2 = .var [.d (.v (.int .i64 0)), .d (.v (.int .i64 0)), .d (.v (.slice none 0 0))] → σ.b 3 = .var (partOA (k1 : Int) ln q) → σ.b 7 = ownB q bs →
       ∀ a w, Rel C σ a w → Rel C (inv (zs, p, ln, q, bs)) a w := fun zs p ln q bs σ h0 h1 h2 h3 h4 h5 h6 h7 a w => Rel.keep ⟨h0.symm, .cons h1 rfl (.cons h2 rfl (.cons h3 rfl .nil)), .cons h4 rfl (.cons h5 rfl (.cons h6 rfl (.cons h7 ownB_in .nil))), hN.mono (by simp [keys])⟩
   refine AW.via inv (ok 3002) ?_ ?_
   · refine AW.seq ?_
     by_cases h1 : k1 = 0
     · subst h1
       apply AW.list
       apply Wk.fad 0 0 false fd77_0 rfl (lt_of_ble rfl)
       apply Wk.ld (i := 3) 1 false ty3 rfl rfl (by conv => lhs; whnf) (lt_of_ble rfl)
       apply Wk.bin rfl rfl (r := .bool false) (fun w => by simp [go_sem]) (lt_of_ble rfl)
       apply Wk.mv (by conv => lhs; whnf) (lt_of_ble rfl)
       apply Wk.goff 12 (ok_faddr fd77_2) rfl rfl (by decide)
       apply Wk.goff 12 (ok_load 3 ty22) rfl rfl (by decide)
       apply Wk.goff 12 (ok_leno 7 un22) rfl rfl (by decide)
       apply Wk.goff 12 (ok_bin _ _ _ _ _) rfl rfl (by decide)
       apply Wk.pckF rfl (by conv => lhs; whnf) (lt_of_ble rfl)
       refine Wk.nil ?_
       refine AW.cond rfl (fun hc => by cases hc) (fun _ => AW.skip (thenA_normal ?_))
       exact ⟨(zs2, p2, 0, q, bs), ⟨by simp only; omega, by simp only; omega, by simp only; omega, hbl⟩, fin _ _ _ _ _ _ rfl rfl rfl rfl rfl rfl rfl rfl⟩
     · apply AW.list
       apply Wk.fad 0 0 false fd77_0 rfl (lt_of_ble rfl)
       apply Wk.ld (i := 3) 1 false ty3 rfl rfl (by conv => lhs; whnf) (lt_of_ble rfl)
       apply Wk.bin rfl rfl (r := .bool true) (fun w => by simp [go_sem, h1]) (lt_of_ble rfl)
       apply Wk.mv (by conv => lhs; whnf) (lt_of_ble rfl)
       apply Wk.gon 12 rfl rfl
       apply Wk.fad 2 0 false fd77_2 rfl (lt_of_ble rfl)
       apply Wk.gon 12 rfl rfl
       apply Wk.ld (i := 3) 1 false ty22 rfl rfl (by conv => lhs; whnf) (lt_of_ble rfl)
       apply Wk.gon 12 rfl rfl
       apply Wk.leno (i := 7) un22 rfl rfl (lt_of_ble rfl)
       apply Wk.gon 12 rfl rfl
       apply Wk.bin rfl rfl (fun w => by simp [go_sem] <;> rfl) (lt_of_ble rfl)
       apply Wk.pckT rfl (by conv => lhs; whnf) (lt_of_ble rfl)
       refine Wk.nil ?_
       refine AW.cond rfl (fun hc => ?_) (fun hc => AW.skip (thenA_normal ?_))
       · apply AW.list
         apply Wk.lst 18 1 false [.int .u8 0] un22 ty5 ze5 rfl rfl (by rfl) (by rfl) (by decide) (by decide) rfl rfl (all_len rfl) (lt_of_ble rfl)
         apply Wk.fad 2 0 false fd77_2 rfl (lt_of_ble rfl)
         apply Wk.sto (i := 3) 1 false ty22 rfl rfl rfl rfl (Nat.le_of_ble_eq_true rfl) (lt_of_ble rfl)
         refine Wk.nil (thenA_normal ?_)
         refine ⟨(zs2, p2, 0, q + 1, [7]), ⟨by simp only; omega, by simp only; omega, by simp only; omega, by simp⟩, fun a w hR => ?_⟩
         have h := Rel.renc (j := 3) (c := 2) (i := 18) (i' := 7) (k' := q + 1) rfl rfl (by rfl) (.inr ⟨_, _, _, _, rfl, rfl⟩) (by decide) hR
         exact fin _ _ _ _ _ _ rfl rfl rfl rfl rfl rfl rfl rfl a w h
       · exact ⟨(zs2, p2, 0, q, bs), ⟨by simp only; omega, by simp only; omega, by simp only; omega, hbl⟩, fin _ _ _ _ _ _ rfl rfl rfl rfl rfl rfl rfl rfl⟩
   · rintro ⟨zs3, p3, l3, q3, bs3⟩ ⟨hp3, hl1, hl2, hb3⟩
     simp only at hp3 hl1 hl2 hb3
     show AW Tryd.prog C _ _ (St.of 43 [(0, .ptr 0 0), (2, .ptr 2 0), (3, .ptr 3 0)] [(0, rdr zs3 p3), (2, .var [.d (.v (.int .i64 0)), .d (.v (.int .i64 0)), .d (.v (.slice none 0 0))]), (3, .var (partOA (k1 : Int) l3 q3)), (7, ownB q3 bs3)])
     refine AW.via inv (ok 3002) ?_ ?_
     · refine AW.seq ?_
       apply AW.list
       apply Wk.fad 0 0 false fd77_0 rfl (lt_of_ble rfl)
       apply Wk.ld (i := 3) 1 false ty3 rfl rfl (by conv => lhs; whnf) (lt_of_ble rfl)
       apply Wk.bin rfl rfl (fun w => by simp [go_sem] <;> rfl) (lt_of_ble rfl)
       refine Wk.nil ?_
       refine AW.cond rfl (fun hc => ?_) (fun hc => AW.skip (thenA_normal ?_))
       · apply AW.list
         apply Wk.fad 2 0 false fd77_2 rfl (lt_of_ble rfl)
         apply Wk.ld (i := 3) 1 false ty22 rfl rfl (by conv => lhs; whnf) (lt_of_ble rfl)
         apply Wk.leno (i := 7) un22 rfl rfl (lt_of_ble rfl)
         apply Wk.fad 1 0 false fd77_1 rfl (lt_of_ble rfl)
         apply Wk.sto (i := 3) 1 false ty3 rfl rfl rfl rfl (Nat.le_of_ble_eq_true rfl) (lt_of_ble rfl)
         refine Wk.nil (thenA_normal ?_)
         have e5 : (cellsB bs3).length = bs3.length := by simp [cellsB]
         refine ⟨(zs3, p3, ((cellsB bs3).length : Int), q3, bs3), ⟨hp3, by simp only; omega, by simp only; omega, hb3⟩, fin _ _ _ _ _ _ rfl rfl rfl rfl rfl rfl rfl rfl⟩
       · exact ⟨(zs3, p3, l3, q3, bs3), ⟨hp3, hl1, hl2, hb3⟩, fin _ _ _ _ _ _ rfl rfl rfl rfl rfl rfl rfl rfl⟩
     · rintro ⟨zs4, p4, l4, q4, bs4⟩ ⟨hp4, hl3, hl4, hb4⟩
       simp only at hp4 hl3 hl4 hb4
       show AW Tryd.prog C _ _ (St.of 43 [(0, .ptr 0 0), (2, .ptr 2 0), (3, .ptr 3 0)] [(0, rdr zs4 p4), (2, .var [.d (.v (.int .i64 0)), .d (.v (.int .i64 0)), .d (.v (.slice none 0 0))]), (3, .var (partOA (k1 : Int) l4 q4)), (7, ownB q4 bs4)])
       have e5 : (cellsB bs4).length = bs4.length := by simp [cellsB]
       refine AW.via inv (ok 3003) ?_ ?_
       · refine AW.seq ?_
         apply AW.list
         apply Wk.fad 0 0 false fd77_0 rfl (lt_of_ble rfl)
         apply Wk.ld (i := 3) 1 false ty3 rfl rfl (by conv => lhs; whnf) (lt_of_ble rfl)
         apply Wk.bin rfl rfl (fun w => by simp [go_sem] <;> rfl) (lt_of_ble rfl)
         refine Wk.nil ?_
         refine AW.cond rfl (fun hc => ?_) (fun hc => AW.skip (thenA_normal ?_))
         · apply AW.draw (hm := hmix) (cs := _)
           · apply Wk.fad 2 0 false fd77_2 rfl (lt_of_ble rfl)
             apply Wk.ld (i := 3) 1 false ty22 rfl rfl (by conv => lhs; whnf) (lt_of_ble rfl)
             apply Wk.leno (i := 7) un22 rfl rfl (lt_of_ble rfl)
             apply Wk.addi rfl rfl (by omega) (lt_of_ble rfl)
             apply Wk.mv (by conv => lhs; whnf) (lt_of_ble rfl)
             apply Wk.fad 2 0 false fd77_2 rfl (lt_of_ble rfl)
             apply Wk.ld (i := 3) 1 false ty22 rfl rfl (by conv => lhs; whnf) (lt_of_ble rfl)
             apply Wk.leno (i := 7) un22 rfl rfl (lt_of_ble rfl)
             apply Wk.subi rfl rfl (by omega) (lt_of_ble rfl)
             apply Wk.drw 0 pick_ok Tryd.func22 rfl rfl rfl rfl ⟨_, rfl, by omega⟩ (by omega) rfl (lt_of_ble rfl)
             rintro r9 zs9 p9 ⟨k9, rfl, hk9⟩ hp9
             replace hk9 := hk9 _ rfl
             apply Wk.addi rfl rfl (by omega) (lt_of_ble rfl)
             apply Wk.fad 1 0 false fd77_1 rfl (lt_of_ble rfl)
             apply Wk.sto (i := 3) 1 false ty3 rfl rfl rfl rfl (Nat.le_of_ble_eq_true rfl) (lt_of_ble rfl)
             refine Wk.nil (thenA_normal ?_)
             refine ⟨(zs9, p9, ((cellsB bs4).length : Int) + 1 + (k9 : Int), q4, bs4), ⟨by simp only; omega, by simp only; omega, by simp only; omega, hb4⟩, fin _ _ _ _ _ _ rfl rfl rfl rfl rfl rfl rfl rfl⟩
           · rfl
           · rfl
         · exact ⟨(zs4, p4, l4, q4, bs4), ⟨by simp only; omega, hl3, hl4, hb4⟩, fin _ _ _ _ _ _ rfl rfl rfl rfl rfl rfl rfl rfl⟩
       · rintro ⟨zs5, p5, l5, q5, bs5⟩ ⟨hp5, hl5, hl6, hb5⟩
         simp only at hp5 hl5 hl6 hb5
         show AW Tryd.prog C _ _ (St.of 43 [(0, .ptr 0 0), (2, .ptr 2 0), (3, .ptr 3 0)] [(0, rdr zs5 p5), (2, .var [.d (.v (.int .i64 0)), .d (.v (.int .i64 0)), .d (.v (.slice none 0 0))]), (3, .var (partOA (k1 : Int) l5 q5)), (7, ownB q5 bs5)])
         refine AW.thawc (j := 3) (c := 2) (i := 7) (cellsD bs5) rfl rfl (by rfl) (asData_cells bs5) (hX.one (by decide) rfl) ?_
         refine AW.seq ?_
         apply AW.list
         apply Wk.ld (i := 3) 3 true ty77 rfl rfl (by conv => lhs; whnf) (lt_of_ble rfl)
         apply Wk.sto (i := 2) 3 true ty77 rfl rfl rfl rfl (Nat.le_of_ble_eq_true rfl) (lt_of_ble rfl)
         refine Wk.nil (AW.ret ?_)
         exact RetQ.ret [(0, rdr zs5 p5)] (.cons ⟨2, 0, _, _, _, rfl, rfl, ty77, rfl⟩ .nil) ⟨⟨(k1 : Int), l5, bs5, rfl, by omega, by omega, by omega⟩, _, _, rfl, by omega⟩ (kept1 rfl)
 · rintro rest rfl; rfl
 · rintro rest _; exact ⟨_, 0, 0, [], rfl, by simp⟩
 · rintro rest r ⟨sg, ln, bs, rfl, _⟩; rfl
end Go.Proofs.YthnlpdjjnfkmeaaDoor

/- Who sends, drawn; over what values read as. Written by tools/mk_AbsL20Tx.py. -/
namespace Go.Proofs.YthnlpdjjnfkmeaaDoor
open Go Go.RowKit
def tx0 : TX := ⟨0, 0, [], 0, [], false, 0, false, 0, false⟩
theorem tx0_good : tx0.good 0 := by simp [TX.good, tx0]
/-- Who sends, drawn: within bounds. -/
def TX.wide (x : TX) : Prop := (-1 ≤ x.n ∧ x.n ≤ 8) ∧ (-1 ≤ x.a ∧ x.a ≤ 8) ∧ (x.fl.length ≤ 11 ∧ ∀ d ∈ x.fl, (Byt d.2.2 ∧ d.2.2.length ≤ 24)) ∧ (-1 ≤ x.s ∧ x.s ≤ 11) ∧ (x.qu.length ≤ 25 ∧ ∀ d ∈ x.qu, (Byt d.2.2 ∧ d.2.2.length ≤ 24)) ∧ (-1 ≤ x.t ∧ x.t ≤ 10) ∧ (-1 ≤ x.c ∧ (x.c ≤ 1000 ∨ x.c = 10000))
theorem TX.good.wide {cm : Int} {x : TX} (h : x.good cm) (hm : cm ≤ 1000 := by omega) : x.wide := ⟨by have := h.1; omega, by have := h.2.1; omega, ⟨by have := h.2.2.1.1; omega, h.2.2.1.2⟩, by have := h.2.2.2.1; omega, ⟨by have := h.2.2.2.2.1.1; omega, h.2.2.2.2.1.2⟩, by have := h.2.2.2.2.2.1; omega, by have := h.2.2.2.2.2.2; omega⟩
theorem TX.wide.few {x : TX} (h : x.wide) : x.few := ⟨⟨by have := h.2.2.1.1; omega, fun d hd => by have := h.2.2.1.2 d hd; omega⟩, ⟨by have := h.2.2.2.2.1.1; omega, fun d hd => by have := h.2.2.2.2.1.2 d hd; omega⟩⟩
def txPre (rest : List A) : Prop := ∃ m w p u y n : Int, rest = [cfgA m w p u y, .d (.v (.int .i64 n))] ∧ (0 ≤ m ∧ m ≤ 3 ∧ 0 ≤ w ∧ w ≤ 5 ∧ 0 ≤ p ∧ p ≤ 9 ∧ 0 ≤ u ∧ u ≤ 25 ∧ 0 ≤ y ∧ y ≤ 6) ∧ n ≤ 1000000 ∧ -1000000 ≤ n
def txPost (_ : List A) (r : A) : Prop := ∃ x : TX, r = txA x ∧ x.wide
theorem asData_more {es : List (List A)} {ds : List Dat} (h : asData es (ds.map datD)) (d : Dat) (c : List A) (hc : nrms c = (datD d).map A.d) : asData (es ++ [c]) ((ds ++ [d]).map datD) := by
  simp only [asData, List.map_append, List.map_cons, List.map_nil] at h ⊢
  rw [h, hc]
end Go.Proofs.YthnlpdjjnfkmeaaDoor
