/- Laws and contracts that the proof stands on: AbsTxOkI, AbsCrdS, XTx, AbsWd, XWd. -/
import Derived.Test.YtdjadeegjbhihaaMa
import Derived.Test.YtdjadeegjbhihaaMb
import Derived.Test.YtdjadeegjbhihaaMc
import Derived.Test.YtdjadeegjbhihaaMd
/- TxOk of the program, over what values read as. Written by tools/mk_AbsTxOkI.py. -/
namespace Go.Proofs.Ytdjadeegjbhihaa
open Go Go.RowKit
/-- The number of what is so many on, as the program answers it. -/
def numI (n : Int) : Int := if n < 0 then -1 else n % 8
theorem inum_ok (n : Int) : DataOk Try.prog 46 [.d (.v (.int .i64 n))] (.d (.v (.int .i64 (numI n)))) := by
  by_cases h : n < 0
  · rw [numI, if_pos h]; exact int1 (impl_numof_no n h)
  · rw [numI, if_neg h]; exact int1 (impl_numof n (by omega))
theorem inoneb {n hi : Int} {b : Bool} (h : inB n 0 hi = b) : DataOk Try.prog 47 [.d (.v (.int .i64 n)), .d (.v (.int .i64 hi))] (.d (.v (.bool b))) := by
  subst h
  refine DataOk.lift fun w F E H args _ hs hd => ?_
  obtain ⟨v, u, rfl, hv, hu⟩ := args2 hs hd
  obtain rfl := den_v hv
  obtain rfl := den_v hu
  go_enter Try.func47, Try.ntmps47
  go_wp2
  all_goals
    go_ret
    refine ⟨ret_bool ?_, Below.refl _ _⟩
    go_light
    grind [inB]
theorem icfgb {m n s t y : Int} {b : Bool} (h : Opt.ok ⟨m, n, s, t, y⟩ = b) : DataOk Try.prog 48 [cfgA m n s t y] (.d (.v (.bool b))) := by
  subst h
  refine DataOk.lift fun w F E H args _ hs hd => ?_
  obtain ⟨v, rfl, hv⟩ := arg1 hs hd
  obtain rfl := cfg_args hv
  exact impl_cfg_v _ _ _ _ _ w
theorem ifarb (a b : Int) : DataOk Try.prog 45 [.d (.v (.int .i64 a)), .d (.v (.int .i64 b))] (.d (.v (.int .i64 (farF a b)))) := int2 (impl_far_any a b)
theorem ipartsb (ds : List Dat) (m : Int) {b : Bool} (h : ds.all (partM m) = b) : DataOk Try.prog 49 [.d (partsD ds), .d (.v (.int .i64 m))] (.d (.v (.bool b))) := h ▸ iparts_ok ds m
theorem txOk_parts (o : Opt) (x : TX) : txOkB o x = (o.ok && ((decide (farF x.a x.n = (x.fl.length : Int)) && decide (numI x.c = x.a)) && ((inB (x.fl.length : Int) 0 o.win && (inB x.s 0 (x.fl.length : Int) && (inB (x.qu.length : Int) 0 24 && (inB x.t 0 o.tri && inB x.c 0 9999)))) && (x.fl.all (partM o.mps) && x.qu.all (partM o.mps))))) := by
  apply bool_of_iff
  simp only [txOkB, Bool.and_eq_true, decide_eq_true_eq, inB_iff]
  rcases far_cases x.a x.n with ⟨h1, h2, h3⟩ | ⟨_, h2, h3⟩
  · constructor
    · rintro ⟨k1, k2, k3, k4, k5, k6, k7, k8, k9, k10, k11, k12⟩
      exact ⟨k1, ⟨k5, by rw [numI, if_neg (by omega)]; omega⟩, ⟨⟨by omega, k4⟩, k6, ⟨by omega, by omega⟩, k8, k9⟩, k11, k12⟩
    · rintro ⟨k1, ⟨k2, k3⟩, ⟨k4, k5, k6, k7, k8⟩, k9, k10⟩
      rw [numI, if_neg (by omega)] at k3
      exact ⟨k1, by omega, by omega, k4.2, k2, k5, by omega, k7, k8, by omega, k9, k10⟩
  · constructor
    · rintro ⟨k1, k2, k3, k4, k5, _⟩; omega
    · rintro ⟨k1, ⟨k2, k3⟩, _⟩; omega
set_option maxHeartbeats 16000000 in
set_option maxRecDepth 100000 in
theorem itx_ok (m0 w0 p0 u0 y0 : Int) (x : TX) : DataOk Try.prog 14 [cfgA m0 w0 p0 u0 y0, txA x] (.d (.v (.bool (txOkB ⟨m0, w0, p0, u0, y0⟩ x)))) := by
  rw [txOk_parts]
  obtain ⟨n, a, fl, s, qu, q, t, h, c, d⟩ := x
  have e1 : (((fl.map datD).length : Nat) : Int) = (fl.length : Int) := by rw [List.length_map]
  have e2 : (((qu.map datD).length : Nat) : Int) = (qu.length : Int) := by rw [List.length_map]
  simp only
  rw [← e1, ← e2]
  obtain ⟨nb, hnb⟩ : ∃ nb, nb = (decide (farF a n = (((fl.map datD).length : Nat) : Int)) && decide (numI c = a)) := ⟨_, rfl⟩
  obtain ⟨cb, hcb⟩ : ∃ cb, cb = (inB (((fl.map datD).length : Nat) : Int) 0 w0 && (inB s 0 (((fl.map datD).length : Nat) : Int) && (inB (((qu.map datD).length : Nat) : Int) 0 24 && (inB t 0 y0 && inB c 0 9999)))) := ⟨_, rfl⟩
  rw [← hnb, ← hcb]
  refine Spec.intro (n := 76) (rv := [.tmp 4]) Try.func14 rfl rfl rfl (by simp) fun C hN hX => ?_
  have hL : ∃ L : Nat, L = (fl.map datD).length := ⟨_, rfl⟩
  refine AW.seq ?_
  apply AW.list
  apply Wk.bx 2 rfl rfl (lt_of_ble rfl)
  apply Wk.bx 3 rfl rfl (lt_of_ble rfl)
  apply Wk.asg (by conv => lhs; whnf) (lt_of_ble rfl)
  refine Wk.nil ?_
  refine AW.seq ?_
  apply AW.list
  apply Wk.fad 2 0 false fd33_2 rfl (lt_of_ble rfl)
  apply Wk.ld (i := 3) 1 false ty31 rfl rfl (by conv => lhs; whnf) (lt_of_ble rfl)
  apply Wk.len un31 rfl (lt_of_ble rfl)
  apply Wk.asg (by conv => lhs; whnf) (lt_of_ble rfl)
  refine Wk.nil ?_
  refine AW.via (fun b : Bool => St.of 76 [(2, .ptr 2 0), (3, .ptr 3 0), (5, .d (.v (.int .i64 (((fl.map datD).length : Nat) : Int)))), (6, .d (.v (.bool b)))] [(2, .var [.d (.v (.int .i64 m0)), .d (.v (.int .i64 w0)), .d (.v (.int .i64 p0)), .d (.v (.int .i64 u0)), .d (.v (.int .i64 y0))]), (3, .var [.d (.v (.int .i64 n)), .d (.v (.int .i64 a)), .d (partsD fl), .d (.v (.int .i64 s)), .d (partsD qu), .d (.v (.bool q)), .d (.v (.int .i64 t)), .d (.v (.bool h)), .d (.v (.int .i64 c)), .d (.v (.bool d))])]) (fun b => b = nb) ?_ ?_
  · by_cases c1 : farF a n = (((fl.map datD).length : Nat) : Int)
    · by_cases c2 : numI c = a
      · skip
        apply AW.draw (hm := hmix) (cs := _)
        · apply Wk.fad 1 0 false fd33_1 rfl (lt_of_ble rfl)
          apply Wk.ld (i := 3) 1 false ty3 rfl rfl (by conv => lhs; whnf) (lt_of_ble rfl)
          apply Wk.fad 0 0 false fd33_0 rfl (lt_of_ble rfl)
          apply Wk.ld (i := 3) 1 false ty3 rfl rfl (by conv => lhs; whnf) (lt_of_ble rfl)
          apply Wk.dat (ifarb a n) Try.func45 rfl rfl rfl rfl rfl (lt_of_ble rfl)
          apply Wk.mv (by conv => lhs; whnf) (lt_of_ble rfl)
          apply Wk.bin rfl rfl (r := .bool true) (fun w => by simp [go_sem, -List.length_map, c1]) (lt_of_ble rfl)
          apply Wk.mv (by conv => lhs; whnf) (lt_of_ble rfl)
          apply Wk.gon 18 rfl rfl
          apply Wk.fad 8 0 false fd33_8 rfl (lt_of_ble rfl)
          apply Wk.gon 18 rfl rfl
          apply Wk.ld (i := 3) 1 false ty3 rfl rfl (by conv => lhs; whnf) (lt_of_ble rfl)
          apply Wk.gon 18 rfl rfl
          apply Wk.dat (inum_ok c) Try.func46 rfl rfl rfl rfl rfl (lt_of_ble rfl)
          apply Wk.gon 18 rfl rfl
          apply Wk.fad 1 0 false fd33_1 rfl (lt_of_ble rfl)
          apply Wk.gon 18 rfl rfl
          apply Wk.ld (i := 3) 1 false ty3 rfl rfl (by conv => lhs; whnf) (lt_of_ble rfl)
          apply Wk.gon 18 rfl rfl
          apply Wk.bin rfl rfl (r := .bool true) (fun w => by simp [go_sem, c2]) (lt_of_ble rfl)
          apply Wk.pckT rfl (by conv => lhs; whnf) (lt_of_ble rfl)
          apply Wk.asg (by conv => lhs; whnf) (lt_of_ble rfl)
          refine Wk.nil (thenA_normal ?_)
          exact ⟨true, by rw [hnb, decide_eq_true c1, decide_eq_true c2]; rfl, fun a w => Rel.keep ⟨rfl, (.cons rfl rfl (.cons rfl rfl (.cons rfl rfl (.cons rfl rfl .nil)))), .cons rfl rfl (.cons rfl rfl .nil), hN.mono (by simp [keys])⟩⟩
        · rfl
        · rfl
      · skip
        apply AW.draw (hm := hmix) (cs := _)
        · apply Wk.fad 1 0 false fd33_1 rfl (lt_of_ble rfl)
          apply Wk.ld (i := 3) 1 false ty3 rfl rfl (by conv => lhs; whnf) (lt_of_ble rfl)
          apply Wk.fad 0 0 false fd33_0 rfl (lt_of_ble rfl)
          apply Wk.ld (i := 3) 1 false ty3 rfl rfl (by conv => lhs; whnf) (lt_of_ble rfl)
          apply Wk.dat (ifarb a n) Try.func45 rfl rfl rfl rfl rfl (lt_of_ble rfl)
          apply Wk.mv (by conv => lhs; whnf) (lt_of_ble rfl)
          apply Wk.bin rfl rfl (r := .bool true) (fun w => by simp [go_sem, -List.length_map, c1]) (lt_of_ble rfl)
          apply Wk.mv (by conv => lhs; whnf) (lt_of_ble rfl)
          apply Wk.gon 18 rfl rfl
          apply Wk.fad 8 0 false fd33_8 rfl (lt_of_ble rfl)
          apply Wk.gon 18 rfl rfl
          apply Wk.ld (i := 3) 1 false ty3 rfl rfl (by conv => lhs; whnf) (lt_of_ble rfl)
          apply Wk.gon 18 rfl rfl
          apply Wk.dat (inum_ok c) Try.func46 rfl rfl rfl rfl rfl (lt_of_ble rfl)
          apply Wk.gon 18 rfl rfl
          apply Wk.fad 1 0 false fd33_1 rfl (lt_of_ble rfl)
          apply Wk.gon 18 rfl rfl
          apply Wk.ld (i := 3) 1 false ty3 rfl rfl (by conv => lhs; whnf) (lt_of_ble rfl)
          apply Wk.gon 18 rfl rfl
          apply Wk.bin rfl rfl (r := .bool false) (fun w => by simp [go_sem, c2]) (lt_of_ble rfl)
          apply Wk.pckT rfl (by conv => lhs; whnf) (lt_of_ble rfl)
          apply Wk.asg (by conv => lhs; whnf) (lt_of_ble rfl)
          refine Wk.nil (thenA_normal ?_)
          exact ⟨false, by rw [hnb, decide_eq_true c1, decide_eq_false c2]; rfl, fun a w => Rel.keep ⟨rfl, (.cons rfl rfl (.cons rfl rfl (.cons rfl rfl (.cons rfl rfl .nil)))), .cons rfl rfl (.cons rfl rfl .nil), hN.mono (by simp [keys])⟩⟩
        · rfl
        · rfl
    · skip
      apply AW.draw (hm := hmix) (cs := _)
      · apply Wk.fad 1 0 false fd33_1 rfl (lt_of_ble rfl)
        apply Wk.ld (i := 3) 1 false ty3 rfl rfl (by conv => lhs; whnf) (lt_of_ble rfl)
        apply Wk.fad 0 0 false fd33_0 rfl (lt_of_ble rfl)
        apply Wk.ld (i := 3) 1 false ty3 rfl rfl (by conv => lhs; whnf) (lt_of_ble rfl)
        apply Wk.dat (ifarb a n) Try.func45 rfl rfl rfl rfl rfl (lt_of_ble rfl)
        apply Wk.mv (by conv => lhs; whnf) (lt_of_ble rfl)
        apply Wk.bin rfl rfl (r := .bool false) (fun w => by simp [go_sem, -List.length_map, c1]) (lt_of_ble rfl)
        apply Wk.mv (by conv => lhs; whnf) (lt_of_ble rfl)
        apply Wk.goff 18 (ok_faddr fd33_8) rfl rfl (by simp)
        apply Wk.goff 18 (ok_load 3 ty3) rfl rfl (by simp)
        apply Wk.goff 18 (ok_datw ((inum_ok c).w rfl) Try.func46 rfl rfl) rfl rfl (by simp)
        apply Wk.goff 18 (ok_faddr fd33_1) rfl rfl (by simp)
        apply Wk.goff 18 (ok_load 3 ty3) rfl rfl (by simp)
        apply Wk.goff 18 (ok_bin _ _ _ _ _) rfl rfl (by simp)
        apply Wk.pckF rfl (by conv => lhs; whnf) (lt_of_ble rfl)
        apply Wk.asg (by conv => lhs; whnf) (lt_of_ble rfl)
        refine Wk.nil (thenA_normal ?_)
        exact ⟨false, by rw [hnb, decide_eq_false c1]; rfl, fun a w => Rel.keep ⟨rfl, (.cons rfl rfl (.cons rfl rfl (.cons rfl rfl (.cons rfl rfl .nil)))), .cons rfl rfl (.cons rfl rfl .nil), hN.mono (by simp [keys])⟩⟩
      · rfl
      · rfl
  rintro nb' rfl
  refine AW.via (fun b : Bool => St.of 76 [(2, .ptr 2 0), (3, .ptr 3 0), (5, .d (.v (.int .i64 (((fl.map datD).length : Nat) : Int)))), (6, .d (.v (.bool nb'))), (7, .d (.v (.bool b)))] [(2, .var [.d (.v (.int .i64 m0)), .d (.v (.int .i64 w0)), .d (.v (.int .i64 p0)), .d (.v (.int .i64 u0)), .d (.v (.int .i64 y0))]), (3, .var [.d (.v (.int .i64 n)), .d (.v (.int .i64 a)), .d (partsD fl), .d (.v (.int .i64 s)), .d (partsD qu), .d (.v (.bool q)), .d (.v (.int .i64 t)), .d (.v (.bool h)), .d (.v (.int .i64 c)), .d (.v (.bool d))])]) (fun b => b = cb) ?_ ?_
  · skip
    cases k0 : inB (((fl.map datD).length : Nat) : Int) 0 w0
    · skip
      apply AW.list
      apply Wk.mv (by conv => lhs; whnf) (lt_of_ble rfl)
      apply Wk.fad 1 0 false fd29_1 rfl (lt_of_ble rfl)
      apply Wk.ld (i := 2) 1 false ty3 rfl rfl (by conv => lhs; whnf) (lt_of_ble rfl)
      apply Wk.dat (inoneb k0) Try.func47 rfl rfl rfl rfl rfl (lt_of_ble rfl)
      apply Wk.mv (by conv => lhs; whnf) (lt_of_ble rfl)
      apply Wk.goff 30 (ok_faddr fd33_3) rfl rfl (by simp)
      apply Wk.goff 30 (ok_load 3 ty3) rfl rfl (by simp)
      apply Wk.goff 30 (ok_move _) rfl rfl (by simp)
      apply Wk.goff 30 (ok_datw ((inoneb (n := 0) (hi := 0) rfl).w rfl) Try.func47 rfl rfl) rfl rfl (by simp)
      apply Wk.pckF rfl (by conv => lhs; whnf) (lt_of_ble rfl)
      apply Wk.mv (by conv => lhs; whnf) (lt_of_ble rfl)
      apply Wk.goff 36 (ok_faddr fd33_4) rfl rfl (by simp)
      apply Wk.goff 36 (ok_load 3 ty31) rfl rfl (by simp)
      apply Wk.goff 36 (ok_len un31) rfl rfl (by simp)
      apply Wk.goff 36 (ok_datw ((inoneb (n := 0) (hi := 0) rfl).w rfl) Try.func47 rfl rfl) rfl rfl (by simp)
      apply Wk.pckF rfl (by conv => lhs; whnf) (lt_of_ble rfl)
      apply Wk.mv (by conv => lhs; whnf) (lt_of_ble rfl)
      apply Wk.goff 42 (ok_faddr fd33_6) rfl rfl (by simp)
      apply Wk.goff 42 (ok_load 3 ty3) rfl rfl (by simp)
      apply Wk.goff 42 (ok_faddr fd29_4) rfl rfl (by simp)
      apply Wk.goff 42 (ok_load 2 ty3) rfl rfl (by simp)
      apply Wk.goff 42 (ok_datw ((inoneb (n := 0) (hi := 0) rfl).w rfl) Try.func47 rfl rfl) rfl rfl (by simp)
      apply Wk.pckF rfl (by conv => lhs; whnf) (lt_of_ble rfl)
      apply Wk.mv (by conv => lhs; whnf) (lt_of_ble rfl)
      apply Wk.goff 49 (ok_faddr fd33_8) rfl rfl (by simp)
      apply Wk.goff 49 (ok_load 3 ty3) rfl rfl (by simp)
      apply Wk.goff 49 (ok_datw ((inoneb (n := 0) (hi := 0) rfl).w rfl) Try.func47 rfl rfl) rfl rfl (by simp)
      apply Wk.pckF rfl (by conv => lhs; whnf) (lt_of_ble rfl)
      apply Wk.asg (by conv => lhs; whnf) (lt_of_ble rfl)
      refine Wk.nil (thenA_normal ?_)
      exact ⟨false, by rw [hcb, k0]; rfl, fun a w => Rel.keep ⟨rfl, (.cons rfl rfl (.cons rfl rfl (.cons rfl rfl (.cons rfl rfl (.cons rfl rfl .nil))))), .cons rfl rfl (.cons rfl rfl .nil), hN.mono (by simp [keys])⟩⟩
    · skip
      cases k1 : inB s 0 (((fl.map datD).length : Nat) : Int)
      · skip
        apply AW.list
        apply Wk.mv (by conv => lhs; whnf) (lt_of_ble rfl)
        apply Wk.fad 1 0 false fd29_1 rfl (lt_of_ble rfl)
        apply Wk.ld (i := 2) 1 false ty3 rfl rfl (by conv => lhs; whnf) (lt_of_ble rfl)
        apply Wk.dat (inoneb k0) Try.func47 rfl rfl rfl rfl rfl (lt_of_ble rfl)
        apply Wk.mv (by conv => lhs; whnf) (lt_of_ble rfl)
        apply Wk.gon 30 rfl rfl
        apply Wk.fad 3 0 false fd33_3 rfl (lt_of_ble rfl)
        apply Wk.gon 30 rfl rfl
        apply Wk.ld (i := 3) 1 false ty3 rfl rfl (by conv => lhs; whnf) (lt_of_ble rfl)
        apply Wk.gon 30 rfl rfl
        apply Wk.mv (by conv => lhs; whnf) (lt_of_ble rfl)
        apply Wk.gon 30 rfl rfl
        apply Wk.dat (inoneb k1) Try.func47 rfl rfl rfl rfl rfl (lt_of_ble rfl)
        apply Wk.pckT rfl (by conv => lhs; whnf) (lt_of_ble rfl)
        apply Wk.mv (by conv => lhs; whnf) (lt_of_ble rfl)
        apply Wk.goff 36 (ok_faddr fd33_4) rfl rfl (by simp)
        apply Wk.goff 36 (ok_load 3 ty31) rfl rfl (by simp)
        apply Wk.goff 36 (ok_len un31) rfl rfl (by simp)
        apply Wk.goff 36 (ok_datw ((inoneb (n := 0) (hi := 0) rfl).w rfl) Try.func47 rfl rfl) rfl rfl (by simp)
        apply Wk.pckF rfl (by conv => lhs; whnf) (lt_of_ble rfl)
        apply Wk.mv (by conv => lhs; whnf) (lt_of_ble rfl)
        apply Wk.goff 42 (ok_faddr fd33_6) rfl rfl (by simp)
        apply Wk.goff 42 (ok_load 3 ty3) rfl rfl (by simp)
        apply Wk.goff 42 (ok_faddr fd29_4) rfl rfl (by simp)
        apply Wk.goff 42 (ok_load 2 ty3) rfl rfl (by simp)
        apply Wk.goff 42 (ok_datw ((inoneb (n := 0) (hi := 0) rfl).w rfl) Try.func47 rfl rfl) rfl rfl (by simp)
        apply Wk.pckF rfl (by conv => lhs; whnf) (lt_of_ble rfl)
        apply Wk.mv (by conv => lhs; whnf) (lt_of_ble rfl)
        apply Wk.goff 49 (ok_faddr fd33_8) rfl rfl (by simp)
        apply Wk.goff 49 (ok_load 3 ty3) rfl rfl (by simp)
        apply Wk.goff 49 (ok_datw ((inoneb (n := 0) (hi := 0) rfl).w rfl) Try.func47 rfl rfl) rfl rfl (by simp)
        apply Wk.pckF rfl (by conv => lhs; whnf) (lt_of_ble rfl)
        apply Wk.asg (by conv => lhs; whnf) (lt_of_ble rfl)
        refine Wk.nil (thenA_normal ?_)
        exact ⟨false, by rw [hcb, k0, k1]; rfl, fun a w => Rel.keep ⟨rfl, (.cons rfl rfl (.cons rfl rfl (.cons rfl rfl (.cons rfl rfl (.cons rfl rfl .nil))))), .cons rfl rfl (.cons rfl rfl .nil), hN.mono (by simp [keys])⟩⟩
      · skip
        cases k2 : inB (((qu.map datD).length : Nat) : Int) 0 24
        · skip
          apply AW.list
          apply Wk.mv (by conv => lhs; whnf) (lt_of_ble rfl)
          apply Wk.fad 1 0 false fd29_1 rfl (lt_of_ble rfl)
          apply Wk.ld (i := 2) 1 false ty3 rfl rfl (by conv => lhs; whnf) (lt_of_ble rfl)
          apply Wk.dat (inoneb k0) Try.func47 rfl rfl rfl rfl rfl (lt_of_ble rfl)
          apply Wk.mv (by conv => lhs; whnf) (lt_of_ble rfl)
          apply Wk.gon 30 rfl rfl
          apply Wk.fad 3 0 false fd33_3 rfl (lt_of_ble rfl)
          apply Wk.gon 30 rfl rfl
          apply Wk.ld (i := 3) 1 false ty3 rfl rfl (by conv => lhs; whnf) (lt_of_ble rfl)
          apply Wk.gon 30 rfl rfl
          apply Wk.mv (by conv => lhs; whnf) (lt_of_ble rfl)
          apply Wk.gon 30 rfl rfl
          apply Wk.dat (inoneb k1) Try.func47 rfl rfl rfl rfl rfl (lt_of_ble rfl)
          apply Wk.pckT rfl (by conv => lhs; whnf) (lt_of_ble rfl)
          apply Wk.mv (by conv => lhs; whnf) (lt_of_ble rfl)
          apply Wk.gon 36 rfl rfl
          apply Wk.fad 4 0 false fd33_4 rfl (lt_of_ble rfl)
          apply Wk.gon 36 rfl rfl
          apply Wk.ld (i := 3) 1 false ty31 rfl rfl (by conv => lhs; whnf) (lt_of_ble rfl)
          apply Wk.gon 36 rfl rfl
          apply Wk.len un31 rfl (lt_of_ble rfl)
          apply Wk.gon 36 rfl rfl
          apply Wk.dat (inoneb k2) Try.func47 rfl rfl rfl rfl rfl (lt_of_ble rfl)
          apply Wk.pckT rfl (by conv => lhs; whnf) (lt_of_ble rfl)
          apply Wk.mv (by conv => lhs; whnf) (lt_of_ble rfl)
          apply Wk.goff 42 (ok_faddr fd33_6) rfl rfl (by simp)
          apply Wk.goff 42 (ok_load 3 ty3) rfl rfl (by simp)
          apply Wk.goff 42 (ok_faddr fd29_4) rfl rfl (by simp)
          apply Wk.goff 42 (ok_load 2 ty3) rfl rfl (by simp)
          apply Wk.goff 42 (ok_datw ((inoneb (n := 0) (hi := 0) rfl).w rfl) Try.func47 rfl rfl) rfl rfl (by simp)
          apply Wk.pckF rfl (by conv => lhs; whnf) (lt_of_ble rfl)
          apply Wk.mv (by conv => lhs; whnf) (lt_of_ble rfl)
          apply Wk.goff 49 (ok_faddr fd33_8) rfl rfl (by simp)
          apply Wk.goff 49 (ok_load 3 ty3) rfl rfl (by simp)
          apply Wk.goff 49 (ok_datw ((inoneb (n := 0) (hi := 0) rfl).w rfl) Try.func47 rfl rfl) rfl rfl (by simp)
          apply Wk.pckF rfl (by conv => lhs; whnf) (lt_of_ble rfl)
          apply Wk.asg (by conv => lhs; whnf) (lt_of_ble rfl)
          refine Wk.nil (thenA_normal ?_)
          exact ⟨false, by rw [hcb, k0, k1, k2]; rfl, fun a w => Rel.keep ⟨rfl, (.cons rfl rfl (.cons rfl rfl (.cons rfl rfl (.cons rfl rfl (.cons rfl rfl .nil))))), .cons rfl rfl (.cons rfl rfl .nil), hN.mono (by simp [keys])⟩⟩
        · skip
          cases k3 : inB t 0 y0
          · skip
            apply AW.list
            apply Wk.mv (by conv => lhs; whnf) (lt_of_ble rfl)
            apply Wk.fad 1 0 false fd29_1 rfl (lt_of_ble rfl)
            apply Wk.ld (i := 2) 1 false ty3 rfl rfl (by conv => lhs; whnf) (lt_of_ble rfl)
            apply Wk.dat (inoneb k0) Try.func47 rfl rfl rfl rfl rfl (lt_of_ble rfl)
            apply Wk.mv (by conv => lhs; whnf) (lt_of_ble rfl)
            apply Wk.gon 30 rfl rfl
            apply Wk.fad 3 0 false fd33_3 rfl (lt_of_ble rfl)
            apply Wk.gon 30 rfl rfl
            apply Wk.ld (i := 3) 1 false ty3 rfl rfl (by conv => lhs; whnf) (lt_of_ble rfl)
            apply Wk.gon 30 rfl rfl
            apply Wk.mv (by conv => lhs; whnf) (lt_of_ble rfl)
            apply Wk.gon 30 rfl rfl
            apply Wk.dat (inoneb k1) Try.func47 rfl rfl rfl rfl rfl (lt_of_ble rfl)
            apply Wk.pckT rfl (by conv => lhs; whnf) (lt_of_ble rfl)
            apply Wk.mv (by conv => lhs; whnf) (lt_of_ble rfl)
            apply Wk.gon 36 rfl rfl
            apply Wk.fad 4 0 false fd33_4 rfl (lt_of_ble rfl)
            apply Wk.gon 36 rfl rfl
            apply Wk.ld (i := 3) 1 false ty31 rfl rfl (by conv => lhs; whnf) (lt_of_ble rfl)
            apply Wk.gon 36 rfl rfl
            apply Wk.len un31 rfl (lt_of_ble rfl)
            apply Wk.gon 36 rfl rfl
            apply Wk.dat (inoneb k2) Try.func47 rfl rfl rfl rfl rfl (lt_of_ble rfl)
            apply Wk.pckT rfl (by conv => lhs; whnf) (lt_of_ble rfl)
            apply Wk.mv (by conv => lhs; whnf) (lt_of_ble rfl)
            apply Wk.gon 42 rfl rfl
            apply Wk.fad 6 0 false fd33_6 rfl (lt_of_ble rfl)
            apply Wk.gon 42 rfl rfl
            apply Wk.ld (i := 3) 1 false ty3 rfl rfl (by conv => lhs; whnf) (lt_of_ble rfl)
            apply Wk.gon 42 rfl rfl
            apply Wk.fad 4 0 false fd29_4 rfl (lt_of_ble rfl)
            apply Wk.gon 42 rfl rfl
            apply Wk.ld (i := 2) 1 false ty3 rfl rfl (by conv => lhs; whnf) (lt_of_ble rfl)
            apply Wk.gon 42 rfl rfl
            apply Wk.dat (inoneb k3) Try.func47 rfl rfl rfl rfl rfl (lt_of_ble rfl)
            apply Wk.pckT rfl (by conv => lhs; whnf) (lt_of_ble rfl)
            apply Wk.mv (by conv => lhs; whnf) (lt_of_ble rfl)
            apply Wk.goff 49 (ok_faddr fd33_8) rfl rfl (by simp)
            apply Wk.goff 49 (ok_load 3 ty3) rfl rfl (by simp)
            apply Wk.goff 49 (ok_datw ((inoneb (n := 0) (hi := 0) rfl).w rfl) Try.func47 rfl rfl) rfl rfl (by simp)
            apply Wk.pckF rfl (by conv => lhs; whnf) (lt_of_ble rfl)
            apply Wk.asg (by conv => lhs; whnf) (lt_of_ble rfl)
            refine Wk.nil (thenA_normal ?_)
            exact ⟨false, by rw [hcb, k0, k1, k2, k3]; rfl, fun a w => Rel.keep ⟨rfl, (.cons rfl rfl (.cons rfl rfl (.cons rfl rfl (.cons rfl rfl (.cons rfl rfl .nil))))), .cons rfl rfl (.cons rfl rfl .nil), hN.mono (by simp [keys])⟩⟩
          · skip
            cases k4 : inB c 0 9999
            · skip
              apply AW.list
              apply Wk.mv (by conv => lhs; whnf) (lt_of_ble rfl)
              apply Wk.fad 1 0 false fd29_1 rfl (lt_of_ble rfl)
              apply Wk.ld (i := 2) 1 false ty3 rfl rfl (by conv => lhs; whnf) (lt_of_ble rfl)
              apply Wk.dat (inoneb k0) Try.func47 rfl rfl rfl rfl rfl (lt_of_ble rfl)
              apply Wk.mv (by conv => lhs; whnf) (lt_of_ble rfl)
              apply Wk.gon 30 rfl rfl
              apply Wk.fad 3 0 false fd33_3 rfl (lt_of_ble rfl)
              apply Wk.gon 30 rfl rfl
              apply Wk.ld (i := 3) 1 false ty3 rfl rfl (by conv => lhs; whnf) (lt_of_ble rfl)
              apply Wk.gon 30 rfl rfl
              apply Wk.mv (by conv => lhs; whnf) (lt_of_ble rfl)
              apply Wk.gon 30 rfl rfl
              apply Wk.dat (inoneb k1) Try.func47 rfl rfl rfl rfl rfl (lt_of_ble rfl)
              apply Wk.pckT rfl (by conv => lhs; whnf) (lt_of_ble rfl)
              apply Wk.mv (by conv => lhs; whnf) (lt_of_ble rfl)
              apply Wk.gon 36 rfl rfl
              apply Wk.fad 4 0 false fd33_4 rfl (lt_of_ble rfl)
              apply Wk.gon 36 rfl rfl
              apply Wk.ld (i := 3) 1 false ty31 rfl rfl (by conv => lhs; whnf) (lt_of_ble rfl)
              apply Wk.gon 36 rfl rfl
              apply Wk.len un31 rfl (lt_of_ble rfl)
              apply Wk.gon 36 rfl rfl
              apply Wk.dat (inoneb k2) Try.func47 rfl rfl rfl rfl rfl (lt_of_ble rfl)
              apply Wk.pckT rfl (by conv => lhs; whnf) (lt_of_ble rfl)
              apply Wk.mv (by conv => lhs; whnf) (lt_of_ble rfl)
              apply Wk.gon 42 rfl rfl
              apply Wk.fad 6 0 false fd33_6 rfl (lt_of_ble rfl)
              apply Wk.gon 42 rfl rfl
              apply Wk.ld (i := 3) 1 false ty3 rfl rfl (by conv => lhs; whnf) (lt_of_ble rfl)
              apply Wk.gon 42 rfl rfl
              apply Wk.fad 4 0 false fd29_4 rfl (lt_of_ble rfl)
              apply Wk.gon 42 rfl rfl
              apply Wk.ld (i := 2) 1 false ty3 rfl rfl (by conv => lhs; whnf) (lt_of_ble rfl)
              apply Wk.gon 42 rfl rfl
              apply Wk.dat (inoneb k3) Try.func47 rfl rfl rfl rfl rfl (lt_of_ble rfl)
              apply Wk.pckT rfl (by conv => lhs; whnf) (lt_of_ble rfl)
              apply Wk.mv (by conv => lhs; whnf) (lt_of_ble rfl)
              apply Wk.gon 49 rfl rfl
              apply Wk.fad 8 0 false fd33_8 rfl (lt_of_ble rfl)
              apply Wk.gon 49 rfl rfl
              apply Wk.ld (i := 3) 1 false ty3 rfl rfl (by conv => lhs; whnf) (lt_of_ble rfl)
              apply Wk.gon 49 rfl rfl
              apply Wk.dat (inoneb k4) Try.func47 rfl rfl rfl rfl rfl (lt_of_ble rfl)
              apply Wk.pckT rfl (by conv => lhs; whnf) (lt_of_ble rfl)
              apply Wk.asg (by conv => lhs; whnf) (lt_of_ble rfl)
              refine Wk.nil (thenA_normal ?_)
              exact ⟨false, by rw [hcb, k0, k1, k2, k3, k4]; rfl, fun a w => Rel.keep ⟨rfl, (.cons rfl rfl (.cons rfl rfl (.cons rfl rfl (.cons rfl rfl (.cons rfl rfl .nil))))), .cons rfl rfl (.cons rfl rfl .nil), hN.mono (by simp [keys])⟩⟩
            · skip
              apply AW.list
              apply Wk.mv (by conv => lhs; whnf) (lt_of_ble rfl)
              apply Wk.fad 1 0 false fd29_1 rfl (lt_of_ble rfl)
              apply Wk.ld (i := 2) 1 false ty3 rfl rfl (by conv => lhs; whnf) (lt_of_ble rfl)
              apply Wk.dat (inoneb k0) Try.func47 rfl rfl rfl rfl rfl (lt_of_ble rfl)
              apply Wk.mv (by conv => lhs; whnf) (lt_of_ble rfl)
              apply Wk.gon 30 rfl rfl
              apply Wk.fad 3 0 false fd33_3 rfl (lt_of_ble rfl)
              apply Wk.gon 30 rfl rfl
              apply Wk.ld (i := 3) 1 false ty3 rfl rfl (by conv => lhs; whnf) (lt_of_ble rfl)
              apply Wk.gon 30 rfl rfl
              apply Wk.mv (by conv => lhs; whnf) (lt_of_ble rfl)
              apply Wk.gon 30 rfl rfl
              apply Wk.dat (inoneb k1) Try.func47 rfl rfl rfl rfl rfl (lt_of_ble rfl)
              apply Wk.pckT rfl (by conv => lhs; whnf) (lt_of_ble rfl)
              apply Wk.mv (by conv => lhs; whnf) (lt_of_ble rfl)
              apply Wk.gon 36 rfl rfl
              apply Wk.fad 4 0 false fd33_4 rfl (lt_of_ble rfl)
              apply Wk.gon 36 rfl rfl
              apply Wk.ld (i := 3) 1 false ty31 rfl rfl (by conv => lhs; whnf) (lt_of_ble rfl)
              apply Wk.gon 36 rfl rfl
              apply Wk.len un31 rfl (lt_of_ble rfl)
              apply Wk.gon 36 rfl rfl
              apply Wk.dat (inoneb k2) Try.func47 rfl rfl rfl rfl rfl (lt_of_ble rfl)
              apply Wk.pckT rfl (by conv => lhs; whnf) (lt_of_ble rfl)
              apply Wk.mv (by conv => lhs; whnf) (lt_of_ble rfl)
              apply Wk.gon 42 rfl rfl
              apply Wk.fad 6 0 false fd33_6 rfl (lt_of_ble rfl)
              apply Wk.gon 42 rfl rfl
              apply Wk.ld (i := 3) 1 false ty3 rfl rfl (by conv => lhs; whnf) (lt_of_ble rfl)
              apply Wk.gon 42 rfl rfl
              apply Wk.fad 4 0 false fd29_4 rfl (lt_of_ble rfl)
              apply Wk.gon 42 rfl rfl
              apply Wk.ld (i := 2) 1 false ty3 rfl rfl (by conv => lhs; whnf) (lt_of_ble rfl)
              apply Wk.gon 42 rfl rfl
              apply Wk.dat (inoneb k3) Try.func47 rfl rfl rfl rfl rfl (lt_of_ble rfl)
              apply Wk.pckT rfl (by conv => lhs; whnf) (lt_of_ble rfl)
              apply Wk.mv (by conv => lhs; whnf) (lt_of_ble rfl)
              apply Wk.gon 49 rfl rfl
              apply Wk.fad 8 0 false fd33_8 rfl (lt_of_ble rfl)
              apply Wk.gon 49 rfl rfl
              apply Wk.ld (i := 3) 1 false ty3 rfl rfl (by conv => lhs; whnf) (lt_of_ble rfl)
              apply Wk.gon 49 rfl rfl
              apply Wk.dat (inoneb k4) Try.func47 rfl rfl rfl rfl rfl (lt_of_ble rfl)
              apply Wk.pckT rfl (by conv => lhs; whnf) (lt_of_ble rfl)
              apply Wk.asg (by conv => lhs; whnf) (lt_of_ble rfl)
              refine Wk.nil (thenA_normal ?_)
              exact ⟨true, by rw [hcb, k0, k1, k2, k3, k4]; rfl, fun a w => Rel.keep ⟨rfl, (.cons rfl rfl (.cons rfl rfl (.cons rfl rfl (.cons rfl rfl (.cons rfl rfl .nil))))), .cons rfl rfl (.cons rfl rfl .nil), hN.mono (by simp [keys])⟩⟩
  rintro cb' rfl
  refine AW.seq ?_
  clear hnb hcb
  cases h0 : Opt.ok ⟨m0, w0, p0, u0, y0⟩
  · skip
    apply AW.list
    apply Wk.ld (i := 2) 5 true ty29 rfl rfl (by conv => lhs; whnf) (lt_of_ble rfl)
    apply Wk.dat (icfgb h0) Try.func48 rfl rfl rfl rfl rfl (lt_of_ble rfl)
    apply Wk.mv (by conv => lhs; whnf) (lt_of_ble rfl)
    apply Wk.goff 56 (ok_move _) rfl rfl (by simp)
    apply Wk.pckF rfl (by conv => lhs; whnf) (lt_of_ble rfl)
    apply Wk.mv (by conv => lhs; whnf) (lt_of_ble rfl)
    apply Wk.goff 59 (ok_move _) rfl rfl (by simp)
    apply Wk.pckF rfl (by conv => lhs; whnf) (lt_of_ble rfl)
    apply Wk.mv (by conv => lhs; whnf) (lt_of_ble rfl)
    apply Wk.goff 62 (ok_faddr fd33_2) rfl rfl (by simp)
    apply Wk.goff 62 (ok_load 3 ty31) rfl rfl (by simp)
    apply Wk.goff 62 (ok_faddr fd29_2) rfl rfl (by simp)
    apply Wk.goff 62 (ok_load 2 ty3) rfl rfl (by simp)
    apply Wk.goff 62 (ok_datw ((ipartsb [] 0 rfl).w rfl) Try.func49 rfl rfl) rfl rfl (by simp)
    apply Wk.pckF rfl (by conv => lhs; whnf) (lt_of_ble rfl)
    apply Wk.mv (by conv => lhs; whnf) (lt_of_ble rfl)
    apply Wk.goff 69 (ok_faddr fd33_4) rfl rfl (by simp)
    apply Wk.goff 69 (ok_load 3 ty31) rfl rfl (by simp)
    apply Wk.goff 69 (ok_faddr fd29_2) rfl rfl (by simp)
    apply Wk.goff 69 (ok_load 2 ty3) rfl rfl (by simp)
    apply Wk.goff 69 (ok_datw ((ipartsb [] 0 rfl).w rfl) Try.func49 rfl rfl) rfl rfl (by simp)
    apply Wk.pckF rfl (by conv => lhs; whnf) (lt_of_ble rfl)
    apply Wk.asg (by conv => lhs; whnf) (lt_of_ble rfl)
    refine Wk.nil (AW.ret ?_)
    exact RetQ.ret [] (.cons rfl .nil) ⟨rfl, rfl⟩ none_kept
  · skip
    cases nb'
    · skip
      apply AW.list
      apply Wk.ld (i := 2) 5 true ty29 rfl rfl (by conv => lhs; whnf) (lt_of_ble rfl)
      apply Wk.dat (icfgb h0) Try.func48 rfl rfl rfl rfl rfl (lt_of_ble rfl)
      apply Wk.mv (by conv => lhs; whnf) (lt_of_ble rfl)
      apply Wk.gon 56 rfl rfl
      apply Wk.mv (by conv => lhs; whnf) (lt_of_ble rfl)
      apply Wk.pckT rfl (by conv => lhs; whnf) (lt_of_ble rfl)
      apply Wk.mv (by conv => lhs; whnf) (lt_of_ble rfl)
      apply Wk.goff 59 (ok_move _) rfl rfl (by simp)
      apply Wk.pckF rfl (by conv => lhs; whnf) (lt_of_ble rfl)
      apply Wk.mv (by conv => lhs; whnf) (lt_of_ble rfl)
      apply Wk.goff 62 (ok_faddr fd33_2) rfl rfl (by simp)
      apply Wk.goff 62 (ok_load 3 ty31) rfl rfl (by simp)
      apply Wk.goff 62 (ok_faddr fd29_2) rfl rfl (by simp)
      apply Wk.goff 62 (ok_load 2 ty3) rfl rfl (by simp)
      apply Wk.goff 62 (ok_datw ((ipartsb [] 0 rfl).w rfl) Try.func49 rfl rfl) rfl rfl (by simp)
      apply Wk.pckF rfl (by conv => lhs; whnf) (lt_of_ble rfl)
      apply Wk.mv (by conv => lhs; whnf) (lt_of_ble rfl)
      apply Wk.goff 69 (ok_faddr fd33_4) rfl rfl (by simp)
      apply Wk.goff 69 (ok_load 3 ty31) rfl rfl (by simp)
      apply Wk.goff 69 (ok_faddr fd29_2) rfl rfl (by simp)
      apply Wk.goff 69 (ok_load 2 ty3) rfl rfl (by simp)
      apply Wk.goff 69 (ok_datw ((ipartsb [] 0 rfl).w rfl) Try.func49 rfl rfl) rfl rfl (by simp)
      apply Wk.pckF rfl (by conv => lhs; whnf) (lt_of_ble rfl)
      apply Wk.asg (by conv => lhs; whnf) (lt_of_ble rfl)
      refine Wk.nil (AW.ret ?_)
      exact RetQ.ret [] (.cons rfl .nil) ⟨rfl, rfl⟩ none_kept
    · skip
      cases cb'
      · skip
        apply AW.list
        apply Wk.ld (i := 2) 5 true ty29 rfl rfl (by conv => lhs; whnf) (lt_of_ble rfl)
        apply Wk.dat (icfgb h0) Try.func48 rfl rfl rfl rfl rfl (lt_of_ble rfl)
        apply Wk.mv (by conv => lhs; whnf) (lt_of_ble rfl)
        apply Wk.gon 56 rfl rfl
        apply Wk.mv (by conv => lhs; whnf) (lt_of_ble rfl)
        apply Wk.pckT rfl (by conv => lhs; whnf) (lt_of_ble rfl)
        apply Wk.mv (by conv => lhs; whnf) (lt_of_ble rfl)
        apply Wk.gon 59 rfl rfl
        apply Wk.mv (by conv => lhs; whnf) (lt_of_ble rfl)
        apply Wk.pckT rfl (by conv => lhs; whnf) (lt_of_ble rfl)
        apply Wk.mv (by conv => lhs; whnf) (lt_of_ble rfl)
        apply Wk.goff 62 (ok_faddr fd33_2) rfl rfl (by simp)
        apply Wk.goff 62 (ok_load 3 ty31) rfl rfl (by simp)
        apply Wk.goff 62 (ok_faddr fd29_2) rfl rfl (by simp)
        apply Wk.goff 62 (ok_load 2 ty3) rfl rfl (by simp)
        apply Wk.goff 62 (ok_datw ((ipartsb [] 0 rfl).w rfl) Try.func49 rfl rfl) rfl rfl (by simp)
        apply Wk.pckF rfl (by conv => lhs; whnf) (lt_of_ble rfl)
        apply Wk.mv (by conv => lhs; whnf) (lt_of_ble rfl)
        apply Wk.goff 69 (ok_faddr fd33_4) rfl rfl (by simp)
        apply Wk.goff 69 (ok_load 3 ty31) rfl rfl (by simp)
        apply Wk.goff 69 (ok_faddr fd29_2) rfl rfl (by simp)
        apply Wk.goff 69 (ok_load 2 ty3) rfl rfl (by simp)
        apply Wk.goff 69 (ok_datw ((ipartsb [] 0 rfl).w rfl) Try.func49 rfl rfl) rfl rfl (by simp)
        apply Wk.pckF rfl (by conv => lhs; whnf) (lt_of_ble rfl)
        apply Wk.asg (by conv => lhs; whnf) (lt_of_ble rfl)
        refine Wk.nil (AW.ret ?_)
        exact RetQ.ret [] (.cons rfl .nil) ⟨rfl, rfl⟩ none_kept
      · skip
        cases h3 : fl.all (partM p0)
        · skip
          apply AW.list
          apply Wk.ld (i := 2) 5 true ty29 rfl rfl (by conv => lhs; whnf) (lt_of_ble rfl)
          apply Wk.dat (icfgb h0) Try.func48 rfl rfl rfl rfl rfl (lt_of_ble rfl)
          apply Wk.mv (by conv => lhs; whnf) (lt_of_ble rfl)
          apply Wk.gon 56 rfl rfl
          apply Wk.mv (by conv => lhs; whnf) (lt_of_ble rfl)
          apply Wk.pckT rfl (by conv => lhs; whnf) (lt_of_ble rfl)
          apply Wk.mv (by conv => lhs; whnf) (lt_of_ble rfl)
          apply Wk.gon 59 rfl rfl
          apply Wk.mv (by conv => lhs; whnf) (lt_of_ble rfl)
          apply Wk.pckT rfl (by conv => lhs; whnf) (lt_of_ble rfl)
          apply Wk.mv (by conv => lhs; whnf) (lt_of_ble rfl)
          apply Wk.gon 62 rfl rfl
          apply Wk.fad 2 0 false fd33_2 rfl (lt_of_ble rfl)
          apply Wk.gon 62 rfl rfl
          apply Wk.ld (i := 3) 1 false ty31 rfl rfl (by conv => lhs; whnf) (lt_of_ble rfl)
          apply Wk.gon 62 rfl rfl
          apply Wk.fad 2 0 false fd29_2 rfl (lt_of_ble rfl)
          apply Wk.gon 62 rfl rfl
          apply Wk.ld (i := 2) 1 false ty3 rfl rfl (by conv => lhs; whnf) (lt_of_ble rfl)
          apply Wk.gon 62 rfl rfl
          apply Wk.dat (ipartsb fl p0 h3) Try.func49 rfl rfl rfl rfl rfl (lt_of_ble rfl)
          apply Wk.pckT rfl (by conv => lhs; whnf) (lt_of_ble rfl)
          apply Wk.mv (by conv => lhs; whnf) (lt_of_ble rfl)
          apply Wk.goff 69 (ok_faddr fd33_4) rfl rfl (by simp)
          apply Wk.goff 69 (ok_load 3 ty31) rfl rfl (by simp)
          apply Wk.goff 69 (ok_faddr fd29_2) rfl rfl (by simp)
          apply Wk.goff 69 (ok_load 2 ty3) rfl rfl (by simp)
          apply Wk.goff 69 (ok_datw ((ipartsb [] 0 rfl).w rfl) Try.func49 rfl rfl) rfl rfl (by simp)
          apply Wk.pckF rfl (by conv => lhs; whnf) (lt_of_ble rfl)
          apply Wk.asg (by conv => lhs; whnf) (lt_of_ble rfl)
          refine Wk.nil (AW.ret ?_)
          exact RetQ.ret [] (.cons rfl .nil) ⟨rfl, rfl⟩ none_kept
        · skip
          cases h4 : qu.all (partM p0)
          · skip
            apply AW.list
            apply Wk.ld (i := 2) 5 true ty29 rfl rfl (by conv => lhs; whnf) (lt_of_ble rfl)
            apply Wk.dat (icfgb h0) Try.func48 rfl rfl rfl rfl rfl (lt_of_ble rfl)
            apply Wk.mv (by conv => lhs; whnf) (lt_of_ble rfl)
            apply Wk.gon 56 rfl rfl
            apply Wk.mv (by conv => lhs; whnf) (lt_of_ble rfl)
            apply Wk.pckT rfl (by conv => lhs; whnf) (lt_of_ble rfl)
            apply Wk.mv (by conv => lhs; whnf) (lt_of_ble rfl)
            apply Wk.gon 59 rfl rfl
            apply Wk.mv (by conv => lhs; whnf) (lt_of_ble rfl)
            apply Wk.pckT rfl (by conv => lhs; whnf) (lt_of_ble rfl)
            apply Wk.mv (by conv => lhs; whnf) (lt_of_ble rfl)
            apply Wk.gon 62 rfl rfl
            apply Wk.fad 2 0 false fd33_2 rfl (lt_of_ble rfl)
            apply Wk.gon 62 rfl rfl
            apply Wk.ld (i := 3) 1 false ty31 rfl rfl (by conv => lhs; whnf) (lt_of_ble rfl)
            apply Wk.gon 62 rfl rfl
            apply Wk.fad 2 0 false fd29_2 rfl (lt_of_ble rfl)
            apply Wk.gon 62 rfl rfl
            apply Wk.ld (i := 2) 1 false ty3 rfl rfl (by conv => lhs; whnf) (lt_of_ble rfl)
            apply Wk.gon 62 rfl rfl
            apply Wk.dat (ipartsb fl p0 h3) Try.func49 rfl rfl rfl rfl rfl (lt_of_ble rfl)
            apply Wk.pckT rfl (by conv => lhs; whnf) (lt_of_ble rfl)
            apply Wk.mv (by conv => lhs; whnf) (lt_of_ble rfl)
            apply Wk.gon 69 rfl rfl
            apply Wk.fad 4 0 false fd33_4 rfl (lt_of_ble rfl)
            apply Wk.gon 69 rfl rfl
            apply Wk.ld (i := 3) 1 false ty31 rfl rfl (by conv => lhs; whnf) (lt_of_ble rfl)
            apply Wk.gon 69 rfl rfl
            apply Wk.fad 2 0 false fd29_2 rfl (lt_of_ble rfl)
            apply Wk.gon 69 rfl rfl
            apply Wk.ld (i := 2) 1 false ty3 rfl rfl (by conv => lhs; whnf) (lt_of_ble rfl)
            apply Wk.gon 69 rfl rfl
            apply Wk.dat (ipartsb qu p0 h4) Try.func49 rfl rfl rfl rfl rfl (lt_of_ble rfl)
            apply Wk.pckT rfl (by conv => lhs; whnf) (lt_of_ble rfl)
            apply Wk.asg (by conv => lhs; whnf) (lt_of_ble rfl)
            refine Wk.nil (AW.ret ?_)
            exact RetQ.ret [] (.cons rfl .nil) ⟨rfl, rfl⟩ none_kept
          · skip
            apply AW.list
            apply Wk.ld (i := 2) 5 true ty29 rfl rfl (by conv => lhs; whnf) (lt_of_ble rfl)
            apply Wk.dat (icfgb h0) Try.func48 rfl rfl rfl rfl rfl (lt_of_ble rfl)
            apply Wk.mv (by conv => lhs; whnf) (lt_of_ble rfl)
            apply Wk.gon 56 rfl rfl
            apply Wk.mv (by conv => lhs; whnf) (lt_of_ble rfl)
            apply Wk.pckT rfl (by conv => lhs; whnf) (lt_of_ble rfl)
            apply Wk.mv (by conv => lhs; whnf) (lt_of_ble rfl)
            apply Wk.gon 59 rfl rfl
            apply Wk.mv (by conv => lhs; whnf) (lt_of_ble rfl)
            apply Wk.pckT rfl (by conv => lhs; whnf) (lt_of_ble rfl)
            apply Wk.mv (by conv => lhs; whnf) (lt_of_ble rfl)
            apply Wk.gon 62 rfl rfl
            apply Wk.fad 2 0 false fd33_2 rfl (lt_of_ble rfl)
            apply Wk.gon 62 rfl rfl
            apply Wk.ld (i := 3) 1 false ty31 rfl rfl (by conv => lhs; whnf) (lt_of_ble rfl)
            apply Wk.gon 62 rfl rfl
            apply Wk.fad 2 0 false fd29_2 rfl (lt_of_ble rfl)
            apply Wk.gon 62 rfl rfl
            apply Wk.ld (i := 2) 1 false ty3 rfl rfl (by conv => lhs; whnf) (lt_of_ble rfl)
            apply Wk.gon 62 rfl rfl
            apply Wk.dat (ipartsb fl p0 h3) Try.func49 rfl rfl rfl rfl rfl (lt_of_ble rfl)
            apply Wk.pckT rfl (by conv => lhs; whnf) (lt_of_ble rfl)
            apply Wk.mv (by conv => lhs; whnf) (lt_of_ble rfl)
            apply Wk.gon 69 rfl rfl
            apply Wk.fad 4 0 false fd33_4 rfl (lt_of_ble rfl)
            apply Wk.gon 69 rfl rfl
            apply Wk.ld (i := 3) 1 false ty31 rfl rfl (by conv => lhs; whnf) (lt_of_ble rfl)
            apply Wk.gon 69 rfl rfl
            apply Wk.fad 2 0 false fd29_2 rfl (lt_of_ble rfl)
            apply Wk.gon 69 rfl rfl
            apply Wk.ld (i := 2) 1 false ty3 rfl rfl (by conv => lhs; whnf) (lt_of_ble rfl)
            apply Wk.gon 69 rfl rfl
            apply Wk.dat (ipartsb qu p0 h4) Try.func49 rfl rfl rfl rfl rfl (lt_of_ble rfl)
            apply Wk.pckT rfl (by conv => lhs; whnf) (lt_of_ble rfl)
            apply Wk.asg (by conv => lhs; whnf) (lt_of_ble rfl)
            refine Wk.nil (AW.ret ?_)
            exact RetQ.ret [] (.cons rfl .nil) ⟨rfl, rfl⟩ none_kept
end Go.Proofs.Ytdjadeegjbhihaa

/- Who sends for credits, over what values read as. Written by tools/mk_AbsCrdS.py. -/
namespace Go.Proofs.Ytdjadeegjbhihaa
open Go Go.RowKit
/-- Who sends for credits, as plain data. -/
structure CX where
  v : Int
  qu : List Dat
  g : Int
  s : Int
  d : Bool
def cxC (x : CX) : List A := [.d (.v (.int .i64 x.v)), .d (partsD x.qu), .d (.v (.int .i64 x.g)), .d (.v (.int .i64 x.s)), .d (.v (.bool x.d))]
def cxA (x : CX) : A := .agg [.d (.v (.int .i64 x.v)), .d (partsD x.qu), .d (.v (.int .i64 x.g)), .d (.v (.int .i64 x.s)), .d (.v (.bool x.d))]
def cxOC (x : CX) (l : Nat) : List A := [.d (.v (.int .i64 x.v)), .own 66 l, .d (.v (.int .i64 x.g)), .d (.v (.int .i64 x.s)), .d (.v (.bool x.d))]
def cxO (x : CX) (l : Nat) : A := .agg [.d (.v (.int .i64 x.v)), .own 66 l, .d (.v (.int .i64 x.g)), .d (.v (.int .i64 x.s)), .d (.v (.bool x.d))]
def cxB (qu : List Dat) (l : Nat) : List (Nat × Bx) := [(66, .own l 115 3 (piecesA qu))]
def cxN : List A := [.d (.v (.int .i64 0)), .d (.v (.slice none 0 0)), .d (.v (.int .i64 0)), .d (.v (.int .i64 0)), .d (.v (.bool false))]
def cxNil : A := .agg [.d (.v (.int .i64 0)), .d (.v (.slice none 0 0)), .d (.v (.int .i64 0)), .d (.v (.int .i64 0)), .d (.v (.bool false))]
def CX.few (x : CX) : Prop := x.qu.length ≤ 1000 ∧ ∀ d ∈ x.qu, d.2.2.length ≤ 1000
theorem in_cxB {qu : List Dat} {l q : Nat} {z : Bx} (h : (cxB qu l).lookup q = some z) : q ∈ [66] ∧ z.within [66] = true := by
  obtain ⟨rfl, rfl⟩ := lookup1 h
  exact ⟨by simp, by simp [Bx.within, within_parts]⟩
theorem in_cxO (x : CX) (l : Nat) : (cxO x l).within [66] = true := by simp [cxO, A.within, A.withins]
theorem in_cx (x : CX) (l : Nat) : PostIn [66] (fun r bs => r = cxO x l ∧ bs = cxB x.qu l) := by
  rintro r bs ⟨rfl, rfl⟩
  exact ⟨in_cxO x l, fun i z h => in_cxB h⟩
/-- Who sends for credits is ok. -/
def crdOkB (o : Opt) (x : CX) : Bool := o.ok && (inB x.v 0 255 && (decide (x.qu.length ≤ 24) && (inB x.g 0 9999 && (inB x.s 0 9999 && (decide (x.g - x.s = x.v) && x.qu.all (partM o.mps))))))
theorem crdOk_facts {o : Opt} {x : CX} (h : crdOkB o x = true) : o.ok = true ∧ (0 ≤ x.v ∧ x.v ≤ 255) ∧ x.qu.length ≤ 24 ∧ (0 ≤ x.g ∧ x.g ≤ 9999) ∧ (0 ≤ x.s ∧ x.s ≤ 9999) ∧ x.g - x.s = x.v ∧ ∀ d ∈ x.qu, partM o.mps d = true := by
  simp only [crdOkB, Bool.and_eq_true, decide_eq_true_eq, List.all_eq_true] at h
  obtain ⟨h1, h2, h3, h4, h5, h6, h7⟩ := h
  exact ⟨h1, (inB_iff _ _ _).1 h2, h3, (inB_iff _ _ _).1 h4, (inB_iff _ _ _).1 h5, h6, h7⟩
set_option maxHeartbeats 4000000 in
set_option maxRecDepth 100000 in
theorem scx_ok (m0 w0 p0 u0 y0 : Int) (x : CX) : DataOk Try.prog 19 [cfgA m0 w0 p0 u0 y0, cxA x] (.d (.v (.bool (crdOkB ⟨m0, w0, p0, u0, y0⟩ x)))) := by
  obtain ⟨v, qu, g, s, d⟩ := x
  have e2 : (((qu.map datD).length : Nat) : Int) = (qu.length : Int) := by rw [List.length_map]
  simp only [crdOkB]
  refine Spec.intro (n := 45) (rv := [.tmp 4]) Try.func19 rfl rfl rfl (by simp) fun C hN hX => ?_
  refine AW.seq ?_
  apply AW.list
  apply Wk.bx 2 rfl rfl (lt_of_ble rfl)
  apply Wk.bx 3 rfl rfl (lt_of_ble rfl)
  apply Wk.asg (by conv => lhs; whnf) (lt_of_ble rfl)
  refine Wk.nil ?_
  refine AW.seq ?_
  cases k0 : Opt.ok ⟨m0, w0, p0, u0, y0⟩
  · rw [Bool.false_and]
    apply AW.list
    apply Wk.ld (i := 2) 5 true ty29 rfl rfl (by conv => lhs; whnf) (lt_of_ble rfl)
    apply Wk.dat (scfgb k0) Try.func36 rfl rfl rfl rfl rfl (lt_of_ble rfl)
    apply Wk.mv (by conv => lhs; whnf) (lt_of_ble rfl)
    apply Wk.goff 7 (ok_faddr fd44_0) rfl rfl (by simp)
    apply Wk.goff 7 (ok_load 3 ty3) rfl rfl (by simp)
    apply Wk.goff 7 (ok_datw ((sinb (n := 0) (lo := 0) (hi := 255) rfl).w rfl) Try.func40 rfl rfl) rfl rfl (by simp)
    apply Wk.pckF rfl (by conv => lhs; whnf) (lt_of_ble rfl)
    apply Wk.mv (by conv => lhs; whnf) (lt_of_ble rfl)
    apply Wk.goff 12 (ok_faddr fd44_1) rfl rfl (by simp)
    apply Wk.goff 12 (ok_load 3 ty31) rfl rfl (by simp)
    apply Wk.goff 12 (ok_len un31) rfl rfl (by simp)
    apply Wk.goff 12 (ok_bin _ _ _ _ _) rfl rfl (by simp)
    apply Wk.pckF rfl (by conv => lhs; whnf) (lt_of_ble rfl)
    apply Wk.mv (by conv => lhs; whnf) (lt_of_ble rfl)
    apply Wk.goff 18 (ok_faddr fd44_2) rfl rfl (by simp)
    apply Wk.goff 18 (ok_load 3 ty3) rfl rfl (by simp)
    apply Wk.goff 18 (ok_datw ((sinb (n := 0) (lo := 0) (hi := 9999) rfl).w rfl) Try.func40 rfl rfl) rfl rfl (by simp)
    apply Wk.pckF rfl (by conv => lhs; whnf) (lt_of_ble rfl)
    apply Wk.mv (by conv => lhs; whnf) (lt_of_ble rfl)
    apply Wk.goff 23 (ok_faddr fd44_3) rfl rfl (by simp)
    apply Wk.goff 23 (ok_load 3 ty3) rfl rfl (by simp)
    apply Wk.goff 23 (ok_datw ((sinb (n := 0) (lo := 0) (hi := 9999) rfl).w rfl) Try.func40 rfl rfl) rfl rfl (by simp)
    apply Wk.pckF rfl (by conv => lhs; whnf) (lt_of_ble rfl)
    apply Wk.mv (by conv => lhs; whnf) (lt_of_ble rfl)
    apply Wk.goff 28 (ok_faddr fd44_2) rfl rfl (by simp)
    apply Wk.goff 28 (ok_load 3 ty3) rfl rfl (by simp)
    apply Wk.goff 28 (ok_faddr fd44_3) rfl rfl (by simp)
    apply Wk.goff 28 (ok_load 3 ty3) rfl rfl (by simp)
    apply Wk.goff 28 (ok_bin _ _ _ _ _) rfl rfl (by simp)
    apply Wk.goff 28 (ok_faddr fd44_0) rfl rfl (by simp)
    apply Wk.goff 28 (ok_load 3 ty3) rfl rfl (by simp)
    apply Wk.goff 28 (ok_bin _ _ _ _ _) rfl rfl (by simp)
    apply Wk.pckF rfl (by conv => lhs; whnf) (lt_of_ble rfl)
    apply Wk.mv (by conv => lhs; whnf) (lt_of_ble rfl)
    apply Wk.goff 38 (ok_faddr fd44_1) rfl rfl (by simp)
    apply Wk.goff 38 (ok_load 3 ty31) rfl rfl (by simp)
    apply Wk.goff 38 (ok_faddr fd29_2) rfl rfl (by simp)
    apply Wk.goff 38 (ok_load 2 ty3) rfl rfl (by simp)
    apply Wk.goff 38 (ok_datw ((spartsb [] 0 rfl).w rfl) Try.func43 rfl rfl) rfl rfl (by simp)
    apply Wk.pckF rfl (by conv => lhs; whnf) (lt_of_ble rfl)
    apply Wk.asg (by conv => lhs; whnf) (lt_of_ble rfl)
    refine Wk.nil (AW.ret ?_)
    exact RetQ.ret [] (.cons rfl .nil) ⟨rfl, rfl⟩ none_kept
  · rw [Bool.true_and]
    cases k1 : inB v 0 255
    · rw [Bool.false_and]
      apply AW.list
      apply Wk.ld (i := 2) 5 true ty29 rfl rfl (by conv => lhs; whnf) (lt_of_ble rfl)
      apply Wk.dat (scfgb k0) Try.func36 rfl rfl rfl rfl rfl (lt_of_ble rfl)
      apply Wk.mv (by conv => lhs; whnf) (lt_of_ble rfl)
      apply Wk.gon 7 rfl rfl
      apply Wk.fad 0 0 false fd44_0 rfl (lt_of_ble rfl)
      apply Wk.gon 7 rfl rfl
      apply Wk.ld (i := 3) 1 false ty3 rfl rfl (by conv => lhs; whnf) (lt_of_ble rfl)
      apply Wk.gon 7 rfl rfl
      apply Wk.dat (sinb k1) Try.func40 rfl rfl rfl rfl rfl (lt_of_ble rfl)
      apply Wk.pckT rfl (by conv => lhs; whnf) (lt_of_ble rfl)
      apply Wk.mv (by conv => lhs; whnf) (lt_of_ble rfl)
      apply Wk.goff 12 (ok_faddr fd44_1) rfl rfl (by simp)
      apply Wk.goff 12 (ok_load 3 ty31) rfl rfl (by simp)
      apply Wk.goff 12 (ok_len un31) rfl rfl (by simp)
      apply Wk.goff 12 (ok_bin _ _ _ _ _) rfl rfl (by simp)
      apply Wk.pckF rfl (by conv => lhs; whnf) (lt_of_ble rfl)
      apply Wk.mv (by conv => lhs; whnf) (lt_of_ble rfl)
      apply Wk.goff 18 (ok_faddr fd44_2) rfl rfl (by simp)
      apply Wk.goff 18 (ok_load 3 ty3) rfl rfl (by simp)
      apply Wk.goff 18 (ok_datw ((sinb (n := 0) (lo := 0) (hi := 9999) rfl).w rfl) Try.func40 rfl rfl) rfl rfl (by simp)
      apply Wk.pckF rfl (by conv => lhs; whnf) (lt_of_ble rfl)
      apply Wk.mv (by conv => lhs; whnf) (lt_of_ble rfl)
      apply Wk.goff 23 (ok_faddr fd44_3) rfl rfl (by simp)
      apply Wk.goff 23 (ok_load 3 ty3) rfl rfl (by simp)
      apply Wk.goff 23 (ok_datw ((sinb (n := 0) (lo := 0) (hi := 9999) rfl).w rfl) Try.func40 rfl rfl) rfl rfl (by simp)
      apply Wk.pckF rfl (by conv => lhs; whnf) (lt_of_ble rfl)
      apply Wk.mv (by conv => lhs; whnf) (lt_of_ble rfl)
      apply Wk.goff 28 (ok_faddr fd44_2) rfl rfl (by simp)
      apply Wk.goff 28 (ok_load 3 ty3) rfl rfl (by simp)
      apply Wk.goff 28 (ok_faddr fd44_3) rfl rfl (by simp)
      apply Wk.goff 28 (ok_load 3 ty3) rfl rfl (by simp)
      apply Wk.goff 28 (ok_bin _ _ _ _ _) rfl rfl (by simp)
      apply Wk.goff 28 (ok_faddr fd44_0) rfl rfl (by simp)
      apply Wk.goff 28 (ok_load 3 ty3) rfl rfl (by simp)
      apply Wk.goff 28 (ok_bin _ _ _ _ _) rfl rfl (by simp)
      apply Wk.pckF rfl (by conv => lhs; whnf) (lt_of_ble rfl)
      apply Wk.mv (by conv => lhs; whnf) (lt_of_ble rfl)
      apply Wk.goff 38 (ok_faddr fd44_1) rfl rfl (by simp)
      apply Wk.goff 38 (ok_load 3 ty31) rfl rfl (by simp)
      apply Wk.goff 38 (ok_faddr fd29_2) rfl rfl (by simp)
      apply Wk.goff 38 (ok_load 2 ty3) rfl rfl (by simp)
      apply Wk.goff 38 (ok_datw ((spartsb [] 0 rfl).w rfl) Try.func43 rfl rfl) rfl rfl (by simp)
      apply Wk.pckF rfl (by conv => lhs; whnf) (lt_of_ble rfl)
      apply Wk.asg (by conv => lhs; whnf) (lt_of_ble rfl)
      refine Wk.nil (AW.ret ?_)
      exact RetQ.ret [] (.cons rfl .nil) ⟨rfl, rfl⟩ none_kept
    · rw [Bool.true_and]
      by_cases k2 : qu.length ≤ 24
      · rw [decide_eq_true k2, Bool.true_and]
        cases k3 : inB g 0 9999
        · rw [Bool.false_and]
          apply AW.list
          apply Wk.ld (i := 2) 5 true ty29 rfl rfl (by conv => lhs; whnf) (lt_of_ble rfl)
          apply Wk.dat (scfgb k0) Try.func36 rfl rfl rfl rfl rfl (lt_of_ble rfl)
          apply Wk.mv (by conv => lhs; whnf) (lt_of_ble rfl)
          apply Wk.gon 7 rfl rfl
          apply Wk.fad 0 0 false fd44_0 rfl (lt_of_ble rfl)
          apply Wk.gon 7 rfl rfl
          apply Wk.ld (i := 3) 1 false ty3 rfl rfl (by conv => lhs; whnf) (lt_of_ble rfl)
          apply Wk.gon 7 rfl rfl
          apply Wk.dat (sinb k1) Try.func40 rfl rfl rfl rfl rfl (lt_of_ble rfl)
          apply Wk.pckT rfl (by conv => lhs; whnf) (lt_of_ble rfl)
          apply Wk.mv (by conv => lhs; whnf) (lt_of_ble rfl)
          apply Wk.gon 12 rfl rfl
          apply Wk.fad 1 0 false fd44_1 rfl (lt_of_ble rfl)
          apply Wk.gon 12 rfl rfl
          apply Wk.ld (i := 3) 1 false ty31 rfl rfl (by conv => lhs; whnf) (lt_of_ble rfl)
          apply Wk.gon 12 rfl rfl
          apply Wk.len un31 rfl (lt_of_ble rfl)
          apply Wk.gon 12 rfl rfl
          apply Wk.bin rfl rfl (r := .bool true) (fun w => by rw [e2]; simp [go_sem] <;> omega) (lt_of_ble rfl)
          apply Wk.pckT rfl (by conv => lhs; whnf) (lt_of_ble rfl)
          apply Wk.mv (by conv => lhs; whnf) (lt_of_ble rfl)
          apply Wk.gon 18 rfl rfl
          apply Wk.fad 2 0 false fd44_2 rfl (lt_of_ble rfl)
          apply Wk.gon 18 rfl rfl
          apply Wk.ld (i := 3) 1 false ty3 rfl rfl (by conv => lhs; whnf) (lt_of_ble rfl)
          apply Wk.gon 18 rfl rfl
          apply Wk.dat (sinb k3) Try.func40 rfl rfl rfl rfl rfl (lt_of_ble rfl)
          apply Wk.pckT rfl (by conv => lhs; whnf) (lt_of_ble rfl)
          apply Wk.mv (by conv => lhs; whnf) (lt_of_ble rfl)
          apply Wk.goff 23 (ok_faddr fd44_3) rfl rfl (by simp)
          apply Wk.goff 23 (ok_load 3 ty3) rfl rfl (by simp)
          apply Wk.goff 23 (ok_datw ((sinb (n := 0) (lo := 0) (hi := 9999) rfl).w rfl) Try.func40 rfl rfl) rfl rfl (by simp)
          apply Wk.pckF rfl (by conv => lhs; whnf) (lt_of_ble rfl)
          apply Wk.mv (by conv => lhs; whnf) (lt_of_ble rfl)
          apply Wk.goff 28 (ok_faddr fd44_2) rfl rfl (by simp)
          apply Wk.goff 28 (ok_load 3 ty3) rfl rfl (by simp)
          apply Wk.goff 28 (ok_faddr fd44_3) rfl rfl (by simp)
          apply Wk.goff 28 (ok_load 3 ty3) rfl rfl (by simp)
          apply Wk.goff 28 (ok_bin _ _ _ _ _) rfl rfl (by simp)
          apply Wk.goff 28 (ok_faddr fd44_0) rfl rfl (by simp)
          apply Wk.goff 28 (ok_load 3 ty3) rfl rfl (by simp)
          apply Wk.goff 28 (ok_bin _ _ _ _ _) rfl rfl (by simp)
          apply Wk.pckF rfl (by conv => lhs; whnf) (lt_of_ble rfl)
          apply Wk.mv (by conv => lhs; whnf) (lt_of_ble rfl)
          apply Wk.goff 38 (ok_faddr fd44_1) rfl rfl (by simp)
          apply Wk.goff 38 (ok_load 3 ty31) rfl rfl (by simp)
          apply Wk.goff 38 (ok_faddr fd29_2) rfl rfl (by simp)
          apply Wk.goff 38 (ok_load 2 ty3) rfl rfl (by simp)
          apply Wk.goff 38 (ok_datw ((spartsb [] 0 rfl).w rfl) Try.func43 rfl rfl) rfl rfl (by simp)
          apply Wk.pckF rfl (by conv => lhs; whnf) (lt_of_ble rfl)
          apply Wk.asg (by conv => lhs; whnf) (lt_of_ble rfl)
          refine Wk.nil (AW.ret ?_)
          exact RetQ.ret [] (.cons rfl .nil) ⟨rfl, rfl⟩ none_kept
        · rw [Bool.true_and]
          cases k4 : inB s 0 9999
          · rw [Bool.false_and]
            apply AW.list
            apply Wk.ld (i := 2) 5 true ty29 rfl rfl (by conv => lhs; whnf) (lt_of_ble rfl)
            apply Wk.dat (scfgb k0) Try.func36 rfl rfl rfl rfl rfl (lt_of_ble rfl)
            apply Wk.mv (by conv => lhs; whnf) (lt_of_ble rfl)
            apply Wk.gon 7 rfl rfl
            apply Wk.fad 0 0 false fd44_0 rfl (lt_of_ble rfl)
            apply Wk.gon 7 rfl rfl
            apply Wk.ld (i := 3) 1 false ty3 rfl rfl (by conv => lhs; whnf) (lt_of_ble rfl)
            apply Wk.gon 7 rfl rfl
            apply Wk.dat (sinb k1) Try.func40 rfl rfl rfl rfl rfl (lt_of_ble rfl)
            apply Wk.pckT rfl (by conv => lhs; whnf) (lt_of_ble rfl)
            apply Wk.mv (by conv => lhs; whnf) (lt_of_ble rfl)
            apply Wk.gon 12 rfl rfl
            apply Wk.fad 1 0 false fd44_1 rfl (lt_of_ble rfl)
            apply Wk.gon 12 rfl rfl
            apply Wk.ld (i := 3) 1 false ty31 rfl rfl (by conv => lhs; whnf) (lt_of_ble rfl)
            apply Wk.gon 12 rfl rfl
            apply Wk.len un31 rfl (lt_of_ble rfl)
            apply Wk.gon 12 rfl rfl
            apply Wk.bin rfl rfl (r := .bool true) (fun w => by rw [e2]; simp [go_sem] <;> omega) (lt_of_ble rfl)
            apply Wk.pckT rfl (by conv => lhs; whnf) (lt_of_ble rfl)
            apply Wk.mv (by conv => lhs; whnf) (lt_of_ble rfl)
            apply Wk.gon 18 rfl rfl
            apply Wk.fad 2 0 false fd44_2 rfl (lt_of_ble rfl)
            apply Wk.gon 18 rfl rfl
            apply Wk.ld (i := 3) 1 false ty3 rfl rfl (by conv => lhs; whnf) (lt_of_ble rfl)
            apply Wk.gon 18 rfl rfl
            apply Wk.dat (sinb k3) Try.func40 rfl rfl rfl rfl rfl (lt_of_ble rfl)
            apply Wk.pckT rfl (by conv => lhs; whnf) (lt_of_ble rfl)
            apply Wk.mv (by conv => lhs; whnf) (lt_of_ble rfl)
            apply Wk.gon 23 rfl rfl
            apply Wk.fad 3 0 false fd44_3 rfl (lt_of_ble rfl)
            apply Wk.gon 23 rfl rfl
            apply Wk.ld (i := 3) 1 false ty3 rfl rfl (by conv => lhs; whnf) (lt_of_ble rfl)
            apply Wk.gon 23 rfl rfl
            apply Wk.dat (sinb k4) Try.func40 rfl rfl rfl rfl rfl (lt_of_ble rfl)
            apply Wk.pckT rfl (by conv => lhs; whnf) (lt_of_ble rfl)
            apply Wk.mv (by conv => lhs; whnf) (lt_of_ble rfl)
            apply Wk.goff 28 (ok_faddr fd44_2) rfl rfl (by simp)
            apply Wk.goff 28 (ok_load 3 ty3) rfl rfl (by simp)
            apply Wk.goff 28 (ok_faddr fd44_3) rfl rfl (by simp)
            apply Wk.goff 28 (ok_load 3 ty3) rfl rfl (by simp)
            apply Wk.goff 28 (ok_bin _ _ _ _ _) rfl rfl (by simp)
            apply Wk.goff 28 (ok_faddr fd44_0) rfl rfl (by simp)
            apply Wk.goff 28 (ok_load 3 ty3) rfl rfl (by simp)
            apply Wk.goff 28 (ok_bin _ _ _ _ _) rfl rfl (by simp)
            apply Wk.pckF rfl (by conv => lhs; whnf) (lt_of_ble rfl)
            apply Wk.mv (by conv => lhs; whnf) (lt_of_ble rfl)
            apply Wk.goff 38 (ok_faddr fd44_1) rfl rfl (by simp)
            apply Wk.goff 38 (ok_load 3 ty31) rfl rfl (by simp)
            apply Wk.goff 38 (ok_faddr fd29_2) rfl rfl (by simp)
            apply Wk.goff 38 (ok_load 2 ty3) rfl rfl (by simp)
            apply Wk.goff 38 (ok_datw ((spartsb [] 0 rfl).w rfl) Try.func43 rfl rfl) rfl rfl (by simp)
            apply Wk.pckF rfl (by conv => lhs; whnf) (lt_of_ble rfl)
            apply Wk.asg (by conv => lhs; whnf) (lt_of_ble rfl)
            refine Wk.nil (AW.ret ?_)
            exact RetQ.ret [] (.cons rfl .nil) ⟨rfl, rfl⟩ none_kept
          · rw [Bool.true_and]
            by_cases k5 : g - s = v
            · rw [decide_eq_true k5, Bool.true_and]
              cases k6 : qu.all (partM p0)
              · skip
                apply AW.list
                apply Wk.ld (i := 2) 5 true ty29 rfl rfl (by conv => lhs; whnf) (lt_of_ble rfl)
                apply Wk.dat (scfgb k0) Try.func36 rfl rfl rfl rfl rfl (lt_of_ble rfl)
                apply Wk.mv (by conv => lhs; whnf) (lt_of_ble rfl)
                apply Wk.gon 7 rfl rfl
                apply Wk.fad 0 0 false fd44_0 rfl (lt_of_ble rfl)
                apply Wk.gon 7 rfl rfl
                apply Wk.ld (i := 3) 1 false ty3 rfl rfl (by conv => lhs; whnf) (lt_of_ble rfl)
                apply Wk.gon 7 rfl rfl
                apply Wk.dat (sinb k1) Try.func40 rfl rfl rfl rfl rfl (lt_of_ble rfl)
                apply Wk.pckT rfl (by conv => lhs; whnf) (lt_of_ble rfl)
                apply Wk.mv (by conv => lhs; whnf) (lt_of_ble rfl)
                apply Wk.gon 12 rfl rfl
                apply Wk.fad 1 0 false fd44_1 rfl (lt_of_ble rfl)
                apply Wk.gon 12 rfl rfl
                apply Wk.ld (i := 3) 1 false ty31 rfl rfl (by conv => lhs; whnf) (lt_of_ble rfl)
                apply Wk.gon 12 rfl rfl
                apply Wk.len un31 rfl (lt_of_ble rfl)
                apply Wk.gon 12 rfl rfl
                apply Wk.bin rfl rfl (r := .bool true) (fun w => by rw [e2]; simp [go_sem] <;> omega) (lt_of_ble rfl)
                apply Wk.pckT rfl (by conv => lhs; whnf) (lt_of_ble rfl)
                apply Wk.mv (by conv => lhs; whnf) (lt_of_ble rfl)
                apply Wk.gon 18 rfl rfl
                apply Wk.fad 2 0 false fd44_2 rfl (lt_of_ble rfl)
                apply Wk.gon 18 rfl rfl
                apply Wk.ld (i := 3) 1 false ty3 rfl rfl (by conv => lhs; whnf) (lt_of_ble rfl)
                apply Wk.gon 18 rfl rfl
                apply Wk.dat (sinb k3) Try.func40 rfl rfl rfl rfl rfl (lt_of_ble rfl)
                apply Wk.pckT rfl (by conv => lhs; whnf) (lt_of_ble rfl)
                apply Wk.mv (by conv => lhs; whnf) (lt_of_ble rfl)
                apply Wk.gon 23 rfl rfl
                apply Wk.fad 3 0 false fd44_3 rfl (lt_of_ble rfl)
                apply Wk.gon 23 rfl rfl
                apply Wk.ld (i := 3) 1 false ty3 rfl rfl (by conv => lhs; whnf) (lt_of_ble rfl)
                apply Wk.gon 23 rfl rfl
                apply Wk.dat (sinb k4) Try.func40 rfl rfl rfl rfl rfl (lt_of_ble rfl)
                apply Wk.pckT rfl (by conv => lhs; whnf) (lt_of_ble rfl)
                apply Wk.mv (by conv => lhs; whnf) (lt_of_ble rfl)
                apply Wk.gon 28 rfl rfl
                apply Wk.fad 2 0 false fd44_2 rfl (lt_of_ble rfl)
                apply Wk.gon 28 rfl rfl
                apply Wk.ld (i := 3) 1 false ty3 rfl rfl (by conv => lhs; whnf) (lt_of_ble rfl)
                apply Wk.gon 28 rfl rfl
                apply Wk.fad 3 0 false fd44_3 rfl (lt_of_ble rfl)
                apply Wk.gon 28 rfl rfl
                apply Wk.ld (i := 3) 1 false ty3 rfl rfl (by conv => lhs; whnf) (lt_of_ble rfl)
                apply Wk.gon 28 rfl rfl
                apply Wk.subi rfl rfl (by have := (inB_iff _ _ _).1 k3; have := (inB_iff _ _ _).1 k4; dsimp only; omega) (lt_of_ble rfl)
                apply Wk.gon 28 rfl rfl
                apply Wk.fad 0 0 false fd44_0 rfl (lt_of_ble rfl)
                apply Wk.gon 28 rfl rfl
                apply Wk.ld (i := 3) 1 false ty3 rfl rfl (by conv => lhs; whnf) (lt_of_ble rfl)
                apply Wk.gon 28 rfl rfl
                apply Wk.bin rfl rfl (r := .bool true) (fun w => by simp [go_sem, k5]) (lt_of_ble rfl)
                apply Wk.pckT rfl (by conv => lhs; whnf) (lt_of_ble rfl)
                apply Wk.mv (by conv => lhs; whnf) (lt_of_ble rfl)
                apply Wk.gon 38 rfl rfl
                apply Wk.fad 1 0 false fd44_1 rfl (lt_of_ble rfl)
                apply Wk.gon 38 rfl rfl
                apply Wk.ld (i := 3) 1 false ty31 rfl rfl (by conv => lhs; whnf) (lt_of_ble rfl)
                apply Wk.gon 38 rfl rfl
                apply Wk.fad 2 0 false fd29_2 rfl (lt_of_ble rfl)
                apply Wk.gon 38 rfl rfl
                apply Wk.ld (i := 2) 1 false ty3 rfl rfl (by conv => lhs; whnf) (lt_of_ble rfl)
                apply Wk.gon 38 rfl rfl
                apply Wk.dat (spartsb qu p0 k6) Try.func43 rfl rfl rfl rfl rfl (lt_of_ble rfl)
                apply Wk.pckT rfl (by conv => lhs; whnf) (lt_of_ble rfl)
                apply Wk.asg (by conv => lhs; whnf) (lt_of_ble rfl)
                refine Wk.nil (AW.ret ?_)
                exact RetQ.ret [] (.cons rfl .nil) ⟨rfl, rfl⟩ none_kept
              · skip
                apply AW.list
                apply Wk.ld (i := 2) 5 true ty29 rfl rfl (by conv => lhs; whnf) (lt_of_ble rfl)
                apply Wk.dat (scfgb k0) Try.func36 rfl rfl rfl rfl rfl (lt_of_ble rfl)
                apply Wk.mv (by conv => lhs; whnf) (lt_of_ble rfl)
                apply Wk.gon 7 rfl rfl
                apply Wk.fad 0 0 false fd44_0 rfl (lt_of_ble rfl)
                apply Wk.gon 7 rfl rfl
                apply Wk.ld (i := 3) 1 false ty3 rfl rfl (by conv => lhs; whnf) (lt_of_ble rfl)
                apply Wk.gon 7 rfl rfl
                apply Wk.dat (sinb k1) Try.func40 rfl rfl rfl rfl rfl (lt_of_ble rfl)
                apply Wk.pckT rfl (by conv => lhs; whnf) (lt_of_ble rfl)
                apply Wk.mv (by conv => lhs; whnf) (lt_of_ble rfl)
                apply Wk.gon 12 rfl rfl
                apply Wk.fad 1 0 false fd44_1 rfl (lt_of_ble rfl)
                apply Wk.gon 12 rfl rfl
                apply Wk.ld (i := 3) 1 false ty31 rfl rfl (by conv => lhs; whnf) (lt_of_ble rfl)
                apply Wk.gon 12 rfl rfl
                apply Wk.len un31 rfl (lt_of_ble rfl)
                apply Wk.gon 12 rfl rfl
                apply Wk.bin rfl rfl (r := .bool true) (fun w => by rw [e2]; simp [go_sem] <;> omega) (lt_of_ble rfl)
                apply Wk.pckT rfl (by conv => lhs; whnf) (lt_of_ble rfl)
                apply Wk.mv (by conv => lhs; whnf) (lt_of_ble rfl)
                apply Wk.gon 18 rfl rfl
                apply Wk.fad 2 0 false fd44_2 rfl (lt_of_ble rfl)
                apply Wk.gon 18 rfl rfl
                apply Wk.ld (i := 3) 1 false ty3 rfl rfl (by conv => lhs; whnf) (lt_of_ble rfl)
                apply Wk.gon 18 rfl rfl
                apply Wk.dat (sinb k3) Try.func40 rfl rfl rfl rfl rfl (lt_of_ble rfl)
                apply Wk.pckT rfl (by conv => lhs; whnf) (lt_of_ble rfl)
                apply Wk.mv (by conv => lhs; whnf) (lt_of_ble rfl)
                apply Wk.gon 23 rfl rfl
                apply Wk.fad 3 0 false fd44_3 rfl (lt_of_ble rfl)
                apply Wk.gon 23 rfl rfl
                apply Wk.ld (i := 3) 1 false ty3 rfl rfl (by conv => lhs; whnf) (lt_of_ble rfl)
                apply Wk.gon 23 rfl rfl
                apply Wk.dat (sinb k4) Try.func40 rfl rfl rfl rfl rfl (lt_of_ble rfl)
                apply Wk.pckT rfl (by conv => lhs; whnf) (lt_of_ble rfl)
                apply Wk.mv (by conv => lhs; whnf) (lt_of_ble rfl)
                apply Wk.gon 28 rfl rfl
                apply Wk.fad 2 0 false fd44_2 rfl (lt_of_ble rfl)
                apply Wk.gon 28 rfl rfl
                apply Wk.ld (i := 3) 1 false ty3 rfl rfl (by conv => lhs; whnf) (lt_of_ble rfl)
                apply Wk.gon 28 rfl rfl
                apply Wk.fad 3 0 false fd44_3 rfl (lt_of_ble rfl)
                apply Wk.gon 28 rfl rfl
                apply Wk.ld (i := 3) 1 false ty3 rfl rfl (by conv => lhs; whnf) (lt_of_ble rfl)
                apply Wk.gon 28 rfl rfl
                apply Wk.subi rfl rfl (by have := (inB_iff _ _ _).1 k3; have := (inB_iff _ _ _).1 k4; dsimp only; omega) (lt_of_ble rfl)
                apply Wk.gon 28 rfl rfl
                apply Wk.fad 0 0 false fd44_0 rfl (lt_of_ble rfl)
                apply Wk.gon 28 rfl rfl
                apply Wk.ld (i := 3) 1 false ty3 rfl rfl (by conv => lhs; whnf) (lt_of_ble rfl)
                apply Wk.gon 28 rfl rfl
                apply Wk.bin rfl rfl (r := .bool true) (fun w => by simp [go_sem, k5]) (lt_of_ble rfl)
                apply Wk.pckT rfl (by conv => lhs; whnf) (lt_of_ble rfl)
                apply Wk.mv (by conv => lhs; whnf) (lt_of_ble rfl)
                apply Wk.gon 38 rfl rfl
                apply Wk.fad 1 0 false fd44_1 rfl (lt_of_ble rfl)
                apply Wk.gon 38 rfl rfl
                apply Wk.ld (i := 3) 1 false ty31 rfl rfl (by conv => lhs; whnf) (lt_of_ble rfl)
                apply Wk.gon 38 rfl rfl
                apply Wk.fad 2 0 false fd29_2 rfl (lt_of_ble rfl)
                apply Wk.gon 38 rfl rfl
                apply Wk.ld (i := 2) 1 false ty3 rfl rfl (by conv => lhs; whnf) (lt_of_ble rfl)
                apply Wk.gon 38 rfl rfl
                apply Wk.dat (spartsb qu p0 k6) Try.func43 rfl rfl rfl rfl rfl (lt_of_ble rfl)
                apply Wk.pckT rfl (by conv => lhs; whnf) (lt_of_ble rfl)
                apply Wk.asg (by conv => lhs; whnf) (lt_of_ble rfl)
                refine Wk.nil (AW.ret ?_)
                exact RetQ.ret [] (.cons rfl .nil) ⟨rfl, rfl⟩ none_kept
            · rw [decide_eq_false k5, Bool.false_and]
              apply AW.list
              apply Wk.ld (i := 2) 5 true ty29 rfl rfl (by conv => lhs; whnf) (lt_of_ble rfl)
              apply Wk.dat (scfgb k0) Try.func36 rfl rfl rfl rfl rfl (lt_of_ble rfl)
              apply Wk.mv (by conv => lhs; whnf) (lt_of_ble rfl)
              apply Wk.gon 7 rfl rfl
              apply Wk.fad 0 0 false fd44_0 rfl (lt_of_ble rfl)
              apply Wk.gon 7 rfl rfl
              apply Wk.ld (i := 3) 1 false ty3 rfl rfl (by conv => lhs; whnf) (lt_of_ble rfl)
              apply Wk.gon 7 rfl rfl
              apply Wk.dat (sinb k1) Try.func40 rfl rfl rfl rfl rfl (lt_of_ble rfl)
              apply Wk.pckT rfl (by conv => lhs; whnf) (lt_of_ble rfl)
              apply Wk.mv (by conv => lhs; whnf) (lt_of_ble rfl)
              apply Wk.gon 12 rfl rfl
              apply Wk.fad 1 0 false fd44_1 rfl (lt_of_ble rfl)
              apply Wk.gon 12 rfl rfl
              apply Wk.ld (i := 3) 1 false ty31 rfl rfl (by conv => lhs; whnf) (lt_of_ble rfl)
              apply Wk.gon 12 rfl rfl
              apply Wk.len un31 rfl (lt_of_ble rfl)
              apply Wk.gon 12 rfl rfl
              apply Wk.bin rfl rfl (r := .bool true) (fun w => by rw [e2]; simp [go_sem] <;> omega) (lt_of_ble rfl)
              apply Wk.pckT rfl (by conv => lhs; whnf) (lt_of_ble rfl)
              apply Wk.mv (by conv => lhs; whnf) (lt_of_ble rfl)
              apply Wk.gon 18 rfl rfl
              apply Wk.fad 2 0 false fd44_2 rfl (lt_of_ble rfl)
              apply Wk.gon 18 rfl rfl
              apply Wk.ld (i := 3) 1 false ty3 rfl rfl (by conv => lhs; whnf) (lt_of_ble rfl)
              apply Wk.gon 18 rfl rfl
              apply Wk.dat (sinb k3) Try.func40 rfl rfl rfl rfl rfl (lt_of_ble rfl)
              apply Wk.pckT rfl (by conv => lhs; whnf) (lt_of_ble rfl)
              apply Wk.mv (by conv => lhs; whnf) (lt_of_ble rfl)
              apply Wk.gon 23 rfl rfl
              apply Wk.fad 3 0 false fd44_3 rfl (lt_of_ble rfl)
              apply Wk.gon 23 rfl rfl
              apply Wk.ld (i := 3) 1 false ty3 rfl rfl (by conv => lhs; whnf) (lt_of_ble rfl)
              apply Wk.gon 23 rfl rfl
              apply Wk.dat (sinb k4) Try.func40 rfl rfl rfl rfl rfl (lt_of_ble rfl)
              apply Wk.pckT rfl (by conv => lhs; whnf) (lt_of_ble rfl)
              apply Wk.mv (by conv => lhs; whnf) (lt_of_ble rfl)
              apply Wk.gon 28 rfl rfl
              apply Wk.fad 2 0 false fd44_2 rfl (lt_of_ble rfl)
              apply Wk.gon 28 rfl rfl
              apply Wk.ld (i := 3) 1 false ty3 rfl rfl (by conv => lhs; whnf) (lt_of_ble rfl)
              apply Wk.gon 28 rfl rfl
              apply Wk.fad 3 0 false fd44_3 rfl (lt_of_ble rfl)
              apply Wk.gon 28 rfl rfl
              apply Wk.ld (i := 3) 1 false ty3 rfl rfl (by conv => lhs; whnf) (lt_of_ble rfl)
              apply Wk.gon 28 rfl rfl
              apply Wk.subi rfl rfl (by have := (inB_iff _ _ _).1 k3; have := (inB_iff _ _ _).1 k4; dsimp only; omega) (lt_of_ble rfl)
              apply Wk.gon 28 rfl rfl
              apply Wk.fad 0 0 false fd44_0 rfl (lt_of_ble rfl)
              apply Wk.gon 28 rfl rfl
              apply Wk.ld (i := 3) 1 false ty3 rfl rfl (by conv => lhs; whnf) (lt_of_ble rfl)
              apply Wk.gon 28 rfl rfl
              apply Wk.bin rfl rfl (r := .bool false) (fun w => by simp [go_sem, k5]) (lt_of_ble rfl)
              apply Wk.pckT rfl (by conv => lhs; whnf) (lt_of_ble rfl)
              apply Wk.mv (by conv => lhs; whnf) (lt_of_ble rfl)
              apply Wk.goff 38 (ok_faddr fd44_1) rfl rfl (by simp)
              apply Wk.goff 38 (ok_load 3 ty31) rfl rfl (by simp)
              apply Wk.goff 38 (ok_faddr fd29_2) rfl rfl (by simp)
              apply Wk.goff 38 (ok_load 2 ty3) rfl rfl (by simp)
              apply Wk.goff 38 (ok_datw ((spartsb [] 0 rfl).w rfl) Try.func43 rfl rfl) rfl rfl (by simp)
              apply Wk.pckF rfl (by conv => lhs; whnf) (lt_of_ble rfl)
              apply Wk.asg (by conv => lhs; whnf) (lt_of_ble rfl)
              refine Wk.nil (AW.ret ?_)
              exact RetQ.ret [] (.cons rfl .nil) ⟨rfl, rfl⟩ none_kept
      · rw [decide_eq_false k2, Bool.false_and]
        apply AW.list
        apply Wk.ld (i := 2) 5 true ty29 rfl rfl (by conv => lhs; whnf) (lt_of_ble rfl)
        apply Wk.dat (scfgb k0) Try.func36 rfl rfl rfl rfl rfl (lt_of_ble rfl)
        apply Wk.mv (by conv => lhs; whnf) (lt_of_ble rfl)
        apply Wk.gon 7 rfl rfl
        apply Wk.fad 0 0 false fd44_0 rfl (lt_of_ble rfl)
        apply Wk.gon 7 rfl rfl
        apply Wk.ld (i := 3) 1 false ty3 rfl rfl (by conv => lhs; whnf) (lt_of_ble rfl)
        apply Wk.gon 7 rfl rfl
        apply Wk.dat (sinb k1) Try.func40 rfl rfl rfl rfl rfl (lt_of_ble rfl)
        apply Wk.pckT rfl (by conv => lhs; whnf) (lt_of_ble rfl)
        apply Wk.mv (by conv => lhs; whnf) (lt_of_ble rfl)
        apply Wk.gon 12 rfl rfl
        apply Wk.fad 1 0 false fd44_1 rfl (lt_of_ble rfl)
        apply Wk.gon 12 rfl rfl
        apply Wk.ld (i := 3) 1 false ty31 rfl rfl (by conv => lhs; whnf) (lt_of_ble rfl)
        apply Wk.gon 12 rfl rfl
        apply Wk.len un31 rfl (lt_of_ble rfl)
        apply Wk.gon 12 rfl rfl
        apply Wk.bin rfl rfl (r := .bool false) (fun w => by rw [e2]; simp [go_sem] <;> omega) (lt_of_ble rfl)
        apply Wk.pckT rfl (by conv => lhs; whnf) (lt_of_ble rfl)
        apply Wk.mv (by conv => lhs; whnf) (lt_of_ble rfl)
        apply Wk.goff 18 (ok_faddr fd44_2) rfl rfl (by simp)
        apply Wk.goff 18 (ok_load 3 ty3) rfl rfl (by simp)
        apply Wk.goff 18 (ok_datw ((sinb (n := 0) (lo := 0) (hi := 9999) rfl).w rfl) Try.func40 rfl rfl) rfl rfl (by simp)
        apply Wk.pckF rfl (by conv => lhs; whnf) (lt_of_ble rfl)
        apply Wk.mv (by conv => lhs; whnf) (lt_of_ble rfl)
        apply Wk.goff 23 (ok_faddr fd44_3) rfl rfl (by simp)
        apply Wk.goff 23 (ok_load 3 ty3) rfl rfl (by simp)
        apply Wk.goff 23 (ok_datw ((sinb (n := 0) (lo := 0) (hi := 9999) rfl).w rfl) Try.func40 rfl rfl) rfl rfl (by simp)
        apply Wk.pckF rfl (by conv => lhs; whnf) (lt_of_ble rfl)
        apply Wk.mv (by conv => lhs; whnf) (lt_of_ble rfl)
        apply Wk.goff 28 (ok_faddr fd44_2) rfl rfl (by simp)
        apply Wk.goff 28 (ok_load 3 ty3) rfl rfl (by simp)
        apply Wk.goff 28 (ok_faddr fd44_3) rfl rfl (by simp)
        apply Wk.goff 28 (ok_load 3 ty3) rfl rfl (by simp)
        apply Wk.goff 28 (ok_bin _ _ _ _ _) rfl rfl (by simp)
        apply Wk.goff 28 (ok_faddr fd44_0) rfl rfl (by simp)
        apply Wk.goff 28 (ok_load 3 ty3) rfl rfl (by simp)
        apply Wk.goff 28 (ok_bin _ _ _ _ _) rfl rfl (by simp)
        apply Wk.pckF rfl (by conv => lhs; whnf) (lt_of_ble rfl)
        apply Wk.mv (by conv => lhs; whnf) (lt_of_ble rfl)
        apply Wk.goff 38 (ok_faddr fd44_1) rfl rfl (by simp)
        apply Wk.goff 38 (ok_load 3 ty31) rfl rfl (by simp)
        apply Wk.goff 38 (ok_faddr fd29_2) rfl rfl (by simp)
        apply Wk.goff 38 (ok_load 2 ty3) rfl rfl (by simp)
        apply Wk.goff 38 (ok_datw ((spartsb [] 0 rfl).w rfl) Try.func43 rfl rfl) rfl rfl (by simp)
        apply Wk.pckF rfl (by conv => lhs; whnf) (lt_of_ble rfl)
        apply Wk.asg (by conv => lhs; whnf) (lt_of_ble rfl)
        refine Wk.nil (AW.ret ?_)
        exact RetQ.ret [] (.cons rfl .nil) ⟨rfl, rfl⟩ none_kept
theorem scxb {m w p u y : Int} {x : CX} {b : Bool} (h : crdOkB ⟨m, w, p, u, y⟩ x = b) : DataOk Try.prog 19 [cfgA m w p u y, cxA x] (.d (.v (.bool b))) := h ▸ scx_ok m w p u y x
theorem crdOk_parts (o : Opt) (x : CX) : crdOkB o x = (o.ok && ((inB x.v 0 255 && (inB x.g 0 9999 && (inB x.s 0 9999 && decide (x.v = x.g - x.s)))) && (inB (x.qu.length : Int) 0 24 && x.qu.all (partM o.mps)))) := by
  apply bool_of_iff
  simp only [crdOkB, Bool.and_eq_true, decide_eq_true_eq, inB_iff]
  constructor
  · rintro ⟨k1, k2, k3, k4, k5, k6, k7⟩
    exact ⟨k1, ⟨k2, k4, k5, by omega⟩, ⟨by omega, by omega⟩, k7⟩
  · rintro ⟨k1, ⟨k2, k4, k5, k6⟩, k3, k7⟩
    exact ⟨k1, k2, by omega, k4, k5, by omega, k7⟩
set_option maxHeartbeats 4000000 in
set_option maxRecDepth 100000 in
theorem icx_ok (m0 w0 p0 u0 y0 : Int) (x : CX) : DataOk Try.prog 21 [cfgA m0 w0 p0 u0 y0, cxA x] (.d (.v (.bool (crdOkB ⟨m0, w0, p0, u0, y0⟩ x)))) := by
  rw [crdOk_parts]
  obtain ⟨v, qu, g, s, d⟩ := x
  have e2 : (((qu.map datD).length : Nat) : Int) = (qu.length : Int) := by rw [List.length_map]
  simp only
  rw [← e2]
  obtain ⟨cb, hcb⟩ : ∃ cb, cb = (inB v 0 255 && (inB g 0 9999 && (inB s 0 9999 && decide (v = g - s)))) := ⟨_, rfl⟩
  rw [← hcb]
  refine Spec.intro (n := 47) (rv := [.tmp 4]) Try.func21 rfl rfl rfl (by simp) fun C hN hX => ?_
  refine AW.seq ?_
  apply AW.list
  apply Wk.bx 2 rfl rfl (lt_of_ble rfl)
  apply Wk.bx 3 rfl rfl (lt_of_ble rfl)
  apply Wk.asg (by conv => lhs; whnf) (lt_of_ble rfl)
  refine Wk.nil ?_
  refine AW.via (fun b : Bool => St.of 47 [(2, .ptr 2 0), (3, .ptr 3 0), (5, .d (.v (.bool b)))] [(2, .var [.d (.v (.int .i64 m0)), .d (.v (.int .i64 w0)), .d (.v (.int .i64 p0)), .d (.v (.int .i64 u0)), .d (.v (.int .i64 y0))]), (3, .var [.d (.v (.int .i64 v)), .d (partsD qu), .d (.v (.int .i64 g)), .d (.v (.int .i64 s)), .d (.v (.bool d))])]) (fun b => b = cb) ?_ ?_
  · skip
    cases k0 : inB v 0 255
    · skip
      apply AW.list
      apply Wk.fad 0 0 false fd44_0 rfl (lt_of_ble rfl)
      apply Wk.ld (i := 3) 1 false ty3 rfl rfl (by conv => lhs; whnf) (lt_of_ble rfl)
      apply Wk.dat (inoneb k0) Try.func47 rfl rfl rfl rfl rfl (lt_of_ble rfl)
      apply Wk.mv (by conv => lhs; whnf) (lt_of_ble rfl)
      apply Wk.goff 9 (ok_faddr fd44_2) rfl rfl (by simp)
      apply Wk.goff 9 (ok_load 3 ty3) rfl rfl (by simp)
      apply Wk.goff 9 (ok_datw ((inoneb (n := 0) (hi := 0) rfl).w rfl) Try.func47 rfl rfl) rfl rfl (by simp)
      apply Wk.pckF rfl (by conv => lhs; whnf) (lt_of_ble rfl)
      apply Wk.mv (by conv => lhs; whnf) (lt_of_ble rfl)
      apply Wk.goff 14 (ok_faddr fd44_3) rfl rfl (by simp)
      apply Wk.goff 14 (ok_load 3 ty3) rfl rfl (by simp)
      apply Wk.goff 14 (ok_datw ((inoneb (n := 0) (hi := 0) rfl).w rfl) Try.func47 rfl rfl) rfl rfl (by simp)
      apply Wk.pckF rfl (by conv => lhs; whnf) (lt_of_ble rfl)
      apply Wk.mv (by conv => lhs; whnf) (lt_of_ble rfl)
      apply Wk.goff 19 (ok_faddr fd44_0) rfl rfl (by simp)
      apply Wk.goff 19 (ok_load 3 ty3) rfl rfl (by simp)
      apply Wk.goff 19 (ok_faddr fd44_2) rfl rfl (by simp)
      apply Wk.goff 19 (ok_load 3 ty3) rfl rfl (by simp)
      apply Wk.goff 19 (ok_faddr fd44_3) rfl rfl (by simp)
      apply Wk.goff 19 (ok_load 3 ty3) rfl rfl (by simp)
      apply Wk.goff 19 (ok_bin _ _ _ _ _) rfl rfl (by simp)
      apply Wk.goff 19 (ok_bin _ _ _ _ _) rfl rfl (by simp)
      apply Wk.pckF rfl (by conv => lhs; whnf) (lt_of_ble rfl)
      apply Wk.asg (by conv => lhs; whnf) (lt_of_ble rfl)
      refine Wk.nil (thenA_normal ?_)
      exact ⟨false, by rw [hcb, k0]; rfl, fun a w => Rel.keep ⟨rfl, .cons rfl rfl (.cons rfl rfl (.cons rfl rfl .nil)), .cons rfl rfl (.cons rfl rfl .nil), hN.mono (by simp [keys])⟩⟩
    · skip
      cases k1 : inB g 0 9999
      · skip
        apply AW.list
        apply Wk.fad 0 0 false fd44_0 rfl (lt_of_ble rfl)
        apply Wk.ld (i := 3) 1 false ty3 rfl rfl (by conv => lhs; whnf) (lt_of_ble rfl)
        apply Wk.dat (inoneb k0) Try.func47 rfl rfl rfl rfl rfl (lt_of_ble rfl)
        apply Wk.mv (by conv => lhs; whnf) (lt_of_ble rfl)
        apply Wk.gon 9 rfl rfl
        apply Wk.fad 2 0 false fd44_2 rfl (lt_of_ble rfl)
        apply Wk.gon 9 rfl rfl
        apply Wk.ld (i := 3) 1 false ty3 rfl rfl (by conv => lhs; whnf) (lt_of_ble rfl)
        apply Wk.gon 9 rfl rfl
        apply Wk.dat (inoneb k1) Try.func47 rfl rfl rfl rfl rfl (lt_of_ble rfl)
        apply Wk.pckT rfl (by conv => lhs; whnf) (lt_of_ble rfl)
        apply Wk.mv (by conv => lhs; whnf) (lt_of_ble rfl)
        apply Wk.goff 14 (ok_faddr fd44_3) rfl rfl (by simp)
        apply Wk.goff 14 (ok_load 3 ty3) rfl rfl (by simp)
        apply Wk.goff 14 (ok_datw ((inoneb (n := 0) (hi := 0) rfl).w rfl) Try.func47 rfl rfl) rfl rfl (by simp)
        apply Wk.pckF rfl (by conv => lhs; whnf) (lt_of_ble rfl)
        apply Wk.mv (by conv => lhs; whnf) (lt_of_ble rfl)
        apply Wk.goff 19 (ok_faddr fd44_0) rfl rfl (by simp)
        apply Wk.goff 19 (ok_load 3 ty3) rfl rfl (by simp)
        apply Wk.goff 19 (ok_faddr fd44_2) rfl rfl (by simp)
        apply Wk.goff 19 (ok_load 3 ty3) rfl rfl (by simp)
        apply Wk.goff 19 (ok_faddr fd44_3) rfl rfl (by simp)
        apply Wk.goff 19 (ok_load 3 ty3) rfl rfl (by simp)
        apply Wk.goff 19 (ok_bin _ _ _ _ _) rfl rfl (by simp)
        apply Wk.goff 19 (ok_bin _ _ _ _ _) rfl rfl (by simp)
        apply Wk.pckF rfl (by conv => lhs; whnf) (lt_of_ble rfl)
        apply Wk.asg (by conv => lhs; whnf) (lt_of_ble rfl)
        refine Wk.nil (thenA_normal ?_)
        exact ⟨false, by rw [hcb, k0, k1]; rfl, fun a w => Rel.keep ⟨rfl, .cons rfl rfl (.cons rfl rfl (.cons rfl rfl .nil)), .cons rfl rfl (.cons rfl rfl .nil), hN.mono (by simp [keys])⟩⟩
      · skip
        cases k2 : inB s 0 9999
        · skip
          apply AW.list
          apply Wk.fad 0 0 false fd44_0 rfl (lt_of_ble rfl)
          apply Wk.ld (i := 3) 1 false ty3 rfl rfl (by conv => lhs; whnf) (lt_of_ble rfl)
          apply Wk.dat (inoneb k0) Try.func47 rfl rfl rfl rfl rfl (lt_of_ble rfl)
          apply Wk.mv (by conv => lhs; whnf) (lt_of_ble rfl)
          apply Wk.gon 9 rfl rfl
          apply Wk.fad 2 0 false fd44_2 rfl (lt_of_ble rfl)
          apply Wk.gon 9 rfl rfl
          apply Wk.ld (i := 3) 1 false ty3 rfl rfl (by conv => lhs; whnf) (lt_of_ble rfl)
          apply Wk.gon 9 rfl rfl
          apply Wk.dat (inoneb k1) Try.func47 rfl rfl rfl rfl rfl (lt_of_ble rfl)
          apply Wk.pckT rfl (by conv => lhs; whnf) (lt_of_ble rfl)
          apply Wk.mv (by conv => lhs; whnf) (lt_of_ble rfl)
          apply Wk.gon 14 rfl rfl
          apply Wk.fad 3 0 false fd44_3 rfl (lt_of_ble rfl)
          apply Wk.gon 14 rfl rfl
          apply Wk.ld (i := 3) 1 false ty3 rfl rfl (by conv => lhs; whnf) (lt_of_ble rfl)
          apply Wk.gon 14 rfl rfl
          apply Wk.dat (inoneb k2) Try.func47 rfl rfl rfl rfl rfl (lt_of_ble rfl)
          apply Wk.pckT rfl (by conv => lhs; whnf) (lt_of_ble rfl)
          apply Wk.mv (by conv => lhs; whnf) (lt_of_ble rfl)
          apply Wk.goff 19 (ok_faddr fd44_0) rfl rfl (by simp)
          apply Wk.goff 19 (ok_load 3 ty3) rfl rfl (by simp)
          apply Wk.goff 19 (ok_faddr fd44_2) rfl rfl (by simp)
          apply Wk.goff 19 (ok_load 3 ty3) rfl rfl (by simp)
          apply Wk.goff 19 (ok_faddr fd44_3) rfl rfl (by simp)
          apply Wk.goff 19 (ok_load 3 ty3) rfl rfl (by simp)
          apply Wk.goff 19 (ok_bin _ _ _ _ _) rfl rfl (by simp)
          apply Wk.goff 19 (ok_bin _ _ _ _ _) rfl rfl (by simp)
          apply Wk.pckF rfl (by conv => lhs; whnf) (lt_of_ble rfl)
          apply Wk.asg (by conv => lhs; whnf) (lt_of_ble rfl)
          refine Wk.nil (thenA_normal ?_)
          exact ⟨false, by rw [hcb, k0, k1, k2]; rfl, fun a w => Rel.keep ⟨rfl, .cons rfl rfl (.cons rfl rfl (.cons rfl rfl .nil)), .cons rfl rfl (.cons rfl rfl .nil), hN.mono (by simp [keys])⟩⟩
        · skip
          by_cases k3 : v = g - s
          · skip
            apply AW.list
            apply Wk.fad 0 0 false fd44_0 rfl (lt_of_ble rfl)
            apply Wk.ld (i := 3) 1 false ty3 rfl rfl (by conv => lhs; whnf) (lt_of_ble rfl)
            apply Wk.dat (inoneb k0) Try.func47 rfl rfl rfl rfl rfl (lt_of_ble rfl)
            apply Wk.mv (by conv => lhs; whnf) (lt_of_ble rfl)
            apply Wk.gon 9 rfl rfl
            apply Wk.fad 2 0 false fd44_2 rfl (lt_of_ble rfl)
            apply Wk.gon 9 rfl rfl
            apply Wk.ld (i := 3) 1 false ty3 rfl rfl (by conv => lhs; whnf) (lt_of_ble rfl)
            apply Wk.gon 9 rfl rfl
            apply Wk.dat (inoneb k1) Try.func47 rfl rfl rfl rfl rfl (lt_of_ble rfl)
            apply Wk.pckT rfl (by conv => lhs; whnf) (lt_of_ble rfl)
            apply Wk.mv (by conv => lhs; whnf) (lt_of_ble rfl)
            apply Wk.gon 14 rfl rfl
            apply Wk.fad 3 0 false fd44_3 rfl (lt_of_ble rfl)
            apply Wk.gon 14 rfl rfl
            apply Wk.ld (i := 3) 1 false ty3 rfl rfl (by conv => lhs; whnf) (lt_of_ble rfl)
            apply Wk.gon 14 rfl rfl
            apply Wk.dat (inoneb k2) Try.func47 rfl rfl rfl rfl rfl (lt_of_ble rfl)
            apply Wk.pckT rfl (by conv => lhs; whnf) (lt_of_ble rfl)
            apply Wk.mv (by conv => lhs; whnf) (lt_of_ble rfl)
            apply Wk.gon 19 rfl rfl
            apply Wk.fad 0 0 false fd44_0 rfl (lt_of_ble rfl)
            apply Wk.gon 19 rfl rfl
            apply Wk.ld (i := 3) 1 false ty3 rfl rfl (by conv => lhs; whnf) (lt_of_ble rfl)
            apply Wk.gon 19 rfl rfl
            apply Wk.fad 2 0 false fd44_2 rfl (lt_of_ble rfl)
            apply Wk.gon 19 rfl rfl
            apply Wk.ld (i := 3) 1 false ty3 rfl rfl (by conv => lhs; whnf) (lt_of_ble rfl)
            apply Wk.gon 19 rfl rfl
            apply Wk.fad 3 0 false fd44_3 rfl (lt_of_ble rfl)
            apply Wk.gon 19 rfl rfl
            apply Wk.ld (i := 3) 1 false ty3 rfl rfl (by conv => lhs; whnf) (lt_of_ble rfl)
            apply Wk.gon 19 rfl rfl
            apply Wk.subi rfl rfl (by have := (inB_iff _ _ _).1 k1; have := (inB_iff _ _ _).1 k2; dsimp only; omega) (lt_of_ble rfl)
            apply Wk.gon 19 rfl rfl
            apply Wk.bin rfl rfl (r := .bool true) (fun w => by simp [go_sem, k3]) (lt_of_ble rfl)
            apply Wk.pckT rfl (by conv => lhs; whnf) (lt_of_ble rfl)
            apply Wk.asg (by conv => lhs; whnf) (lt_of_ble rfl)
            refine Wk.nil (thenA_normal ?_)
            exact ⟨true, by rw [hcb, k0, k1, k2, decide_eq_true k3]; rfl, fun a w => Rel.keep ⟨rfl, .cons rfl rfl (.cons rfl rfl (.cons rfl rfl .nil)), .cons rfl rfl (.cons rfl rfl .nil), hN.mono (by simp [keys])⟩⟩
          · skip
            apply AW.list
            apply Wk.fad 0 0 false fd44_0 rfl (lt_of_ble rfl)
            apply Wk.ld (i := 3) 1 false ty3 rfl rfl (by conv => lhs; whnf) (lt_of_ble rfl)
            apply Wk.dat (inoneb k0) Try.func47 rfl rfl rfl rfl rfl (lt_of_ble rfl)
            apply Wk.mv (by conv => lhs; whnf) (lt_of_ble rfl)
            apply Wk.gon 9 rfl rfl
            apply Wk.fad 2 0 false fd44_2 rfl (lt_of_ble rfl)
            apply Wk.gon 9 rfl rfl
            apply Wk.ld (i := 3) 1 false ty3 rfl rfl (by conv => lhs; whnf) (lt_of_ble rfl)
            apply Wk.gon 9 rfl rfl
            apply Wk.dat (inoneb k1) Try.func47 rfl rfl rfl rfl rfl (lt_of_ble rfl)
            apply Wk.pckT rfl (by conv => lhs; whnf) (lt_of_ble rfl)
            apply Wk.mv (by conv => lhs; whnf) (lt_of_ble rfl)
            apply Wk.gon 14 rfl rfl
            apply Wk.fad 3 0 false fd44_3 rfl (lt_of_ble rfl)
            apply Wk.gon 14 rfl rfl
            apply Wk.ld (i := 3) 1 false ty3 rfl rfl (by conv => lhs; whnf) (lt_of_ble rfl)
            apply Wk.gon 14 rfl rfl
            apply Wk.dat (inoneb k2) Try.func47 rfl rfl rfl rfl rfl (lt_of_ble rfl)
            apply Wk.pckT rfl (by conv => lhs; whnf) (lt_of_ble rfl)
            apply Wk.mv (by conv => lhs; whnf) (lt_of_ble rfl)
            apply Wk.gon 19 rfl rfl
            apply Wk.fad 0 0 false fd44_0 rfl (lt_of_ble rfl)
            apply Wk.gon 19 rfl rfl
            apply Wk.ld (i := 3) 1 false ty3 rfl rfl (by conv => lhs; whnf) (lt_of_ble rfl)
            apply Wk.gon 19 rfl rfl
            apply Wk.fad 2 0 false fd44_2 rfl (lt_of_ble rfl)
            apply Wk.gon 19 rfl rfl
            apply Wk.ld (i := 3) 1 false ty3 rfl rfl (by conv => lhs; whnf) (lt_of_ble rfl)
            apply Wk.gon 19 rfl rfl
            apply Wk.fad 3 0 false fd44_3 rfl (lt_of_ble rfl)
            apply Wk.gon 19 rfl rfl
            apply Wk.ld (i := 3) 1 false ty3 rfl rfl (by conv => lhs; whnf) (lt_of_ble rfl)
            apply Wk.gon 19 rfl rfl
            apply Wk.subi rfl rfl (by have := (inB_iff _ _ _).1 k1; have := (inB_iff _ _ _).1 k2; dsimp only; omega) (lt_of_ble rfl)
            apply Wk.gon 19 rfl rfl
            apply Wk.bin rfl rfl (r := .bool false) (fun w => by simp [go_sem, k3]) (lt_of_ble rfl)
            apply Wk.pckT rfl (by conv => lhs; whnf) (lt_of_ble rfl)
            apply Wk.asg (by conv => lhs; whnf) (lt_of_ble rfl)
            refine Wk.nil (thenA_normal ?_)
            exact ⟨false, by rw [hcb, k0, k1, k2, decide_eq_false k3]; rfl, fun a w => Rel.keep ⟨rfl, .cons rfl rfl (.cons rfl rfl (.cons rfl rfl .nil)), .cons rfl rfl (.cons rfl rfl .nil), hN.mono (by simp [keys])⟩⟩
  rintro cb' rfl
  clear hcb
  refine AW.seq ?_
  cases h0 : Opt.ok ⟨m0, w0, p0, u0, y0⟩
  · skip
    apply AW.list
    apply Wk.ld (i := 2) 5 true ty29 rfl rfl (by conv => lhs; whnf) (lt_of_ble rfl)
    apply Wk.dat (icfgb h0) Try.func48 rfl rfl rfl rfl rfl (lt_of_ble rfl)
    apply Wk.mv (by conv => lhs; whnf) (lt_of_ble rfl)
    apply Wk.goff 31 (ok_move _) rfl rfl (by simp)
    apply Wk.pckF rfl (by conv => lhs; whnf) (lt_of_ble rfl)
    apply Wk.mv (by conv => lhs; whnf) (lt_of_ble rfl)
    apply Wk.goff 34 (ok_faddr fd44_1) rfl rfl (by simp)
    apply Wk.goff 34 (ok_load 3 ty31) rfl rfl (by simp)
    apply Wk.goff 34 (ok_len un31) rfl rfl (by simp)
    apply Wk.goff 34 (ok_datw ((inoneb (n := 0) (hi := 24) rfl).w rfl) Try.func47 rfl rfl) rfl rfl (by simp)
    apply Wk.pckF rfl (by conv => lhs; whnf) (lt_of_ble rfl)
    apply Wk.mv (by conv => lhs; whnf) (lt_of_ble rfl)
    apply Wk.goff 40 (ok_faddr fd44_1) rfl rfl (by simp)
    apply Wk.goff 40 (ok_load 3 ty31) rfl rfl (by simp)
    apply Wk.goff 40 (ok_faddr fd29_2) rfl rfl (by simp)
    apply Wk.goff 40 (ok_load 2 ty3) rfl rfl (by simp)
    apply Wk.goff 40 (ok_datw ((ipartsb [] 0 rfl).w rfl) Try.func49 rfl rfl) rfl rfl (by simp)
    apply Wk.pckF rfl (by conv => lhs; whnf) (lt_of_ble rfl)
    apply Wk.asg (by conv => lhs; whnf) (lt_of_ble rfl)
    refine Wk.nil (AW.ret ?_)
    exact RetQ.ret [] (.cons rfl .nil) ⟨rfl, rfl⟩ none_kept
  · skip
    cases cb'
    · skip
      apply AW.list
      apply Wk.ld (i := 2) 5 true ty29 rfl rfl (by conv => lhs; whnf) (lt_of_ble rfl)
      apply Wk.dat (icfgb h0) Try.func48 rfl rfl rfl rfl rfl (lt_of_ble rfl)
      apply Wk.mv (by conv => lhs; whnf) (lt_of_ble rfl)
      apply Wk.gon 31 rfl rfl
      apply Wk.mv (by conv => lhs; whnf) (lt_of_ble rfl)
      apply Wk.pckT rfl (by conv => lhs; whnf) (lt_of_ble rfl)
      apply Wk.mv (by conv => lhs; whnf) (lt_of_ble rfl)
      apply Wk.goff 34 (ok_faddr fd44_1) rfl rfl (by simp)
      apply Wk.goff 34 (ok_load 3 ty31) rfl rfl (by simp)
      apply Wk.goff 34 (ok_len un31) rfl rfl (by simp)
      apply Wk.goff 34 (ok_datw ((inoneb (n := 0) (hi := 24) rfl).w rfl) Try.func47 rfl rfl) rfl rfl (by simp)
      apply Wk.pckF rfl (by conv => lhs; whnf) (lt_of_ble rfl)
      apply Wk.mv (by conv => lhs; whnf) (lt_of_ble rfl)
      apply Wk.goff 40 (ok_faddr fd44_1) rfl rfl (by simp)
      apply Wk.goff 40 (ok_load 3 ty31) rfl rfl (by simp)
      apply Wk.goff 40 (ok_faddr fd29_2) rfl rfl (by simp)
      apply Wk.goff 40 (ok_load 2 ty3) rfl rfl (by simp)
      apply Wk.goff 40 (ok_datw ((ipartsb [] 0 rfl).w rfl) Try.func49 rfl rfl) rfl rfl (by simp)
      apply Wk.pckF rfl (by conv => lhs; whnf) (lt_of_ble rfl)
      apply Wk.asg (by conv => lhs; whnf) (lt_of_ble rfl)
      refine Wk.nil (AW.ret ?_)
      exact RetQ.ret [] (.cons rfl .nil) ⟨rfl, rfl⟩ none_kept
    · skip
      cases h2 : inB (((qu.map datD).length : Nat) : Int) 0 24
      · skip
        apply AW.list
        apply Wk.ld (i := 2) 5 true ty29 rfl rfl (by conv => lhs; whnf) (lt_of_ble rfl)
        apply Wk.dat (icfgb h0) Try.func48 rfl rfl rfl rfl rfl (lt_of_ble rfl)
        apply Wk.mv (by conv => lhs; whnf) (lt_of_ble rfl)
        apply Wk.gon 31 rfl rfl
        apply Wk.mv (by conv => lhs; whnf) (lt_of_ble rfl)
        apply Wk.pckT rfl (by conv => lhs; whnf) (lt_of_ble rfl)
        apply Wk.mv (by conv => lhs; whnf) (lt_of_ble rfl)
        apply Wk.gon 34 rfl rfl
        apply Wk.fad 1 0 false fd44_1 rfl (lt_of_ble rfl)
        apply Wk.gon 34 rfl rfl
        apply Wk.ld (i := 3) 1 false ty31 rfl rfl (by conv => lhs; whnf) (lt_of_ble rfl)
        apply Wk.gon 34 rfl rfl
        apply Wk.len un31 rfl (lt_of_ble rfl)
        apply Wk.gon 34 rfl rfl
        apply Wk.dat (inoneb h2) Try.func47 rfl rfl rfl rfl rfl (lt_of_ble rfl)
        apply Wk.pckT rfl (by conv => lhs; whnf) (lt_of_ble rfl)
        apply Wk.mv (by conv => lhs; whnf) (lt_of_ble rfl)
        apply Wk.goff 40 (ok_faddr fd44_1) rfl rfl (by simp)
        apply Wk.goff 40 (ok_load 3 ty31) rfl rfl (by simp)
        apply Wk.goff 40 (ok_faddr fd29_2) rfl rfl (by simp)
        apply Wk.goff 40 (ok_load 2 ty3) rfl rfl (by simp)
        apply Wk.goff 40 (ok_datw ((ipartsb [] 0 rfl).w rfl) Try.func49 rfl rfl) rfl rfl (by simp)
        apply Wk.pckF rfl (by conv => lhs; whnf) (lt_of_ble rfl)
        apply Wk.asg (by conv => lhs; whnf) (lt_of_ble rfl)
        refine Wk.nil (AW.ret ?_)
        exact RetQ.ret [] (.cons rfl .nil) ⟨rfl, rfl⟩ none_kept
      · skip
        cases h3 : qu.all (partM p0)
        · skip
          apply AW.list
          apply Wk.ld (i := 2) 5 true ty29 rfl rfl (by conv => lhs; whnf) (lt_of_ble rfl)
          apply Wk.dat (icfgb h0) Try.func48 rfl rfl rfl rfl rfl (lt_of_ble rfl)
          apply Wk.mv (by conv => lhs; whnf) (lt_of_ble rfl)
          apply Wk.gon 31 rfl rfl
          apply Wk.mv (by conv => lhs; whnf) (lt_of_ble rfl)
          apply Wk.pckT rfl (by conv => lhs; whnf) (lt_of_ble rfl)
          apply Wk.mv (by conv => lhs; whnf) (lt_of_ble rfl)
          apply Wk.gon 34 rfl rfl
          apply Wk.fad 1 0 false fd44_1 rfl (lt_of_ble rfl)
          apply Wk.gon 34 rfl rfl
          apply Wk.ld (i := 3) 1 false ty31 rfl rfl (by conv => lhs; whnf) (lt_of_ble rfl)
          apply Wk.gon 34 rfl rfl
          apply Wk.len un31 rfl (lt_of_ble rfl)
          apply Wk.gon 34 rfl rfl
          apply Wk.dat (inoneb h2) Try.func47 rfl rfl rfl rfl rfl (lt_of_ble rfl)
          apply Wk.pckT rfl (by conv => lhs; whnf) (lt_of_ble rfl)
          apply Wk.mv (by conv => lhs; whnf) (lt_of_ble rfl)
          apply Wk.gon 40 rfl rfl
          apply Wk.fad 1 0 false fd44_1 rfl (lt_of_ble rfl)
          apply Wk.gon 40 rfl rfl
          apply Wk.ld (i := 3) 1 false ty31 rfl rfl (by conv => lhs; whnf) (lt_of_ble rfl)
          apply Wk.gon 40 rfl rfl
          apply Wk.fad 2 0 false fd29_2 rfl (lt_of_ble rfl)
          apply Wk.gon 40 rfl rfl
          apply Wk.ld (i := 2) 1 false ty3 rfl rfl (by conv => lhs; whnf) (lt_of_ble rfl)
          apply Wk.gon 40 rfl rfl
          apply Wk.dat (ipartsb qu p0 h3) Try.func49 rfl rfl rfl rfl rfl (lt_of_ble rfl)
          apply Wk.pckT rfl (by conv => lhs; whnf) (lt_of_ble rfl)
          apply Wk.asg (by conv => lhs; whnf) (lt_of_ble rfl)
          refine Wk.nil (AW.ret ?_)
          exact RetQ.ret [] (.cons rfl .nil) ⟨rfl, rfl⟩ none_kept
        · skip
          apply AW.list
          apply Wk.ld (i := 2) 5 true ty29 rfl rfl (by conv => lhs; whnf) (lt_of_ble rfl)
          apply Wk.dat (icfgb h0) Try.func48 rfl rfl rfl rfl rfl (lt_of_ble rfl)
          apply Wk.mv (by conv => lhs; whnf) (lt_of_ble rfl)
          apply Wk.gon 31 rfl rfl
          apply Wk.mv (by conv => lhs; whnf) (lt_of_ble rfl)
          apply Wk.pckT rfl (by conv => lhs; whnf) (lt_of_ble rfl)
          apply Wk.mv (by conv => lhs; whnf) (lt_of_ble rfl)
          apply Wk.gon 34 rfl rfl
          apply Wk.fad 1 0 false fd44_1 rfl (lt_of_ble rfl)
          apply Wk.gon 34 rfl rfl
          apply Wk.ld (i := 3) 1 false ty31 rfl rfl (by conv => lhs; whnf) (lt_of_ble rfl)
          apply Wk.gon 34 rfl rfl
          apply Wk.len un31 rfl (lt_of_ble rfl)
          apply Wk.gon 34 rfl rfl
          apply Wk.dat (inoneb h2) Try.func47 rfl rfl rfl rfl rfl (lt_of_ble rfl)
          apply Wk.pckT rfl (by conv => lhs; whnf) (lt_of_ble rfl)
          apply Wk.mv (by conv => lhs; whnf) (lt_of_ble rfl)
          apply Wk.gon 40 rfl rfl
          apply Wk.fad 1 0 false fd44_1 rfl (lt_of_ble rfl)
          apply Wk.gon 40 rfl rfl
          apply Wk.ld (i := 3) 1 false ty31 rfl rfl (by conv => lhs; whnf) (lt_of_ble rfl)
          apply Wk.gon 40 rfl rfl
          apply Wk.fad 2 0 false fd29_2 rfl (lt_of_ble rfl)
          apply Wk.gon 40 rfl rfl
          apply Wk.ld (i := 2) 1 false ty3 rfl rfl (by conv => lhs; whnf) (lt_of_ble rfl)
          apply Wk.gon 40 rfl rfl
          apply Wk.dat (ipartsb qu p0 h3) Try.func49 rfl rfl rfl rfl rfl (lt_of_ble rfl)
          apply Wk.pckT rfl (by conv => lhs; whnf) (lt_of_ble rfl)
          apply Wk.asg (by conv => lhs; whnf) (lt_of_ble rfl)
          refine Wk.nil (AW.ret ?_)
          exact RetQ.ret [] (.cons rfl .nil) ⟨rfl, rfl⟩ none_kept
theorem icxb {m w p u y : Int} {x : CX} {b : Bool} (h : crdOkB ⟨m, w, p, u, y⟩ x = b) : DataOk Try.prog 21 [cfgA m w p u y, cxA x] (.d (.v (.bool b))) := h ▸ icx_ok m w p u y x
theorem in_cput (x : CX) (l : Nat) (b : Bool) : PostIn [66] (fun r bs => r = .tup [cxO x l, .d (.v (.bool b))] ∧ bs = cxB x.qu l) := by
  rintro r bs ⟨rfl, rfl⟩
  exact ⟨by simp [A.within, A.withins, in_cxO], fun i z h => in_cxB h⟩
/-- A message does not fit. -/
def fullC (u : Int) (x : CX) (n k : Nat) : Prop := x.d = true ∨ u < (n : Int) ∨ 24 < x.qu.length + k
def idleC (x : CX) : Prop := x.d = true ∨ x.v = 0 ∨ x.qu = [] ∨ x.s = 9999
/-- Behind a grant. -/
def takeX (x : CX) (n : Int) : CX := if x.d = true then x else if 255 < x.v + n ∨ 9999 < x.g + n then { x with d := true } else { x with v := x.v + n, g := x.g + n }
end Go.Proofs.Ytdjadeegjbhihaa

/- Who sends, out of an argument: as plain data. -/
namespace Go.Proofs.Ytdjadeegjbhihaa
open Go Go.RowKit
abbrev shB : Sh := .slice .byte
abbrev shPart : Sh := .struct [.int, .int, .slice .byte]
abbrev shCfg : Sh := .struct [.int, .int, .int, .int, .int]
abbrev shTx : Sh := .struct [.int, .int, .slice shPart, .int, .slice shPart, .bool, .int, .bool, .int, .bool]
abbrev shCx : Sh := .struct [.int, .slice shPart, .int, .int, .bool]
theorem bytes_sh : ∀ (es : List (List D)), (∀ e ∈ es, Sh.ok .byte e) → ∃ zs : List (Fin 256), D.row es = fbytes zs
  | [], _ => ⟨[], rfl⟩
  | e :: es, h => by
    obtain ⟨z, hz, rfl⟩ := h e List.mem_cons_self
    obtain ⟨zs, hzs⟩ := bytes_sh es fun e he => h e (List.mem_cons_of_mem _ he)
    refine ⟨⟨z, hz⟩ :: zs, ?_⟩
    have := D.row.inj hzs
    simp only [fbytes, bytesD, List.map_cons, this]
theorem parts_sh : ∀ (es : List (List D)), (∀ e ∈ es, Sh.ok shPart e) → ∃ ds : List Dat, es = ds.map datD ∧ ∀ d ∈ ds, Byt d.2.2
  | [], _ => ⟨[], rfl, fun d hd => by cases hd⟩
  | e :: es, h => by
    have h0 := ok_rec (h e List.mem_cons_self)
    obtain ⟨_, _, rfl, q0, h1⟩ := oks_cons h0
    obtain ⟨n0, _, rfl⟩ := ok_num q0
    obtain ⟨_, _, rfl, q1, h2⟩ := oks_cons h1
    obtain ⟨n1, _, rfl⟩ := ok_num q1
    obtain ⟨_, _, rfl, q2, h3⟩ := oks_cons h2
    obtain ⟨bs, rfl, hb⟩ := ok_row q2
    obtain rfl := oks_nil h3
    obtain ⟨zs, hz⟩ := bytes_sh bs hb
    obtain ⟨ds, rfl, hd⟩ := parts_sh es fun e he => h e (List.mem_cons_of_mem _ he)
    refine ⟨(n0, n1, zs.map (·.val)) :: ds, ?_, fun d hm => ?_⟩
    · rw [hz]; rfl
    · rcases List.mem_cons.1 hm with rfl | hm
      · exact fin_byt zs
      · exact hd d hm
theorem cfg_sh (ds : List D) (h : Sh.ok shCfg ds) : ∃ m w p u y : Int, A.agg (ds.map A.d) = cfgA m w p u y := by
  have h0 := ok_rec h
  obtain ⟨_, _, rfl, q0, h1⟩ := oks_cons h0
  obtain ⟨m, _, rfl⟩ := ok_num q0
  obtain ⟨_, _, rfl, q1, h2⟩ := oks_cons h1
  obtain ⟨w, _, rfl⟩ := ok_num q1
  obtain ⟨_, _, rfl, q2, h3⟩ := oks_cons h2
  obtain ⟨p, _, rfl⟩ := ok_num q2
  obtain ⟨_, _, rfl, q3, h4⟩ := oks_cons h3
  obtain ⟨u, _, rfl⟩ := ok_num q3
  obtain ⟨_, _, rfl, q4, h5⟩ := oks_cons h4
  obtain ⟨y, _, rfl⟩ := ok_num q4
  obtain rfl := oks_nil h5
  exact ⟨m, w, p, u, y, rfl⟩
theorem tx_sh (ds : List D) (h : Sh.ok shTx ds) : ∃ x : TX, A.agg (ds.map A.d) = txA x ∧ x.fl.length ≤ tots ds ∧ x.qu.length ≤ tots ds := by
  have h0 := ok_rec h
  obtain ⟨_, _, rfl, q0, h1⟩ := oks_cons h0
  obtain ⟨n, _, rfl⟩ := ok_num q0
  obtain ⟨_, _, rfl, q1, h2⟩ := oks_cons h1
  obtain ⟨a, _, rfl⟩ := ok_num q1
  obtain ⟨_, _, rfl, q2, h3⟩ := oks_cons h2
  obtain ⟨fl, rfl, hfl⟩ := ok_row q2
  obtain ⟨_, _, rfl, q3, h4⟩ := oks_cons h3
  obtain ⟨s, _, rfl⟩ := ok_num q3
  obtain ⟨_, _, rfl, q4, h5⟩ := oks_cons h4
  obtain ⟨qu, rfl, hqu⟩ := ok_row q4
  obtain ⟨_, _, rfl, q5, h6⟩ := oks_cons h5
  obtain ⟨q, rfl⟩ := ok_truth q5
  obtain ⟨_, _, rfl, q6, h7⟩ := oks_cons h6
  obtain ⟨t, _, rfl⟩ := ok_num q6
  obtain ⟨_, _, rfl, q7, h8⟩ := oks_cons h7
  obtain ⟨hh, rfl⟩ := ok_truth q7
  obtain ⟨_, _, rfl, q8, h9⟩ := oks_cons h8
  obtain ⟨c, _, rfl⟩ := ok_num q8
  obtain ⟨_, _, rfl, q9, h10⟩ := oks_cons h9
  obtain ⟨dd, rfl⟩ := ok_truth q9
  obtain rfl := oks_nil h10
  obtain ⟨f1, rfl, _⟩ := parts_sh fl hfl
  obtain ⟨f2, rfl, _⟩ := parts_sh qu hqu
  refine ⟨⟨n, a, f1, s, f2, q, t, hh, c, dd⟩, rfl, ?_, ?_⟩
  · simp only [tots_append, tots, D.tot, List.length_map]; omega
  · simp only [tots_append, tots, D.tot, List.length_map]; omega
theorem cx_sh (ds : List D) (h : Sh.ok shCx ds) : ∃ x : CX, A.agg (ds.map A.d) = cxA x ∧ x.qu.length ≤ tots ds := by
  have h0 := ok_rec h
  obtain ⟨_, _, rfl, q0, h1⟩ := oks_cons h0
  obtain ⟨n, _, rfl⟩ := ok_num q0
  obtain ⟨_, _, rfl, q4, h5⟩ := oks_cons h1
  obtain ⟨qu, rfl, hqu⟩ := ok_row q4
  obtain ⟨_, _, rfl, q1, h2⟩ := oks_cons h5
  obtain ⟨a, _, rfl⟩ := ok_num q1
  obtain ⟨_, _, rfl, q3, h4⟩ := oks_cons h2
  obtain ⟨s, _, rfl⟩ := ok_num q3
  obtain ⟨_, _, rfl, q9, h10⟩ := oks_cons h4
  obtain ⟨dd, rfl⟩ := ok_truth q9
  obtain rfl := oks_nil h10
  obtain ⟨f2, rfl, _⟩ := parts_sh qu hqu
  refine ⟨⟨n, f2, a, s, dd⟩, rfl, ?_⟩
  simp only [tots_append, tots, D.tot, List.length_map]; omega
end Go.Proofs.Ytdjadeegjbhihaa

/- Two ends and what is on its way, as plain data. -/
namespace Go.Proofs.Ytdjadeegjbhihaa
open Go Go.RowKit
/-- Who hears. -/
structure RX where
  e : Int
  c : Int
  m : Int
  bs : List (Fin 256)
  a : Bool
  u : Bool
  d : Bool
/-- Who grants. -/
structure KX where
  v : Int
  m : Int
  bs : List (Fin 256)
  d : Bool
structure EN where
  tx : TX
  rx : RX
  cx : CX
  kx : KX
  put : List (List (Fin 256))
  got : List (List (Fin 256))
structure MSG where
  bent : Bool
  bs : List (Fin 256)
structure WD where
  m : Int
  w : Int
  p : Int
  u : Int
  y : Int
  ends : List EN
  net : List (List MSG)
  link : Int
def rowsD (ms : List (List (Fin 256))) : D := .row (ms.map fun z => [fbytes z])
def bsC (z : List (Fin 256)) : List D := [fbytes z]
def msgC (x : MSG) : List D := [.v (.bool x.bent), fbytes x.bs]
def enD (e : EN) : List D := [.v (.int .i64 e.tx.n), .v (.int .i64 e.tx.a), partsD e.tx.fl, .v (.int .i64 e.tx.s), partsD e.tx.qu, .v (.bool e.tx.q), .v (.int .i64 e.tx.t), .v (.bool e.tx.h), .v (.int .i64 e.tx.c), .v (.bool e.tx.d),
  .v (.int .i64 e.rx.e), .v (.int .i64 e.rx.c), .v (.int .i64 e.rx.m), fbytes e.rx.bs, .v (.bool e.rx.a), .v (.bool e.rx.u), .v (.bool e.rx.d),
  .v (.int .i64 e.cx.v), partsD e.cx.qu, .v (.int .i64 e.cx.g), .v (.int .i64 e.cx.s), .v (.bool e.cx.d),
  .v (.int .i64 e.kx.v), .v (.int .i64 e.kx.m), fbytes e.kx.bs, .v (.bool e.kx.d), .row (e.put.map bsC), .row (e.got.map bsC)]
def wdD (x : WD) : List D := [.v (.int .i64 x.m), .v (.int .i64 x.w), .v (.int .i64 x.p), .v (.int .i64 x.u), .v (.int .i64 x.y), .row (x.ends.map enD), .row (x.net.map fun l => [.row (l.map msgC)]), .v (.int .i64 x.link)]
def wdA (x : WD) : A := .agg ((wdD x).map A.d)
/-- One that is at its end. -/
def EN.dead (e : EN) : Bool := e.tx.d || (e.rx.d || (e.cx.d || e.kx.d))
def WD.dead (x : WD) : Bool := x.ends.any EN.dead
end Go.Proofs.Ytdjadeegjbhihaa

/- Two ends, out of an argument: as plain data. -/
namespace Go.Proofs.Ytdjadeegjbhihaa
open Go Go.RowKit
abbrev shJoin : Sh := .struct [.int, .slice .byte]
abbrev shRx : Sh := .struct [.int, .int, shJoin, .bool, .bool, .bool]
abbrev shKx : Sh := .struct [.int, shJoin, .bool]
abbrev shMsg : Sh := .struct [.bool, .slice .byte]
abbrev shEnd : Sh := .struct [shTx, shRx, shCx, shKx, .slice (.slice .byte), .slice (.slice .byte)]
abbrev shWd : Sh := .struct [shCfg, .slice shEnd, .slice (.slice shMsg), .int]
theorem mapd_inj {a b : List D} (h : a.map A.d = b.map A.d) : a = b := by
  induction a generalizing b with
  | nil => cases b with
    | nil => rfl
    | cons y b => simp at h
  | cons x a ih => cases b with
    | nil => simp at h
    | cons y b =>
      simp only [List.map_cons, List.cons.injEq, A.d.injEq] at h
      rw [h.1, ih h.2]
theorem sdus_sh : ∀ (es : List (List D)), (∀ e ∈ es, Sh.ok (.slice .byte) e) → ∃ ms : List (List (Fin 256)), es = ms.map bsC
  | [], _ => ⟨[], rfl⟩
  | e :: es, h => by
    obtain ⟨bs, rfl, hb⟩ := ok_row (h e List.mem_cons_self)
    obtain ⟨z, hz⟩ := bytes_sh bs hb
    obtain ⟨ms, rfl⟩ := sdus_sh es fun e he => h e (List.mem_cons_of_mem _ he)
    exact ⟨z :: ms, by rw [hz]; rfl⟩
theorem msgs_sh : ∀ (es : List (List D)), (∀ e ∈ es, Sh.ok shMsg e) → ∃ l : List MSG, es = l.map msgC
  | [], _ => ⟨[], rfl⟩
  | e :: es, h => by
    have h0 := ok_rec (h e List.mem_cons_self)
    obtain ⟨_, _, rfl, q0, h1⟩ := oks_cons h0
    obtain ⟨b, rfl⟩ := ok_truth q0
    obtain ⟨_, _, rfl, q1, h2⟩ := oks_cons h1
    obtain ⟨bs, rfl, hb⟩ := ok_row q1
    obtain rfl := oks_nil h2
    obtain ⟨z, hz⟩ := bytes_sh bs hb
    obtain ⟨ms, rfl⟩ := msgs_sh es fun e he => h e (List.mem_cons_of_mem _ he)
    exact ⟨⟨b, z⟩ :: ms, by rw [hz]; rfl⟩
theorem nets_sh : ∀ (es : List (List D)), (∀ e ∈ es, Sh.ok (.slice shMsg) e) → ∃ n : List (List MSG), es = n.map fun l => [.row (l.map msgC)]
  | [], _ => ⟨[], rfl⟩
  | e :: es, h => by
    obtain ⟨bs, rfl, hb⟩ := ok_row (h e List.mem_cons_self)
    obtain ⟨l, rfl⟩ := msgs_sh bs hb
    obtain ⟨ms, rfl⟩ := nets_sh es fun e he => h e (List.mem_cons_of_mem _ he)
    exact ⟨l :: ms, rfl⟩
def txDl (x : TX) : List D := [.v (.int .i64 x.n), .v (.int .i64 x.a), partsD x.fl, .v (.int .i64 x.s), partsD x.qu, .v (.bool x.q), .v (.int .i64 x.t), .v (.bool x.h), .v (.int .i64 x.c), .v (.bool x.d)]
def cxDl (x : CX) : List D := [.v (.int .i64 x.v), partsD x.qu, .v (.int .i64 x.g), .v (.int .i64 x.s), .v (.bool x.d)]
def rxDl (x : RX) : List D := [.v (.int .i64 x.e), .v (.int .i64 x.c), .v (.int .i64 x.m), fbytes x.bs, .v (.bool x.a), .v (.bool x.u), .v (.bool x.d)]
def kxDl (x : KX) : List D := [.v (.int .i64 x.v), .v (.int .i64 x.m), fbytes x.bs, .v (.bool x.d)]
theorem txd_sh (ds : List D) (h : Sh.ok shTx ds) : ∃ x : TX, ds = txDl x := by
  obtain ⟨x, hx, _⟩ := tx_sh ds h
  exact ⟨x, mapd_inj (A.agg.inj hx)⟩
theorem cxd_sh (ds : List D) (h : Sh.ok shCx ds) : ∃ x : CX, ds = cxDl x := by
  obtain ⟨x, hx, _⟩ := cx_sh ds h
  exact ⟨x, mapd_inj (A.agg.inj hx)⟩
theorem joind_sh (ds : List D) (h : Sh.ok shJoin ds) : ∃ (m : Int) (z : List (Fin 256)), ds = [.v (.int .i64 m), fbytes z] := by
  have h0 := ok_rec h
  obtain ⟨_, _, rfl, q0, h1⟩ := oks_cons h0
  obtain ⟨m, _, rfl⟩ := ok_num q0
  obtain ⟨_, _, rfl, q1, h2⟩ := oks_cons h1
  obtain ⟨bs, rfl, hb⟩ := ok_row q1
  obtain rfl := oks_nil h2
  obtain ⟨z, hz⟩ := bytes_sh bs hb
  exact ⟨m, z, by rw [hz]; rfl⟩
theorem rxd_sh (ds : List D) (h : Sh.ok shRx ds) : ∃ x : RX, ds = rxDl x := by
  have h0 := ok_rec h
  obtain ⟨_, _, rfl, q0, h1⟩ := oks_cons h0
  obtain ⟨e, _, rfl⟩ := ok_num q0
  obtain ⟨_, _, rfl, q1, h2⟩ := oks_cons h1
  obtain ⟨c, _, rfl⟩ := ok_num q1
  obtain ⟨_, _, rfl, q2, h3⟩ := oks_cons h2
  obtain ⟨m, z, rfl⟩ := joind_sh _ q2
  obtain ⟨_, _, rfl, q3, h4⟩ := oks_cons h3
  obtain ⟨a, rfl⟩ := ok_truth q3
  obtain ⟨_, _, rfl, q4, h5⟩ := oks_cons h4
  obtain ⟨u, rfl⟩ := ok_truth q4
  obtain ⟨_, _, rfl, q5, h6⟩ := oks_cons h5
  obtain ⟨d, rfl⟩ := ok_truth q5
  obtain rfl := oks_nil h6
  exact ⟨⟨e, c, m, z, a, u, d⟩, rfl⟩
theorem kxd_sh (ds : List D) (h : Sh.ok shKx ds) : ∃ x : KX, ds = kxDl x := by
  have h0 := ok_rec h
  obtain ⟨_, _, rfl, q0, h1⟩ := oks_cons h0
  obtain ⟨v, _, rfl⟩ := ok_num q0
  obtain ⟨_, _, rfl, q2, h3⟩ := oks_cons h1
  obtain ⟨m, z, rfl⟩ := joind_sh _ q2
  obtain ⟨_, _, rfl, q3, h4⟩ := oks_cons h3
  obtain ⟨d, rfl⟩ := ok_truth q3
  obtain rfl := oks_nil h4
  exact ⟨⟨v, m, z, d⟩, rfl⟩
theorem end_sh (e : List D) (h : Sh.ok shEnd e) : ∃ x : EN, e = enD x := by
  have h0 := ok_rec h
  obtain ⟨t, _, rfl, q0, h1⟩ := oks_cons h0
  obtain ⟨r, _, rfl, q1, h2⟩ := oks_cons h1
  obtain ⟨c, _, rfl, q2, h3⟩ := oks_cons h2
  obtain ⟨k, _, rfl, q3, h4⟩ := oks_cons h3
  obtain ⟨_, _, rfl, q4, h5⟩ := oks_cons h4
  obtain ⟨pu, rfl, hp⟩ := ok_row q4
  obtain ⟨_, _, rfl, q5, h6⟩ := oks_cons h5
  obtain ⟨go, rfl, hg⟩ := ok_row q5
  obtain rfl := oks_nil h6
  obtain ⟨tx, rfl⟩ := txd_sh t q0
  obtain ⟨rx, rfl⟩ := rxd_sh r q1
  obtain ⟨cx, rfl⟩ := cxd_sh c q2
  obtain ⟨kx, rfl⟩ := kxd_sh k q3
  obtain ⟨ps, rfl⟩ := sdus_sh pu hp
  obtain ⟨gs, rfl⟩ := sdus_sh go hg
  exact ⟨⟨tx, rx, cx, kx, ps, gs⟩, rfl⟩
theorem ends_sh : ∀ (es : List (List D)), (∀ e ∈ es, Sh.ok shEnd e) → ∃ l : List EN, es = l.map enD
  | [], _ => ⟨[], rfl⟩
  | e :: es, h => by
    obtain ⟨x, rfl⟩ := end_sh e (h e List.mem_cons_self)
    obtain ⟨ms, rfl⟩ := ends_sh es fun e he => h e (List.mem_cons_of_mem _ he)
    exact ⟨x :: ms, rfl⟩
theorem wd_sh (ds : List D) (h : Sh.ok shWd ds) : ∃ x : WD, A.agg (ds.map A.d) = wdA x ∧ x.ends.length ≤ tots ds ∧ x.net.length ≤ tots ds := by
  have h0 := ok_rec h
  obtain ⟨c, _, rfl, q0, h1⟩ := oks_cons h0
  obtain ⟨m, w, p, u, y, ec⟩ := cfg_sh c q0
  obtain rfl : c = [.v (.int .i64 m), .v (.int .i64 w), .v (.int .i64 p), .v (.int .i64 u), .v (.int .i64 y)] := mapd_inj (A.agg.inj ec)
  obtain ⟨_, _, rfl, q1, h2⟩ := oks_cons h1
  obtain ⟨es, rfl, he⟩ := ok_row q1
  obtain ⟨_, _, rfl, q2, h3⟩ := oks_cons h2
  obtain ⟨ns, rfl, hn⟩ := ok_row q2
  obtain ⟨_, _, rfl, q3, h4⟩ := oks_cons h3
  obtain ⟨l, _, rfl⟩ := ok_num q3
  obtain rfl := oks_nil h4
  obtain ⟨ends, rfl⟩ := ends_sh es he
  obtain ⟨net, rfl⟩ := nets_sh ns hn
  refine ⟨⟨m, w, p, u, y, ends, net, l⟩, rfl, ?_, ?_⟩
  · simp only [tots_append, tots, D.tot, List.length_map]; omega
  · simp only [tots_append, tots, D.tot, List.length_map]; omega
end Go.Proofs.Ytdjadeegjbhihaa
