/- Laws and contracts that the proof stands on: AbsTxOkI, AbsCrdS, XTx, XdTx. -/
import Derived.Test.YtdjadeegjbhihaaMa
import Derived.Test.YtdjadeegjbhihaaMb
import Derived.Test.YtdjadeegjbhihaaMc
import Derived.Test.YtdjadeegjbhihaaMd
/- TxOk of the program, over what values read as. Written by tools/mk_AbsTxOkI.py. -/
namespace Go.Proofs.Ytdjadeegjbhihaa
open Go Go.RowKit
/-- The number of what is so many on, as the program answers it. -/
def numI (n : Int) : Int := if n < 0 then -1 else n % 8
theorem inum_ok (n : Int) : DataOk Try.prog 46 [.d (.v (.int .i64 n))] (.d (.v (.int .i64 (numI n)))) := by
  by_cases h : n < 0
  · rw [numI, if_pos h]; exact int1 (impl_numof_no n h)
  · rw [numI, if_neg h]; exact int1 (impl_numof n (by omega))
theorem inoneb {n hi : Int} {b : Bool} (h : inB n 0 hi = b) : DataOk Try.prog 47 [.d (.v (.int .i64 n)), .d (.v (.int .i64 hi))] (.d (.v (.bool b))) := by
  subst h
  refine DataOk.lift fun w F E H args _ hs hd => ?_
  obtain ⟨v, u, rfl, hv, hu⟩ := args2 hs hd
  obtain rfl := den_v hv
  obtain rfl := den_v hu
  go_enter Try.func47, Try.ntmps47
  go_wp2
  all_goals
    go_ret
    refine ⟨ret_bool ?_, Below.refl _ _⟩
    go_light
    grind [inB]
theorem icfgb {m n s t y : Int} {b : Bool} (h : Opt.ok ⟨m, n, s, t, y⟩ = b) : DataOk Try.prog 48 [cfgA m n s t y] (.d (.v (.bool b))) := by
  subst h
  refine DataOk.lift fun w F E H args _ hs hd => ?_
  obtain ⟨v, rfl, hv⟩ := arg1 hs hd
  obtain rfl := cfg_args hv
  exact impl_cfg_v _ _ _ _ _ w
theorem ifarb (a b : Int) : DataOk Try.prog 45 [.d (.v (.int .i64 a)), .d (.v (.int .i64 b))] (.d (.v (.int .i64 (farF a b)))) := int2 (impl_far_any a b)
theorem ipartsb (ds : List Dat) (m : Int) {b : Bool} (h : ds.all (partM m) = b) : DataOk Try.prog 49 [.d (partsD ds), .d (.v (.int .i64 m))] (.d (.v (.bool b))) := h ▸ iparts_ok ds m
theorem txOk_parts (o : Opt) (x : TX) : txOkB o x = (o.ok && ((decide (farF x.a x.n = (x.fl.length : Int)) && decide (numI x.c = x.a)) && ((inB (x.fl.length : Int) 0 o.win && (inB x.s 0 (x.fl.length : Int) && (inB (x.qu.length : Int) 0 24 && (inB x.t 0 o.tri && inB x.c 0 9999)))) && (x.fl.all (partM o.mps) && x.qu.all (partM o.mps))))) := by
  apply bool_of_iff
  simp only [txOkB, Bool.and_eq_true, decide_eq_true_eq, inB_iff]
  rcases far_cases x.a x.n with ⟨h1, h2, h3⟩ | ⟨_, h2, h3⟩
  · constructor
    · rintro ⟨k1, k2, k3, k4, k5, k6, k7, k8, k9, k10, k11, k12⟩
      exact ⟨k1, ⟨k5, by rw [numI, if_neg (by omega)]; omega⟩, ⟨⟨by omega, k4⟩, k6, ⟨by omega, by omega⟩, k8, k9⟩, k11, k12⟩
    · rintro ⟨k1, ⟨k2, k3⟩, ⟨k4, k5, k6, k7, k8⟩, k9, k10⟩
      rw [numI, if_neg (by omega)] at k3
      exact ⟨k1, by omega, by omega, k4.2, k2, k5, by omega, k7, k8, by omega, k9, k10⟩
  · constructor
    · rintro ⟨k1, k2, k3, k4, k5, _⟩; omega
    · rintro ⟨k1, ⟨k2, k3⟩, _⟩; omega
set_option maxHeartbeats 16000000 in
set_option maxRecDepth 100000 in
theorem itx_ok (m0 w0 p0 u0 y0 : Int) (x : TX) : DataOk Try.prog 14 [cfgA m0 w0 p0 u0 y0, txA x] (.d (.v (.bool (txOkB ⟨m0, w0, p0, u0, y0⟩ x)))) := by
  rw [txOk_parts]
  obtain ⟨n, a, fl, s, qu, q, t, h, c, d⟩ := x
  have e1 : (((fl.map datD).length : Nat) : Int) = (fl.length : Int) := by rw [List.length_map]
  have e2 : (((qu.map datD).length : Nat) : Int) = (qu.length : Int) := by rw [List.length_map]
  simp only
  rw [← e1, ← e2]
  obtain ⟨nb, hnb⟩ : ∃ nb, nb = (decide (farF a n = (((fl.map datD).length : Nat) : Int)) && decide (numI c = a)) := ⟨_, rfl⟩
  obtain ⟨cb, hcb⟩ : ∃ cb, cb = (inB (((fl.map datD).length : Nat) : Int) 0 w0 && (inB s 0 (((fl.map datD).length : Nat) : Int) && (inB (((qu.map datD).length : Nat) : Int) 0 24 && (inB t 0 y0 && inB c 0 9999)))) := ⟨_, rfl⟩
  rw [← hnb, ← hcb]
  refine Spec.intro (n := 76) (rv := [.tmp 4]) Try.func14 rfl rfl rfl (by simp) fun C hN hX => ?_
  have hL : ∃ L : Nat, L = (fl.map datD).length := ⟨_, rfl⟩
  refine AW.seq ?_
  apply AW.list
  apply Wk.bx 2 rfl rfl (lt_of_ble rfl)
  apply Wk.bx 3 rfl rfl (lt_of_ble rfl)
  apply Wk.asg (by conv => lhs; whnf) (lt_of_ble rfl)
  refine Wk.nil ?_
  refine AW.seq ?_
  apply AW.list
  apply Wk.fad 2 0 false fd33_2 rfl (lt_of_ble rfl)
  apply Wk.ld (i := 3) 1 false ty31 rfl rfl (by conv => lhs; whnf) (lt_of_ble rfl)
  apply Wk.len un31 rfl (lt_of_ble rfl)
  apply Wk.asg (by conv => lhs; whnf) (lt_of_ble rfl)
  refine Wk.nil ?_
  refine AW.via (fun b : Bool => St.of 76 [(2, .ptr 2 0), (3, .ptr 3 0), (5, .d (.v (.int .i64 (((fl.map datD).length : Nat) : Int)))), (6, .d (.v (.bool b)))] [(2, .var [.d (.v (.int .i64 m0)), .d (.v (.int .i64 w0)), .d (.v (.int .i64 p0)), .d (.v (.int .i64 u0)), .d (.v (.int .i64 y0))]), (3, .var [.d (.v (.int .i64 n)), .d (.v (.int .i64 a)), .d (partsD fl), .d (.v (.int .i64 s)), .d (partsD qu), .d (.v (.bool q)), .d (.v (.int .i64 t)), .d (.v (.bool h)), .d (.v (.int .i64 c)), .d (.v (.bool d))])]) (fun b => b = nb) ?_ ?_
  · by_cases c1 : farF a n = (((fl.map datD).length : Nat) : Int)
    · by_cases c2 : numI c = a
      · skip
        apply AW.draw (hm := hmix) (cs := _)
        · apply Wk.fad 1 0 false fd33_1 rfl (lt_of_ble rfl)
          apply Wk.ld (i := 3) 1 false ty3 rfl rfl (by conv => lhs; whnf) (lt_of_ble rfl)
          apply Wk.fad 0 0 false fd33_0 rfl (lt_of_ble rfl)
          apply Wk.ld (i := 3) 1 false ty3 rfl rfl (by conv => lhs; whnf) (lt_of_ble rfl)
          apply Wk.dat (ifarb a n) Try.func45 rfl rfl rfl rfl rfl (lt_of_ble rfl)
          apply Wk.mv (by conv => lhs; whnf) (lt_of_ble rfl)
          apply Wk.bin rfl rfl (r := .bool true) (fun w => by simp [go_sem, -List.length_map, c1]) (lt_of_ble rfl)
          apply Wk.mv (by conv => lhs; whnf) (lt_of_ble rfl)
          apply Wk.gon 18 rfl rfl
          apply Wk.fad 8 0 false fd33_8 rfl (lt_of_ble rfl)
          apply Wk.gon 18 rfl rfl
          apply Wk.ld (i := 3) 1 false ty3 rfl rfl (by conv => lhs; whnf) (lt_of_ble rfl)
          apply Wk.gon 18 rfl rfl
          apply Wk.dat (inum_ok c) Try.func46 rfl rfl rfl rfl rfl (lt_of_ble rfl)
          apply Wk.gon 18 rfl rfl
          apply Wk.fad 1 0 false fd33_1 rfl (lt_of_ble rfl)
          apply Wk.gon 18 rfl rfl
          apply Wk.ld (i := 3) 1 false ty3 rfl rfl (by conv => lhs; whnf) (lt_of_ble rfl)
          apply Wk.gon 18 rfl rfl
          apply Wk.bin rfl rfl (r := .bool true) (fun w => by simp [go_sem, c2]) (lt_of_ble rfl)
          apply Wk.pckT rfl (by conv => lhs; whnf) (lt_of_ble rfl)
          apply Wk.asg (by conv => lhs; whnf) (lt_of_ble rfl)
          refine Wk.nil (thenA_normal ?_)
          exact ⟨true, by rw [hnb, decide_eq_true c1, decide_eq_true c2]; rfl, fun a w => Rel.keep ⟨rfl, (.cons rfl rfl (.cons rfl rfl (.cons rfl rfl (.cons rfl rfl .nil)))), .cons rfl rfl (.cons rfl rfl .nil), hN.mono (by simp [keys])⟩⟩
        · rfl
        · rfl
      · skip
        apply AW.draw (hm := hmix) (cs := _)
        · apply Wk.fad 1 0 false fd33_1 rfl (lt_of_ble rfl)
          apply Wk.ld (i := 3) 1 false ty3 rfl rfl (by conv => lhs; whnf) (lt_of_ble rfl)
          apply Wk.fad 0 0 false fd33_0 rfl (lt_of_ble rfl)
          apply Wk.ld (i := 3) 1 false ty3 rfl rfl (by conv => lhs; whnf) (lt_of_ble rfl)
          apply Wk.dat (ifarb a n) Try.func45 rfl rfl rfl rfl rfl (lt_of_ble rfl)
          apply Wk.mv (by conv => lhs; whnf) (lt_of_ble rfl)
          apply Wk.bin rfl rfl (r := .bool true) (fun w => by simp [go_sem, -List.length_map, c1]) (lt_of_ble rfl)
          apply Wk.mv (by conv => lhs; whnf) (lt_of_ble rfl)
          apply Wk.gon 18 rfl rfl
          apply Wk.fad 8 0 false fd33_8 rfl (lt_of_ble rfl)
          apply Wk.gon 18 rfl rfl
          apply Wk.ld (i := 3) 1 false ty3 rfl rfl (by conv => lhs; whnf) (lt_of_ble rfl)
          apply Wk.gon 18 rfl rfl
          apply Wk.dat (inum_ok c) Try.func46 rfl rfl rfl rfl rfl (lt_of_ble rfl)
          apply Wk.gon 18 rfl rfl
          apply Wk.fad 1 0 false fd33_1 rfl (lt_of_ble rfl)
          apply Wk.gon 18 rfl rfl
          apply Wk.ld (i := 3) 1 false ty3 rfl rfl (by conv => lhs; whnf) (lt_of_ble rfl)
          apply Wk.gon 18 rfl rfl
          apply Wk.bin rfl rfl (r := .bool false) (fun w => by simp [go_sem, c2]) (lt_of_ble rfl)
          apply Wk.pckT rfl (by conv => lhs; whnf) (lt_of_ble rfl)
          apply Wk.asg (by conv => lhs; whnf) (lt_of_ble rfl)
          refine Wk.nil (thenA_normal ?_)
          exact ⟨false, by rw [hnb, decide_eq_true c1, decide_eq_false c2]; rfl, fun a w => Rel.keep ⟨rfl, (.cons rfl rfl (.cons rfl rfl (.cons rfl rfl (.cons rfl rfl .nil)))), .cons rfl rfl (.cons rfl rfl .nil), hN.mono (by simp [keys])⟩⟩
        · rfl
        · rfl
    · skip
      apply AW.draw (hm := hmix) (cs := _)
      · apply Wk.fad 1 0 false fd33_1 rfl (lt_of_ble rfl)
        apply Wk.ld (i := 3) 1 false ty3 rfl rfl (by conv => lhs; whnf) (lt_of_ble rfl)
        apply Wk.fad 0 0 false fd33_0 rfl (lt_of_ble rfl)
        apply Wk.ld (i := 3) 1 false ty3 rfl rfl (by conv => lhs; whnf) (lt_of_ble rfl)
        apply Wk.dat (ifarb a n) Try.func45 rfl rfl rfl rfl rfl (lt_of_ble rfl)
        apply Wk.mv (by conv => lhs; whnf) (lt_of_ble rfl)
        apply Wk.bin rfl rfl (r := .bool false) (fun w => by simp [go_sem, -List.length_map, c1]) (lt_of_ble rfl)
        apply Wk.mv (by conv => lhs; whnf) (lt_of_ble rfl)
        apply Wk.goff 18 (ok_faddr fd33_8) rfl rfl (by simp)
        apply Wk.goff 18 (ok_load 3 ty3) rfl rfl (by simp)
        apply Wk.goff 18 (ok_datw ((inum_ok c).w rfl) Try.func46 rfl rfl) rfl rfl (by simp)
        apply Wk.goff 18 (ok_faddr fd33_1) rfl rfl (by simp)
        apply Wk.goff 18 (ok_load 3 ty3) rfl rfl (by simp)
        apply Wk.goff 18 (ok_bin _ _ _ _ _) rfl rfl (by simp)
        apply Wk.pckF rfl (by conv => lhs; whnf) (lt_of_ble rfl)
        apply Wk.asg (by conv => lhs; whnf) (lt_of_ble rfl)
        refine Wk.nil (thenA_normal ?_)
        exact ⟨false, by rw [hnb, decide_eq_false c1]; rfl, fun a w => Rel.keep ⟨rfl, (.cons rfl rfl (.cons rfl rfl (.cons rfl rfl (.cons rfl rfl .nil)))), .cons rfl rfl (.cons rfl rfl .nil), hN.mono (by simp [keys])⟩⟩
      · rfl
      · rfl
  rintro nb' rfl
  refine AW.via (fun b : Bool => St.of 76 [(2, .ptr 2 0), (3, .ptr 3 0), (5, .d (.v (.int .i64 (((fl.map datD).length : Nat) : Int)))), (6, .d (.v (.bool nb'))), (7, .d (.v (.bool b)))] [(2, .var [.d (.v (.int .i64 m0)), .d (.v (.int .i64 w0)), .d (.v (.int .i64 p0)), .d (.v (.int .i64 u0)), .d (.v (.int .i64 y0))]), (3, .var [.d (.v (.int .i64 n)), .d (.v (.int .i64 a)), .d (partsD fl), .d (.v (.int .i64 s)), .d (partsD qu), .d (.v (.bool q)), .d (.v (.int .i64 t)), .d (.v (.bool h)), .d (.v (.int .i64 c)), .d (.v (.bool d))])]) (fun b => b = cb) ?_ ?_
  · skip
    cases k0 : inB (((fl.map datD).length : Nat) : Int) 0 w0
    · skip
      apply AW.list
      apply Wk.mv (by conv => lhs; whnf) (lt_of_ble rfl)
      apply Wk.fad 1 0 false fd29_1 rfl (lt_of_ble rfl)
      apply Wk.ld (i := 2) 1 false ty3 rfl rfl (by conv => lhs; whnf) (lt_of_ble rfl)
      apply Wk.dat (inoneb k0) Try.func47 rfl rfl rfl rfl rfl (lt_of_ble rfl)
      apply Wk.mv (by conv => lhs; whnf) (lt_of_ble rfl)
      apply Wk.goff 30 (ok_faddr fd33_3) rfl rfl (by simp)
      apply Wk.goff 30 (ok_load 3 ty3) rfl rfl (by simp)
      apply Wk.goff 30 (ok_move _) rfl rfl (by simp)
      apply Wk.goff 30 (ok_datw ((inoneb (n := 0) (hi := 0) rfl).w rfl) Try.func47 rfl rfl) rfl rfl (by simp)
      apply Wk.pckF rfl (by conv => lhs; whnf) (lt_of_ble rfl)
      apply Wk.mv (by conv => lhs; whnf) (lt_of_ble rfl)
      apply Wk.goff 36 (ok_faddr fd33_4) rfl rfl (by simp)
      apply Wk.goff 36 (ok_load 3 ty31) rfl rfl (by simp)
      apply Wk.goff 36 (ok_len un31) rfl rfl (by simp)
      apply Wk.goff 36 (ok_datw ((inoneb (n := 0) (hi := 0) rfl).w rfl) Try.func47 rfl rfl) rfl rfl (by simp)
      apply Wk.pckF rfl (by conv => lhs; whnf) (lt_of_ble rfl)
      apply Wk.mv (by conv => lhs; whnf) (lt_of_ble rfl)
      apply Wk.goff 42 (ok_faddr fd33_6) rfl rfl (by simp)
      apply Wk.goff 42 (ok_load 3 ty3) rfl rfl (by simp)
      apply Wk.goff 42 (ok_faddr fd29_4) rfl rfl (by simp)
      apply Wk.goff 42 (ok_load 2 ty3) rfl rfl (by simp)
      apply Wk.goff 42 (ok_datw ((inoneb (n := 0) (hi := 0) rfl).w rfl) Try.func47 rfl rfl) rfl rfl (by simp)
      apply Wk.pckF rfl (by conv => lhs; whnf) (lt_of_ble rfl)
      apply Wk.mv (by conv => lhs; whnf) (lt_of_ble rfl)
      apply Wk.goff 49 (ok_faddr fd33_8) rfl rfl (by simp)
      apply Wk.goff 49 (ok_load 3 ty3) rfl rfl (by simp)
      apply Wk.goff 49 (ok_datw ((inoneb (n := 0) (hi := 0) rfl).w rfl) Try.func47 rfl rfl) rfl rfl (by simp)
      apply Wk.pckF rfl (by conv => lhs; whnf) (lt_of_ble rfl)
      apply Wk.asg (by conv => lhs; whnf) (lt_of_ble rfl)
      refine Wk.nil (thenA_normal ?_)
      exact ⟨false, by rw [hcb, k0]; rfl, fun a w => Rel.keep ⟨rfl, (.cons rfl rfl (.cons rfl rfl (.cons rfl rfl (.cons rfl rfl (.cons rfl rfl .nil))))), .cons rfl rfl (.cons rfl rfl .nil), hN.mono (by simp [keys])⟩⟩
    · skip
      cases k1 : inB s 0 (((fl.map datD).length : Nat) : Int)
      · skip
        apply AW.list
        apply Wk.mv (by conv => lhs; whnf) (lt_of_ble rfl)
        apply Wk.fad 1 0 false fd29_1 rfl (lt_of_ble rfl)
        apply Wk.ld (i := 2) 1 false ty3 rfl rfl (by conv => lhs; whnf) (lt_of_ble rfl)
        apply Wk.dat (inoneb k0) Try.func47 rfl rfl rfl rfl rfl (lt_of_ble rfl)
        apply Wk.mv (by conv => lhs; whnf) (lt_of_ble rfl)
        apply Wk.gon 30 rfl rfl
        apply Wk.fad 3 0 false fd33_3 rfl (lt_of_ble rfl)
        apply Wk.gon 30 rfl rfl
        apply Wk.ld (i := 3) 1 false ty3 rfl rfl (by conv => lhs; whnf) (lt_of_ble rfl)
        apply Wk.gon 30 rfl rfl
        apply Wk.mv (by conv => lhs; whnf) (lt_of_ble rfl)
        apply Wk.gon 30 rfl rfl
        apply Wk.dat (inoneb k1) Try.func47 rfl rfl rfl rfl rfl (lt_of_ble rfl)
        apply Wk.pckT rfl (by conv => lhs; whnf) (lt_of_ble rfl)
        apply Wk.mv (by conv => lhs; whnf) (lt_of_ble rfl)
        apply Wk.goff 36 (ok_faddr fd33_4) rfl rfl (by simp)
        apply Wk.goff 36 (ok_load 3 ty31) rfl rfl (by simp)
        apply Wk.goff 36 (ok_len un31) rfl rfl (by simp)
        apply Wk.goff 36 (ok_datw ((inoneb (n := 0) (hi := 0) rfl).w rfl) Try.func47 rfl rfl) rfl rfl (by simp)
        apply Wk.pckF rfl (by conv => lhs; whnf) (lt_of_ble rfl)
        apply Wk.mv (by conv => lhs; whnf) (lt_of_ble rfl)
        apply Wk.goff 42 (ok_faddr fd33_6) rfl rfl (by simp)
        apply Wk.goff 42 (ok_load 3 ty3) rfl rfl (by simp)
        apply Wk.goff 42 (ok_faddr fd29_4) rfl rfl (by simp)
        apply Wk.goff 42 (ok_load 2 ty3) rfl rfl (by simp)
        apply Wk.goff 42 (ok_datw ((inoneb (n := 0) (hi := 0) rfl).w rfl) Try.func47 rfl rfl) rfl rfl (by simp)
        apply Wk.pckF rfl (by conv => lhs; whnf) (lt_of_ble rfl)
        apply Wk.mv (by conv => lhs; whnf) (lt_of_ble rfl)
        apply Wk.goff 49 (ok_faddr fd33_8) rfl rfl (by simp)
        apply Wk.goff 49 (ok_load 3 ty3) rfl rfl (by simp)
        apply Wk.goff 49 (ok_datw ((inoneb (n := 0) (hi := 0) rfl).w rfl) Try.func47 rfl rfl) rfl rfl (by simp)
        apply Wk.pckF rfl (by conv => lhs; whnf) (lt_of_ble rfl)
        apply Wk.asg (by conv => lhs; whnf) (lt_of_ble rfl)
        refine Wk.nil (thenA_normal ?_)
        exact ⟨false, by rw [hcb, k0, k1]; rfl, fun a w => Rel.keep ⟨rfl, (.cons rfl rfl (.cons rfl rfl (.cons rfl rfl (.cons rfl rfl (.cons rfl rfl .nil))))), .cons rfl rfl (.cons rfl rfl .nil), hN.mono (by simp [keys])⟩⟩
      · skip
        cases k2 : inB (((qu.map datD).length : Nat) : Int) 0 24
        · skip
          apply AW.list
          apply Wk.mv (by conv => lhs; whnf) (lt_of_ble rfl)
          apply Wk.fad 1 0 false fd29_1 rfl (lt_of_ble rfl)
          apply Wk.ld (i := 2) 1 false ty3 rfl rfl (by conv => lhs; whnf) (lt_of_ble rfl)
          apply Wk.dat (inoneb k0) Try.func47 rfl rfl rfl rfl rfl (lt_of_ble rfl)
          apply Wk.mv (by conv => lhs; whnf) (lt_of_ble rfl)
          apply Wk.gon 30 rfl rfl
          apply Wk.fad 3 0 false fd33_3 rfl (lt_of_ble rfl)
          apply Wk.gon 30 rfl rfl
          apply Wk.ld (i := 3) 1 false ty3 rfl rfl (by conv => lhs; whnf) (lt_of_ble rfl)
          apply Wk.gon 30 rfl rfl
          apply Wk.mv (by conv => lhs; whnf) (lt_of_ble rfl)
          apply Wk.gon 30 rfl rfl
          apply Wk.dat (inoneb k1) Try.func47 rfl rfl rfl rfl rfl (lt_of_ble rfl)
          apply Wk.pckT rfl (by conv => lhs; whnf) (lt_of_ble rfl)
          apply Wk.mv (by conv => lhs; whnf) (lt_of_ble rfl)
          apply Wk.gon 36 rfl rfl
          apply Wk.fad 4 0 false fd33_4 rfl (lt_of_ble rfl)
          apply Wk.gon 36 rfl rfl
          apply Wk.ld (i := 3) 1 false ty31 rfl rfl (by conv => lhs; whnf) (lt_of_ble rfl)
          apply Wk.gon 36 rfl rfl
          apply Wk.len un31 rfl (lt_of_ble rfl)
          apply Wk.gon 36 rfl rfl
          apply Wk.dat (inoneb k2) Try.func47 rfl rfl rfl rfl rfl (lt_of_ble rfl)
          apply Wk.pckT rfl (by conv => lhs; whnf) (lt_of_ble rfl)
          apply Wk.mv (by conv => lhs; whnf) (lt_of_ble rfl)
          apply Wk.goff 42 (ok_faddr fd33_6) rfl rfl (by simp)
          apply Wk.goff 42 (ok_load 3 ty3) rfl rfl (by simp)
          apply Wk.goff 42 (ok_faddr fd29_4) rfl rfl (by simp)
          apply Wk.goff 42 (ok_load 2 ty3) rfl rfl (by simp)
          apply Wk.goff 42 (ok_datw ((inoneb (n := 0) (hi := 0) rfl).w rfl) Try.func47 rfl rfl) rfl rfl (by simp)
          apply Wk.pckF rfl (by conv => lhs; whnf) (lt_of_ble rfl)
          apply Wk.mv (by conv => lhs; whnf) (lt_of_ble rfl)
          apply Wk.goff 49 (ok_faddr fd33_8) rfl rfl (by simp)
          apply Wk.goff 49 (ok_load 3 ty3) rfl rfl (by simp)
          apply Wk.goff 49 (ok_datw ((inoneb (n := 0) (hi := 0) rfl).w rfl) Try.func47 rfl rfl) rfl rfl (by simp)
          apply Wk.pckF rfl (by conv => lhs; whnf) (lt_of_ble rfl)
          apply Wk.asg (by conv => lhs; whnf) (lt_of_ble rfl)
          refine Wk.nil (thenA_normal ?_)
          exact ⟨false, by rw [hcb, k0, k1, k2]; rfl, fun a w => Rel.keep ⟨rfl, (.cons rfl rfl (.cons rfl rfl (.cons rfl rfl (.cons rfl rfl (.cons rfl rfl .nil))))), .cons rfl rfl (.cons rfl rfl .nil), hN.mono (by simp [keys])⟩⟩
        · skip
          cases k3 : inB t 0 y0
          · skip
            apply AW.list
            apply Wk.mv (by conv => lhs; whnf) (lt_of_ble rfl)
            apply Wk.fad 1 0 false fd29_1 rfl (lt_of_ble rfl)
            apply Wk.ld (i := 2) 1 false ty3 rfl rfl (by conv => lhs; whnf) (lt_of_ble rfl)
            apply Wk.dat (inoneb k0) Try.func47 rfl rfl rfl rfl rfl (lt_of_ble rfl)
            apply Wk.mv (by conv => lhs; whnf) (lt_of_ble rfl)
            apply Wk.gon 30 rfl rfl
            apply Wk.fad 3 0 false fd33_3 rfl (lt_of_ble rfl)
            apply Wk.gon 30 rfl rfl
            apply Wk.ld (i := 3) 1 false ty3 rfl rfl (by conv => lhs; whnf) (lt_of_ble rfl)
            apply Wk.gon 30 rfl rfl
            apply Wk.mv (by conv => lhs; whnf) (lt_of_ble rfl)
            apply Wk.gon 30 rfl rfl
            apply Wk.dat (inoneb k1) Try.func47 rfl rfl rfl rfl rfl (lt_of_ble rfl)
            apply Wk.pckT rfl (by conv => lhs; whnf) (lt_of_ble rfl)
            apply Wk.mv (by conv => lhs; whnf) (lt_of_ble rfl)
            apply Wk.gon 36 rfl rfl
            apply Wk.fad 4 0 false fd33_4 rfl (lt_of_ble rfl)
            apply Wk.gon 36 rfl rfl
            apply Wk.ld (i := 3) 1 false ty31 rfl rfl (by conv => lhs; whnf) (lt_of_ble rfl)
            apply Wk.gon 36 rfl rfl
            apply Wk.len un31 rfl (lt_of_ble rfl)
            apply Wk.gon 36 rfl rfl
            apply Wk.dat (inoneb k2) Try.func47 rfl rfl rfl rfl rfl (lt_of_ble rfl)
            apply Wk.pckT rfl (by conv => lhs; whnf) (lt_of_ble rfl)
            apply Wk.mv (by conv => lhs; whnf) (lt_of_ble rfl)
            apply Wk.gon 42 rfl rfl
            apply Wk.fad 6 0 false fd33_6 rfl (lt_of_ble rfl)
            apply Wk.gon 42 rfl rfl
            apply Wk.ld (i := 3) 1 false ty3 rfl rfl (by conv => lhs; whnf) (lt_of_ble rfl)
            apply Wk.gon 42 rfl rfl
            apply Wk.fad 4 0 false fd29_4 rfl (lt_of_ble rfl)
            apply Wk.gon 42 rfl rfl
            apply Wk.ld (i := 2) 1 false ty3 rfl rfl (by conv => lhs; whnf) (lt_of_ble rfl)
            apply Wk.gon 42 rfl rfl
            apply Wk.dat (inoneb k3) Try.func47 rfl rfl rfl rfl rfl (lt_of_ble rfl)
            apply Wk.pckT rfl (by conv => lhs; whnf) (lt_of_ble rfl)
            apply Wk.mv (by conv => lhs; whnf) (lt_of_ble rfl)
            apply Wk.goff 49 (ok_faddr fd33_8) rfl rfl (by simp)
            apply Wk.goff 49 (ok_load 3 ty3) rfl rfl (by simp)
            apply Wk.goff 49 (ok_datw ((inoneb (n := 0) (hi := 0) rfl).w rfl) Try.func47 rfl rfl) rfl rfl (by simp)
            apply Wk.pckF rfl (by conv => lhs; whnf) (lt_of_ble rfl)
            apply Wk.asg (by conv => lhs; whnf) (lt_of_ble rfl)
            refine Wk.nil (thenA_normal ?_)
            exact ⟨false, by rw [hcb, k0, k1, k2, k3]; rfl, fun a w => Rel.keep ⟨rfl, (.cons rfl rfl (.cons rfl rfl (.cons rfl rfl (.cons rfl rfl (.cons rfl rfl .nil))))), .cons rfl rfl (.cons rfl rfl .nil), hN.mono (by simp [keys])⟩⟩
          · skip
            cases k4 : inB c 0 9999
            · skip
              apply AW.list
              apply Wk.mv (by conv => lhs; whnf) (lt_of_ble rfl)
              apply Wk.fad 1 0 false fd29_1 rfl (lt_of_ble rfl)
              apply Wk.ld (i := 2) 1 false ty3 rfl rfl (by conv => lhs; whnf) (lt_of_ble rfl)
              apply Wk.dat (inoneb k0) Try.func47 rfl rfl rfl rfl rfl (lt_of_ble rfl)
              apply Wk.mv (by conv => lhs; whnf) (lt_of_ble rfl)
              apply Wk.gon 30 rfl rfl
              apply Wk.fad 3 0 false fd33_3 rfl (lt_of_ble rfl)
              apply Wk.gon 30 rfl rfl
              apply Wk.ld (i := 3) 1 false ty3 rfl rfl (by conv => lhs; whnf) (lt_of_ble rfl)
              apply Wk.gon 30 rfl rfl
              apply Wk.mv (by conv => lhs; whnf) (lt_of_ble rfl)
              apply Wk.gon 30 rfl rfl
              apply Wk.dat (inoneb k1) Try.func47 rfl rfl rfl rfl rfl (lt_of_ble rfl)
              apply Wk.pckT rfl (by conv => lhs; whnf) (lt_of_ble rfl)
              apply Wk.mv (by conv => lhs; whnf) (lt_of_ble rfl)
              apply Wk.gon 36 rfl rfl
              apply Wk.fad 4 0 false fd33_4 rfl (lt_of_ble rfl)
              apply Wk.gon 36 rfl rfl
              apply Wk.ld (i := 3) 1 false ty31 rfl rfl (by conv => lhs; whnf) (lt_of_ble rfl)
              apply Wk.gon 36 rfl rfl
              apply Wk.len un31 rfl (lt_of_ble rfl)
              apply Wk.gon 36 rfl rfl
              apply Wk.dat (inoneb k2) Try.func47 rfl rfl rfl rfl rfl (lt_of_ble rfl)
              apply Wk.pckT rfl (by conv => lhs; whnf) (lt_of_ble rfl)
              apply Wk.mv (by conv => lhs; whnf) (lt_of_ble rfl)
              apply Wk.gon 42 rfl rfl
              apply Wk.fad 6 0 false fd33_6 rfl (lt_of_ble rfl)
              apply Wk.gon 42 rfl rfl
              apply Wk.ld (i := 3) 1 false ty3 rfl rfl (by conv => lhs; whnf) (lt_of_ble rfl)
              apply Wk.gon 42 rfl rfl
              apply Wk.fad 4 0 false fd29_4 rfl (lt_of_ble rfl)
              apply Wk.gon 42 rfl rfl
              apply Wk.ld (i := 2) 1 false ty3 rfl rfl (by conv => lhs; whnf) (lt_of_ble rfl)
              apply Wk.gon 42 rfl rfl
              apply Wk.dat (inoneb k3) Try.func47 rfl rfl rfl rfl rfl (lt_of_ble rfl)
              apply Wk.pckT rfl (by conv => lhs; whnf) (lt_of_ble rfl)
              apply Wk.mv (by conv => lhs; whnf) (lt_of_ble rfl)
              apply Wk.gon 49 rfl rfl
              apply Wk.fad 8 0 false fd33_8 rfl (lt_of_ble rfl)
              apply Wk.gon 49 rfl rfl
              apply Wk.ld (i := 3) 1 false ty3 rfl rfl (by conv => lhs; whnf) (lt_of_ble rfl)
              apply Wk.gon 49 rfl rfl
              apply Wk.dat (inoneb k4) Try.func47 rfl rfl rfl rfl rfl (lt_of_ble rfl)
              apply Wk.pckT rfl (by conv => lhs; whnf) (lt_of_ble rfl)
              apply Wk.asg (by conv => lhs; whnf) (lt_of_ble rfl)
              refine Wk.nil (thenA_normal ?_)
              exact ⟨false, by rw [hcb, k0, k1, k2, k3, k4]; rfl, fun a w => Rel.keep ⟨rfl, (.cons rfl rfl (.cons rfl rfl (.cons rfl rfl (.cons rfl rfl (.cons rfl rfl .nil))))), .cons rfl rfl (.cons rfl rfl .nil), hN.mono (by simp [keys])⟩⟩
            · skip
              apply AW.list
              apply Wk.mv (by conv => lhs; whnf) (lt_of_ble rfl)
              apply Wk.fad 1 0 false fd29_1 rfl (lt_of_ble rfl)
              apply Wk.ld (i := 2) 1 false ty3 rfl rfl (by conv => lhs; whnf) (lt_of_ble rfl)
              apply Wk.dat (inoneb k0) Try.func47 rfl rfl rfl rfl rfl (lt_of_ble rfl)
              apply Wk.mv (by conv => lhs; whnf) (lt_of_ble rfl)
              apply Wk.gon 30 rfl rfl
              apply Wk.fad 3 0 false fd33_3 rfl (lt_of_ble rfl)
              apply Wk.gon 30 rfl rfl
              apply Wk.ld (i := 3) 1 false ty3 rfl rfl (by conv => lhs; whnf) (lt_of_ble rfl)
              apply Wk.gon 30 rfl rfl
              apply Wk.mv (by conv => lhs; whnf) (lt_of_ble rfl)
              apply Wk.gon 30 rfl rfl
              apply Wk.dat (inoneb k1) Try.func47 rfl rfl rfl rfl rfl (lt_of_ble rfl)
              apply Wk.pckT rfl (by conv => lhs; whnf) (lt_of_ble rfl)
              apply Wk.mv (by conv => lhs; whnf) (lt_of_ble rfl)
              apply Wk.gon 36 rfl rfl
              apply Wk.fad 4 0 false fd33_4 rfl (lt_of_ble rfl)
              apply Wk.gon 36 rfl rfl
              apply Wk.ld (i := 3) 1 false ty31 rfl rfl (by conv => lhs; whnf) (lt_of_ble rfl)
              apply Wk.gon 36 rfl rfl
              apply Wk.len un31 rfl (lt_of_ble rfl)
              apply Wk.gon 36 rfl rfl
              apply Wk.dat (inoneb k2) Try.func47 rfl rfl rfl rfl rfl (lt_of_ble rfl)
              apply Wk.pckT rfl (by conv => lhs; whnf) (lt_of_ble rfl)
              apply Wk.mv (by conv => lhs; whnf) (lt_of_ble rfl)
              apply Wk.gon 42 rfl rfl
              apply Wk.fad 6 0 false fd33_6 rfl (lt_of_ble rfl)
              apply Wk.gon 42 rfl rfl
              apply Wk.ld (i := 3) 1 false ty3 rfl rfl (by conv => lhs; whnf) (lt_of_ble rfl)
              apply Wk.gon 42 rfl rfl
              apply Wk.fad 4 0 false fd29_4 rfl (lt_of_ble rfl)
              apply Wk.gon 42 rfl rfl
              apply Wk.ld (i := 2) 1 false ty3 rfl rfl (by conv => lhs; whnf) (lt_of_ble rfl)
              apply Wk.gon 42 rfl rfl
              apply Wk.dat (inoneb k3) Try.func47 rfl rfl rfl rfl rfl (lt_of_ble rfl)
              apply Wk.pckT rfl (by conv => lhs; whnf) (lt_of_ble rfl)
              apply Wk.mv (by conv => lhs; whnf) (lt_of_ble rfl)
              apply Wk.gon 49 rfl rfl
              apply Wk.fad 8 0 false fd33_8 rfl (lt_of_ble rfl)
              apply Wk.gon 49 rfl rfl
              apply Wk.ld (i := 3) 1 false ty3 rfl rfl (by conv => lhs; whnf) (lt_of_ble rfl)
              apply Wk.gon 49 rfl rfl
              apply Wk.dat (inoneb k4) Try.func47 rfl rfl rfl rfl rfl (lt_of_ble rfl)
              apply Wk.pckT rfl (by conv => lhs; whnf) (lt_of_ble rfl)
              apply Wk.asg (by conv => lhs; whnf) (lt_of_ble rfl)
              refine Wk.nil (thenA_normal ?_)
              exact ⟨true, by rw [hcb, k0, k1, k2, k3, k4]; rfl, fun a w => Rel.keep ⟨rfl, (.cons rfl rfl (.cons rfl rfl (.cons rfl rfl (.cons rfl rfl (.cons rfl rfl .nil))))), .cons rfl rfl (.cons rfl rfl .nil), hN.mono (by simp [keys])⟩⟩
  rintro cb' rfl
  refine AW.seq ?_
  clear hnb hcb
  cases h0 : Opt.ok ⟨m0, w0, p0, u0, y0⟩
  · skip
    apply AW.list
    apply Wk.ld (i := 2) 5 true ty29 rfl rfl (by conv => lhs; whnf) (lt_of_ble rfl)
    apply Wk.dat (icfgb h0) Try.func48 rfl rfl rfl rfl rfl (lt_of_ble rfl)
    apply Wk.mv (by conv => lhs; whnf) (lt_of_ble rfl)
    apply Wk.goff 56 (ok_move _) rfl rfl (by simp)
    apply Wk.pckF rfl (by conv => lhs; whnf) (lt_of_ble rfl)
    apply Wk.mv (by conv => lhs; whnf) (lt_of_ble rfl)
    apply Wk.goff 59 (ok_move _) rfl rfl (by simp)
    apply Wk.pckF rfl (by conv => lhs; whnf) (lt_of_ble rfl)
    apply Wk.mv (by conv => lhs; whnf) (lt_of_ble rfl)
    apply Wk.goff 62 (ok_faddr fd33_2) rfl rfl (by simp)
    apply Wk.goff 62 (ok_load 3 ty31) rfl rfl (by simp)
    apply Wk.goff 62 (ok_faddr fd29_2) rfl rfl (by simp)
    apply Wk.goff 62 (ok_load 2 ty3) rfl rfl (by simp)
    apply Wk.goff 62 (ok_datw ((ipartsb [] 0 rfl).w rfl) Try.func49 rfl rfl) rfl rfl (by simp)
    apply Wk.pckF rfl (by conv => lhs; whnf) (lt_of_ble rfl)
    apply Wk.mv (by conv => lhs; whnf) (lt_of_ble rfl)
    apply Wk.goff 69 (ok_faddr fd33_4) rfl rfl (by simp)
    apply Wk.goff 69 (ok_load 3 ty31) rfl rfl (by simp)
    apply Wk.goff 69 (ok_faddr fd29_2) rfl rfl (by simp)
    apply Wk.goff 69 (ok_load 2 ty3) rfl rfl (by simp)
    apply Wk.goff 69 (ok_datw ((ipartsb [] 0 rfl).w rfl) Try.func49 rfl rfl) rfl rfl (by simp)
    apply Wk.pckF rfl (by conv => lhs; whnf) (lt_of_ble rfl)
    apply Wk.asg (by conv => lhs; whnf) (lt_of_ble rfl)
    refine Wk.nil (AW.ret ?_)
    exact RetQ.ret [] (.cons rfl .nil) ⟨rfl, rfl⟩ none_kept
  · skip
    cases nb'
    · skip
      apply AW.list
      apply Wk.ld (i := 2) 5 true ty29 rfl rfl (by conv => lhs; whnf) (lt_of_ble rfl)
      apply Wk.dat (icfgb h0) Try.func48 rfl rfl rfl rfl rfl (lt_of_ble rfl)
      apply Wk.mv (by conv => lhs; whnf) (lt_of_ble rfl)
      apply Wk.gon 56 rfl rfl
      apply Wk.mv (by conv => lhs; whnf) (lt_of_ble rfl)
      apply Wk.pckT rfl (by conv => lhs; whnf) (lt_of_ble rfl)
      apply Wk.mv (by conv => lhs; whnf) (lt_of_ble rfl)
      apply Wk.goff 59 (ok_move _) rfl rfl (by simp)
      apply Wk.pckF rfl (by conv => lhs; whnf) (lt_of_ble rfl)
      apply Wk.mv (by conv => lhs; whnf) (lt_of_ble rfl)
      apply Wk.goff 62 (ok_faddr fd33_2) rfl rfl (by simp)
      apply Wk.goff 62 (ok_load 3 ty31) rfl rfl (by simp)
      apply Wk.goff 62 (ok_faddr fd29_2) rfl rfl (by simp)
      apply Wk.goff 62 (ok_load 2 ty3) rfl rfl (by simp)
      apply Wk.goff 62 (ok_datw ((ipartsb [] 0 rfl).w rfl) Try.func49 rfl rfl) rfl rfl (by simp)
      apply Wk.pckF rfl (by conv => lhs; whnf) (lt_of_ble rfl)
      apply Wk.mv (by conv => lhs; whnf) (lt_of_ble rfl)
      apply Wk.goff 69 (ok_faddr fd33_4) rfl rfl (by simp)
      apply Wk.goff 69 (ok_load 3 ty31) rfl rfl (by simp)
      apply Wk.goff 69 (ok_faddr fd29_2) rfl rfl (by simp)
      apply Wk.goff 69 (ok_load 2 ty3) rfl rfl (by simp)
      apply Wk.goff 69 (ok_datw ((ipartsb [] 0 rfl).w rfl) Try.func49 rfl rfl) rfl rfl (by simp)
      apply Wk.pckF rfl (by conv => lhs; whnf) (lt_of_ble rfl)
      apply Wk.asg (by conv => lhs; whnf) (lt_of_ble rfl)
      refine Wk.nil (AW.ret ?_)
      exact RetQ.ret [] (.cons rfl .nil) ⟨rfl, rfl⟩ none_kept
    · skip
      cases cb'
      · skip
        apply AW.list
        apply Wk.ld (i := 2) 5 true ty29 rfl rfl (by conv => lhs; whnf) (lt_of_ble rfl)
        apply Wk.dat (icfgb h0) Try.func48 rfl rfl rfl rfl rfl (lt_of_ble rfl)
        apply Wk.mv (by conv => lhs; whnf) (lt_of_ble rfl)
        apply Wk.gon 56 rfl rfl
        apply Wk.mv (by conv => lhs; whnf) (lt_of_ble rfl)
        apply Wk.pckT rfl (by conv => lhs; whnf) (lt_of_ble rfl)
        apply Wk.mv (by conv => lhs; whnf) (lt_of_ble rfl)
        apply Wk.gon 59 rfl rfl
        apply Wk.mv (by conv => lhs; whnf) (lt_of_ble rfl)
        apply Wk.pckT rfl (by conv => lhs; whnf) (lt_of_ble rfl)
        apply Wk.mv (by conv => lhs; whnf) (lt_of_ble rfl)
        apply Wk.goff 62 (ok_faddr fd33_2) rfl rfl (by simp)
        apply Wk.goff 62 (ok_load 3 ty31) rfl rfl (by simp)
        apply Wk.goff 62 (ok_faddr fd29_2) rfl rfl (by simp)
        apply Wk.goff 62 (ok_load 2 ty3) rfl rfl (by simp)
        apply Wk.goff 62 (ok_datw ((ipartsb [] 0 rfl).w rfl) Try.func49 rfl rfl) rfl rfl (by simp)
        apply Wk.pckF rfl (by conv => lhs; whnf) (lt_of_ble rfl)
        apply Wk.mv (by conv => lhs; whnf) (lt_of_ble rfl)
        apply Wk.goff 69 (ok_faddr fd33_4) rfl rfl (by simp)
        apply Wk.goff 69 (ok_load 3 ty31) rfl rfl (by simp)
        apply Wk.goff 69 (ok_faddr fd29_2) rfl rfl (by simp)
        apply Wk.goff 69 (ok_load 2 ty3) rfl rfl (by simp)
        apply Wk.goff 69 (ok_datw ((ipartsb [] 0 rfl).w rfl) Try.func49 rfl rfl) rfl rfl (by simp)
        apply Wk.pckF rfl (by conv => lhs; whnf) (lt_of_ble rfl)
        apply Wk.asg (by conv => lhs; whnf) (lt_of_ble rfl)
        refine Wk.nil (AW.ret ?_)
        exact RetQ.ret [] (.cons rfl .nil) ⟨rfl, rfl⟩ none_kept
      · skip
        cases h3 : fl.all (partM p0)
        · skip
          apply AW.list
          apply Wk.ld (i := 2) 5 true ty29 rfl rfl (by conv => lhs; whnf) (lt_of_ble rfl)
          apply Wk.dat (icfgb h0) Try.func48 rfl rfl rfl rfl rfl (lt_of_ble rfl)
          apply Wk.mv (by conv => lhs; whnf) (lt_of_ble rfl)
          apply Wk.gon 56 rfl rfl
          apply Wk.mv (by conv => lhs; whnf) (lt_of_ble rfl)
          apply Wk.pckT rfl (by conv => lhs; whnf) (lt_of_ble rfl)
          apply Wk.mv (by conv => lhs; whnf) (lt_of_ble rfl)
          apply Wk.gon 59 rfl rfl
          apply Wk.mv (by conv => lhs; whnf) (lt_of_ble rfl)
          apply Wk.pckT rfl (by conv => lhs; whnf) (lt_of_ble rfl)
          apply Wk.mv (by conv => lhs; whnf) (lt_of_ble rfl)
          apply Wk.gon 62 rfl rfl
          apply Wk.fad 2 0 false fd33_2 rfl (lt_of_ble rfl)
          apply Wk.gon 62 rfl rfl
          apply Wk.ld (i := 3) 1 false ty31 rfl rfl (by conv => lhs; whnf) (lt_of_ble rfl)
          apply Wk.gon 62 rfl rfl
          apply Wk.fad 2 0 false fd29_2 rfl (lt_of_ble rfl)
          apply Wk.gon 62 rfl rfl
          apply Wk.ld (i := 2) 1 false ty3 rfl rfl (by conv => lhs; whnf) (lt_of_ble rfl)
          apply Wk.gon 62 rfl rfl
          apply Wk.dat (ipartsb fl p0 h3) Try.func49 rfl rfl rfl rfl rfl (lt_of_ble rfl)
          apply Wk.pckT rfl (by conv => lhs; whnf) (lt_of_ble rfl)
          apply Wk.mv (by conv => lhs; whnf) (lt_of_ble rfl)
          apply Wk.goff 69 (ok_faddr fd33_4) rfl rfl (by simp)
          apply Wk.goff 69 (ok_load 3 ty31) rfl rfl (by simp)
          apply Wk.goff 69 (ok_faddr fd29_2) rfl rfl (by simp)
          apply Wk.goff 69 (ok_load 2 ty3) rfl rfl (by simp)
          apply Wk.goff 69 (ok_datw ((ipartsb [] 0 rfl).w rfl) Try.func49 rfl rfl) rfl rfl (by simp)
          apply Wk.pckF rfl (by conv => lhs; whnf) (lt_of_ble rfl)
          apply Wk.asg (by conv => lhs; whnf) (lt_of_ble rfl)
          refine Wk.nil (AW.ret ?_)
          exact RetQ.ret [] (.cons rfl .nil) ⟨rfl, rfl⟩ none_kept
        · skip
          cases h4 : qu.all (partM p0)
          · skip
            apply AW.list
            apply Wk.ld (i := 2) 5 true ty29 rfl rfl (by conv => lhs; whnf) (lt_of_ble rfl)
            apply Wk.dat (icfgb h0) Try.func48 rfl rfl rfl rfl rfl (lt_of_ble rfl)
            apply Wk.mv (by conv => lhs; whnf) (lt_of_ble rfl)
            apply Wk.gon 56 rfl rfl
            apply Wk.mv (by conv => lhs; whnf) (lt_of_ble rfl)
            apply Wk.pckT rfl (by conv => lhs; whnf) (lt_of_ble rfl)
            apply Wk.mv (by conv => lhs; whnf) (lt_of_ble rfl)
            apply Wk.gon 59 rfl rfl
            apply Wk.mv (by conv => lhs; whnf) (lt_of_ble rfl)
            apply Wk.pckT rfl (by conv => lhs; whnf) (lt_of_ble rfl)
            apply Wk.mv (by conv => lhs; whnf) (lt_of_ble rfl)
            apply Wk.gon 62 rfl rfl
            apply Wk.fad 2 0 false fd33_2 rfl (lt_of_ble rfl)
            apply Wk.gon 62 rfl rfl
            apply Wk.ld (i := 3) 1 false ty31 rfl rfl (by conv => lhs; whnf) (lt_of_ble rfl)
            apply Wk.gon 62 rfl rfl
            apply Wk.fad 2 0 false fd29_2 rfl (lt_of_ble rfl)
            apply Wk.gon 62 rfl rfl
            apply Wk.ld (i := 2) 1 false ty3 rfl rfl (by conv => lhs; whnf) (lt_of_ble rfl)
            apply Wk.gon 62 rfl rfl
            apply Wk.dat (ipartsb fl p0 h3) Try.func49 rfl rfl rfl rfl rfl (lt_of_ble rfl)
            apply Wk.pckT rfl (by conv => lhs; whnf) (lt_of_ble rfl)
            apply Wk.mv (by conv => lhs; whnf) (lt_of_ble rfl)
            apply Wk.gon 69 rfl rfl
            apply Wk.fad 4 0 false fd33_4 rfl (lt_of_ble rfl)
            apply Wk.gon 69 rfl rfl
            apply Wk.ld (i := 3) 1 false ty31 rfl rfl (by conv => lhs; whnf) (lt_of_ble rfl)
            apply Wk.gon 69 rfl rfl
            apply Wk.fad 2 0 false fd29_2 rfl (lt_of_ble rfl)
            apply Wk.gon 69 rfl rfl
            apply Wk.ld (i := 2) 1 false ty3 rfl rfl (by conv => lhs; whnf) (lt_of_ble rfl)
            apply Wk.gon 69 rfl rfl
            apply Wk.dat (ipartsb qu p0 h4) Try.func49 rfl rfl rfl rfl rfl (lt_of_ble rfl)
            apply Wk.pckT rfl (by conv => lhs; whnf) (lt_of_ble rfl)
            apply Wk.asg (by conv => lhs; whnf) (lt_of_ble rfl)
            refine Wk.nil (AW.ret ?_)
            exact RetQ.ret [] (.cons rfl .nil) ⟨rfl, rfl⟩ none_kept
          · skip
            apply AW.list
            apply Wk.ld (i := 2) 5 true ty29 rfl rfl (by conv => lhs; whnf) (lt_of_ble rfl)
            apply Wk.dat (icfgb h0) Try.func48 rfl rfl rfl rfl rfl (lt_of_ble rfl)
            apply Wk.mv (by conv => lhs; whnf) (lt_of_ble rfl)
            apply Wk.gon 56 rfl rfl
            apply Wk.mv (by conv => lhs; whnf) (lt_of_ble rfl)
            apply Wk.pckT rfl (by conv => lhs; whnf) (lt_of_ble rfl)
            apply Wk.mv (by conv => lhs; whnf) (lt_of_ble rfl)
            apply Wk.gon 59 rfl rfl
            apply Wk.mv (by conv => lhs; whnf) (lt_of_ble rfl)
            apply Wk.pckT rfl (by conv => lhs; whnf) (lt_of_ble rfl)
            apply Wk.mv (by conv => lhs; whnf) (lt_of_ble rfl)
            apply Wk.gon 62 rfl rfl
            apply Wk.fad 2 0 false fd33_2 rfl (lt_of_ble rfl)
            apply Wk.gon 62 rfl rfl
            apply Wk.ld (i := 3) 1 false ty31 rfl rfl (by conv => lhs; whnf) (lt_of_ble rfl)
            apply Wk.gon 62 rfl rfl
            apply Wk.fad 2 0 false fd29_2 rfl (lt_of_ble rfl)
            apply Wk.gon 62 rfl rfl
            apply Wk.ld (i := 2) 1 false ty3 rfl rfl (by conv => lhs; whnf) (lt_of_ble rfl)
            apply Wk.gon 62 rfl rfl
            apply Wk.dat (ipartsb fl p0 h3) Try.func49 rfl rfl rfl rfl rfl (lt_of_ble rfl)
            apply Wk.pckT rfl (by conv => lhs; whnf) (lt_of_ble rfl)
            apply Wk.mv (by conv => lhs; whnf) (lt_of_ble rfl)
            apply Wk.gon 69 rfl rfl
            apply Wk.fad 4 0 false fd33_4 rfl (lt_of_ble rfl)
            apply Wk.gon 69 rfl rfl
            apply Wk.ld (i := 3) 1 false ty31 rfl rfl (by conv => lhs; whnf) (lt_of_ble rfl)
            apply Wk.gon 69 rfl rfl
            apply Wk.fad 2 0 false fd29_2 rfl (lt_of_ble rfl)
            apply Wk.gon 69 rfl rfl
            apply Wk.ld (i := 2) 1 false ty3 rfl rfl (by conv => lhs; whnf) (lt_of_ble rfl)
            apply Wk.gon 69 rfl rfl
            apply Wk.dat (ipartsb qu p0 h4) Try.func49 rfl rfl rfl rfl rfl (lt_of_ble rfl)
            apply Wk.pckT rfl (by conv => lhs; whnf) (lt_of_ble rfl)
            apply Wk.asg (by conv => lhs; whnf) (lt_of_ble rfl)
            refine Wk.nil (AW.ret ?_)
            exact RetQ.ret [] (.cons rfl .nil) ⟨rfl, rfl⟩ none_kept
end Go.Proofs.Ytdjadeegjbhihaa

/- Who sends for credits, over what values read as. Written by tools/mk_AbsCrdS.py. -/
namespace Go.Proofs.Ytdjadeegjbhihaa
open Go Go.RowKit
/-- Who sends for credits, as plain data. -/
structure CX where
  v : Int
  qu : List Dat
  g : Int
  s : Int
  d : Bool
def cxC (x : CX) : List A := [.d (.v (.int .i64 x.v)), .d (partsD x.qu), .d (.v (.int .i64 x.g)), .d (.v (.int .i64 x.s)), .d (.v (.bool x.d))]
def cxA (x : CX) : A := .agg [.d (.v (.int .i64 x.v)), .d (partsD x.qu), .d (.v (.int .i64 x.g)), .d (.v (.int .i64 x.s)), .d (.v (.bool x.d))]
def cxOC (x : CX) (l : Nat) : List A := [.d (.v (.int .i64 x.v)), .own 66 l, .d (.v (.int .i64 x.g)), .d (.v (.int .i64 x.s)), .d (.v (.bool x.d))]
def cxO (x : CX) (l : Nat) : A := .agg [.d (.v (.int .i64 x.v)), .own 66 l, .d (.v (.int .i64 x.g)), .d (.v (.int .i64 x.s)), .d (.v (.bool x.d))]
def cxB (qu : List Dat) (l : Nat) : List (Nat × Bx) := [(66, .own l 115 3 (piecesA qu))]
def cxN : List A := [.d (.v (.int .i64 0)), .d (.v (.slice none 0 0)), .d (.v (.int .i64 0)), .d (.v (.int .i64 0)), .d (.v (.bool false))]
def cxNil : A := .agg [.d (.v (.int .i64 0)), .d (.v (.slice none 0 0)), .d (.v (.int .i64 0)), .d (.v (.int .i64 0)), .d (.v (.bool false))]
def CX.few (x : CX) : Prop := x.qu.length ≤ 1000 ∧ ∀ d ∈ x.qu, d.2.2.length ≤ 1000
theorem in_cxB {qu : List Dat} {l q : Nat} {z : Bx} (h : (cxB qu l).lookup q = some z) : q ∈ [66] ∧ z.within [66] = true := by
  obtain ⟨rfl, rfl⟩ := lookup1 h
  exact ⟨by simp, by simp [Bx.within, within_parts]⟩
theorem in_cxO (x : CX) (l : Nat) : (cxO x l).within [66] = true := by simp [cxO, A.within, A.withins]
theorem in_cx (x : CX) (l : Nat) : PostIn [66] (fun r bs => r = cxO x l ∧ bs = cxB x.qu l) := by
  rintro r bs ⟨rfl, rfl⟩
  exact ⟨in_cxO x l, fun i z h => in_cxB h⟩
/-- Who sends for credits is ok. -/
def crdOkB (o : Opt) (x : CX) : Bool := o.ok && (inB x.v 0 255 && (decide (x.qu.length ≤ 24) && (inB x.g 0 9999 && (inB x.s 0 9999 && (decide (x.g - x.s = x.v) && x.qu.all (partM o.mps))))))
theorem crdOk_facts {o : Opt} {x : CX} (h : crdOkB o x = true) : o.ok = true ∧ (0 ≤ x.v ∧ x.v ≤ 255) ∧ x.qu.length ≤ 24 ∧ (0 ≤ x.g ∧ x.g ≤ 9999) ∧ (0 ≤ x.s ∧ x.s ≤ 9999) ∧ x.g - x.s = x.v ∧ ∀ d ∈ x.qu, partM o.mps d = true := by
  simp only [crdOkB, Bool.and_eq_true, decide_eq_true_eq, List.all_eq_true] at h
  obtain ⟨h1, h2, h3, h4, h5, h6, h7⟩ := h
  exact ⟨h1, (inB_iff _ _ _).1 h2, h3, (inB_iff _ _ _).1 h4, (inB_iff _ _ _).1 h5, h6, h7⟩
set_option maxHeartbeats 4000000 in
set_option maxRecDepth 100000 in
theorem scx_ok (m0 w0 p0 u0 y0 : Int) (x : CX) : DataOk Try.prog 19 [cfgA m0 w0 p0 u0 y0, cxA x] (.d (.v (.bool (crdOkB ⟨m0, w0, p0, u0, y0⟩ x)))) := by
  obtain ⟨v, qu, g, s, d⟩ := x
  have e2 : (((qu.map datD).length : Nat) : Int) = (qu.length : Int) := by rw [List.length_map]
  simp only [crdOkB]
  refine Spec.intro (n := 45) (rv := [.tmp 4]) Try.func19 rfl rfl rfl (by simp) fun C hN hX => ?_
  refine AW.seq ?_
  apply AW.list
  apply Wk.bx 2 rfl rfl (lt_of_ble rfl)
  apply Wk.bx 3 rfl rfl (lt_of_ble rfl)
  apply Wk.asg (by conv => lhs; whnf) (lt_of_ble rfl)
  refine Wk.nil ?_
  refine AW.seq ?_
  cases k0 : Opt.ok ⟨m0, w0, p0, u0, y0⟩
  · rw [Bool.false_and]
    apply AW.list
    apply Wk.ld (i := 2) 5 true ty29 rfl rfl (by conv => lhs; whnf) (lt_of_ble rfl)
    apply Wk.dat (scfgb k0) Try.func36 rfl rfl rfl rfl rfl (lt_of_ble rfl)
    apply Wk.mv (by conv => lhs; whnf) (lt_of_ble rfl)
    apply Wk.goff 7 (ok_faddr fd44_0) rfl rfl (by simp)
    apply Wk.goff 7 (ok_load 3 ty3) rfl rfl (by simp)
    apply Wk.goff 7 (ok_datw ((sinb (n := 0) (lo := 0) (hi := 255) rfl).w rfl) Try.func40 rfl rfl) rfl rfl (by simp)
    apply Wk.pckF rfl (by conv => lhs; whnf) (lt_of_ble rfl)
    apply Wk.mv (by conv => lhs; whnf) (lt_of_ble rfl)
    apply Wk.goff 12 (ok_faddr fd44_1) rfl rfl (by simp)
    apply Wk.goff 12 (ok_load 3 ty31) rfl rfl (by simp)
    apply Wk.goff 12 (ok_len un31) rfl rfl (by simp)
    apply Wk.goff 12 (ok_bin _ _ _ _ _) rfl rfl (by simp)
    apply Wk.pckF rfl (by conv => lhs; whnf) (lt_of_ble rfl)
    apply Wk.mv (by conv => lhs; whnf) (lt_of_ble rfl)
    apply Wk.goff 18 (ok_faddr fd44_2) rfl rfl (by simp)
    apply Wk.goff 18 (ok_load 3 ty3) rfl rfl (by simp)
    apply Wk.goff 18 (ok_datw ((sinb (n := 0) (lo := 0) (hi := 9999) rfl).w rfl) Try.func40 rfl rfl) rfl rfl (by simp)
    apply Wk.pckF rfl (by conv => lhs; whnf) (lt_of_ble rfl)
    apply Wk.mv (by conv => lhs; whnf) (lt_of_ble rfl)
    apply Wk.goff 23 (ok_faddr fd44_3) rfl rfl (by simp)
    apply Wk.goff 23 (ok_load 3 ty3) rfl rfl (by simp)
    apply Wk.goff 23 (ok_datw ((sinb (n := 0) (lo := 0) (hi := 9999) rfl).w rfl) Try.func40 rfl rfl) rfl rfl (by simp)
    apply Wk.pckF rfl (by conv => lhs; whnf) (lt_of_ble rfl)
    apply Wk.mv (by conv => lhs; whnf) (lt_of_ble rfl)
    apply Wk.goff 28 (ok_faddr fd44_2) rfl rfl (by simp)
    apply Wk.goff 28 (ok_load 3 ty3) rfl rfl (by simp)
    apply Wk.goff 28 (ok_faddr fd44_3) rfl rfl (by simp)
    apply Wk.goff 28 (ok_load 3 ty3) rfl rfl (by simp)
    apply Wk.goff 28 (ok_bin _ _ _ _ _) rfl rfl (by simp)
    apply Wk.goff 28 (ok_faddr fd44_0) rfl rfl (by simp)
    apply Wk.goff 28 (ok_load 3 ty3) rfl rfl (by simp)
    apply Wk.goff 28 (ok_bin _ _ _ _ _) rfl rfl (by simp)
    apply Wk.pckF rfl (by conv => lhs; whnf) (lt_of_ble rfl)
    apply Wk.mv (by conv => lhs; whnf) (lt_of_ble rfl)
    apply Wk.goff 38 (ok_faddr fd44_1) rfl rfl (by simp)
    apply Wk.goff 38 (ok_load 3 ty31) rfl rfl (by simp)
    apply Wk.goff 38 (ok_faddr fd29_2) rfl rfl (by simp)
    apply Wk.goff 38 (ok_load 2 ty3) rfl rfl (by simp)
    apply Wk.goff 38 (ok_datw ((spartsb [] 0 rfl).w rfl) Try.func43 rfl rfl) rfl rfl (by simp)
    apply Wk.pckF rfl (by conv => lhs; whnf) (lt_of_ble rfl)
    apply Wk.asg (by conv => lhs; whnf) (lt_of_ble rfl)
    refine Wk.nil (AW.ret ?_)
    exact RetQ.ret [] (.cons rfl .nil) ⟨rfl, rfl⟩ none_kept
  · rw [Bool.true_and]
    cases k1 : inB v 0 255
    · rw [Bool.false_and]
      apply AW.list
      apply Wk.ld (i := 2) 5 true ty29 rfl rfl (by conv => lhs; whnf) (lt_of_ble rfl)
      apply Wk.dat (scfgb k0) Try.func36 rfl rfl rfl rfl rfl (lt_of_ble rfl)
      apply Wk.mv (by conv => lhs; whnf) (lt_of_ble rfl)
      apply Wk.gon 7 rfl rfl
      apply Wk.fad 0 0 false fd44_0 rfl (lt_of_ble rfl)
      apply Wk.gon 7 rfl rfl
      apply Wk.ld (i := 3) 1 false ty3 rfl rfl (by conv => lhs; whnf) (lt_of_ble rfl)
      apply Wk.gon 7 rfl rfl
      apply Wk.dat (sinb k1) Try.func40 rfl rfl rfl rfl rfl (lt_of_ble rfl)
      apply Wk.pckT rfl (by conv => lhs; whnf) (lt_of_ble rfl)
      apply Wk.mv (by conv => lhs; whnf) (lt_of_ble rfl)
      apply Wk.goff 12 (ok_faddr fd44_1) rfl rfl (by simp)
      apply Wk.goff 12 (ok_load 3 ty31) rfl rfl (by simp)
      apply Wk.goff 12 (ok_len un31) rfl rfl (by simp)
      apply Wk.goff 12 (ok_bin _ _ _ _ _) rfl rfl (by simp)
      apply Wk.pckF rfl (by conv => lhs; whnf) (lt_of_ble rfl)
      apply Wk.mv (by conv => lhs; whnf) (lt_of_ble rfl)
      apply Wk.goff 18 (ok_faddr fd44_2) rfl rfl (by simp)
      apply Wk.goff 18 (ok_load 3 ty3) rfl rfl (by simp)
      apply Wk.goff 18 (ok_datw ((sinb (n := 0) (lo := 0) (hi := 9999) rfl).w rfl) Try.func40 rfl rfl) rfl rfl (by simp)
      apply Wk.pckF rfl (by conv => lhs; whnf) (lt_of_ble rfl)
      apply Wk.mv (by conv => lhs; whnf) (lt_of_ble rfl)
      apply Wk.goff 23 (ok_faddr fd44_3) rfl rfl (by simp)
      apply Wk.goff 23 (ok_load 3 ty3) rfl rfl (by simp)
      apply Wk.goff 23 (ok_datw ((sinb (n := 0) (lo := 0) (hi := 9999) rfl).w rfl) Try.func40 rfl rfl) rfl rfl (by simp)
      apply Wk.pckF rfl (by conv => lhs; whnf) (lt_of_ble rfl)
      apply Wk.mv (by conv => lhs; whnf) (lt_of_ble rfl)
      apply Wk.goff 28 (ok_faddr fd44_2) rfl rfl (by simp)
      apply Wk.goff 28 (ok_load 3 ty3) rfl rfl (by simp)
      apply Wk.goff 28 (ok_faddr fd44_3) rfl rfl (by simp)
      apply Wk.goff 28 (ok_load 3 ty3) rfl rfl (by simp)
      apply Wk.goff 28 (ok_bin _ _ _ _ _) rfl rfl (by simp)
      apply Wk.goff 28 (ok_faddr fd44_0) rfl rfl (by simp)
      apply Wk.goff 28 (ok_load 3 ty3) rfl rfl (by simp)
      apply Wk.goff 28 (ok_bin _ _ _ _ _) rfl rfl (by simp)
      apply Wk.pckF rfl (by conv => lhs; whnf) (lt_of_ble rfl)
      apply Wk.mv (by conv => lhs; whnf) (lt_of_ble rfl)
      apply Wk.goff 38 (ok_faddr fd44_1) rfl rfl (by simp)
      apply Wk.goff 38 (ok_load 3 ty31) rfl rfl (by simp)
      apply Wk.goff 38 (ok_faddr fd29_2) rfl rfl (by simp)
      apply Wk.goff 38 (ok_load 2 ty3) rfl rfl (by simp)
      apply Wk.goff 38 (ok_datw ((spartsb [] 0 rfl).w rfl) Try.func43 rfl rfl) rfl rfl (by simp)
      apply Wk.pckF rfl (by conv => lhs; whnf) (lt_of_ble rfl)
      apply Wk.asg (by conv => lhs; whnf) (lt_of_ble rfl)
      refine Wk.nil (AW.ret ?_)
      exact RetQ.ret [] (.cons rfl .nil) ⟨rfl, rfl⟩ none_kept
    · rw [Bool.true_and]
      by_cases k2 : qu.length ≤ 24
      · rw [decide_eq_true k2, Bool.true_and]
        cases k3 : inB g 0 9999
        · rw [Bool.false_and]
          apply AW.list
          apply Wk.ld (i := 2) 5 true ty29 rfl rfl (by conv => lhs; whnf) (lt_of_ble rfl)
          apply Wk.dat (scfgb k0) Try.func36 rfl rfl rfl rfl rfl (lt_of_ble rfl)
          apply Wk.mv (by conv => lhs; whnf) (lt_of_ble rfl)
          apply Wk.gon 7 rfl rfl
          apply Wk.fad 0 0 false fd44_0 rfl (lt_of_ble rfl)
          apply Wk.gon 7 rfl rfl
          apply Wk.ld (i := 3) 1 false ty3 rfl rfl (by conv => lhs; whnf) (lt_of_ble rfl)
          apply Wk.gon 7 rfl rfl
          apply Wk.dat (sinb k1) Try.func40 rfl rfl rfl rfl rfl (lt_of_ble rfl)
          apply Wk.pckT rfl (by conv => lhs; whnf) (lt_of_ble rfl)
          apply Wk.mv (by conv => lhs; whnf) (lt_of_ble rfl)
          apply Wk.gon 12 rfl rfl
          apply Wk.fad 1 0 false fd44_1 rfl (lt_of_ble rfl)
          apply Wk.gon 12 rfl rfl
          apply Wk.ld (i := 3) 1 false ty31 rfl rfl (by conv => lhs; whnf) (lt_of_ble rfl)
          apply Wk.gon 12 rfl rfl
          apply Wk.len un31 rfl (lt_of_ble rfl)
          apply Wk.gon 12 rfl rfl
          apply Wk.bin rfl rfl (r := .bool true) (fun w => by rw [e2]; simp [go_sem] <;> omega) (lt_of_ble rfl)
          apply Wk.pckT rfl (by conv => lhs; whnf) (lt_of_ble rfl)
          apply Wk.mv (by conv => lhs; whnf) (lt_of_ble rfl)
          apply Wk.gon 18 rfl rfl
          apply Wk.fad 2 0 false fd44_2 rfl (lt_of_ble rfl)
          apply Wk.gon 18 rfl rfl
          apply Wk.ld (i := 3) 1 false ty3 rfl rfl (by conv => lhs; whnf) (lt_of_ble rfl)
          apply Wk.gon 18 rfl rfl
          apply Wk.dat (sinb k3) Try.func40 rfl rfl rfl rfl rfl (lt_of_ble rfl)
          apply Wk.pckT rfl (by conv => lhs; whnf) (lt_of_ble rfl)
          apply Wk.mv (by conv => lhs; whnf) (lt_of_ble rfl)
          apply Wk.goff 23 (ok_faddr fd44_3) rfl rfl (by simp)
          apply Wk.goff 23 (ok_load 3 ty3) rfl rfl (by simp)
          apply Wk.goff 23 (ok_datw ((sinb (n := 0) (lo := 0) (hi := 9999) rfl).w rfl) Try.func40 rfl rfl) rfl rfl (by simp)
          apply Wk.pckF rfl (by conv => lhs; whnf) (lt_of_ble rfl)
          apply Wk.mv (by conv => lhs; whnf) (lt_of_ble rfl)
          apply Wk.goff 28 (ok_faddr fd44_2) rfl rfl (by simp)
          apply Wk.goff 28 (ok_load 3 ty3) rfl rfl (by simp)
          apply Wk.goff 28 (ok_faddr fd44_3) rfl rfl (by simp)
          apply Wk.goff 28 (ok_load 3 ty3) rfl rfl (by simp)
          apply Wk.goff 28 (ok_bin _ _ _ _ _) rfl rfl (by simp)
          apply Wk.goff 28 (ok_faddr fd44_0) rfl rfl (by simp)
          apply Wk.goff 28 (ok_load 3 ty3) rfl rfl (by simp)
          apply Wk.goff 28 (ok_bin _ _ _ _ _) rfl rfl (by simp)
          apply Wk.pckF rfl (by conv => lhs; whnf) (lt_of_ble rfl)
          apply Wk.mv (by conv => lhs; whnf) (lt_of_ble rfl)
          apply Wk.goff 38 (ok_faddr fd44_1) rfl rfl (by simp)
          apply Wk.goff 38 (ok_load 3 ty31) rfl rfl (by simp)
          apply Wk.goff 38 (ok_faddr fd29_2) rfl rfl (by simp)
          apply Wk.goff 38 (ok_load 2 ty3) rfl rfl (by simp)
          apply Wk.goff 38 (ok_datw ((spartsb [] 0 rfl).w rfl) Try.func43 rfl rfl) rfl rfl (by simp)
          apply Wk.pckF rfl (by conv => lhs; whnf) (lt_of_ble rfl)
          apply Wk.asg (by conv => lhs; whnf) (lt_of_ble rfl)
          refine Wk.nil (AW.ret ?_)
          exact RetQ.ret [] (.cons rfl .nil) ⟨rfl, rfl⟩ none_kept
        · rw [Bool.true_and]
          cases k4 : inB s 0 9999
          · rw [Bool.false_and]
            apply AW.list
            apply Wk.ld (i := 2) 5 true ty29 rfl rfl (by conv => lhs; whnf) (lt_of_ble rfl)
            apply Wk.dat (scfgb k0) Try.func36 rfl rfl rfl rfl rfl (lt_of_ble rfl)
            apply Wk.mv (by conv => lhs; whnf) (lt_of_ble rfl)
            apply Wk.gon 7 rfl rfl
            apply Wk.fad 0 0 false fd44_0 rfl (lt_of_ble rfl)
            apply Wk.gon 7 rfl rfl
            apply Wk.ld (i := 3) 1 false ty3 rfl rfl (by conv => lhs; whnf) (lt_of_ble rfl)
            apply Wk.gon 7 rfl rfl
            apply Wk.dat (sinb k1) Try.func40 rfl rfl rfl rfl rfl (lt_of_ble rfl)
            apply Wk.pckT rfl (by conv => lhs; whnf) (lt_of_ble rfl)
            apply Wk.mv (by conv => lhs; whnf) (lt_of_ble rfl)
            apply Wk.gon 12 rfl rfl
            apply Wk.fad 1 0 false fd44_1 rfl (lt_of_ble rfl)
            apply Wk.gon 12 rfl rfl
            apply Wk.ld (i := 3) 1 false ty31 rfl rfl (by conv => lhs; whnf) (lt_of_ble rfl)
            apply Wk.gon 12 rfl rfl
            apply Wk.len un31 rfl (lt_of_ble rfl)
            apply Wk.gon 12 rfl rfl
            apply Wk.bin rfl rfl (r := .bool true) (fun w => by rw [e2]; simp [go_sem] <;> omega) (lt_of_ble rfl)
            apply Wk.pckT rfl (by conv => lhs; whnf) (lt_of_ble rfl)
            apply Wk.mv (by conv => lhs; whnf) (lt_of_ble rfl)
            apply Wk.gon 18 rfl rfl
            apply Wk.fad 2 0 false fd44_2 rfl (lt_of_ble rfl)
            apply Wk.gon 18 rfl rfl
            apply Wk.ld (i := 3) 1 false ty3 rfl rfl (by conv => lhs; whnf) (lt_of_ble rfl)
            apply Wk.gon 18 rfl rfl
            apply Wk.dat (sinb k3) Try.func40 rfl rfl rfl rfl rfl (lt_of_ble rfl)
            apply Wk.pckT rfl (by conv => lhs; whnf) (lt_of_ble rfl)
            apply Wk.mv (by conv => lhs; whnf) (lt_of_ble rfl)
            apply Wk.gon 23 rfl rfl
            apply Wk.fad 3 0 false fd44_3 rfl (lt_of_ble rfl)
            apply Wk.gon 23 rfl rfl
            apply Wk.ld (i := 3) 1 false ty3 rfl rfl (by conv => lhs; whnf) (lt_of_ble rfl)
            apply Wk.gon 23 rfl rfl
            apply Wk.dat (sinb k4) Try.func40 rfl rfl rfl rfl rfl (lt_of_ble rfl)
            apply Wk.pckT rfl (by conv => lhs; whnf) (lt_of_ble rfl)
            apply Wk.mv (by conv => lhs; whnf) (lt_of_ble rfl)
            apply Wk.goff 28 (ok_faddr fd44_2) rfl rfl (by simp)
            apply Wk.goff 28 (ok_load 3 ty3) rfl rfl (by simp)
            apply Wk.goff 28 (ok_faddr fd44_3) rfl rfl (by simp)
            apply Wk.goff 28 (ok_load 3 ty3) rfl rfl (by simp)
            apply Wk.goff 28 (ok_bin _ _ _ _ _) rfl rfl (by simp)
            apply Wk.goff 28 (ok_faddr fd44_0) rfl rfl (by simp)
            apply Wk.goff 28 (ok_load 3 ty3) rfl rfl (by simp)
            apply Wk.goff 28 (ok_bin _ _ _ _ _) rfl rfl (by simp)
            apply Wk.pckF rfl (by conv => lhs; whnf) (lt_of_ble rfl)
            apply Wk.mv (by conv => lhs; whnf) (lt_of_ble rfl)
            apply Wk.goff 38 (ok_faddr fd44_1) rfl rfl (by simp)
            apply Wk.goff 38 (ok_load 3 ty31) rfl rfl (by simp)
            apply Wk.goff 38 (ok_faddr fd29_2) rfl rfl (by simp)
            apply Wk.goff 38 (ok_load 2 ty3) rfl rfl (by simp)
            apply Wk.goff 38 (ok_datw ((spartsb [] 0 rfl).w rfl) Try.func43 rfl rfl) rfl rfl (by simp)
            apply Wk.pckF rfl (by conv => lhs; whnf) (lt_of_ble rfl)
            apply Wk.asg (by conv => lhs; whnf) (lt_of_ble rfl)
            refine Wk.nil (AW.ret ?_)
            exact RetQ.ret [] (.cons rfl .nil) ⟨rfl, rfl⟩ none_kept
          · rw [Bool.true_and]
            by_cases k5 : g - s = v
            · rw [decide_eq_true k5, Bool.true_and]
              cases k6 : qu.all (partM p0)
              · skip
                apply AW.list
                apply Wk.ld (i := 2) 5 true ty29 rfl rfl (by conv => lhs; whnf) (lt_of_ble rfl)
                apply Wk.dat (scfgb k0) Try.func36 rfl rfl rfl rfl rfl (lt_of_ble rfl)
                apply Wk.mv (by conv => lhs; whnf) (lt_of_ble rfl)
                apply Wk.gon 7 rfl rfl
                apply Wk.fad 0 0 false fd44_0 rfl (lt_of_ble rfl)
                apply Wk.gon 7 rfl rfl
                apply Wk.ld (i := 3) 1 false ty3 rfl rfl (by conv => lhs; whnf) (lt_of_ble rfl)
                apply Wk.gon 7 rfl rfl
                apply Wk.dat (sinb k1) Try.func40 rfl rfl rfl rfl rfl (lt_of_ble rfl)
                apply Wk.pckT rfl (by conv => lhs; whnf) (lt_of_ble rfl)
                apply Wk.mv (by conv => lhs; whnf) (lt_of_ble rfl)
                apply Wk.gon 12 rfl rfl
                apply Wk.fad 1 0 false fd44_1 rfl (lt_of_ble rfl)
                apply Wk.gon 12 rfl rfl
                apply Wk.ld (i := 3) 1 false ty31 rfl rfl (by conv => lhs; whnf) (lt_of_ble rfl)
                apply Wk.gon 12 rfl rfl
                apply Wk.len un31 rfl (lt_of_ble rfl)
                apply Wk.gon 12 rfl rfl
                apply Wk.bin rfl rfl (r := .bool true) (fun w => by rw [e2]; simp [go_sem] <;> omega) (lt_of_ble rfl)
                apply Wk.pckT rfl (by conv => lhs; whnf) (lt_of_ble rfl)
                apply Wk.mv (by conv => lhs; whnf) (lt_of_ble rfl)
                apply Wk.gon 18 rfl rfl
                apply Wk.fad 2 0 false fd44_2 rfl (lt_of_ble rfl)
                apply Wk.gon 18 rfl rfl
                apply Wk.ld (i := 3) 1 false ty3 rfl rfl (by conv => lhs; whnf) (lt_of_ble rfl)
                apply Wk.gon 18 rfl rfl
                apply Wk.dat (sinb k3) Try.func40 rfl rfl rfl rfl rfl (lt_of_ble rfl)
                apply Wk.pckT rfl (by conv => lhs; whnf) (lt_of_ble rfl)
                apply Wk.mv (by conv => lhs; whnf) (lt_of_ble rfl)
                apply Wk.gon 23 rfl rfl
                apply Wk.fad 3 0 false fd44_3 rfl (lt_of_ble rfl)
                apply Wk.gon 23 rfl rfl
                apply Wk.ld (i := 3) 1 false ty3 rfl rfl (by conv => lhs; whnf) (lt_of_ble rfl)
                apply Wk.gon 23 rfl rfl
                apply Wk.dat (sinb k4) Try.func40 rfl rfl rfl rfl rfl (lt_of_ble rfl)
                apply Wk.pckT rfl (by conv => lhs; whnf) (lt_of_ble rfl)
                apply Wk.mv (by conv => lhs; whnf) (lt_of_ble rfl)
                apply Wk.gon 28 rfl rfl
                apply Wk.fad 2 0 false fd44_2 rfl (lt_of_ble rfl)
                apply Wk.gon 28 rfl rfl
                apply Wk.ld (i := 3) 1 false ty3 rfl rfl (by conv => lhs; whnf) (lt_of_ble rfl)
                apply Wk.gon 28 rfl rfl
                apply Wk.fad 3 0 false fd44_3 rfl (lt_of_ble rfl)
                apply Wk.gon 28 rfl rfl
                apply Wk.ld (i := 3) 1 false ty3 rfl rfl (by conv => lhs; whnf) (lt_of_ble rfl)
                apply Wk.gon 28 rfl rfl
                apply Wk.subi rfl rfl (by have := (inB_iff _ _ _).1 k3; have := (inB_iff _ _ _).1 k4; dsimp only; omega) (lt_of_ble rfl)
                apply Wk.gon 28 rfl rfl
                apply Wk.fad 0 0 false fd44_0 rfl (lt_of_ble rfl)
                apply Wk.gon 28 rfl rfl
                apply Wk.ld (i := 3) 1 false ty3 rfl rfl (by conv => lhs; whnf) (lt_of_ble rfl)
                apply Wk.gon 28 rfl rfl
                apply Wk.bin rfl rfl (r := .bool true) (fun w => by simp [go_sem, k5]) (lt_of_ble rfl)
                apply Wk.pckT rfl (by conv => lhs; whnf) (lt_of_ble rfl)
                apply Wk.mv (by conv => lhs; whnf) (lt_of_ble rfl)
                apply Wk.gon 38 rfl rfl
                apply Wk.fad 1 0 false fd44_1 rfl (lt_of_ble rfl)
                apply Wk.gon 38 rfl rfl
                apply Wk.ld (i := 3) 1 false ty31 rfl rfl (by conv => lhs; whnf) (lt_of_ble rfl)
                apply Wk.gon 38 rfl rfl
                apply Wk.fad 2 0 false fd29_2 rfl (lt_of_ble rfl)
                apply Wk.gon 38 rfl rfl
                apply Wk.ld (i := 2) 1 false ty3 rfl rfl (by conv => lhs; whnf) (lt_of_ble rfl)
                apply Wk.gon 38 rfl rfl
                apply Wk.dat (spartsb qu p0 k6) Try.func43 rfl rfl rfl rfl rfl (lt_of_ble rfl)
                apply Wk.pckT rfl (by conv => lhs; whnf) (lt_of_ble rfl)
                apply Wk.asg (by conv => lhs; whnf) (lt_of_ble rfl)
                refine Wk.nil (AW.ret ?_)
                exact RetQ.ret [] (.cons rfl .nil) ⟨rfl, rfl⟩ none_kept
              · skip
                apply AW.list
                apply Wk.ld (i := 2) 5 true ty29 rfl rfl (by conv => lhs; whnf) (lt_of_ble rfl)
                apply Wk.dat (scfgb k0) Try.func36 rfl rfl rfl rfl rfl (lt_of_ble rfl)
                apply Wk.mv (by conv => lhs; whnf) (lt_of_ble rfl)
                apply Wk.gon 7 rfl rfl
                apply Wk.fad 0 0 false fd44_0 rfl (lt_of_ble rfl)
                apply Wk.gon 7 rfl rfl
                apply Wk.ld (i := 3) 1 false ty3 rfl rfl (by conv => lhs; whnf) (lt_of_ble rfl)
                apply Wk.gon 7 rfl rfl
                apply Wk.dat (sinb k1) Try.func40 rfl rfl rfl rfl rfl (lt_of_ble rfl)
                apply Wk.pckT rfl (by conv => lhs; whnf) (lt_of_ble rfl)
                apply Wk.mv (by conv => lhs; whnf) (lt_of_ble rfl)
                apply Wk.gon 12 rfl rfl
                apply Wk.fad 1 0 false fd44_1 rfl (lt_of_ble rfl)
                apply Wk.gon 12 rfl rfl
                apply Wk.ld (i := 3) 1 false ty31 rfl rfl (by conv => lhs; whnf) (lt_of_ble rfl)
                apply Wk.gon 12 rfl rfl
                apply Wk.len un31 rfl (lt_of_ble rfl)
                apply Wk.gon 12 rfl rfl
                apply Wk.bin rfl rfl (r := .bool true) (fun w => by rw [e2]; simp [go_sem] <;> omega) (lt_of_ble rfl)
                apply Wk.pckT rfl (by conv => lhs; whnf) (lt_of_ble rfl)
                apply Wk.mv (by conv => lhs; whnf) (lt_of_ble rfl)
                apply Wk.gon 18 rfl rfl
                apply Wk.fad 2 0 false fd44_2 rfl (lt_of_ble rfl)
                apply Wk.gon 18 rfl rfl
                apply Wk.ld (i := 3) 1 false ty3 rfl rfl (by conv => lhs; whnf) (lt_of_ble rfl)
                apply Wk.gon 18 rfl rfl
                apply Wk.dat (sinb k3) Try.func40 rfl rfl rfl rfl rfl (lt_of_ble rfl)
                apply Wk.pckT rfl (by conv => lhs; whnf) (lt_of_ble rfl)
                apply Wk.mv (by conv => lhs; whnf) (lt_of_ble rfl)
                apply Wk.gon 23 rfl rfl
                apply Wk.fad 3 0 false fd44_3 rfl (lt_of_ble rfl)
                apply Wk.gon 23 rfl rfl
                apply Wk.ld (i := 3) 1 false ty3 rfl rfl (by conv => lhs; whnf) (lt_of_ble rfl)
                apply Wk.gon 23 rfl rfl
                apply Wk.dat (sinb k4) Try.func40 rfl rfl rfl rfl rfl (lt_of_ble rfl)
                apply Wk.pckT rfl (by conv => lhs; whnf) (lt_of_ble rfl)
                apply Wk.mv (by conv => lhs; whnf) (lt_of_ble rfl)
                apply Wk.gon 28 rfl rfl
                apply Wk.fad 2 0 false fd44_2 rfl (lt_of_ble rfl)
                apply Wk.gon 28 rfl rfl
                apply Wk.ld (i := 3) 1 false ty3 rfl rfl (by conv => lhs; whnf) (lt_of_ble rfl)
                apply Wk.gon 28 rfl rfl
                apply Wk.fad 3 0 false fd44_3 rfl (lt_of_ble rfl)
                apply Wk.gon 28 rfl rfl
                apply Wk.ld (i := 3) 1 false ty3 rfl rfl (by conv => lhs; whnf) (lt_of_ble rfl)
                apply Wk.gon 28 rfl rfl
                apply Wk.subi rfl rfl (by have := (inB_iff _ _ _).1 k3; have := (inB_iff _ _ _).1 k4; dsimp only; omega) (lt_of_ble rfl)
                apply Wk.gon 28 rfl rfl
                apply Wk.fad 0 0 false fd44_0 rfl (lt_of_ble rfl)
                apply Wk.gon 28 rfl rfl
                apply Wk.ld (i := 3) 1 false ty3 rfl rfl (by conv => lhs; whnf) (lt_of_ble rfl)
                apply Wk.gon 28 rfl rfl
                apply Wk.bin rfl rfl (r := .bool true) (fun w => by simp [go_sem, k5]) (lt_of_ble rfl)
                apply Wk.pckT rfl (by conv => lhs; whnf) (lt_of_ble rfl)
                apply Wk.mv (by conv => lhs; whnf) (lt_of_ble rfl)
                apply Wk.gon 38 rfl rfl
                apply Wk.fad 1 0 false fd44_1 rfl (lt_of_ble rfl)
                apply Wk.gon 38 rfl rfl
                apply Wk.ld (i := 3) 1 false ty31 rfl rfl (by conv => lhs; whnf) (lt_of_ble rfl)
                apply Wk.gon 38 rfl rfl
                apply Wk.fad 2 0 false fd29_2 rfl (lt_of_ble rfl)
                apply Wk.gon 38 rfl rfl
                apply Wk.ld (i := 2) 1 false ty3 rfl rfl (by conv => lhs; whnf) (lt_of_ble rfl)
                apply Wk.gon 38 rfl rfl
                apply Wk.dat (spartsb qu p0 k6) Try.func43 rfl rfl rfl rfl rfl (lt_of_ble rfl)
                apply Wk.pckT rfl (by conv => lhs; whnf) (lt_of_ble rfl)
                apply Wk.asg (by conv => lhs; whnf) (lt_of_ble rfl)
                refine Wk.nil (AW.ret ?_)
                exact RetQ.ret [] (.cons rfl .nil) ⟨rfl, rfl⟩ none_kept
            · rw [decide_eq_false k5, Bool.false_and]
              apply AW.list
              apply Wk.ld (i := 2) 5 true ty29 rfl rfl (by conv => lhs; whnf) (lt_of_ble rfl)
              apply Wk.dat (scfgb k0) Try.func36 rfl rfl rfl rfl rfl (lt_of_ble rfl)
              apply Wk.mv (by conv => lhs; whnf) (lt_of_ble rfl)
              apply Wk.gon 7 rfl rfl
              apply Wk.fad 0 0 false fd44_0 rfl (lt_of_ble rfl)
              apply Wk.gon 7 rfl rfl
              apply Wk.ld (i := 3) 1 false ty3 rfl rfl (by conv => lhs; whnf) (lt_of_ble rfl)
              apply Wk.gon 7 rfl rfl
              apply Wk.dat (sinb k1) Try.func40 rfl rfl rfl rfl rfl (lt_of_ble rfl)
              apply Wk.pckT rfl (by conv => lhs; whnf) (lt_of_ble rfl)
              apply Wk.mv (by conv => lhs; whnf) (lt_of_ble rfl)
              apply Wk.gon 12 rfl rfl
              apply Wk.fad 1 0 false fd44_1 rfl (lt_of_ble rfl)
              apply Wk.gon 12 rfl rfl
              apply Wk.ld (i := 3) 1 false ty31 rfl rfl (by conv => lhs; whnf) (lt_of_ble rfl)
              apply Wk.gon 12 rfl rfl
              apply Wk.len un31 rfl (lt_of_ble rfl)
              apply Wk.gon 12 rfl rfl
              apply Wk.bin rfl rfl (r := .bool true) (fun w => by rw [e2]; simp [go_sem] <;> omega) (lt_of_ble rfl)
              apply Wk.pckT rfl (by conv => lhs; whnf) (lt_of_ble rfl)
              apply Wk.mv (by conv => lhs; whnf) (lt_of_ble rfl)
              apply Wk.gon 18 rfl rfl
              apply Wk.fad 2 0 false fd44_2 rfl (lt_of_ble rfl)
              apply Wk.gon 18 rfl rfl
              apply Wk.ld (i := 3) 1 false ty3 rfl rfl (by conv => lhs; whnf) (lt_of_ble rfl)
              apply Wk.gon 18 rfl rfl
              apply Wk.dat (sinb k3) Try.func40 rfl rfl rfl rfl rfl (lt_of_ble rfl)
              apply Wk.pckT rfl (by conv => lhs; whnf) (lt_of_ble rfl)
              apply Wk.mv (by conv => lhs; whnf) (lt_of_ble rfl)
              apply Wk.gon 23 rfl rfl
              apply Wk.fad 3 0 false fd44_3 rfl (lt_of_ble rfl)
              apply Wk.gon 23 rfl rfl
              apply Wk.ld (i := 3) 1 false ty3 rfl rfl (by conv => lhs; whnf) (lt_of_ble rfl)
              apply Wk.gon 23 rfl rfl
              apply Wk.dat (sinb k4) Try.func40 rfl rfl rfl rfl rfl (lt_of_ble rfl)
              apply Wk.pckT rfl (by conv => lhs; whnf) (lt_of_ble rfl)
              apply Wk.mv (by conv => lhs; whnf) (lt_of_ble rfl)
              apply Wk.gon 28 rfl rfl
              apply Wk.fad 2 0 false fd44_2 rfl (lt_of_ble rfl)
              apply Wk.gon 28 rfl rfl
              apply Wk.ld (i := 3) 1 false ty3 rfl rfl (by conv => lhs; whnf) (lt_of_ble rfl)
              apply Wk.gon 28 rfl rfl
              apply Wk.fad 3 0 false fd44_3 rfl (lt_of_ble rfl)
              apply Wk.gon 28 rfl rfl
              apply Wk.ld (i := 3) 1 false ty3 rfl rfl (by conv => lhs; whnf) (lt_of_ble rfl)
              apply Wk.gon 28 rfl rfl
              apply Wk.subi rfl rfl (by have := (inB_iff _ _ _).1 k3; have := (inB_iff _ _ _).1 k4; dsimp only; omega) (lt_of_ble rfl)
              apply Wk.gon 28 rfl rfl
              apply Wk.fad 0 0 false fd44_0 rfl (lt_of_ble rfl)
              apply Wk.gon 28 rfl rfl
              apply Wk.ld (i := 3) 1 false ty3 rfl rfl (by conv => lhs; whnf) (lt_of_ble rfl)
              apply Wk.gon 28 rfl rfl
              apply Wk.bin rfl rfl (r := .bool false) (fun w => by simp [go_sem, k5]) (lt_of_ble rfl)
              apply Wk.pckT rfl (by conv => lhs; whnf) (lt_of_ble rfl)
              apply Wk.mv (by conv => lhs; whnf) (lt_of_ble rfl)
              apply Wk.goff 38 (ok_faddr fd44_1) rfl rfl (by simp)
              apply Wk.goff 38 (ok_load 3 ty31) rfl rfl (by simp)
              apply Wk.goff 38 (ok_faddr fd29_2) rfl rfl (by simp)
              apply Wk.goff 38 (ok_load 2 ty3) rfl rfl (by simp)
              apply Wk.goff 38 (ok_datw ((spartsb [] 0 rfl).w rfl) Try.func43 rfl rfl) rfl rfl (by simp)
              apply Wk.pckF rfl (by conv => lhs; whnf) (lt_of_ble rfl)
              apply Wk.asg (by conv => lhs; whnf) (lt_of_ble rfl)
              refine Wk.nil (AW.ret ?_)
              exact RetQ.ret [] (.cons rfl .nil) ⟨rfl, rfl⟩ none_kept
      · rw [decide_eq_false k2, Bool.false_and]
        apply AW.list
        apply Wk.ld (i := 2) 5 true ty29 rfl rfl (by conv => lhs; whnf) (lt_of_ble rfl)
        apply Wk.dat (scfgb k0) Try.func36 rfl rfl rfl rfl rfl (lt_of_ble rfl)
        apply Wk.mv (by conv => lhs; whnf) (lt_of_ble rfl)
        apply Wk.gon 7 rfl rfl
        apply Wk.fad 0 0 false fd44_0 rfl (lt_of_ble rfl)
        apply Wk.gon 7 rfl rfl
        apply Wk.ld (i := 3) 1 false ty3 rfl rfl (by conv => lhs; whnf) (lt_of_ble rfl)
        apply Wk.gon 7 rfl rfl
        apply Wk.dat (sinb k1) Try.func40 rfl rfl rfl rfl rfl (lt_of_ble rfl)
        apply Wk.pckT rfl (by conv => lhs; whnf) (lt_of_ble rfl)
        apply Wk.mv (by conv => lhs; whnf) (lt_of_ble rfl)
        apply Wk.gon 12 rfl rfl
        apply Wk.fad 1 0 false fd44_1 rfl (lt_of_ble rfl)
        apply Wk.gon 12 rfl rfl
        apply Wk.ld (i := 3) 1 false ty31 rfl rfl (by conv => lhs; whnf) (lt_of_ble rfl)
        apply Wk.gon 12 rfl rfl
        apply Wk.len un31 rfl (lt_of_ble rfl)
        apply Wk.gon 12 rfl rfl
        apply Wk.bin rfl rfl (r := .bool false) (fun w => by rw [e2]; simp [go_sem] <;> omega) (lt_of_ble rfl)
        apply Wk.pckT rfl (by conv => lhs; whnf) (lt_of_ble rfl)
        apply Wk.mv (by conv => lhs; whnf) (lt_of_ble rfl)
        apply Wk.goff 18 (ok_faddr fd44_2) rfl rfl (by simp)
        apply Wk.goff 18 (ok_load 3 ty3) rfl rfl (by simp)
        apply Wk.goff 18 (ok_datw ((sinb (n := 0) (lo := 0) (hi := 9999) rfl).w rfl) Try.func40 rfl rfl) rfl rfl (by simp)
        apply Wk.pckF rfl (by conv => lhs; whnf) (lt_of_ble rfl)
        apply Wk.mv (by conv => lhs; whnf) (lt_of_ble rfl)
        apply Wk.goff 23 (ok_faddr fd44_3) rfl rfl (by simp)
        apply Wk.goff 23 (ok_load 3 ty3) rfl rfl (by simp)
        apply Wk.goff 23 (ok_datw ((sinb (n := 0) (lo := 0) (hi := 9999) rfl).w rfl) Try.func40 rfl rfl) rfl rfl (by simp)
        apply Wk.pckF rfl (by conv => lhs; whnf) (lt_of_ble rfl)
        apply Wk.mv (by conv => lhs; whnf) (lt_of_ble rfl)
        apply Wk.goff 28 (ok_faddr fd44_2) rfl rfl (by simp)
        apply Wk.goff 28 (ok_load 3 ty3) rfl rfl (by simp)
        apply Wk.goff 28 (ok_faddr fd44_3) rfl rfl (by simp)
        apply Wk.goff 28 (ok_load 3 ty3) rfl rfl (by simp)
        apply Wk.goff 28 (ok_bin _ _ _ _ _) rfl rfl (by simp)
        apply Wk.goff 28 (ok_faddr fd44_0) rfl rfl (by simp)
        apply Wk.goff 28 (ok_load 3 ty3) rfl rfl (by simp)
        apply Wk.goff 28 (ok_bin _ _ _ _ _) rfl rfl (by simp)
        apply Wk.pckF rfl (by conv => lhs; whnf) (lt_of_ble rfl)
        apply Wk.mv (by conv => lhs; whnf) (lt_of_ble rfl)
        apply Wk.goff 38 (ok_faddr fd44_1) rfl rfl (by simp)
        apply Wk.goff 38 (ok_load 3 ty31) rfl rfl (by simp)
        apply Wk.goff 38 (ok_faddr fd29_2) rfl rfl (by simp)
        apply Wk.goff 38 (ok_load 2 ty3) rfl rfl (by simp)
        apply Wk.goff 38 (ok_datw ((spartsb [] 0 rfl).w rfl) Try.func43 rfl rfl) rfl rfl (by simp)
        apply Wk.pckF rfl (by conv => lhs; whnf) (lt_of_ble rfl)
        apply Wk.asg (by conv => lhs; whnf) (lt_of_ble rfl)
        refine Wk.nil (AW.ret ?_)
        exact RetQ.ret [] (.cons rfl .nil) ⟨rfl, rfl⟩ none_kept
theorem scxb {m w p u y : Int} {x : CX} {b : Bool} (h : crdOkB ⟨m, w, p, u, y⟩ x = b) : DataOk Try.prog 19 [cfgA m w p u y, cxA x] (.d (.v (.bool b))) := h ▸ scx_ok m w p u y x
theorem crdOk_parts (o : Opt) (x : CX) : crdOkB o x = (o.ok && ((inB x.v 0 255 && (inB x.g 0 9999 && (inB x.s 0 9999 && decide (x.v = x.g - x.s)))) && (inB (x.qu.length : Int) 0 24 && x.qu.all (partM o.mps)))) := by
  apply bool_of_iff
  simp only [crdOkB, Bool.and_eq_true, decide_eq_true_eq, inB_iff]
  constructor
  · rintro ⟨k1, k2, k3, k4, k5, k6, k7⟩
    exact ⟨k1, ⟨k2, k4, k5, by omega⟩, ⟨by omega, by omega⟩, k7⟩
  · rintro ⟨k1, ⟨k2, k4, k5, k6⟩, k3, k7⟩
    exact ⟨k1, k2, by omega, k4, k5, by omega, k7⟩
set_option maxHeartbeats 4000000 in
set_option maxRecDepth 100000 in
theorem icx_ok (m0 w0 p0 u0 y0 : Int) (x : CX) : DataOk Try.prog 21 [cfgA m0 w0 p0 u0 y0, cxA x] (.d (.v (.bool (crdOkB ⟨m0, w0, p0, u0, y0⟩ x)))) := by
  rw [crdOk_parts]
  obtain ⟨v, qu, g, s, d⟩ := x
  have e2 : (((qu.map datD).length : Nat) : Int) = (qu.length : Int) := by rw [List.length_map]
  simp only
  rw [← e2]
  obtain ⟨cb, hcb⟩ : ∃ cb, cb = (inB v 0 255 && (inB g 0 9999 && (inB s 0 9999 && decide (v = g - s)))) := ⟨_, rfl⟩
  rw [← hcb]
  refine Spec.intro (n := 47) (rv := [.tmp 4]) Try.func21 rfl rfl rfl (by simp) fun C hN hX => ?_
  refine AW.seq ?_
  apply AW.list
  apply Wk.bx 2 rfl rfl (lt_of_ble rfl)
  apply Wk.bx 3 rfl rfl (lt_of_ble rfl)
  apply Wk.asg (by conv => lhs; whnf) (lt_of_ble rfl)
  refine Wk.nil ?_
  refine AW.via (fun b : Bool => St.of 47 [(2, .ptr 2 0), (3, .ptr 3 0), (5, .d (.v (.bool b)))] [(2, .var [.d (.v (.int .i64 m0)), .d (.v (.int .i64 w0)), .d (.v (.int .i64 p0)), .d (.v (.int .i64 u0)), .d (.v (.int .i64 y0))]), (3, .var [.d (.v (.int .i64 v)), .d (partsD qu), .d (.v (.int .i64 g)), .d (.v (.int .i64 s)), .d (.v (.bool d))])]) (fun b => b = cb) ?_ ?_
  · skip
    cases k0 : inB v 0 255
    · skip
      apply AW.list
      apply Wk.fad 0 0 false fd44_0 rfl (lt_of_ble rfl)
      apply Wk.ld (i := 3) 1 false ty3 rfl rfl (by conv => lhs; whnf) (lt_of_ble rfl)
      apply Wk.dat (inoneb k0) Try.func47 rfl rfl rfl rfl rfl (lt_of_ble rfl)
      apply Wk.mv (by conv => lhs; whnf) (lt_of_ble rfl)
      apply Wk.goff 9 (ok_faddr fd44_2) rfl rfl (by simp)
      apply Wk.goff 9 (ok_load 3 ty3) rfl rfl (by simp)
      apply Wk.goff 9 (ok_datw ((inoneb (n := 0) (hi := 0) rfl).w rfl) Try.func47 rfl rfl) rfl rfl (by simp)
      apply Wk.pckF rfl (by conv => lhs; whnf) (lt_of_ble rfl)
      apply Wk.mv (by conv => lhs; whnf) (lt_of_ble rfl)
      apply Wk.goff 14 (ok_faddr fd44_3) rfl rfl (by simp)
      apply Wk.goff 14 (ok_load 3 ty3) rfl rfl (by simp)
      apply Wk.goff 14 (ok_datw ((inoneb (n := 0) (hi := 0) rfl).w rfl) Try.func47 rfl rfl) rfl rfl (by simp)
      apply Wk.pckF rfl (by conv => lhs; whnf) (lt_of_ble rfl)
      apply Wk.mv (by conv => lhs; whnf) (lt_of_ble rfl)
      apply Wk.goff 19 (ok_faddr fd44_0) rfl rfl (by simp)
      apply Wk.goff 19 (ok_load 3 ty3) rfl rfl (by simp)
      apply Wk.goff 19 (ok_faddr fd44_2) rfl rfl (by simp)
      apply Wk.goff 19 (ok_load 3 ty3) rfl rfl (by simp)
      apply Wk.goff 19 (ok_faddr fd44_3) rfl rfl (by simp)
      apply Wk.goff 19 (ok_load 3 ty3) rfl rfl (by simp)
      apply Wk.goff 19 (ok_bin _ _ _ _ _) rfl rfl (by simp)
      apply Wk.goff 19 (ok_bin _ _ _ _ _) rfl rfl (by simp)
      apply Wk.pckF rfl (by conv => lhs; whnf) (lt_of_ble rfl)
      apply Wk.asg (by conv => lhs; whnf) (lt_of_ble rfl)
      refine Wk.nil (thenA_normal ?_)
      exact ⟨false, by rw [hcb, k0]; rfl, fun a w => Rel.keep ⟨rfl, .cons rfl rfl (.cons rfl rfl (.cons rfl rfl .nil)), .cons rfl rfl (.cons rfl rfl .nil), hN.mono (by simp [keys])⟩⟩
    · skip
      cases k1 : inB g 0 9999
      · skip
        apply AW.list
        apply Wk.fad 0 0 false fd44_0 rfl (lt_of_ble rfl)
        apply Wk.ld (i := 3) 1 false ty3 rfl rfl (by conv => lhs; whnf) (lt_of_ble rfl)
        apply Wk.dat (inoneb k0) Try.func47 rfl rfl rfl rfl rfl (lt_of_ble rfl)
        apply Wk.mv (by conv => lhs; whnf) (lt_of_ble rfl)
        apply Wk.gon 9 rfl rfl
        apply Wk.fad 2 0 false fd44_2 rfl (lt_of_ble rfl)
        apply Wk.gon 9 rfl rfl
        apply Wk.ld (i := 3) 1 false ty3 rfl rfl (by conv => lhs; whnf) (lt_of_ble rfl)
        apply Wk.gon 9 rfl rfl
        apply Wk.dat (inoneb k1) Try.func47 rfl rfl rfl rfl rfl (lt_of_ble rfl)
        apply Wk.pckT rfl (by conv => lhs; whnf) (lt_of_ble rfl)
        apply Wk.mv (by conv => lhs; whnf) (lt_of_ble rfl)
        apply Wk.goff 14 (ok_faddr fd44_3) rfl rfl (by simp)
        apply Wk.goff 14 (ok_load 3 ty3) rfl rfl (by simp)
        apply Wk.goff 14 (ok_datw ((inoneb (n := 0) (hi := 0) rfl).w rfl) Try.func47 rfl rfl) rfl rfl (by simp)
        apply Wk.pckF rfl (by conv => lhs; whnf) (lt_of_ble rfl)
        apply Wk.mv (by conv => lhs; whnf) (lt_of_ble rfl)
        apply Wk.goff 19 (ok_faddr fd44_0) rfl rfl (by simp)
        apply Wk.goff 19 (ok_load 3 ty3) rfl rfl (by simp)
        apply Wk.goff 19 (ok_faddr fd44_2) rfl rfl (by simp)
        apply Wk.goff 19 (ok_load 3 ty3) rfl rfl (by simp)
        apply Wk.goff 19 (ok_faddr fd44_3) rfl rfl (by simp)
        apply Wk.goff 19 (ok_load 3 ty3) rfl rfl (by simp)
        apply Wk.goff 19 (ok_bin _ _ _ _ _) rfl rfl (by simp)
        apply Wk.goff 19 (ok_bin _ _ _ _ _) rfl rfl (by simp)
        apply Wk.pckF rfl (by conv => lhs; whnf) (lt_of_ble rfl)
        apply Wk.asg (by conv => lhs; whnf) (lt_of_ble rfl)
        refine Wk.nil (thenA_normal ?_)
        exact ⟨false, by rw [hcb, k0, k1]; rfl, fun a w => Rel.keep ⟨rfl, .cons rfl rfl (.cons rfl rfl (.cons rfl rfl .nil)), .cons rfl rfl (.cons rfl rfl .nil), hN.mono (by simp [keys])⟩⟩
      · skip
        cases k2 : inB s 0 9999
        · skip
          apply AW.list
          apply Wk.fad 0 0 false fd44_0 rfl (lt_of_ble rfl)
          apply Wk.ld (i := 3) 1 false ty3 rfl rfl (by conv => lhs; whnf) (lt_of_ble rfl)
          apply Wk.dat (inoneb k0) Try.func47 rfl rfl rfl rfl rfl (lt_of_ble rfl)
          apply Wk.mv (by conv => lhs; whnf) (lt_of_ble rfl)
          apply Wk.gon 9 rfl rfl
          apply Wk.fad 2 0 false fd44_2 rfl (lt_of_ble rfl)
          apply Wk.gon 9 rfl rfl
          apply Wk.ld (i := 3) 1 false ty3 rfl rfl (by conv => lhs; whnf) (lt_of_ble rfl)
          apply Wk.gon 9 rfl rfl
          apply Wk.dat (inoneb k1) Try.func47 rfl rfl rfl rfl rfl (lt_of_ble rfl)
          apply Wk.pckT rfl (by conv => lhs; whnf) (lt_of_ble rfl)
          apply Wk.mv (by conv => lhs; whnf) (lt_of_ble rfl)
          apply Wk.gon 14 rfl rfl
          apply Wk.fad 3 0 false fd44_3 rfl (lt_of_ble rfl)
          apply Wk.gon 14 rfl rfl
          apply Wk.ld (i := 3) 1 false ty3 rfl rfl (by conv => lhs; whnf) (lt_of_ble rfl)
          apply Wk.gon 14 rfl rfl
          apply Wk.dat (inoneb k2) Try.func47 rfl rfl rfl rfl rfl (lt_of_ble rfl)
          apply Wk.pckT rfl (by conv => lhs; whnf) (lt_of_ble rfl)
          apply Wk.mv (by conv => lhs; whnf) (lt_of_ble rfl)
          apply Wk.goff 19 (ok_faddr fd44_0) rfl rfl (by simp)
          apply Wk.goff 19 (ok_load 3 ty3) rfl rfl (by simp)
          apply Wk.goff 19 (ok_faddr fd44_2) rfl rfl (by simp)
          apply Wk.goff 19 (ok_load 3 ty3) rfl rfl (by simp)
          apply Wk.goff 19 (ok_faddr fd44_3) rfl rfl (by simp)
          apply Wk.goff 19 (ok_load 3 ty3) rfl rfl (by simp)
          apply Wk.goff 19 (ok_bin _ _ _ _ _) rfl rfl (by simp)
          apply Wk.goff 19 (ok_bin _ _ _ _ _) rfl rfl (by simp)
          apply Wk.pckF rfl (by conv => lhs; whnf) (lt_of_ble rfl)
          apply Wk.asg (by conv => lhs; whnf) (lt_of_ble rfl)
          refine Wk.nil (thenA_normal ?_)
          exact ⟨false, by rw [hcb, k0, k1, k2]; rfl, fun a w => Rel.keep ⟨rfl, .cons rfl rfl (.cons rfl rfl (.cons rfl rfl .nil)), .cons rfl rfl (.cons rfl rfl .nil), hN.mono (by simp [keys])⟩⟩
        · skip
          by_cases k3 : v = g - s
          · skip
            apply AW.list
            apply Wk.fad 0 0 false fd44_0 rfl (lt_of_ble rfl)
            apply Wk.ld (i := 3) 1 false ty3 rfl rfl (by conv => lhs; whnf) (lt_of_ble rfl)
            apply Wk.dat (inoneb k0) Try.func47 rfl rfl rfl rfl rfl (lt_of_ble rfl)
            apply Wk.mv (by conv => lhs; whnf) (lt_of_ble rfl)
            apply Wk.gon 9 rfl rfl
            apply Wk.fad 2 0 false fd44_2 rfl (lt_of_ble rfl)
            apply Wk.gon 9 rfl rfl
            apply Wk.ld (i := 3) 1 false ty3 rfl rfl (by conv => lhs; whnf) (lt_of_ble rfl)
            apply Wk.gon 9 rfl rfl
            apply Wk.dat (inoneb k1) Try.func47 rfl rfl rfl rfl rfl (lt_of_ble rfl)
            apply Wk.pckT rfl (by conv => lhs; whnf) (lt_of_ble rfl)
            apply Wk.mv (by conv => lhs; whnf) (lt_of_ble rfl)
            apply Wk.gon 14 rfl rfl
            apply Wk.fad 3 0 false fd44_3 rfl (lt_of_ble rfl)
            apply Wk.gon 14 rfl rfl
            apply Wk.ld (i := 3) 1 false ty3 rfl rfl (by conv => lhs; whnf) (lt_of_ble rfl)
            apply Wk.gon 14 rfl rfl
            apply Wk.dat (inoneb k2) Try.func47 rfl rfl rfl rfl rfl (lt_of_ble rfl)
            apply Wk.pckT rfl (by conv => lhs; whnf) (lt_of_ble rfl)
            apply Wk.mv (by conv => lhs; whnf) (lt_of_ble rfl)
            apply Wk.gon 19 rfl rfl
            apply Wk.fad 0 0 false fd44_0 rfl (lt_of_ble rfl)
            apply Wk.gon 19 rfl rfl
            apply Wk.ld (i := 3) 1 false ty3 rfl rfl (by conv => lhs; whnf) (lt_of_ble rfl)
            apply Wk.gon 19 rfl rfl
            apply Wk.fad 2 0 false fd44_2 rfl (lt_of_ble rfl)
            apply Wk.gon 19 rfl rfl
            apply Wk.ld (i := 3) 1 false ty3 rfl rfl (by conv => lhs; whnf) (lt_of_ble rfl)
            apply Wk.gon 19 rfl rfl
            apply Wk.fad 3 0 false fd44_3 rfl (lt_of_ble rfl)
            apply Wk.gon 19 rfl rfl
            apply Wk.ld (i := 3) 1 false ty3 rfl rfl (by conv => lhs; whnf) (lt_of_ble rfl)
            apply Wk.gon 19 rfl rfl
            apply Wk.subi rfl rfl (by have := (inB_iff _ _ _).1 k1; have := (inB_iff _ _ _).1 k2; dsimp only; omega) (lt_of_ble rfl)
            apply Wk.gon 19 rfl rfl
            apply Wk.bin rfl rfl (r := .bool true) (fun w => by simp [go_sem, k3]) (lt_of_ble rfl)
            apply Wk.pckT rfl (by conv => lhs; whnf) (lt_of_ble rfl)
            apply Wk.asg (by conv => lhs; whnf) (lt_of_ble rfl)
            refine Wk.nil (thenA_normal ?_)
            exact ⟨true, by rw [hcb, k0, k1, k2, decide_eq_true k3]; rfl, fun a w => Rel.keep ⟨rfl, .cons rfl rfl (.cons rfl rfl (.cons rfl rfl .nil)), .cons rfl rfl (.cons rfl rfl .nil), hN.mono (by simp [keys])⟩⟩
          · skip
            apply AW.list
            apply Wk.fad 0 0 false fd44_0 rfl (lt_of_ble rfl)
            apply Wk.ld (i := 3) 1 false ty3 rfl rfl (by conv => lhs; whnf) (lt_of_ble rfl)
            apply Wk.dat (inoneb k0) Try.func47 rfl rfl rfl rfl rfl (lt_of_ble rfl)
            apply Wk.mv (by conv => lhs; whnf) (lt_of_ble rfl)
            apply Wk.gon 9 rfl rfl
            apply Wk.fad 2 0 false fd44_2 rfl (lt_of_ble rfl)
            apply Wk.gon 9 rfl rfl
            apply Wk.ld (i := 3) 1 false ty3 rfl rfl (by conv => lhs; whnf) (lt_of_ble rfl)
            apply Wk.gon 9 rfl rfl
            apply Wk.dat (inoneb k1) Try.func47 rfl rfl rfl rfl rfl (lt_of_ble rfl)
            apply Wk.pckT rfl (by conv => lhs; whnf) (lt_of_ble rfl)
            apply Wk.mv (by conv => lhs; whnf) (lt_of_ble rfl)
            apply Wk.gon 14 rfl rfl
            apply Wk.fad 3 0 false fd44_3 rfl (lt_of_ble rfl)
            apply Wk.gon 14 rfl rfl
            apply Wk.ld (i := 3) 1 false ty3 rfl rfl (by conv => lhs; whnf) (lt_of_ble rfl)
            apply Wk.gon 14 rfl rfl
            apply Wk.dat (inoneb k2) Try.func47 rfl rfl rfl rfl rfl (lt_of_ble rfl)
            apply Wk.pckT rfl (by conv => lhs; whnf) (lt_of_ble rfl)
            apply Wk.mv (by conv => lhs; whnf) (lt_of_ble rfl)
            apply Wk.gon 19 rfl rfl
            apply Wk.fad 0 0 false fd44_0 rfl (lt_of_ble rfl)
            apply Wk.gon 19 rfl rfl
            apply Wk.ld (i := 3) 1 false ty3 rfl rfl (by conv => lhs; whnf) (lt_of_ble rfl)
            apply Wk.gon 19 rfl rfl
            apply Wk.fad 2 0 false fd44_2 rfl (lt_of_ble rfl)
            apply Wk.gon 19 rfl rfl
            apply Wk.ld (i := 3) 1 false ty3 rfl rfl (by conv => lhs; whnf) (lt_of_ble rfl)
            apply Wk.gon 19 rfl rfl
            apply Wk.fad 3 0 false fd44_3 rfl (lt_of_ble rfl)
            apply Wk.gon 19 rfl rfl
            apply Wk.ld (i := 3) 1 false ty3 rfl rfl (by conv => lhs; whnf) (lt_of_ble rfl)
            apply Wk.gon 19 rfl rfl
            apply Wk.subi rfl rfl (by have := (inB_iff _ _ _).1 k1; have := (inB_iff _ _ _).1 k2; dsimp only; omega) (lt_of_ble rfl)
            apply Wk.gon 19 rfl rfl
            apply Wk.bin rfl rfl (r := .bool false) (fun w => by simp [go_sem, k3]) (lt_of_ble rfl)
            apply Wk.pckT rfl (by conv => lhs; whnf) (lt_of_ble rfl)
            apply Wk.asg (by conv => lhs; whnf) (lt_of_ble rfl)
            refine Wk.nil (thenA_normal ?_)
            exact ⟨false, by rw [hcb, k0, k1, k2, decide_eq_false k3]; rfl, fun a w => Rel.keep ⟨rfl, .cons rfl rfl (.cons rfl rfl (.cons rfl rfl .nil)), .cons rfl rfl (.cons rfl rfl .nil), hN.mono (by simp [keys])⟩⟩
  rintro cb' rfl
  clear hcb
  refine AW.seq ?_
  cases h0 : Opt.ok ⟨m0, w0, p0, u0, y0⟩
  · skip
    apply AW.list
    apply Wk.ld (i := 2) 5 true ty29 rfl rfl (by conv => lhs; whnf) (lt_of_ble rfl)
    apply Wk.dat (icfgb h0) Try.func48 rfl rfl rfl rfl rfl (lt_of_ble rfl)
    apply Wk.mv (by conv => lhs; whnf) (lt_of_ble rfl)
    apply Wk.goff 31 (ok_move _) rfl rfl (by simp)
    apply Wk.pckF rfl (by conv => lhs; whnf) (lt_of_ble rfl)
    apply Wk.mv (by conv => lhs; whnf) (lt_of_ble rfl)
    apply Wk.goff 34 (ok_faddr fd44_1) rfl rfl (by simp)
    apply Wk.goff 34 (ok_load 3 ty31) rfl rfl (by simp)
    apply Wk.goff 34 (ok_len un31) rfl rfl (by simp)
    apply Wk.goff 34 (ok_datw ((inoneb (n := 0) (hi := 24) rfl).w rfl) Try.func47 rfl rfl) rfl rfl (by simp)
    apply Wk.pckF rfl (by conv => lhs; whnf) (lt_of_ble rfl)
    apply Wk.mv (by conv => lhs; whnf) (lt_of_ble rfl)
    apply Wk.goff 40 (ok_faddr fd44_1) rfl rfl (by simp)
    apply Wk.goff 40 (ok_load 3 ty31) rfl rfl (by simp)
    apply Wk.goff 40 (ok_faddr fd29_2) rfl rfl (by simp)
    apply Wk.goff 40 (ok_load 2 ty3) rfl rfl (by simp)
    apply Wk.goff 40 (ok_datw ((ipartsb [] 0 rfl).w rfl) Try.func49 rfl rfl) rfl rfl (by simp)
    apply Wk.pckF rfl (by conv => lhs; whnf) (lt_of_ble rfl)
    apply Wk.asg (by conv => lhs; whnf) (lt_of_ble rfl)
    refine Wk.nil (AW.ret ?_)
    exact RetQ.ret [] (.cons rfl .nil) ⟨rfl, rfl⟩ none_kept
  · skip
    cases cb'
    · skip
      apply AW.list
      apply Wk.ld (i := 2) 5 true ty29 rfl rfl (by conv => lhs; whnf) (lt_of_ble rfl)
      apply Wk.dat (icfgb h0) Try.func48 rfl rfl rfl rfl rfl (lt_of_ble rfl)
      apply Wk.mv (by conv => lhs; whnf) (lt_of_ble rfl)
      apply Wk.gon 31 rfl rfl
      apply Wk.mv (by conv => lhs; whnf) (lt_of_ble rfl)
      apply Wk.pckT rfl (by conv => lhs; whnf) (lt_of_ble rfl)
      apply Wk.mv (by conv => lhs; whnf) (lt_of_ble rfl)
      apply Wk.goff 34 (ok_faddr fd44_1) rfl rfl (by simp)
      apply Wk.goff 34 (ok_load 3 ty31) rfl rfl (by simp)
      apply Wk.goff 34 (ok_len un31) rfl rfl (by simp)
      apply Wk.goff 34 (ok_datw ((inoneb (n := 0) (hi := 24) rfl).w rfl) Try.func47 rfl rfl) rfl rfl (by simp)
      apply Wk.pckF rfl (by conv => lhs; whnf) (lt_of_ble rfl)
      apply Wk.mv (by conv => lhs; whnf) (lt_of_ble rfl)
      apply Wk.goff 40 (ok_faddr fd44_1) rfl rfl (by simp)
      apply Wk.goff 40 (ok_load 3 ty31) rfl rfl (by simp)
      apply Wk.goff 40 (ok_faddr fd29_2) rfl rfl (by simp)
      apply Wk.goff 40 (ok_load 2 ty3) rfl rfl (by simp)
      apply Wk.goff 40 (ok_datw ((ipartsb [] 0 rfl).w rfl) Try.func49 rfl rfl) rfl rfl (by simp)
      apply Wk.pckF rfl (by conv => lhs; whnf) (lt_of_ble rfl)
      apply Wk.asg (by conv => lhs; whnf) (lt_of_ble rfl)
      refine Wk.nil (AW.ret ?_)
      exact RetQ.ret [] (.cons rfl .nil) ⟨rfl, rfl⟩ none_kept
    · skip
      cases h2 : inB (((qu.map datD).length : Nat) : Int) 0 24
      · skip
        apply AW.list
        apply Wk.ld (i := 2) 5 true ty29 rfl rfl (by conv => lhs; whnf) (lt_of_ble rfl)
        apply Wk.dat (icfgb h0) Try.func48 rfl rfl rfl rfl rfl (lt_of_ble rfl)
        apply Wk.mv (by conv => lhs; whnf) (lt_of_ble rfl)
        apply Wk.gon 31 rfl rfl
        apply Wk.mv (by conv => lhs; whnf) (lt_of_ble rfl)
        apply Wk.pckT rfl (by conv => lhs; whnf) (lt_of_ble rfl)
        apply Wk.mv (by conv => lhs; whnf) (lt_of_ble rfl)
        apply Wk.gon 34 rfl rfl
        apply Wk.fad 1 0 false fd44_1 rfl (lt_of_ble rfl)
        apply Wk.gon 34 rfl rfl
        apply Wk.ld (i := 3) 1 false ty31 rfl rfl (by conv => lhs; whnf) (lt_of_ble rfl)
        apply Wk.gon 34 rfl rfl
        apply Wk.len un31 rfl (lt_of_ble rfl)
        apply Wk.gon 34 rfl rfl
        apply Wk.dat (inoneb h2) Try.func47 rfl rfl rfl rfl rfl (lt_of_ble rfl)
        apply Wk.pckT rfl (by conv => lhs; whnf) (lt_of_ble rfl)
        apply Wk.mv (by conv => lhs; whnf) (lt_of_ble rfl)
        apply Wk.goff 40 (ok_faddr fd44_1) rfl rfl (by simp)
        apply Wk.goff 40 (ok_load 3 ty31) rfl rfl (by simp)
        apply Wk.goff 40 (ok_faddr fd29_2) rfl rfl (by simp)
        apply Wk.goff 40 (ok_load 2 ty3) rfl rfl (by simp)
        apply Wk.goff 40 (ok_datw ((ipartsb [] 0 rfl).w rfl) Try.func49 rfl rfl) rfl rfl (by simp)
        apply Wk.pckF rfl (by conv => lhs; whnf) (lt_of_ble rfl)
        apply Wk.asg (by conv => lhs; whnf) (lt_of_ble rfl)
        refine Wk.nil (AW.ret ?_)
        exact RetQ.ret [] (.cons rfl .nil) ⟨rfl, rfl⟩ none_kept
      · skip
        cases h3 : qu.all (partM p0)
        · skip
          apply AW.list
          apply Wk.ld (i := 2) 5 true ty29 rfl rfl (by conv => lhs; whnf) (lt_of_ble rfl)
          apply Wk.dat (icfgb h0) Try.func48 rfl rfl rfl rfl rfl (lt_of_ble rfl)
          apply Wk.mv (by conv => lhs; whnf) (lt_of_ble rfl)
          apply Wk.gon 31 rfl rfl
          apply Wk.mv (by conv => lhs; whnf) (lt_of_ble rfl)
          apply Wk.pckT rfl (by conv => lhs; whnf) (lt_of_ble rfl)
          apply Wk.mv (by conv => lhs; whnf) (lt_of_ble rfl)
          apply Wk.gon 34 rfl rfl
          apply Wk.fad 1 0 false fd44_1 rfl (lt_of_ble rfl)
          apply Wk.gon 34 rfl rfl
          apply Wk.ld (i := 3) 1 false ty31 rfl rfl (by conv => lhs; whnf) (lt_of_ble rfl)
          apply Wk.gon 34 rfl rfl
          apply Wk.len un31 rfl (lt_of_ble rfl)
          apply Wk.gon 34 rfl rfl
          apply Wk.dat (inoneb h2) Try.func47 rfl rfl rfl rfl rfl (lt_of_ble rfl)
          apply Wk.pckT rfl (by conv => lhs; whnf) (lt_of_ble rfl)
          apply Wk.mv (by conv => lhs; whnf) (lt_of_ble rfl)
          apply Wk.gon 40 rfl rfl
          apply Wk.fad 1 0 false fd44_1 rfl (lt_of_ble rfl)
          apply Wk.gon 40 rfl rfl
          apply Wk.ld (i := 3) 1 false ty31 rfl rfl (by conv => lhs; whnf) (lt_of_ble rfl)
          apply Wk.gon 40 rfl rfl
          apply Wk.fad 2 0 false fd29_2 rfl (lt_of_ble rfl)
          apply Wk.gon 40 rfl rfl
          apply Wk.ld (i := 2) 1 false ty3 rfl rfl (by conv => lhs; whnf) (lt_of_ble rfl)
          apply Wk.gon 40 rfl rfl
          apply Wk.dat (ipartsb qu p0 h3) Try.func49 rfl rfl rfl rfl rfl (lt_of_ble rfl)
          apply Wk.pckT rfl (by conv => lhs; whnf) (lt_of_ble rfl)
          apply Wk.asg (by conv => lhs; whnf) (lt_of_ble rfl)
          refine Wk.nil (AW.ret ?_)
          exact RetQ.ret [] (.cons rfl .nil) ⟨rfl, rfl⟩ none_kept
        · skip
          apply AW.list
          apply Wk.ld (i := 2) 5 true ty29 rfl rfl (by conv => lhs; whnf) (lt_of_ble rfl)
          apply Wk.dat (icfgb h0) Try.func48 rfl rfl rfl rfl rfl (lt_of_ble rfl)
          apply Wk.mv (by conv => lhs; whnf) (lt_of_ble rfl)
          apply Wk.gon 31 rfl rfl
          apply Wk.mv (by conv => lhs; whnf) (lt_of_ble rfl)
          apply Wk.pckT rfl (by conv => lhs; whnf) (lt_of_ble rfl)
          apply Wk.mv (by conv => lhs; whnf) (lt_of_ble rfl)
          apply Wk.gon 34 rfl rfl
          apply Wk.fad 1 0 false fd44_1 rfl (lt_of_ble rfl)
          apply Wk.gon 34 rfl rfl
          apply Wk.ld (i := 3) 1 false ty31 rfl rfl (by conv => lhs; whnf) (lt_of_ble rfl)
          apply Wk.gon 34 rfl rfl
          apply Wk.len un31 rfl (lt_of_ble rfl)
          apply Wk.gon 34 rfl rfl
          apply Wk.dat (inoneb h2) Try.func47 rfl rfl rfl rfl rfl (lt_of_ble rfl)
          apply Wk.pckT rfl (by conv => lhs; whnf) (lt_of_ble rfl)
          apply Wk.mv (by conv => lhs; whnf) (lt_of_ble rfl)
          apply Wk.gon 40 rfl rfl
          apply Wk.fad 1 0 false fd44_1 rfl (lt_of_ble rfl)
          apply Wk.gon 40 rfl rfl
          apply Wk.ld (i := 3) 1 false ty31 rfl rfl (by conv => lhs; whnf) (lt_of_ble rfl)
          apply Wk.gon 40 rfl rfl
          apply Wk.fad 2 0 false fd29_2 rfl (lt_of_ble rfl)
          apply Wk.gon 40 rfl rfl
          apply Wk.ld (i := 2) 1 false ty3 rfl rfl (by conv => lhs; whnf) (lt_of_ble rfl)
          apply Wk.gon 40 rfl rfl
          apply Wk.dat (ipartsb qu p0 h3) Try.func49 rfl rfl rfl rfl rfl (lt_of_ble rfl)
          apply Wk.pckT rfl (by conv => lhs; whnf) (lt_of_ble rfl)
          apply Wk.asg (by conv => lhs; whnf) (lt_of_ble rfl)
          refine Wk.nil (AW.ret ?_)
          exact RetQ.ret [] (.cons rfl .nil) ⟨rfl, rfl⟩ none_kept
theorem icxb {m w p u y : Int} {x : CX} {b : Bool} (h : crdOkB ⟨m, w, p, u, y⟩ x = b) : DataOk Try.prog 21 [cfgA m w p u y, cxA x] (.d (.v (.bool b))) := h ▸ icx_ok m w p u y x
theorem in_cput (x : CX) (l : Nat) (b : Bool) : PostIn [66] (fun r bs => r = .tup [cxO x l, .d (.v (.bool b))] ∧ bs = cxB x.qu l) := by
  rintro r bs ⟨rfl, rfl⟩
  exact ⟨by simp [A.within, A.withins, in_cxO], fun i z h => in_cxB h⟩
/-- A message does not fit. -/
def fullC (u : Int) (x : CX) (n k : Nat) : Prop := x.d = true ∨ u < (n : Int) ∨ 24 < x.qu.length + k
def idleC (x : CX) : Prop := x.d = true ∨ x.v = 0 ∨ x.qu = [] ∨ x.s = 9999
/-- Behind a grant. -/
def takeX (x : CX) (n : Int) : CX := if x.d = true then x else if 255 < x.v + n ∨ 9999 < x.g + n then { x with d := true } else { x with v := x.v + n, g := x.g + n }
end Go.Proofs.Ytdjadeegjbhihaa

/- Who sends, out of an argument: as plain data. -/
namespace Go.Proofs.Ytdjadeegjbhihaa
open Go Go.RowKit
abbrev shB : Sh := .slice .byte
abbrev shPart : Sh := .struct [.int, .int, .slice .byte]
abbrev shCfg : Sh := .struct [.int, .int, .int, .int, .int]
abbrev shTx : Sh := .struct [.int, .int, .slice shPart, .int, .slice shPart, .bool, .int, .bool, .int, .bool]
abbrev shCx : Sh := .struct [.int, .slice shPart, .int, .int, .bool]
theorem bytes_sh : ∀ (es : List (List D)), (∀ e ∈ es, Sh.ok .byte e) → ∃ zs : List (Fin 256), D.row es = fbytes zs
  | [], _ => ⟨[], rfl⟩
  | e :: es, h => by
    obtain ⟨z, hz, rfl⟩ := h e List.mem_cons_self
    obtain ⟨zs, hzs⟩ := bytes_sh es fun e he => h e (List.mem_cons_of_mem _ he)
    refine ⟨⟨z, hz⟩ :: zs, ?_⟩
    have := D.row.inj hzs
    simp only [fbytes, bytesD, List.map_cons, this]
theorem parts_sh : ∀ (es : List (List D)), (∀ e ∈ es, Sh.ok shPart e) → ∃ ds : List Dat, es = ds.map datD ∧ ∀ d ∈ ds, Byt d.2.2
  | [], _ => ⟨[], rfl, fun d hd => by cases hd⟩
  | e :: es, h => by
    have h0 := ok_rec (h e List.mem_cons_self)
    obtain ⟨_, _, rfl, q0, h1⟩ := oks_cons h0
    obtain ⟨n0, _, rfl⟩ := ok_num q0
    obtain ⟨_, _, rfl, q1, h2⟩ := oks_cons h1
    obtain ⟨n1, _, rfl⟩ := ok_num q1
    obtain ⟨_, _, rfl, q2, h3⟩ := oks_cons h2
    obtain ⟨bs, rfl, hb⟩ := ok_row q2
    obtain rfl := oks_nil h3
    obtain ⟨zs, hz⟩ := bytes_sh bs hb
    obtain ⟨ds, rfl, hd⟩ := parts_sh es fun e he => h e (List.mem_cons_of_mem _ he)
    refine ⟨(n0, n1, zs.map (·.val)) :: ds, ?_, fun d hm => ?_⟩
    · rw [hz]; rfl
    · rcases List.mem_cons.1 hm with rfl | hm
      · exact fin_byt zs
      · exact hd d hm
theorem cfg_sh (ds : List D) (h : Sh.ok shCfg ds) : ∃ m w p u y : Int, A.agg (ds.map A.d) = cfgA m w p u y := by
  have h0 := ok_rec h
  obtain ⟨_, _, rfl, q0, h1⟩ := oks_cons h0
  obtain ⟨m, _, rfl⟩ := ok_num q0
  obtain ⟨_, _, rfl, q1, h2⟩ := oks_cons h1
  obtain ⟨w, _, rfl⟩ := ok_num q1
  obtain ⟨_, _, rfl, q2, h3⟩ := oks_cons h2
  obtain ⟨p, _, rfl⟩ := ok_num q2
  obtain ⟨_, _, rfl, q3, h4⟩ := oks_cons h3
  obtain ⟨u, _, rfl⟩ := ok_num q3
  obtain ⟨_, _, rfl, q4, h5⟩ := oks_cons h4
  obtain ⟨y, _, rfl⟩ := ok_num q4
  obtain rfl := oks_nil h5
  exact ⟨m, w, p, u, y, rfl⟩
theorem tx_sh (ds : List D) (h : Sh.ok shTx ds) : ∃ x : TX, A.agg (ds.map A.d) = txA x ∧ x.fl.length ≤ tots ds ∧ x.qu.length ≤ tots ds := by
  have h0 := ok_rec h
  obtain ⟨_, _, rfl, q0, h1⟩ := oks_cons h0
  obtain ⟨n, _, rfl⟩ := ok_num q0
  obtain ⟨_, _, rfl, q1, h2⟩ := oks_cons h1
  obtain ⟨a, _, rfl⟩ := ok_num q1
  obtain ⟨_, _, rfl, q2, h3⟩ := oks_cons h2
  obtain ⟨fl, rfl, hfl⟩ := ok_row q2
  obtain ⟨_, _, rfl, q3, h4⟩ := oks_cons h3
  obtain ⟨s, _, rfl⟩ := ok_num q3
  obtain ⟨_, _, rfl, q4, h5⟩ := oks_cons h4
  obtain ⟨qu, rfl, hqu⟩ := ok_row q4
  obtain ⟨_, _, rfl, q5, h6⟩ := oks_cons h5
  obtain ⟨q, rfl⟩ := ok_truth q5
  obtain ⟨_, _, rfl, q6, h7⟩ := oks_cons h6
  obtain ⟨t, _, rfl⟩ := ok_num q6
  obtain ⟨_, _, rfl, q7, h8⟩ := oks_cons h7
  obtain ⟨hh, rfl⟩ := ok_truth q7
  obtain ⟨_, _, rfl, q8, h9⟩ := oks_cons h8
  obtain ⟨c, _, rfl⟩ := ok_num q8
  obtain ⟨_, _, rfl, q9, h10⟩ := oks_cons h9
  obtain ⟨dd, rfl⟩ := ok_truth q9
  obtain rfl := oks_nil h10
  obtain ⟨f1, rfl, _⟩ := parts_sh fl hfl
  obtain ⟨f2, rfl, _⟩ := parts_sh qu hqu
  refine ⟨⟨n, a, f1, s, f2, q, t, hh, c, dd⟩, rfl, ?_, ?_⟩
  · simp only [tots_append, tots, D.tot, List.length_map]; omega
  · simp only [tots_append, tots, D.tot, List.length_map]; omega
theorem cx_sh (ds : List D) (h : Sh.ok shCx ds) : ∃ x : CX, A.agg (ds.map A.d) = cxA x ∧ x.qu.length ≤ tots ds := by
  have h0 := ok_rec h
  obtain ⟨_, _, rfl, q0, h1⟩ := oks_cons h0
  obtain ⟨n, _, rfl⟩ := ok_num q0
  obtain ⟨_, _, rfl, q4, h5⟩ := oks_cons h1
  obtain ⟨qu, rfl, hqu⟩ := ok_row q4
  obtain ⟨_, _, rfl, q1, h2⟩ := oks_cons h5
  obtain ⟨a, _, rfl⟩ := ok_num q1
  obtain ⟨_, _, rfl, q3, h4⟩ := oks_cons h2
  obtain ⟨s, _, rfl⟩ := ok_num q3
  obtain ⟨_, _, rfl, q9, h10⟩ := oks_cons h4
  obtain ⟨dd, rfl⟩ := ok_truth q9
  obtain rfl := oks_nil h10
  obtain ⟨f2, rfl, _⟩ := parts_sh qu hqu
  refine ⟨⟨n, f2, a, s, dd⟩, rfl, ?_⟩
  simp only [tots_append, tots, D.tot, List.length_map]; omega
end Go.Proofs.Ytdjadeegjbhihaa

/- Arguments of the exact laws: copied, compared, measured; over data of their shape (CfgOpts, ByteS, SegPart, SegPartS, TxState, CrdTx). Written by tools/mk_Xd.py. -/
namespace Go.Proofs.Ytdjadeegjbhihaa
open Go Go.RowKit
set_option linter.unusedVariables false
set_option maxHeartbeats 4000000 in
set_option maxRecDepth 100000 in
theorem toCfgOpts_ok (ds : List D) (h : Sh.ok (.struct [.int, .int, .int, .int, .int]) ds) : DataOk Try.prog 12 [.agg (ds.map .d)] (.agg (ds.map .d)) := by
  have qf_0 := ok_rec h
  clear h
  obtain ⟨_, _, rfl, hf0, qf_1⟩ := oks_cons qf_0
  clear qf_0
  obtain ⟨nf0, inf0, rfl⟩ := ok_num hf0
  obtain ⟨_, _, rfl, hf1, qf_2⟩ := oks_cons qf_1
  clear qf_1
  obtain ⟨nf1, inf1, rfl⟩ := ok_num hf1
  obtain ⟨_, _, rfl, hf2, qf_3⟩ := oks_cons qf_2
  clear qf_2
  obtain ⟨nf2, inf2, rfl⟩ := ok_num hf2
  obtain ⟨_, _, rfl, hf3, qf_4⟩ := oks_cons qf_3
  clear qf_3
  obtain ⟨nf3, inf3, rfl⟩ := ok_num hf3
  obtain ⟨_, _, rfl, hf4, qf_5⟩ := oks_cons qf_4
  clear qf_4
  obtain ⟨nf4, inf4, rfl⟩ := ok_num hf4
  obtain rfl := oks_nil qf_5
  simp only [List.cons_append, List.nil_append, List.append_nil, List.map_cons, List.map_nil]
  refine Spec.intro (n := 20) (rv := [.cell 2 29]) Try.func12 rfl rfl rfl (by simp) fun C hN hX => ?_
  refine AW.seq ?_
  apply AW.list
  apply Wk.bx 1 rfl rfl (lt_of_ble rfl)
  apply Wk.alc 2 [.int .i64 0, .int .i64 0, .int .i64 0, .int .i64 0, .int .i64 0] ze29 rfl rfl (lt_of_ble rfl)
  refine Wk.nil ?_
  refine AW.seq ?_
  apply AW.list
  apply Wk.alc 3 [.int .i64 0, .int .i64 0, .int .i64 0, .int .i64 0, .int .i64 0] ze29 rfl rfl (lt_of_ble rfl)
  refine Wk.nil ?_
  refine AW.seq ?_
  apply AW.list
  apply Wk.fad 0 0 false fd23_0 rfl (lt_of_ble rfl)
  apply Wk.ld (i := 1) 1 false ty3 rfl rfl (by conv => lhs; whnf) (lt_of_ble rfl)
  apply Wk.fad 0 0 false fd29_0 rfl (lt_of_ble rfl)
  apply Wk.sto (i := 3) 1 false ty3 rfl rfl rfl rfl (Nat.le_of_ble_eq_true rfl) (lt_of_ble rfl)
  refine Wk.nil ?_
  refine AW.seq ?_
  apply AW.list
  apply Wk.fad 1 0 false fd23_1 rfl (lt_of_ble rfl)
  apply Wk.ld (i := 1) 1 false ty3 rfl rfl (by conv => lhs; whnf) (lt_of_ble rfl)
  apply Wk.fad 1 0 false fd29_1 rfl (lt_of_ble rfl)
  apply Wk.sto (i := 3) 1 false ty3 rfl rfl rfl rfl (Nat.le_of_ble_eq_true rfl) (lt_of_ble rfl)
  refine Wk.nil ?_
  skip
  refine AW.keep (n := 20) (ts := [(1, .ptr 1 0), (2, .ptr 2 0), (3, .ptr 3 0)]) (bs := [(1, .var [A.d (.v (.int .i64 nf0)), A.d (.v (.int .i64 nf1)), A.d (.v (.int .i64 nf2)), A.d (.v (.int .i64 nf3)), A.d (.v (.int .i64 nf4))]), (2, .var [A.d (.v (.int .i64 0)), A.d (.v (.int .i64 0)), A.d (.v (.int .i64 0)), A.d (.v (.int .i64 0)), A.d (.v (.int .i64 0))]), (3, .var [A.d (.v (.int .i64 nf0)), A.d (.v (.int .i64 nf1)), A.d (.v (.int .i64 0)), A.d (.v (.int .i64 0)), A.d (.v (.int .i64 0))])]) ⟨rfl, .cons rfl rfl (.cons rfl rfl (.cons rfl rfl .nil)), .cons rfl rfl (.cons rfl rfl (.cons rfl rfl .nil)), hN.mono (by simp [keys])⟩ ?_
  refine AW.seq ?_
  apply AW.list
  apply Wk.fad 2 0 false fd23_2 rfl (lt_of_ble rfl)
  apply Wk.ld (i := 1) 1 false ty3 rfl rfl (by conv => lhs; whnf) (lt_of_ble rfl)
  apply Wk.fad 2 0 false fd29_2 rfl (lt_of_ble rfl)
  apply Wk.sto (i := 3) 1 false ty3 rfl rfl rfl rfl (Nat.le_of_ble_eq_true rfl) (lt_of_ble rfl)
  refine Wk.nil ?_
  refine AW.seq ?_
  apply AW.list
  apply Wk.fad 3 0 false fd23_3 rfl (lt_of_ble rfl)
  apply Wk.ld (i := 1) 1 false ty3 rfl rfl (by conv => lhs; whnf) (lt_of_ble rfl)
  apply Wk.fad 3 0 false fd29_3 rfl (lt_of_ble rfl)
  apply Wk.sto (i := 3) 1 false ty3 rfl rfl rfl rfl (Nat.le_of_ble_eq_true rfl) (lt_of_ble rfl)
  refine Wk.nil ?_
  skip
  refine AW.keep (n := 20) (ts := [(1, .ptr 1 0), (2, .ptr 2 0), (3, .ptr 3 0)]) (bs := [(1, .var [A.d (.v (.int .i64 nf0)), A.d (.v (.int .i64 nf1)), A.d (.v (.int .i64 nf2)), A.d (.v (.int .i64 nf3)), A.d (.v (.int .i64 nf4))]), (2, .var [A.d (.v (.int .i64 0)), A.d (.v (.int .i64 0)), A.d (.v (.int .i64 0)), A.d (.v (.int .i64 0)), A.d (.v (.int .i64 0))]), (3, .var [A.d (.v (.int .i64 nf0)), A.d (.v (.int .i64 nf1)), A.d (.v (.int .i64 nf2)), A.d (.v (.int .i64 nf3)), A.d (.v (.int .i64 0))])]) ⟨rfl, .cons rfl rfl (.cons rfl rfl (.cons rfl rfl .nil)), .cons rfl rfl (.cons rfl rfl (.cons rfl rfl .nil)), hN.mono (by simp [keys])⟩ ?_
  refine AW.seq ?_
  apply AW.list
  apply Wk.fad 4 0 false fd23_4 rfl (lt_of_ble rfl)
  apply Wk.ld (i := 1) 1 false ty3 rfl rfl (by conv => lhs; whnf) (lt_of_ble rfl)
  apply Wk.fad 4 0 false fd29_4 rfl (lt_of_ble rfl)
  apply Wk.sto (i := 3) 1 false ty3 rfl rfl rfl rfl (Nat.le_of_ble_eq_true rfl) (lt_of_ble rfl)
  refine Wk.nil ?_
  refine AW.seq ?_
  apply AW.list
  apply Wk.ld (i := 3) 5 true ty29 rfl rfl (by conv => lhs; whnf) (lt_of_ble rfl)
  apply Wk.sto (i := 2) 5 true ty29 rfl rfl rfl rfl (Nat.le_of_ble_eq_true rfl) (lt_of_ble rfl)
  refine Wk.nil (AW.ret ?_)
  exact RetQ.ret [] (.cons ⟨2, 0, _, _, _, rfl, rfl, ty29, rfl⟩ .nil) ⟨rfl, rfl⟩ none_kept
set_option maxHeartbeats 4000000 in
set_option maxRecDepth 100000 in
theorem eqCfgOpts_ok (ds : List D) (h : Sh.ok (.struct [.int, .int, .int, .int, .int]) ds) : DataOk Try.prog 59 [.agg (ds.map .d), .agg (ds.map .d)] (.d (.v (.bool true))) := by
  have qf_0 := ok_rec h
  clear h
  obtain ⟨_, _, rfl, hf0, qf_1⟩ := oks_cons qf_0
  clear qf_0
  obtain ⟨nf0, inf0, rfl⟩ := ok_num hf0
  obtain ⟨_, _, rfl, hf1, qf_2⟩ := oks_cons qf_1
  clear qf_1
  obtain ⟨nf1, inf1, rfl⟩ := ok_num hf1
  obtain ⟨_, _, rfl, hf2, qf_3⟩ := oks_cons qf_2
  clear qf_2
  obtain ⟨nf2, inf2, rfl⟩ := ok_num hf2
  obtain ⟨_, _, rfl, hf3, qf_4⟩ := oks_cons qf_3
  clear qf_3
  obtain ⟨nf3, inf3, rfl⟩ := ok_num hf3
  obtain ⟨_, _, rfl, hf4, qf_5⟩ := oks_cons qf_4
  clear qf_4
  obtain ⟨nf4, inf4, rfl⟩ := ok_num hf4
  obtain rfl := oks_nil qf_5
  simp only [List.cons_append, List.nil_append, List.append_nil, List.map_cons, List.map_nil]
  refine Spec.intro (n := 30) (rv := [.tmp 4]) Try.func59 rfl rfl rfl (by simp) fun C hN hX => ?_
  refine AW.seq ?_
  apply AW.list
  apply Wk.bx 2 rfl rfl (lt_of_ble rfl)
  apply Wk.bx 3 rfl rfl (lt_of_ble rfl)
  apply Wk.asg (by conv => lhs; whnf) (lt_of_ble rfl)
  refine Wk.nil ?_
  refine AW.seq (AW.seq ?_)
  apply AW.list
  apply Wk.fad 0 0 false fd29_0 rfl (lt_of_ble rfl)
  apply Wk.ld (i := 2) 1 false ty3 rfl rfl (by conv => lhs; whnf) (lt_of_ble rfl)
  apply Wk.fad 0 0 false fd29_0 rfl (lt_of_ble rfl)
  apply Wk.ld (i := 3) 1 false ty3 rfl rfl (by conv => lhs; whnf) (lt_of_ble rfl)
  apply Wk.bin rfl rfl (r := .bool false) (fun w => by simp [go_sem]) (lt_of_ble rfl)
  refine Wk.nil ?_
  refine AW.cond rfl (fun hc => by cases hc) (fun _ => AW.skip (thenA_normal ?_))
  refine AW.seq (AW.seq ?_)
  apply AW.list
  apply Wk.fad 1 0 false fd29_1 rfl (lt_of_ble rfl)
  apply Wk.ld (i := 2) 1 false ty3 rfl rfl (by conv => lhs; whnf) (lt_of_ble rfl)
  apply Wk.fad 1 0 false fd29_1 rfl (lt_of_ble rfl)
  apply Wk.ld (i := 3) 1 false ty3 rfl rfl (by conv => lhs; whnf) (lt_of_ble rfl)
  apply Wk.bin rfl rfl (r := .bool false) (fun w => by simp [go_sem]) (lt_of_ble rfl)
  refine Wk.nil ?_
  refine AW.cond rfl (fun hc => by cases hc) (fun _ => AW.skip (thenA_normal ?_))
  refine AW.seq (AW.seq ?_)
  apply AW.list
  apply Wk.fad 2 0 false fd29_2 rfl (lt_of_ble rfl)
  apply Wk.ld (i := 2) 1 false ty3 rfl rfl (by conv => lhs; whnf) (lt_of_ble rfl)
  apply Wk.fad 2 0 false fd29_2 rfl (lt_of_ble rfl)
  apply Wk.ld (i := 3) 1 false ty3 rfl rfl (by conv => lhs; whnf) (lt_of_ble rfl)
  apply Wk.bin rfl rfl (r := .bool false) (fun w => by simp [go_sem]) (lt_of_ble rfl)
  refine Wk.nil ?_
  refine AW.cond rfl (fun hc => by cases hc) (fun _ => AW.skip (thenA_normal ?_))
  refine AW.seq (AW.seq ?_)
  apply AW.list
  apply Wk.fad 3 0 false fd29_3 rfl (lt_of_ble rfl)
  apply Wk.ld (i := 2) 1 false ty3 rfl rfl (by conv => lhs; whnf) (lt_of_ble rfl)
  apply Wk.fad 3 0 false fd29_3 rfl (lt_of_ble rfl)
  apply Wk.ld (i := 3) 1 false ty3 rfl rfl (by conv => lhs; whnf) (lt_of_ble rfl)
  apply Wk.bin rfl rfl (r := .bool false) (fun w => by simp [go_sem]) (lt_of_ble rfl)
  refine Wk.nil ?_
  refine AW.cond rfl (fun hc => by cases hc) (fun _ => AW.skip (thenA_normal ?_))
  refine AW.seq (AW.seq ?_)
  apply AW.list
  apply Wk.fad 4 0 false fd29_4 rfl (lt_of_ble rfl)
  apply Wk.ld (i := 2) 1 false ty3 rfl rfl (by conv => lhs; whnf) (lt_of_ble rfl)
  apply Wk.fad 4 0 false fd29_4 rfl (lt_of_ble rfl)
  apply Wk.ld (i := 3) 1 false ty3 rfl rfl (by conv => lhs; whnf) (lt_of_ble rfl)
  apply Wk.bin rfl rfl (r := .bool false) (fun w => by simp [go_sem]) (lt_of_ble rfl)
  refine Wk.nil ?_
  refine AW.cond rfl (fun hc => by cases hc) (fun _ => AW.skip (thenA_normal ?_))
  refine AW.seq ?_
  apply AW.list
  apply Wk.asg (by conv => lhs; whnf) (lt_of_ble rfl)
  refine Wk.nil (AW.ret ?_)
  exact RetQ.ret [] (.cons rfl .nil) ⟨rfl, rfl⟩ none_kept
set_option maxHeartbeats 4000000 in
set_option maxRecDepth 100000 in
theorem toByteS_ok (es : List (List D)) (he : ∀ e ∈ es, Sh.ok .byte e) (ht : (D.row es).tot ≤ 1048576) : DataOk Try.prog 114 [.d (.row es)] (.d (.row es)) := by
  have hl : es.length ≤ 1048576 := by simp only [D.tot] at ht; omega
  have hz : ∀ c ∈ es, c.length = 1 := sh_lens he
  refine Spec.intro (n := 22) (rv := [.tmp 2]) Try.func114 rfl rfl rfl (by simp) fun C hN hX => ?_
  refine AW.seq ?_
  apply AW.list
  apply Wk.asg (by conv => lhs; whnf) (lt_of_ble rfl)
  refine Wk.nil ?_
  refine AW.seq ?_
  apply AW.list
  apply Wk.mv (by conv => lhs; whnf) (lt_of_ble rfl)
  apply Wk.len un64 rfl (lt_of_ble rfl)
  apply Wk.mks 7 1 es.length un64 ap5 ze5 rfl rfl rfl rfl (by omega) (lt_of_ble rfl)
  apply Wk.asg (by conv => lhs; whnf) (lt_of_ble rfl)
  refine Wk.nil ?_
  refine AW.seq (AW.seq ?_)
  apply AW.list
  apply Wk.asg (by conv => lhs; whnf) (lt_of_ble rfl)
  refine Wk.nil (AW.block ?_)
  refine AW.loop (fun q : Nat => St.of 22 [(0, .d (.row es)), (3, .own 7 0), (4, .d (.v (.int .i64 (q : Int))))] [(7, .own 0 5 1 (mixA es [.int .u8 0] q))]) (fun q => q ≤ es.length) (fun q => es.length - q) 0 (Nat.zero_le _) ?_ (fun q hq => ?_)
  · exact fun a w => Rel.keep ⟨rfl, .cons rfl rfl (.cons rfl rfl (.cons rfl rfl .nil)), .cons (by rw [mix_zero]; rfl) (by exact mix_within _ _ _) .nil, hN.mono (by simp [keys])⟩
  refine AW.seq (AW.seq ?_)
  apply AW.list
  apply Wk.mv (by conv => lhs; whnf) (lt_of_ble rfl)
  apply Wk.mv (by conv => lhs; whnf) (lt_of_ble rfl)
  apply Wk.len un64 rfl (lt_of_ble rfl)
  apply Wk.bin rfl rfl (fun w => by simp [go_sem] <;> rfl) (lt_of_ble rfl)
  refine Wk.nil ?_
  refine AW.cond rfl (fun hc => ?_) (fun hc => ?_)
  · have hlt : q < es.length := by simpa using hc
    obtain ⟨e, hd⟩ : ∃ e, es[q]? = some e := ⟨_, List.getElem?_eq_getElem hlt⟩
    have hse := he e (List.mem_of_getElem? hd)
    have hel : e.length = 1 := hz e (List.mem_of_getElem? hd)
    have hms := mix_set (es := es) (zs := [.int .u8 0]) hd (by rw [hel]; rfl)
    have hmg := mix_get (es := es) (zs := [.int .u8 0]) hlt
    have hml := mix_len (es := es) (zs := [.int .u8 0]) (Nat.le_of_lt hlt)
    refine AW.skip ?_
    repeat (first | refine thenA_normal ?_ | refine inBlockA_normal ?_)
    refine AW.seq (AW.block ?_)
    apply AW.list
    obtain ⟨b, _, rfl⟩ := hse
    apply Wk.mv (by conv => lhs; whnf) (lt_of_ble rfl)
    apply Wk.mv (by conv => lhs; whnf) (lt_of_ble rfl)
    apply Wk.mv (by conv => lhs; whnf) (lt_of_ble rfl)
    apply Wk.mv (by conv => lhs; whnf) (lt_of_ble rfl)
    apply Wk.iad 1 false un64 ty5 rfl rfl (by omega) hz (lt_of_ble rfl)
    apply Wk.ldr 1 false ty5 rfl hd (by conv => lhs; whnf) (lt_of_ble rfl)
    apply Wk.iado 7 1 false un64 ty5 rfl rfl rfl (by rw [hml]; exact hlt) (lt_of_ble rfl)
    apply Wk.stoo 7 q 0 1 false ty5 rfl rfl (by omega) hmg rfl rfl (by decide) (lt_of_ble rfl)
    refine Wk.nil ?_
    repeat (first | refine thenA_normal ?_ | refine inBlockA_normal ?_)
    apply AW.list
    apply Wk.mv (by conv => lhs; whnf) (lt_of_ble rfl)
    apply Wk.addi rfl rfl (by omega) (lt_of_ble rfl)
    apply Wk.asg (by conv => lhs; whnf) (lt_of_ble rfl)
    refine Wk.nil ?_
    exact ⟨q + 1, by omega, by omega, fun a w => Rel.keep ⟨rfl, .cons rfl rfl (.cons rfl rfl (.cons rfl rfl .nil)), .cons (congrArg (Bx.own 0 5 1) hms) (by exact mix_within _ _ _) .nil, hN.mono (by simp [keys])⟩⟩
  · obtain rfl : q = es.length := by
      have : ¬ q < es.length := by simpa using hc
      omega
    refine AW.exit ?_
    repeat (first | refine inBlockA_same ?_ | refine thenA_exit ?_)
    repeat (first | refine thenA_normal ?_ | refine inBlockA_normal ?_)
    refine AW.seq ?_
    apply AW.list
    apply Wk.mv (by conv => lhs; whnf) (lt_of_ble rfl)
    apply Wk.asg (by conv => lhs; whnf) (lt_of_ble rfl)
    refine Wk.nil ?_
    repeat (first | refine thenA_normal ?_ | refine inBlockA_normal ?_)
    refine AW.thaw (t := 2) (i := 7) es rfl rfl (by rw [mix_end]; exact asData_sh he) hX.none ?_
    refine AW.ret ?_
    repeat (first | refine thenA_ret ?_ | refine inBlockA_ret ?_)
    exact RetQ.ret [] (.cons rfl .nil) ⟨rfl, rfl⟩ none_kept
set_option maxHeartbeats 4000000 in
set_option maxRecDepth 100000 in
theorem eqByteS_ok (es : List (List D)) (he : ∀ e ∈ es, Sh.ok .byte e) : DataOk Try.prog 116 [.d (.row es), .d (.row es)] (.d (.v (.bool true))) := by
  have hz : ∀ c ∈ es, c.length = 1 := sh_lens he
  refine Spec.intro (n := 26) (rv := [.tmp 4]) Try.func116 rfl rfl rfl (by simp) fun C hN hX => ?_
  refine AW.bound (x := .tmp 0) (es := es) rfl fun hb => ?_
  refine AW.seq ?_
  apply AW.list
  apply Wk.asg (by conv => lhs; whnf) (lt_of_ble rfl)
  refine Wk.nil ?_
  refine AW.seq (AW.seq ?_)
  apply AW.list
  apply Wk.mv (by conv => lhs; whnf) (lt_of_ble rfl)
  apply Wk.len un64 rfl (lt_of_ble rfl)
  apply Wk.mv (by conv => lhs; whnf) (lt_of_ble rfl)
  apply Wk.len un64 rfl (lt_of_ble rfl)
  apply Wk.bin rfl rfl (fun w => by simp [go_sem] <;> rfl) (lt_of_ble rfl)
  refine Wk.nil ?_
  refine AW.cond rfl (fun hc => by simp at hc) (fun _ => AW.skip (thenA_normal ?_))
  refine AW.seq (AW.seq ?_)
  apply AW.list
  apply Wk.asg (by conv => lhs; whnf) (lt_of_ble rfl)
  refine Wk.nil (AW.block ?_)
  refine AW.loop (fun q : Nat => St.of 26 [(0, .d (.row es)), (1, .d (.row es)), (5, .d (.v (.int .i64 (q : Int))))] []) (fun q => q ≤ es.length) (fun q => es.length - q) 0 (Nat.zero_le _) ?_ (fun q hq => ?_)
  · exact fun a w => Rel.keep ⟨rfl, .cons rfl rfl (.cons rfl rfl (.cons rfl rfl .nil)), .nil, hN⟩
  refine AW.seq (AW.seq ?_)
  apply AW.list
  apply Wk.mv (by conv => lhs; whnf) (lt_of_ble rfl)
  apply Wk.mv (by conv => lhs; whnf) (lt_of_ble rfl)
  apply Wk.len un64 rfl (lt_of_ble rfl)
  apply Wk.bin rfl rfl (fun w => by simp [go_sem] <;> rfl) (lt_of_ble rfl)
  refine Wk.nil ?_
  refine AW.cond rfl (fun hc => ?_) (fun hc => ?_)
  · have hlt : q < es.length := by simpa using hc
    obtain ⟨e, hd⟩ : ∃ e, es[q]? = some e := ⟨_, List.getElem?_eq_getElem hlt⟩
    have hse := he e (List.mem_of_getElem? hd)
    have hel : e.length = 1 := hz e (List.mem_of_getElem? hd)
    refine AW.skip ?_
    repeat (first | refine thenA_normal ?_ | refine inBlockA_normal ?_)
    refine AW.seq (AW.block (AW.seq ?_))
    obtain ⟨b, _, rfl⟩ := hse
    apply AW.draw (hm := hmix) (cs := _)
    · apply Wk.mv (by conv => lhs; whnf) (lt_of_ble rfl)
      apply Wk.mv (by conv => lhs; whnf) (lt_of_ble rfl)
      apply Wk.iad 1 false un64 ty5 rfl rfl (by omega) hz (lt_of_ble rfl)
      apply Wk.ldr 1 false ty5 rfl hd (by conv => lhs; whnf) (lt_of_ble rfl)
      apply Wk.mv (by conv => lhs; whnf) (lt_of_ble rfl)
      apply Wk.mv (by conv => lhs; whnf) (lt_of_ble rfl)
      apply Wk.iad 1 false un64 ty5 rfl rfl (by omega) hz (lt_of_ble rfl)
      apply Wk.ldr 1 false ty5 rfl hd (by conv => lhs; whnf) (lt_of_ble rfl)
      apply Wk.bin rfl rfl (r := .bool false) (fun w => by simp [go_sem]) (lt_of_ble rfl)
      refine Wk.nil ?_
      refine AW.cond rfl (fun hn => by cases hn) (fun hn => ?_)
      refine AW.skip ?_
      repeat (first | refine thenA_normal ?_ | refine inBlockA_normal ?_)
      apply AW.list
      apply Wk.mv (by conv => lhs; whnf) (lt_of_ble rfl)
      apply Wk.addi rfl rfl (by omega) (lt_of_ble rfl)
      apply Wk.asg (by conv => lhs; whnf) (lt_of_ble rfl)
      refine Wk.nil ?_
      exact ⟨q + 1, by omega, by omega, fun a w => Rel.keep ⟨rfl, .cons rfl rfl (.cons rfl rfl (.cons rfl rfl .nil)), .nil, hN⟩⟩
    · rfl
    · rfl
  · refine AW.exit ?_
    repeat (first | refine inBlockA_same ?_ | refine thenA_exit ?_)
    repeat (first | refine thenA_normal ?_ | refine inBlockA_normal ?_)
    refine AW.seq ?_
    apply AW.list
    apply Wk.asg (by conv => lhs; whnf) (lt_of_ble rfl)
    refine Wk.nil (AW.ret ?_)
    repeat (first | refine thenA_ret ?_ | refine inBlockA_ret ?_)
    exact RetQ.ret [] (.cons rfl .nil) ⟨rfl, rfl⟩ none_kept
set_option maxHeartbeats 4000000 in
set_option maxRecDepth 100000 in
theorem szByteS_ok (es : List (List D)) (he : ∀ e ∈ es, Sh.ok .byte e) (l : Nat) (hl : l ≤ 1048576) : DataOk Try.prog 112 [.d (.row es), .d (.v (.int .i64 (l : Int)))] (.d (.v (.int .i64 (leftI l (D.row es).tot)))) := by
  have hz : ∀ c ∈ es, c.length = 1 := sh_lens he
  refine Spec.intro (n := 12) (rv := [.tmp 4]) Try.func112 rfl rfl rfl (by simp) fun C hN hX => ?_
  refine AW.bound (x := .tmp 0) (es := es) rfl fun hb => ?_
  refine AW.seq ?_
  apply AW.list
  apply Wk.asg (by conv => lhs; whnf) (lt_of_ble rfl)
  refine Wk.nil ?_
  refine AW.seq ?_
  apply AW.list
  apply Wk.mv (by conv => lhs; whnf) (lt_of_ble rfl)
  apply Wk.mv (by conv => lhs; whnf) (lt_of_ble rfl)
  apply Wk.len un64 rfl (lt_of_ble rfl)
  apply Wk.subi rfl rfl (by omega) (lt_of_ble rfl)
  apply Wk.asg (by conv => lhs; whnf) (lt_of_ble rfl)
  refine Wk.nil ?_
  refine AW.seq (AW.seq ?_)
  by_cases h0 : es.length ≤ l
  · have ht : totss es = 0 := tot_bytes he
    apply AW.list
    apply Wk.mv (by conv => lhs; whnf) (lt_of_ble rfl)
    apply Wk.bin rfl rfl (r := .bool false) (fun w => by simp [go_sem] <;> omega) (lt_of_ble rfl)
    refine Wk.nil ?_
    refine AW.cond rfl (fun hc => by cases hc) (fun _ => AW.skip (thenA_normal ?_))
    refine AW.seq ?_
    apply AW.list
    apply Wk.mv (by conv => lhs; whnf) (lt_of_ble rfl)
    apply Wk.asg (by conv => lhs; whnf) (lt_of_ble rfl)
    refine Wk.nil (AW.ret ?_)
    rw [show leftI l (D.row es).tot = (l : Int) - (es.length : Int) from (if_pos (by simp only [D.tot]; omega)).trans (by simp only [D.tot, ht, Nat.add_zero])]
    exact RetQ.ret [] (.cons rfl .nil) ⟨rfl, rfl⟩ none_kept
  · apply AW.list
    apply Wk.mv (by conv => lhs; whnf) (lt_of_ble rfl)
    apply Wk.bin rfl rfl (r := .bool true) (fun w => by simp [go_sem] <;> omega) (lt_of_ble rfl)
    refine Wk.nil ?_
    refine AW.cond rfl (fun _ => ?_) (fun hc => by cases hc)
    refine AW.seq ?_
    apply AW.list
    apply Wk.asg (by conv => lhs; whnf) (lt_of_ble rfl)
    refine Wk.nil (AW.ret ?_)
    repeat (first | refine thenA_ret ?_ | refine inBlockA_ret ?_)
    rw [show leftI l (D.row es).tot = -1 from if_neg (by simp only [D.tot]; omega)]
    exact RetQ.ret [] (.cons rfl .nil) ⟨rfl, rfl⟩ none_kept
set_option maxHeartbeats 4000000 in
set_option maxRecDepth 100000 in
theorem toSegPart_ok (ds : List D) (h : Sh.ok (.struct [.int, .int, (.slice .byte)]) ds) (ht : tots ds ≤ 1048576) : DataOk Try.prog 78 [.agg (ds.map .d)] (.agg (ds.map .d)) := by
  have qf_0 := ok_rec h
  clear h
  obtain ⟨_, _, rfl, hf0, qf_1⟩ := oks_cons qf_0
  clear qf_0
  obtain ⟨nf0, inf0, rfl⟩ := ok_num hf0
  obtain ⟨_, _, rfl, hf1, qf_2⟩ := oks_cons qf_1
  clear qf_1
  obtain ⟨nf1, inf1, rfl⟩ := ok_num hf1
  obtain ⟨_, _, rfl, hf2, qf_3⟩ := oks_cons qf_2
  clear qf_2
  obtain ⟨esf2, rfl, hef2⟩ := ok_row hf2
  obtain rfl := oks_nil qf_3
  have cf2 := toByteS_ok esf2 hef2 (by simp only [tots_append, tots] at ht; omega)
  simp only [List.cons_append, List.nil_append, List.append_nil, List.map_cons, List.map_nil]
  refine Spec.intro (n := 15) (rv := [.cell 2 115]) Try.func78 rfl rfl rfl (by simp) fun C hN hX => ?_
  refine AW.seq ?_
  apply AW.list
  apply Wk.bx 1 rfl rfl (lt_of_ble rfl)
  apply Wk.alc 2 [.int .i64 0, .int .i64 0, .slice none 0 0] ze115 rfl rfl (lt_of_ble rfl)
  refine Wk.nil ?_
  refine AW.seq ?_
  apply AW.list
  apply Wk.alc 3 [.int .i64 0, .int .i64 0, .slice none 0 0] ze115 rfl rfl (lt_of_ble rfl)
  refine Wk.nil ?_
  refine AW.seq ?_
  apply AW.list
  apply Wk.fad 0 0 false fd113_0 rfl (lt_of_ble rfl)
  apply Wk.ld (i := 1) 1 false ty3 rfl rfl (by conv => lhs; whnf) (lt_of_ble rfl)
  apply Wk.fad 0 0 false fd115_0 rfl (lt_of_ble rfl)
  apply Wk.sto (i := 3) 1 false ty3 rfl rfl rfl rfl (Nat.le_of_ble_eq_true rfl) (lt_of_ble rfl)
  refine Wk.nil ?_
  refine AW.seq ?_
  apply AW.list
  apply Wk.fad 1 0 false fd113_1 rfl (lt_of_ble rfl)
  apply Wk.ld (i := 1) 1 false ty3 rfl rfl (by conv => lhs; whnf) (lt_of_ble rfl)
  apply Wk.fad 1 0 false fd115_1 rfl (lt_of_ble rfl)
  apply Wk.sto (i := 3) 1 false ty3 rfl rfl rfl rfl (Nat.le_of_ble_eq_true rfl) (lt_of_ble rfl)
  refine Wk.nil ?_
  refine AW.seq ?_
  apply AW.list
  apply Wk.fad 2 0 false fd113_2 rfl (lt_of_ble rfl)
  apply Wk.ld (i := 1) 1 false ty64 rfl rfl (by conv => lhs; whnf) (lt_of_ble rfl)
  apply Wk.dat cf2 Try.func114 rfl rfl rfl rfl rfl (lt_of_ble rfl)
  apply Wk.fad 2 0 false fd115_2 rfl (lt_of_ble rfl)
  apply Wk.sto (i := 3) 1 false ty64 rfl rfl rfl rfl (Nat.le_of_ble_eq_true rfl) (lt_of_ble rfl)
  refine Wk.nil ?_
  refine AW.seq ?_
  apply AW.list
  apply Wk.ld (i := 3) 3 true ty115 rfl rfl (by conv => lhs; whnf) (lt_of_ble rfl)
  apply Wk.sto (i := 2) 3 true ty115 rfl rfl rfl rfl (Nat.le_of_ble_eq_true rfl) (lt_of_ble rfl)
  refine Wk.nil (AW.ret ?_)
  exact RetQ.ret [] (.cons ⟨2, 0, _, _, _, rfl, rfl, ty115, rfl⟩ .nil) ⟨rfl, rfl⟩ none_kept
set_option maxHeartbeats 4000000 in
set_option maxRecDepth 100000 in
theorem eqSegPart_ok (ds : List D) (h : Sh.ok (.struct [.int, .int, (.slice .byte)]) ds) : DataOk Try.prog 84 [.agg (ds.map .d), .agg (ds.map .d)] (.d (.v (.bool true))) := by
  have qf_0 := ok_rec h
  clear h
  obtain ⟨_, _, rfl, hf0, qf_1⟩ := oks_cons qf_0
  clear qf_0
  obtain ⟨nf0, inf0, rfl⟩ := ok_num hf0
  obtain ⟨_, _, rfl, hf1, qf_2⟩ := oks_cons qf_1
  clear qf_1
  obtain ⟨nf1, inf1, rfl⟩ := ok_num hf1
  obtain ⟨_, _, rfl, hf2, qf_3⟩ := oks_cons qf_2
  clear qf_2
  obtain ⟨esf2, rfl, hef2⟩ := ok_row hf2
  obtain rfl := oks_nil qf_3
  have cf2 := eqByteS_ok esf2 hef2
  simp only [List.cons_append, List.nil_append, List.append_nil, List.map_cons, List.map_nil]
  refine Spec.intro (n := 21) (rv := [.tmp 4]) Try.func84 rfl rfl rfl (by simp) fun C hN hX => ?_
  refine AW.seq ?_
  apply AW.list
  apply Wk.bx 2 rfl rfl (lt_of_ble rfl)
  apply Wk.bx 3 rfl rfl (lt_of_ble rfl)
  apply Wk.asg (by conv => lhs; whnf) (lt_of_ble rfl)
  refine Wk.nil ?_
  refine AW.seq (AW.seq ?_)
  apply AW.list
  apply Wk.fad 0 0 false fd115_0 rfl (lt_of_ble rfl)
  apply Wk.ld (i := 2) 1 false ty3 rfl rfl (by conv => lhs; whnf) (lt_of_ble rfl)
  apply Wk.fad 0 0 false fd115_0 rfl (lt_of_ble rfl)
  apply Wk.ld (i := 3) 1 false ty3 rfl rfl (by conv => lhs; whnf) (lt_of_ble rfl)
  apply Wk.bin rfl rfl (r := .bool false) (fun w => by simp [go_sem]) (lt_of_ble rfl)
  refine Wk.nil ?_
  refine AW.cond rfl (fun hc => by cases hc) (fun _ => AW.skip (thenA_normal ?_))
  refine AW.seq (AW.seq ?_)
  apply AW.list
  apply Wk.fad 1 0 false fd115_1 rfl (lt_of_ble rfl)
  apply Wk.ld (i := 2) 1 false ty3 rfl rfl (by conv => lhs; whnf) (lt_of_ble rfl)
  apply Wk.fad 1 0 false fd115_1 rfl (lt_of_ble rfl)
  apply Wk.ld (i := 3) 1 false ty3 rfl rfl (by conv => lhs; whnf) (lt_of_ble rfl)
  apply Wk.bin rfl rfl (r := .bool false) (fun w => by simp [go_sem]) (lt_of_ble rfl)
  refine Wk.nil ?_
  refine AW.cond rfl (fun hc => by cases hc) (fun _ => AW.skip (thenA_normal ?_))
  refine AW.seq (AW.seq ?_)
  apply AW.list
  apply Wk.fad 2 0 false fd115_2 rfl (lt_of_ble rfl)
  apply Wk.ld (i := 2) 1 false ty64 rfl rfl (by conv => lhs; whnf) (lt_of_ble rfl)
  apply Wk.fad 2 0 false fd115_2 rfl (lt_of_ble rfl)
  apply Wk.ld (i := 3) 1 false ty64 rfl rfl (by conv => lhs; whnf) (lt_of_ble rfl)
  apply Wk.dat cf2 Try.func116 rfl rfl rfl rfl rfl (lt_of_ble rfl)
  apply Wk.un rfl (fun w => by simp [go_sem] <;> rfl) (lt_of_ble rfl)
  refine Wk.nil ?_
  refine AW.cond rfl (fun hc => by cases hc) (fun _ => AW.skip (thenA_normal ?_))
  refine AW.seq ?_
  apply AW.list
  apply Wk.asg (by conv => lhs; whnf) (lt_of_ble rfl)
  refine Wk.nil (AW.ret ?_)
  exact RetQ.ret [] (.cons rfl .nil) ⟨rfl, rfl⟩ none_kept
set_option maxHeartbeats 4000000 in
set_option maxRecDepth 100000 in
theorem szSegPart_ok (ds : List D) (h : Sh.ok (.struct [.int, .int, (.slice .byte)]) ds) (l : Nat) (hl : l ≤ 1048576) : DataOk Try.prog 76 [.agg (ds.map .d), .d (.v (.int .i64 (l : Int)))] (.d (.v (.int .i64 (leftI l (tots ds))))) := by
  have qf_0 := ok_rec h
  clear h
  obtain ⟨_, _, rfl, hf0, qf_1⟩ := oks_cons qf_0
  clear qf_0
  obtain ⟨nf0, inf0, rfl⟩ := ok_num hf0
  obtain ⟨_, _, rfl, hf1, qf_2⟩ := oks_cons qf_1
  clear qf_1
  obtain ⟨nf1, inf1, rfl⟩ := ok_num hf1
  obtain ⟨_, _, rfl, hf2, qf_3⟩ := oks_cons qf_2
  clear qf_2
  obtain ⟨esf2, rfl, hef2⟩ := ok_row hf2
  obtain rfl := oks_nil qf_3
  have cf2 := fun (l : Nat) (hl : l ≤ 1048576) => szByteS_ok esf2 hef2 l hl
  obtain ⟨tf2, htf2⟩ : ∃ t, (D.row esf2).tot = t := ⟨_, rfl⟩
  rw [htf2] at cf2
  have hsum : tots ([D.v (.int .i64 nf0)] ++ ([D.v (.int .i64 nf1)] ++ ([D.row esf2] ++ []))) = tf2 := by
    simp only [tots_append, tots, htf2, D.tot.eq_1, Nat.add_zero, Nat.zero_add]
    try omega
  rw [hsum]
  clear hsum
  simp only [List.cons_append, List.nil_append, List.append_nil, List.map_cons, List.map_nil]
  refine Spec.intro (n := 12) (rv := [.tmp 4]) Try.func76 rfl rfl rfl (by simp) fun C hN hX => ?_
  refine AW.seq ?_
  apply AW.list
  apply Wk.bx 2 rfl rfl (lt_of_ble rfl)
  apply Wk.asg (by conv => lhs; whnf) (lt_of_ble rfl)
  refine Wk.nil ?_
  have df2 := cf2 l (by omega)
  refine AW.seq ?_
  apply AW.list
  apply Wk.fad 2 0 false fd113_2 rfl (lt_of_ble rfl)
  apply Wk.ld (i := 2) 1 false ty64 rfl rfl (by conv => lhs; whnf) (lt_of_ble rfl)
  apply Wk.mv (by conv => lhs; whnf) (lt_of_ble rfl)
  apply Wk.dat df2 Try.func112 rfl rfl rfl rfl rfl (lt_of_ble rfl)
  apply Wk.asg (by conv => lhs; whnf) (lt_of_ble rfl)
  refine Wk.nil ?_
  refine AW.seq (AW.seq ?_)
  by_cases g0 : tf2 ≤ l
  case neg =>
    rw [show leftI l tf2 = -1 from if_neg g0]
    apply AW.list
    apply Wk.mv (by conv => lhs; whnf) (lt_of_ble rfl)
    apply Wk.bin rfl rfl (r := .bool true) (fun w => by simp [go_sem]) (lt_of_ble rfl)
    refine Wk.nil ?_
    refine AW.cond rfl (fun _ => ?_) (fun hc => by cases hc)
    refine AW.seq ?_
    apply AW.list
    apply Wk.asg (by conv => lhs; whnf) (lt_of_ble rfl)
    refine Wk.nil (AW.ret ?_)
    repeat (first | refine thenA_ret ?_ | refine inBlockA_ret ?_)
    exact RetQ.ret [] (.cons rfl .nil) ⟨rfl, rfl⟩ none_kept
  rw [show leftI l tf2 = (l : Int) - (tf2 : Int) from if_pos g0]
  apply AW.list
  apply Wk.mv (by conv => lhs; whnf) (lt_of_ble rfl)
  apply Wk.bin rfl rfl (r := .bool false) (fun w => by simp [go_sem] <;> omega) (lt_of_ble rfl)
  refine Wk.nil ?_
  refine AW.cond rfl (fun hc => by cases hc) (fun _ => AW.skip (thenA_normal ?_))
  refine AW.seq ?_
  apply AW.list
  apply Wk.mv (by conv => lhs; whnf) (lt_of_ble rfl)
  apply Wk.asg (by conv => lhs; whnf) (lt_of_ble rfl)
  refine Wk.nil (AW.ret ?_)
  exact RetQ.ret [] (.cons rfl .nil) ⟨rfl, rfl⟩ none_kept
set_option maxHeartbeats 4000000 in
set_option maxRecDepth 100000 in
theorem toSegPartS_ok (es : List (List D)) (he : ∀ e ∈ es, Sh.ok (.struct [.int, .int, (.slice .byte)]) e) (ht : (D.row es).tot ≤ 1048576) : DataOk Try.prog 44 [.d (.row es)] (.d (.row es)) := by
  have hl : es.length ≤ 1048576 := by simp only [D.tot] at ht; omega
  have hz : ∀ c ∈ es, c.length = 3 := sh_lens he
  refine Spec.intro (n := 23) (rv := [.tmp 2]) Try.func44 rfl rfl rfl (by simp) fun C hN hX => ?_
  refine AW.seq ?_
  apply AW.list
  apply Wk.asg (by conv => lhs; whnf) (lt_of_ble rfl)
  refine Wk.nil ?_
  refine AW.seq ?_
  apply AW.list
  apply Wk.mv (by conv => lhs; whnf) (lt_of_ble rfl)
  apply Wk.len un24 rfl (lt_of_ble rfl)
  apply Wk.mks 7 3 es.length un31 ap115 ze115 rfl rfl rfl rfl (by omega) (lt_of_ble rfl)
  apply Wk.asg (by conv => lhs; whnf) (lt_of_ble rfl)
  refine Wk.nil ?_
  refine AW.seq (AW.seq ?_)
  apply AW.list
  apply Wk.asg (by conv => lhs; whnf) (lt_of_ble rfl)
  refine Wk.nil (AW.block ?_)
  refine AW.loop (fun q : Nat => St.of 23 [(0, .d (.row es)), (3, .own 7 0), (4, .d (.v (.int .i64 (q : Int))))] [(7, .own 0 115 3 (mixA es [.int .i64 0, .int .i64 0, .slice none 0 0] q))]) (fun q => q ≤ es.length) (fun q => es.length - q) 0 (Nat.zero_le _) ?_ (fun q hq => ?_)
  · exact fun a w => Rel.keep ⟨rfl, .cons rfl rfl (.cons rfl rfl (.cons rfl rfl .nil)), .cons (by rw [mix_zero]; rfl) (by exact mix_within _ _ _) .nil, hN.mono (by simp [keys])⟩
  refine AW.seq (AW.seq ?_)
  apply AW.list
  apply Wk.mv (by conv => lhs; whnf) (lt_of_ble rfl)
  apply Wk.mv (by conv => lhs; whnf) (lt_of_ble rfl)
  apply Wk.len un24 rfl (lt_of_ble rfl)
  apply Wk.bin rfl rfl (fun w => by simp [go_sem] <;> rfl) (lt_of_ble rfl)
  refine Wk.nil ?_
  refine AW.cond rfl (fun hc => ?_) (fun hc => ?_)
  · have hlt : q < es.length := by simpa using hc
    obtain ⟨e, hd⟩ : ∃ e, es[q]? = some e := ⟨_, List.getElem?_eq_getElem hlt⟩
    have hse := he e (List.mem_of_getElem? hd)
    have hel : e.length = 3 := hz e (List.mem_of_getElem? hd)
    have hms := mix_set (es := es) (zs := [.int .i64 0, .int .i64 0, .slice none 0 0]) hd (by rw [hel]; rfl)
    have hmg := mix_get (es := es) (zs := [.int .i64 0, .int .i64 0, .slice none 0 0]) hlt
    have hml := mix_len (es := es) (zs := [.int .i64 0, .int .i64 0, .slice none 0 0]) (Nat.le_of_lt hlt)
    refine AW.skip ?_
    repeat (first | refine thenA_normal ?_ | refine inBlockA_normal ?_)
    refine AW.seq (AW.block ?_)
    apply AW.list
    have ht1 : tots e ≤ 1048576 := by have := totss_get hd; simp only [D.tot] at ht; omega
    apply Wk.mv (by conv => lhs; whnf) (lt_of_ble rfl)
    apply Wk.mv (by conv => lhs; whnf) (lt_of_ble rfl)
    apply Wk.mv (by conv => lhs; whnf) (lt_of_ble rfl)
    apply Wk.mv (by conv => lhs; whnf) (lt_of_ble rfl)
    apply Wk.iad 3 true un24 ty113 rfl rfl (by omega) hz (lt_of_ble rfl)
    apply Wk.ldr 3 true ty113 rfl hd (partA_all hel) (lt_of_ble rfl)
    apply Wk.dat (toSegPart_ok e hse ht1) Try.func78 rfl rfl (by exact congrArg (fun q => [A.agg q]) (sh_nrm _ _ hse)) (by exact within1 e) (by exact withins_d [] e) (lt_of_ble rfl)
    apply Wk.iado 7 3 true un31 ty115 rfl rfl rfl (by rw [hml]; exact hlt) (lt_of_ble rfl)
    apply Wk.stoo 7 q 0 3 true ty115 rfl rfl (by omega) hmg rfl (by rw [List.length_map]; exact hel) (by decide) (lt_of_ble rfl)
    refine Wk.nil ?_
    repeat (first | refine thenA_normal ?_ | refine inBlockA_normal ?_)
    apply AW.list
    apply Wk.mv (by conv => lhs; whnf) (lt_of_ble rfl)
    apply Wk.addi rfl rfl (by omega) (lt_of_ble rfl)
    apply Wk.asg (by conv => lhs; whnf) (lt_of_ble rfl)
    refine Wk.nil ?_
    exact ⟨q + 1, by omega, by omega, fun a w => Rel.keep ⟨rfl, .cons rfl rfl (.cons rfl rfl (.cons rfl rfl .nil)), .cons (congrArg (Bx.own 0 115 3) hms) (by exact mix_within _ _ _) .nil, hN.mono (by simp [keys])⟩⟩
  · obtain rfl : q = es.length := by
      have : ¬ q < es.length := by simpa using hc
      omega
    refine AW.exit ?_
    repeat (first | refine inBlockA_same ?_ | refine thenA_exit ?_)
    repeat (first | refine thenA_normal ?_ | refine inBlockA_normal ?_)
    refine AW.seq ?_
    apply AW.list
    apply Wk.mv (by conv => lhs; whnf) (lt_of_ble rfl)
    apply Wk.asg (by conv => lhs; whnf) (lt_of_ble rfl)
    refine Wk.nil ?_
    repeat (first | refine thenA_normal ?_ | refine inBlockA_normal ?_)
    refine AW.thaw (t := 2) (i := 7) es rfl rfl (by rw [mix_end]; exact asData_sh he) hX.none ?_
    refine AW.ret ?_
    repeat (first | refine thenA_ret ?_ | refine inBlockA_ret ?_)
    exact RetQ.ret [] (.cons rfl .nil) ⟨rfl, rfl⟩ none_kept
set_option maxHeartbeats 4000000 in
set_option maxRecDepth 100000 in
theorem eqSegPartS_ok (es : List (List D)) (he : ∀ e ∈ es, Sh.ok (.struct [.int, .int, (.slice .byte)]) e) : DataOk Try.prog 50 [.d (.row es), .d (.row es)] (.d (.v (.bool true))) := by
  have hz : ∀ c ∈ es, c.length = 3 := sh_lens he
  refine Spec.intro (n := 27) (rv := [.tmp 4]) Try.func50 rfl rfl rfl (by simp) fun C hN hX => ?_
  refine AW.bound (x := .tmp 0) (es := es) rfl fun hb => ?_
  refine AW.seq ?_
  apply AW.list
  apply Wk.asg (by conv => lhs; whnf) (lt_of_ble rfl)
  refine Wk.nil ?_
  refine AW.seq (AW.seq ?_)
  apply AW.list
  apply Wk.mv (by conv => lhs; whnf) (lt_of_ble rfl)
  apply Wk.len un31 rfl (lt_of_ble rfl)
  apply Wk.mv (by conv => lhs; whnf) (lt_of_ble rfl)
  apply Wk.len un31 rfl (lt_of_ble rfl)
  apply Wk.bin rfl rfl (fun w => by simp [go_sem] <;> rfl) (lt_of_ble rfl)
  refine Wk.nil ?_
  refine AW.cond rfl (fun hc => by simp at hc) (fun _ => AW.skip (thenA_normal ?_))
  refine AW.seq (AW.seq ?_)
  apply AW.list
  apply Wk.asg (by conv => lhs; whnf) (lt_of_ble rfl)
  refine Wk.nil (AW.block ?_)
  refine AW.loop (fun q : Nat => St.of 27 [(0, .d (.row es)), (1, .d (.row es)), (5, .d (.v (.int .i64 (q : Int))))] []) (fun q => q ≤ es.length) (fun q => es.length - q) 0 (Nat.zero_le _) ?_ (fun q hq => ?_)
  · exact fun a w => Rel.keep ⟨rfl, .cons rfl rfl (.cons rfl rfl (.cons rfl rfl .nil)), .nil, hN⟩
  refine AW.seq (AW.seq ?_)
  apply AW.list
  apply Wk.mv (by conv => lhs; whnf) (lt_of_ble rfl)
  apply Wk.mv (by conv => lhs; whnf) (lt_of_ble rfl)
  apply Wk.len un31 rfl (lt_of_ble rfl)
  apply Wk.bin rfl rfl (fun w => by simp [go_sem] <;> rfl) (lt_of_ble rfl)
  refine Wk.nil ?_
  refine AW.cond rfl (fun hc => ?_) (fun hc => ?_)
  · have hlt : q < es.length := by simpa using hc
    obtain ⟨e, hd⟩ : ∃ e, es[q]? = some e := ⟨_, List.getElem?_eq_getElem hlt⟩
    have hse := he e (List.mem_of_getElem? hd)
    have hel : e.length = 3 := hz e (List.mem_of_getElem? hd)
    refine AW.skip ?_
    repeat (first | refine thenA_normal ?_ | refine inBlockA_normal ?_)
    refine AW.seq (AW.block (AW.seq ?_))
    apply AW.draw (hm := hmix) (cs := _)
    · apply Wk.mv (by conv => lhs; whnf) (lt_of_ble rfl)
      apply Wk.mv (by conv => lhs; whnf) (lt_of_ble rfl)
      apply Wk.iad 3 true un31 ty115 rfl rfl (by omega) hz (lt_of_ble rfl)
      apply Wk.ldr 3 true ty115 rfl hd (partA_all hel) (lt_of_ble rfl)
      apply Wk.mv (by conv => lhs; whnf) (lt_of_ble rfl)
      apply Wk.mv (by conv => lhs; whnf) (lt_of_ble rfl)
      apply Wk.iad 3 true un31 ty115 rfl rfl (by omega) hz (lt_of_ble rfl)
      apply Wk.ldr 3 true ty115 rfl hd (partA_all hel) (lt_of_ble rfl)
      apply Wk.dat (eqSegPart_ok e hse) Try.func84 rfl rfl (by exact congrArg (fun q => [A.agg q, A.agg q]) (sh_nrm _ _ hse)) (by exact within2 e) rfl (lt_of_ble rfl)
      apply Wk.un rfl (fun w => by simp [go_sem] <;> rfl) (lt_of_ble rfl)
      refine Wk.nil ?_
      refine AW.cond rfl (fun hn => by cases hn) (fun hn => ?_)
      refine AW.skip ?_
      repeat (first | refine thenA_normal ?_ | refine inBlockA_normal ?_)
      apply AW.list
      apply Wk.mv (by conv => lhs; whnf) (lt_of_ble rfl)
      apply Wk.addi rfl rfl (by omega) (lt_of_ble rfl)
      apply Wk.asg (by conv => lhs; whnf) (lt_of_ble rfl)
      refine Wk.nil ?_
      exact ⟨q + 1, by omega, by omega, fun a w => Rel.keep ⟨rfl, .cons rfl rfl (.cons rfl rfl (.cons rfl rfl .nil)), .nil, hN⟩⟩
    · rfl
    · rfl
  · refine AW.exit ?_
    repeat (first | refine inBlockA_same ?_ | refine thenA_exit ?_)
    repeat (first | refine thenA_normal ?_ | refine inBlockA_normal ?_)
    refine AW.seq ?_
    apply AW.list
    apply Wk.asg (by conv => lhs; whnf) (lt_of_ble rfl)
    refine Wk.nil (AW.ret ?_)
    repeat (first | refine thenA_ret ?_ | refine inBlockA_ret ?_)
    exact RetQ.ret [] (.cons rfl .nil) ⟨rfl, rfl⟩ none_kept
set_option maxHeartbeats 4000000 in
set_option maxRecDepth 100000 in
theorem szSegPartS_ok (es : List (List D)) (he : ∀ e ∈ es, Sh.ok (.struct [.int, .int, (.slice .byte)]) e) (l : Nat) (hl : l ≤ 1048576) : DataOk Try.prog 39 [.d (.row es), .d (.v (.int .i64 (l : Int)))] (.d (.v (.int .i64 (leftI l (D.row es).tot)))) := by
  have hz : ∀ c ∈ es, c.length = 3 := sh_lens he
  refine Spec.intro (n := 27) (rv := [.tmp 4]) Try.func39 rfl rfl rfl (by simp) fun C hN hX => ?_
  refine AW.bound (x := .tmp 0) (es := es) rfl fun hb => ?_
  refine AW.seq ?_
  apply AW.list
  apply Wk.asg (by conv => lhs; whnf) (lt_of_ble rfl)
  refine Wk.nil ?_
  refine AW.seq ?_
  apply AW.list
  apply Wk.mv (by conv => lhs; whnf) (lt_of_ble rfl)
  apply Wk.mv (by conv => lhs; whnf) (lt_of_ble rfl)
  apply Wk.len un24 rfl (lt_of_ble rfl)
  apply Wk.subi rfl rfl (by omega) (lt_of_ble rfl)
  apply Wk.asg (by conv => lhs; whnf) (lt_of_ble rfl)
  refine Wk.nil ?_
  refine AW.seq (AW.seq ?_)
  by_cases h0 : es.length ≤ l
  · apply AW.list
    apply Wk.mv (by conv => lhs; whnf) (lt_of_ble rfl)
    apply Wk.bin rfl rfl (r := .bool false) (fun w => by simp [go_sem] <;> omega) (lt_of_ble rfl)
    refine Wk.nil ?_
    refine AW.cond rfl (fun hc => by cases hc) (fun _ => AW.skip (thenA_normal ?_))
    refine AW.seq (AW.seq ?_)
    apply AW.list
    apply Wk.asg (by conv => lhs; whnf) (lt_of_ble rfl)
    refine Wk.nil (AW.block ?_)
    refine AW.loop (fun q : Nat => St.of 27 [(0, .d (.row es)), (1, .d (.v (.int .i64 ((l : Int) - (es.length : Int) - (totss (es.take q) : Int))))), (5, .d (.v (.int .i64 (q : Int))))] []) (fun q => q ≤ es.length ∧ es.length + totss (es.take q) ≤ l) (fun q => es.length - q) 0 ⟨Nat.zero_le _, by simpa [totss] using h0⟩ ?_ (fun q hq => ?_)
    · exact fun a w => Rel.keep ⟨rfl, .cons rfl rfl (.cons (by simp [totss]; rfl) rfl (.cons rfl rfl .nil)), .nil, hN⟩
    obtain ⟨hq, hqt⟩ := hq
    refine AW.seq (AW.seq ?_)
    apply AW.list
    apply Wk.mv (by conv => lhs; whnf) (lt_of_ble rfl)
    apply Wk.mv (by conv => lhs; whnf) (lt_of_ble rfl)
    apply Wk.len un24 rfl (lt_of_ble rfl)
    apply Wk.bin rfl rfl (fun w => by simp [go_sem] <;> rfl) (lt_of_ble rfl)
    refine Wk.nil ?_
    refine AW.cond rfl (fun hc => ?_) (fun hc => ?_)
    · have hlt : q < es.length := by simpa using hc
      obtain ⟨e, hd⟩ : ∃ e, es[q]? = some e := ⟨_, List.getElem?_eq_getElem hlt⟩
      have hse := he e (List.mem_of_getElem? hd)
      have hel : e.length = 3 := hz e (List.mem_of_getElem? hd)
      have htk := totss_take hd
      have hle := totss_le es (q + 1)
      obtain ⟨l2, hl2⟩ : ∃ l2 : Nat, (l : Int) - (es.length : Int) - (totss (es.take q) : Int) = (l2 : Int) := ⟨l - es.length - totss (es.take q), by omega⟩
      refine AW.skip ?_
      repeat (first | refine thenA_normal ?_ | refine inBlockA_normal ?_)
      rw [hl2]
      refine AW.seq (AW.block (AW.seq ?_))
      apply AW.list
      have hc1 := szSegPart_ok e hse l2 (by omega)
      apply Wk.mv (by conv => lhs; whnf) (lt_of_ble rfl)
      apply Wk.mv (by conv => lhs; whnf) (lt_of_ble rfl)
      apply Wk.iad 3 true un24 ty113 rfl rfl (by omega) hz (lt_of_ble rfl)
      apply Wk.ldr 3 true ty113 rfl hd (partA_all hel) (lt_of_ble rfl)
      apply Wk.mv (by conv => lhs; whnf) (lt_of_ble rfl)
      apply Wk.dat hc1 Try.func76 rfl rfl (by exact congrArg (fun q => [A.agg q, A.d (.v (.int .i64 (l2 : Int)))]) (sh_nrm _ _ hse)) (by exact within3 e _) rfl (lt_of_ble rfl)
      apply Wk.asg (by conv => lhs; whnf) (lt_of_ble rfl)
      refine Wk.nil ?_
      refine AW.seq ?_
      by_cases h1 : tots e ≤ l2
      · rw [show leftI l2 (tots e) = (l2 : Int) - ((tots e : Nat) : Int) from if_pos h1]
        apply AW.list
        apply Wk.mv (by conv => lhs; whnf) (lt_of_ble rfl)
        apply Wk.bin rfl rfl (r := .bool false) (fun w => by simp [go_sem] <;> omega) (lt_of_ble rfl)
        refine Wk.nil ?_
        refine AW.cond rfl (fun hn => by cases hn) (fun hn => ?_)
        refine AW.skip ?_
        repeat (first | refine thenA_normal ?_ | refine inBlockA_normal ?_)
        apply AW.list
        apply Wk.mv (by conv => lhs; whnf) (lt_of_ble rfl)
        apply Wk.addi rfl rfl (by omega) (lt_of_ble rfl)
        apply Wk.asg (by conv => lhs; whnf) (lt_of_ble rfl)
        refine Wk.nil ?_
        exact ⟨q + 1, ⟨by omega, by omega⟩, by omega, fun a w => Rel.keep ⟨rfl, .cons rfl rfl (.cons (congrArg (fun z : Int => A.d (.v (.int .i64 z))) (by omega)) rfl (.cons rfl rfl .nil)), .nil, hN⟩⟩
      · rw [show leftI l2 (tots e) = -1 from if_neg h1]
        apply AW.list
        apply Wk.mv (by conv => lhs; whnf) (lt_of_ble rfl)
        apply Wk.bin rfl rfl (r := .bool true) (fun w => by simp [go_sem]) (lt_of_ble rfl)
        refine Wk.nil ?_
        refine AW.cond rfl (fun _ => ?_) (fun hn => by cases hn)
        refine AW.seq ?_
        apply AW.list
        apply Wk.asg (by conv => lhs; whnf) (lt_of_ble rfl)
        refine Wk.nil (AW.ret ?_)
        repeat (first | refine thenA_ret ?_ | refine inBlockA_ret ?_)
        rw [show leftI l (D.row es).tot = -1 from if_neg (by simp only [D.tot]; omega)]
        exact RetQ.ret [] (.cons rfl .nil) ⟨rfl, rfl⟩ none_kept
    · obtain rfl : q = es.length := by
        have : ¬ q < es.length := by simpa using hc
        omega
      refine AW.exit ?_
      repeat (first | refine inBlockA_same ?_ | refine thenA_exit ?_)
      repeat (first | refine thenA_normal ?_ | refine inBlockA_normal ?_)
      refine AW.seq ?_
      apply AW.list
      apply Wk.mv (by conv => lhs; whnf) (lt_of_ble rfl)
      apply Wk.asg (by conv => lhs; whnf) (lt_of_ble rfl)
      refine Wk.nil (AW.ret ?_)
      repeat (first | refine thenA_ret ?_ | refine inBlockA_ret ?_)
      rw [List.take_length] at hqt
      rw [show leftI l (D.row es).tot = (l : Int) - (es.length : Int) - (totss (es.take es.length) : Int) from (if_pos (by simp only [D.tot]; omega)).trans (by simp only [D.tot, List.take_length]; omega)]
      exact RetQ.ret [] (.cons rfl .nil) ⟨rfl, rfl⟩ none_kept
  · apply AW.list
    apply Wk.mv (by conv => lhs; whnf) (lt_of_ble rfl)
    apply Wk.bin rfl rfl (r := .bool true) (fun w => by simp [go_sem] <;> omega) (lt_of_ble rfl)
    refine Wk.nil ?_
    refine AW.cond rfl (fun _ => ?_) (fun hc => by cases hc)
    refine AW.seq ?_
    apply AW.list
    apply Wk.asg (by conv => lhs; whnf) (lt_of_ble rfl)
    refine Wk.nil (AW.ret ?_)
    repeat (first | refine thenA_ret ?_ | refine inBlockA_ret ?_)
    rw [show leftI l (D.row es).tot = -1 from if_neg (by simp only [D.tot]; omega)]
    exact RetQ.ret [] (.cons rfl .nil) ⟨rfl, rfl⟩ none_kept
set_option maxHeartbeats 4000000 in
set_option maxRecDepth 100000 in
theorem toTxState_ok (ds : List D) (h : Sh.ok (.struct [.int, .int, (.slice (.struct [.int, .int, (.slice .byte)])), .int, (.slice (.struct [.int, .int, (.slice .byte)])), .bool, .int, .bool, .int, .bool]) ds) (ht : tots ds ≤ 1048576) : DataOk Try.prog 13 [.agg (ds.map .d)] (.agg (ds.map .d)) := by
  have qf_0 := ok_rec h
  clear h
  obtain ⟨_, _, rfl, hf0, qf_1⟩ := oks_cons qf_0
  clear qf_0
  obtain ⟨nf0, inf0, rfl⟩ := ok_num hf0
  obtain ⟨_, _, rfl, hf1, qf_2⟩ := oks_cons qf_1
  clear qf_1
  obtain ⟨nf1, inf1, rfl⟩ := ok_num hf1
  obtain ⟨_, _, rfl, hf2, qf_3⟩ := oks_cons qf_2
  clear qf_2
  obtain ⟨esf2, rfl, hef2⟩ := ok_row hf2
  obtain ⟨_, _, rfl, hf3, qf_4⟩ := oks_cons qf_3
  clear qf_3
  obtain ⟨nf3, inf3, rfl⟩ := ok_num hf3
  obtain ⟨_, _, rfl, hf4, qf_5⟩ := oks_cons qf_4
  clear qf_4
  obtain ⟨esf4, rfl, hef4⟩ := ok_row hf4
  obtain ⟨_, _, rfl, hf5, qf_6⟩ := oks_cons qf_5
  clear qf_5
  obtain ⟨bf5, rfl⟩ := ok_truth hf5
  obtain ⟨_, _, rfl, hf6, qf_7⟩ := oks_cons qf_6
  clear qf_6
  obtain ⟨nf6, inf6, rfl⟩ := ok_num hf6
  obtain ⟨_, _, rfl, hf7, qf_8⟩ := oks_cons qf_7
  clear qf_7
  obtain ⟨bf7, rfl⟩ := ok_truth hf7
  obtain ⟨_, _, rfl, hf8, qf_9⟩ := oks_cons qf_8
  clear qf_8
  obtain ⟨nf8, inf8, rfl⟩ := ok_num hf8
  obtain ⟨_, _, rfl, hf9, qf_10⟩ := oks_cons qf_9
  clear qf_9
  obtain ⟨bf9, rfl⟩ := ok_truth hf9
  obtain rfl := oks_nil qf_10
  have cf2 := toSegPartS_ok esf2 hef2 (by simp only [tots_append, tots] at ht; omega)
  have cf4 := toSegPartS_ok esf4 hef4 (by simp only [tots_append, tots] at ht; omega)
  simp only [List.cons_append, List.nil_append, List.append_nil, List.map_cons, List.map_nil]
  refine Spec.intro (n := 37) (rv := [.cell 2 33]) Try.func13 rfl rfl rfl (by simp) fun C hN hX => ?_
  refine AW.seq ?_
  apply AW.list
  apply Wk.bx 1 rfl rfl (lt_of_ble rfl)
  apply Wk.alc 2 [.int .i64 0, .int .i64 0, .slice none 0 0, .int .i64 0, .slice none 0 0, .bool false, .int .i64 0, .bool false, .int .i64 0, .bool false] ze33 rfl rfl (lt_of_ble rfl)
  refine Wk.nil ?_
  refine AW.seq ?_
  apply AW.list
  apply Wk.alc 3 [.int .i64 0, .int .i64 0, .slice none 0 0, .int .i64 0, .slice none 0 0, .bool false, .int .i64 0, .bool false, .int .i64 0, .bool false] ze33 rfl rfl (lt_of_ble rfl)
  refine Wk.nil ?_
  refine AW.seq ?_
  apply AW.list
  apply Wk.fad 0 0 false fd26_0 rfl (lt_of_ble rfl)
  apply Wk.ld (i := 1) 1 false ty3 rfl rfl (by conv => lhs; whnf) (lt_of_ble rfl)
  apply Wk.fad 0 0 false fd33_0 rfl (lt_of_ble rfl)
  apply Wk.sto (i := 3) 1 false ty3 rfl rfl rfl rfl (Nat.le_of_ble_eq_true rfl) (lt_of_ble rfl)
  refine Wk.nil ?_
  refine AW.seq ?_
  apply AW.list
  apply Wk.fad 1 0 false fd26_1 rfl (lt_of_ble rfl)
  apply Wk.ld (i := 1) 1 false ty3 rfl rfl (by conv => lhs; whnf) (lt_of_ble rfl)
  apply Wk.fad 1 0 false fd33_1 rfl (lt_of_ble rfl)
  apply Wk.sto (i := 3) 1 false ty3 rfl rfl rfl rfl (Nat.le_of_ble_eq_true rfl) (lt_of_ble rfl)
  refine Wk.nil ?_
  skip
  refine AW.keep (n := 37) (ts := [(1, .ptr 1 0), (2, .ptr 2 0), (3, .ptr 3 0)]) (bs := [(1, .var [A.d (.v (.int .i64 nf0)), A.d (.v (.int .i64 nf1)), A.d (.row esf2), A.d (.v (.int .i64 nf3)), A.d (.row esf4), A.d (.v (.bool bf5)), A.d (.v (.int .i64 nf6)), A.d (.v (.bool bf7)), A.d (.v (.int .i64 nf8)), A.d (.v (.bool bf9))]), (2, .var [A.d (.v (.int .i64 0)), A.d (.v (.int .i64 0)), A.d (.v (.slice none 0 0)), A.d (.v (.int .i64 0)), A.d (.v (.slice none 0 0)), A.d (.v (.bool false)), A.d (.v (.int .i64 0)), A.d (.v (.bool false)), A.d (.v (.int .i64 0)), A.d (.v (.bool false))]), (3, .var [A.d (.v (.int .i64 nf0)), A.d (.v (.int .i64 nf1)), A.d (.v (.slice none 0 0)), A.d (.v (.int .i64 0)), A.d (.v (.slice none 0 0)), A.d (.v (.bool false)), A.d (.v (.int .i64 0)), A.d (.v (.bool false)), A.d (.v (.int .i64 0)), A.d (.v (.bool false))])]) ⟨rfl, .cons rfl rfl (.cons rfl rfl (.cons rfl rfl .nil)), .cons rfl rfl (.cons rfl rfl (.cons rfl rfl .nil)), hN.mono (by simp [keys])⟩ ?_
  refine AW.seq ?_
  apply AW.list
  apply Wk.fad 2 0 false fd26_2 rfl (lt_of_ble rfl)
  apply Wk.ld (i := 1) 1 false ty24 rfl rfl (by conv => lhs; whnf) (lt_of_ble rfl)
  apply Wk.dat cf2 Try.func44 rfl rfl rfl rfl rfl (lt_of_ble rfl)
  apply Wk.fad 2 0 false fd33_2 rfl (lt_of_ble rfl)
  apply Wk.sto (i := 3) 1 false ty31 rfl rfl rfl rfl (Nat.le_of_ble_eq_true rfl) (lt_of_ble rfl)
  refine Wk.nil ?_
  refine AW.seq ?_
  apply AW.list
  apply Wk.fad 3 0 false fd26_3 rfl (lt_of_ble rfl)
  apply Wk.ld (i := 1) 1 false ty3 rfl rfl (by conv => lhs; whnf) (lt_of_ble rfl)
  apply Wk.fad 3 0 false fd33_3 rfl (lt_of_ble rfl)
  apply Wk.sto (i := 3) 1 false ty3 rfl rfl rfl rfl (Nat.le_of_ble_eq_true rfl) (lt_of_ble rfl)
  refine Wk.nil ?_
  skip
  refine AW.keep (n := 37) (ts := [(1, .ptr 1 0), (2, .ptr 2 0), (3, .ptr 3 0)]) (bs := [(1, .var [A.d (.v (.int .i64 nf0)), A.d (.v (.int .i64 nf1)), A.d (.row esf2), A.d (.v (.int .i64 nf3)), A.d (.row esf4), A.d (.v (.bool bf5)), A.d (.v (.int .i64 nf6)), A.d (.v (.bool bf7)), A.d (.v (.int .i64 nf8)), A.d (.v (.bool bf9))]), (2, .var [A.d (.v (.int .i64 0)), A.d (.v (.int .i64 0)), A.d (.v (.slice none 0 0)), A.d (.v (.int .i64 0)), A.d (.v (.slice none 0 0)), A.d (.v (.bool false)), A.d (.v (.int .i64 0)), A.d (.v (.bool false)), A.d (.v (.int .i64 0)), A.d (.v (.bool false))]), (3, .var [A.d (.v (.int .i64 nf0)), A.d (.v (.int .i64 nf1)), A.d (.row esf2), A.d (.v (.int .i64 nf3)), A.d (.v (.slice none 0 0)), A.d (.v (.bool false)), A.d (.v (.int .i64 0)), A.d (.v (.bool false)), A.d (.v (.int .i64 0)), A.d (.v (.bool false))])]) ⟨rfl, .cons rfl rfl (.cons rfl rfl (.cons rfl rfl .nil)), .cons rfl rfl (.cons rfl rfl (.cons rfl rfl .nil)), hN.mono (by simp [keys])⟩ ?_
  refine AW.seq ?_
  apply AW.list
  apply Wk.fad 4 0 false fd26_4 rfl (lt_of_ble rfl)
  apply Wk.ld (i := 1) 1 false ty24 rfl rfl (by conv => lhs; whnf) (lt_of_ble rfl)
  apply Wk.dat cf4 Try.func44 rfl rfl rfl rfl rfl (lt_of_ble rfl)
  apply Wk.fad 4 0 false fd33_4 rfl (lt_of_ble rfl)
  apply Wk.sto (i := 3) 1 false ty31 rfl rfl rfl rfl (Nat.le_of_ble_eq_true rfl) (lt_of_ble rfl)
  refine Wk.nil ?_
  refine AW.seq ?_
  apply AW.list
  apply Wk.fad 5 0 false fd26_5 rfl (lt_of_ble rfl)
  apply Wk.ld (i := 1) 1 false ty4 rfl rfl (by conv => lhs; whnf) (lt_of_ble rfl)
  apply Wk.fad 5 0 false fd33_5 rfl (lt_of_ble rfl)
  apply Wk.sto (i := 3) 1 false ty4 rfl rfl rfl rfl (Nat.le_of_ble_eq_true rfl) (lt_of_ble rfl)
  refine Wk.nil ?_
  skip
  refine AW.keep (n := 37) (ts := [(1, .ptr 1 0), (2, .ptr 2 0), (3, .ptr 3 0)]) (bs := [(1, .var [A.d (.v (.int .i64 nf0)), A.d (.v (.int .i64 nf1)), A.d (.row esf2), A.d (.v (.int .i64 nf3)), A.d (.row esf4), A.d (.v (.bool bf5)), A.d (.v (.int .i64 nf6)), A.d (.v (.bool bf7)), A.d (.v (.int .i64 nf8)), A.d (.v (.bool bf9))]), (2, .var [A.d (.v (.int .i64 0)), A.d (.v (.int .i64 0)), A.d (.v (.slice none 0 0)), A.d (.v (.int .i64 0)), A.d (.v (.slice none 0 0)), A.d (.v (.bool false)), A.d (.v (.int .i64 0)), A.d (.v (.bool false)), A.d (.v (.int .i64 0)), A.d (.v (.bool false))]), (3, .var [A.d (.v (.int .i64 nf0)), A.d (.v (.int .i64 nf1)), A.d (.row esf2), A.d (.v (.int .i64 nf3)), A.d (.row esf4), A.d (.v (.bool bf5)), A.d (.v (.int .i64 0)), A.d (.v (.bool false)), A.d (.v (.int .i64 0)), A.d (.v (.bool false))])]) ⟨rfl, .cons rfl rfl (.cons rfl rfl (.cons rfl rfl .nil)), .cons rfl rfl (.cons rfl rfl (.cons rfl rfl .nil)), hN.mono (by simp [keys])⟩ ?_
  refine AW.seq ?_
  apply AW.list
  apply Wk.fad 6 0 false fd26_6 rfl (lt_of_ble rfl)
  apply Wk.ld (i := 1) 1 false ty3 rfl rfl (by conv => lhs; whnf) (lt_of_ble rfl)
  apply Wk.fad 6 0 false fd33_6 rfl (lt_of_ble rfl)
  apply Wk.sto (i := 3) 1 false ty3 rfl rfl rfl rfl (Nat.le_of_ble_eq_true rfl) (lt_of_ble rfl)
  refine Wk.nil ?_
  refine AW.seq ?_
  apply AW.list
  apply Wk.fad 7 0 false fd26_7 rfl (lt_of_ble rfl)
  apply Wk.ld (i := 1) 1 false ty4 rfl rfl (by conv => lhs; whnf) (lt_of_ble rfl)
  apply Wk.fad 7 0 false fd33_7 rfl (lt_of_ble rfl)
  apply Wk.sto (i := 3) 1 false ty4 rfl rfl rfl rfl (Nat.le_of_ble_eq_true rfl) (lt_of_ble rfl)
  refine Wk.nil ?_
  skip
  refine AW.keep (n := 37) (ts := [(1, .ptr 1 0), (2, .ptr 2 0), (3, .ptr 3 0)]) (bs := [(1, .var [A.d (.v (.int .i64 nf0)), A.d (.v (.int .i64 nf1)), A.d (.row esf2), A.d (.v (.int .i64 nf3)), A.d (.row esf4), A.d (.v (.bool bf5)), A.d (.v (.int .i64 nf6)), A.d (.v (.bool bf7)), A.d (.v (.int .i64 nf8)), A.d (.v (.bool bf9))]), (2, .var [A.d (.v (.int .i64 0)), A.d (.v (.int .i64 0)), A.d (.v (.slice none 0 0)), A.d (.v (.int .i64 0)), A.d (.v (.slice none 0 0)), A.d (.v (.bool false)), A.d (.v (.int .i64 0)), A.d (.v (.bool false)), A.d (.v (.int .i64 0)), A.d (.v (.bool false))]), (3, .var [A.d (.v (.int .i64 nf0)), A.d (.v (.int .i64 nf1)), A.d (.row esf2), A.d (.v (.int .i64 nf3)), A.d (.row esf4), A.d (.v (.bool bf5)), A.d (.v (.int .i64 nf6)), A.d (.v (.bool bf7)), A.d (.v (.int .i64 0)), A.d (.v (.bool false))])]) ⟨rfl, .cons rfl rfl (.cons rfl rfl (.cons rfl rfl .nil)), .cons rfl rfl (.cons rfl rfl (.cons rfl rfl .nil)), hN.mono (by simp [keys])⟩ ?_
  refine AW.seq ?_
  apply AW.list
  apply Wk.fad 8 0 false fd26_8 rfl (lt_of_ble rfl)
  apply Wk.ld (i := 1) 1 false ty3 rfl rfl (by conv => lhs; whnf) (lt_of_ble rfl)
  apply Wk.fad 8 0 false fd33_8 rfl (lt_of_ble rfl)
  apply Wk.sto (i := 3) 1 false ty3 rfl rfl rfl rfl (Nat.le_of_ble_eq_true rfl) (lt_of_ble rfl)
  refine Wk.nil ?_
  refine AW.seq ?_
  apply AW.list
  apply Wk.fad 9 0 false fd26_9 rfl (lt_of_ble rfl)
  apply Wk.ld (i := 1) 1 false ty4 rfl rfl (by conv => lhs; whnf) (lt_of_ble rfl)
  apply Wk.fad 9 0 false fd33_9 rfl (lt_of_ble rfl)
  apply Wk.sto (i := 3) 1 false ty4 rfl rfl rfl rfl (Nat.le_of_ble_eq_true rfl) (lt_of_ble rfl)
  refine Wk.nil ?_
  refine AW.seq ?_
  apply AW.list
  apply Wk.ld (i := 3) 10 true ty33 rfl rfl (by conv => lhs; whnf) (lt_of_ble rfl)
  apply Wk.sto (i := 2) 10 true ty33 rfl rfl rfl rfl (Nat.le_of_ble_eq_true rfl) (lt_of_ble rfl)
  refine Wk.nil (AW.ret ?_)
  exact RetQ.ret [] (.cons ⟨2, 0, _, _, _, rfl, rfl, ty33, rfl⟩ .nil) ⟨rfl, rfl⟩ none_kept
set_option maxHeartbeats 4000000 in
set_option maxRecDepth 100000 in
theorem eqTxState_ok (ds : List D) (h : Sh.ok (.struct [.int, .int, (.slice (.struct [.int, .int, (.slice .byte)])), .int, (.slice (.struct [.int, .int, (.slice .byte)])), .bool, .int, .bool, .int, .bool]) ds) : DataOk Try.prog 15 [.agg (ds.map .d), .agg (ds.map .d)] (.d (.v (.bool true))) := by
  have qf_0 := ok_rec h
  clear h
  obtain ⟨_, _, rfl, hf0, qf_1⟩ := oks_cons qf_0
  clear qf_0
  obtain ⟨nf0, inf0, rfl⟩ := ok_num hf0
  obtain ⟨_, _, rfl, hf1, qf_2⟩ := oks_cons qf_1
  clear qf_1
  obtain ⟨nf1, inf1, rfl⟩ := ok_num hf1
  obtain ⟨_, _, rfl, hf2, qf_3⟩ := oks_cons qf_2
  clear qf_2
  obtain ⟨esf2, rfl, hef2⟩ := ok_row hf2
  obtain ⟨_, _, rfl, hf3, qf_4⟩ := oks_cons qf_3
  clear qf_3
  obtain ⟨nf3, inf3, rfl⟩ := ok_num hf3
  obtain ⟨_, _, rfl, hf4, qf_5⟩ := oks_cons qf_4
  clear qf_4
  obtain ⟨esf4, rfl, hef4⟩ := ok_row hf4
  obtain ⟨_, _, rfl, hf5, qf_6⟩ := oks_cons qf_5
  clear qf_5
  obtain ⟨bf5, rfl⟩ := ok_truth hf5
  obtain ⟨_, _, rfl, hf6, qf_7⟩ := oks_cons qf_6
  clear qf_6
  obtain ⟨nf6, inf6, rfl⟩ := ok_num hf6
  obtain ⟨_, _, rfl, hf7, qf_8⟩ := oks_cons qf_7
  clear qf_7
  obtain ⟨bf7, rfl⟩ := ok_truth hf7
  obtain ⟨_, _, rfl, hf8, qf_9⟩ := oks_cons qf_8
  clear qf_8
  obtain ⟨nf8, inf8, rfl⟩ := ok_num hf8
  obtain ⟨_, _, rfl, hf9, qf_10⟩ := oks_cons qf_9
  clear qf_9
  obtain ⟨bf9, rfl⟩ := ok_truth hf9
  obtain rfl := oks_nil qf_10
  have cf2 := eqSegPartS_ok esf2 hef2
  have cf4 := eqSegPartS_ok esf4 hef4
  simp only [List.cons_append, List.nil_append, List.append_nil, List.map_cons, List.map_nil]
  refine Spec.intro (n := 57) (rv := [.tmp 4]) Try.func15 rfl rfl rfl (by simp) fun C hN hX => ?_
  refine AW.seq ?_
  apply AW.list
  apply Wk.bx 2 rfl rfl (lt_of_ble rfl)
  apply Wk.bx 3 rfl rfl (lt_of_ble rfl)
  apply Wk.asg (by conv => lhs; whnf) (lt_of_ble rfl)
  refine Wk.nil ?_
  refine AW.seq (AW.seq ?_)
  apply AW.list
  apply Wk.fad 0 0 false fd33_0 rfl (lt_of_ble rfl)
  apply Wk.ld (i := 2) 1 false ty3 rfl rfl (by conv => lhs; whnf) (lt_of_ble rfl)
  apply Wk.fad 0 0 false fd33_0 rfl (lt_of_ble rfl)
  apply Wk.ld (i := 3) 1 false ty3 rfl rfl (by conv => lhs; whnf) (lt_of_ble rfl)
  apply Wk.bin rfl rfl (r := .bool false) (fun w => by simp [go_sem]) (lt_of_ble rfl)
  refine Wk.nil ?_
  refine AW.cond rfl (fun hc => by cases hc) (fun _ => AW.skip (thenA_normal ?_))
  refine AW.seq (AW.seq ?_)
  apply AW.list
  apply Wk.fad 1 0 false fd33_1 rfl (lt_of_ble rfl)
  apply Wk.ld (i := 2) 1 false ty3 rfl rfl (by conv => lhs; whnf) (lt_of_ble rfl)
  apply Wk.fad 1 0 false fd33_1 rfl (lt_of_ble rfl)
  apply Wk.ld (i := 3) 1 false ty3 rfl rfl (by conv => lhs; whnf) (lt_of_ble rfl)
  apply Wk.bin rfl rfl (r := .bool false) (fun w => by simp [go_sem]) (lt_of_ble rfl)
  refine Wk.nil ?_
  refine AW.cond rfl (fun hc => by cases hc) (fun _ => AW.skip (thenA_normal ?_))
  refine AW.seq (AW.seq ?_)
  apply AW.list
  apply Wk.fad 2 0 false fd33_2 rfl (lt_of_ble rfl)
  apply Wk.ld (i := 2) 1 false ty31 rfl rfl (by conv => lhs; whnf) (lt_of_ble rfl)
  apply Wk.fad 2 0 false fd33_2 rfl (lt_of_ble rfl)
  apply Wk.ld (i := 3) 1 false ty31 rfl rfl (by conv => lhs; whnf) (lt_of_ble rfl)
  apply Wk.dat cf2 Try.func50 rfl rfl rfl rfl rfl (lt_of_ble rfl)
  apply Wk.un rfl (fun w => by simp [go_sem] <;> rfl) (lt_of_ble rfl)
  refine Wk.nil ?_
  refine AW.cond rfl (fun hc => by cases hc) (fun _ => AW.skip (thenA_normal ?_))
  refine AW.seq (AW.seq ?_)
  apply AW.list
  apply Wk.fad 3 0 false fd33_3 rfl (lt_of_ble rfl)
  apply Wk.ld (i := 2) 1 false ty3 rfl rfl (by conv => lhs; whnf) (lt_of_ble rfl)
  apply Wk.fad 3 0 false fd33_3 rfl (lt_of_ble rfl)
  apply Wk.ld (i := 3) 1 false ty3 rfl rfl (by conv => lhs; whnf) (lt_of_ble rfl)
  apply Wk.bin rfl rfl (r := .bool false) (fun w => by simp [go_sem]) (lt_of_ble rfl)
  refine Wk.nil ?_
  refine AW.cond rfl (fun hc => by cases hc) (fun _ => AW.skip (thenA_normal ?_))
  refine AW.seq (AW.seq ?_)
  apply AW.list
  apply Wk.fad 4 0 false fd33_4 rfl (lt_of_ble rfl)
  apply Wk.ld (i := 2) 1 false ty31 rfl rfl (by conv => lhs; whnf) (lt_of_ble rfl)
  apply Wk.fad 4 0 false fd33_4 rfl (lt_of_ble rfl)
  apply Wk.ld (i := 3) 1 false ty31 rfl rfl (by conv => lhs; whnf) (lt_of_ble rfl)
  apply Wk.dat cf4 Try.func50 rfl rfl rfl rfl rfl (lt_of_ble rfl)
  apply Wk.un rfl (fun w => by simp [go_sem] <;> rfl) (lt_of_ble rfl)
  refine Wk.nil ?_
  refine AW.cond rfl (fun hc => by cases hc) (fun _ => AW.skip (thenA_normal ?_))
  refine AW.seq (AW.seq ?_)
  apply AW.list
  apply Wk.fad 5 0 false fd33_5 rfl (lt_of_ble rfl)
  apply Wk.ld (i := 2) 1 false ty4 rfl rfl (by conv => lhs; whnf) (lt_of_ble rfl)
  apply Wk.fad 5 0 false fd33_5 rfl (lt_of_ble rfl)
  apply Wk.ld (i := 3) 1 false ty4 rfl rfl (by conv => lhs; whnf) (lt_of_ble rfl)
  apply Wk.bin rfl rfl (r := .bool false) (fun w => by simp [go_sem]) (lt_of_ble rfl)
  refine Wk.nil ?_
  refine AW.cond rfl (fun hc => by cases hc) (fun _ => AW.skip (thenA_normal ?_))
  refine AW.seq (AW.seq ?_)
  apply AW.list
  apply Wk.fad 6 0 false fd33_6 rfl (lt_of_ble rfl)
  apply Wk.ld (i := 2) 1 false ty3 rfl rfl (by conv => lhs; whnf) (lt_of_ble rfl)
  apply Wk.fad 6 0 false fd33_6 rfl (lt_of_ble rfl)
  apply Wk.ld (i := 3) 1 false ty3 rfl rfl (by conv => lhs; whnf) (lt_of_ble rfl)
  apply Wk.bin rfl rfl (r := .bool false) (fun w => by simp [go_sem]) (lt_of_ble rfl)
  refine Wk.nil ?_
  refine AW.cond rfl (fun hc => by cases hc) (fun _ => AW.skip (thenA_normal ?_))
  refine AW.seq (AW.seq ?_)
  apply AW.list
  apply Wk.fad 7 0 false fd33_7 rfl (lt_of_ble rfl)
  apply Wk.ld (i := 2) 1 false ty4 rfl rfl (by conv => lhs; whnf) (lt_of_ble rfl)
  apply Wk.fad 7 0 false fd33_7 rfl (lt_of_ble rfl)
  apply Wk.ld (i := 3) 1 false ty4 rfl rfl (by conv => lhs; whnf) (lt_of_ble rfl)
  apply Wk.bin rfl rfl (r := .bool false) (fun w => by simp [go_sem]) (lt_of_ble rfl)
  refine Wk.nil ?_
  refine AW.cond rfl (fun hc => by cases hc) (fun _ => AW.skip (thenA_normal ?_))
  refine AW.seq (AW.seq ?_)
  apply AW.list
  apply Wk.fad 8 0 false fd33_8 rfl (lt_of_ble rfl)
  apply Wk.ld (i := 2) 1 false ty3 rfl rfl (by conv => lhs; whnf) (lt_of_ble rfl)
  apply Wk.fad 8 0 false fd33_8 rfl (lt_of_ble rfl)
  apply Wk.ld (i := 3) 1 false ty3 rfl rfl (by conv => lhs; whnf) (lt_of_ble rfl)
  apply Wk.bin rfl rfl (r := .bool false) (fun w => by simp [go_sem]) (lt_of_ble rfl)
  refine Wk.nil ?_
  refine AW.cond rfl (fun hc => by cases hc) (fun _ => AW.skip (thenA_normal ?_))
  refine AW.seq (AW.seq ?_)
  apply AW.list
  apply Wk.fad 9 0 false fd33_9 rfl (lt_of_ble rfl)
  apply Wk.ld (i := 2) 1 false ty4 rfl rfl (by conv => lhs; whnf) (lt_of_ble rfl)
  apply Wk.fad 9 0 false fd33_9 rfl (lt_of_ble rfl)
  apply Wk.ld (i := 3) 1 false ty4 rfl rfl (by conv => lhs; whnf) (lt_of_ble rfl)
  apply Wk.bin rfl rfl (r := .bool false) (fun w => by simp [go_sem]) (lt_of_ble rfl)
  refine Wk.nil ?_
  refine AW.cond rfl (fun hc => by cases hc) (fun _ => AW.skip (thenA_normal ?_))
  refine AW.seq ?_
  apply AW.list
  apply Wk.asg (by conv => lhs; whnf) (lt_of_ble rfl)
  refine Wk.nil (AW.ret ?_)
  exact RetQ.ret [] (.cons rfl .nil) ⟨rfl, rfl⟩ none_kept
set_option maxHeartbeats 4000000 in
set_option maxRecDepth 100000 in
theorem szTxState_ok (ds : List D) (h : Sh.ok (.struct [.int, .int, (.slice (.struct [.int, .int, (.slice .byte)])), .int, (.slice (.struct [.int, .int, (.slice .byte)])), .bool, .int, .bool, .int, .bool]) ds) (l : Nat) (hl : l ≤ 1048576) : DataOk Try.prog 10 [.agg (ds.map .d), .d (.v (.int .i64 (l : Int)))] (.d (.v (.int .i64 (leftI l (tots ds))))) := by
  have qf_0 := ok_rec h
  clear h
  obtain ⟨_, _, rfl, hf0, qf_1⟩ := oks_cons qf_0
  clear qf_0
  obtain ⟨nf0, inf0, rfl⟩ := ok_num hf0
  obtain ⟨_, _, rfl, hf1, qf_2⟩ := oks_cons qf_1
  clear qf_1
  obtain ⟨nf1, inf1, rfl⟩ := ok_num hf1
  obtain ⟨_, _, rfl, hf2, qf_3⟩ := oks_cons qf_2
  clear qf_2
  obtain ⟨esf2, rfl, hef2⟩ := ok_row hf2
  obtain ⟨_, _, rfl, hf3, qf_4⟩ := oks_cons qf_3
  clear qf_3
  obtain ⟨nf3, inf3, rfl⟩ := ok_num hf3
  obtain ⟨_, _, rfl, hf4, qf_5⟩ := oks_cons qf_4
  clear qf_4
  obtain ⟨esf4, rfl, hef4⟩ := ok_row hf4
  obtain ⟨_, _, rfl, hf5, qf_6⟩ := oks_cons qf_5
  clear qf_5
  obtain ⟨bf5, rfl⟩ := ok_truth hf5
  obtain ⟨_, _, rfl, hf6, qf_7⟩ := oks_cons qf_6
  clear qf_6
  obtain ⟨nf6, inf6, rfl⟩ := ok_num hf6
  obtain ⟨_, _, rfl, hf7, qf_8⟩ := oks_cons qf_7
  clear qf_7
  obtain ⟨bf7, rfl⟩ := ok_truth hf7
  obtain ⟨_, _, rfl, hf8, qf_9⟩ := oks_cons qf_8
  clear qf_8
  obtain ⟨nf8, inf8, rfl⟩ := ok_num hf8
  obtain ⟨_, _, rfl, hf9, qf_10⟩ := oks_cons qf_9
  clear qf_9
  obtain ⟨bf9, rfl⟩ := ok_truth hf9
  obtain rfl := oks_nil qf_10
  have cf2 := fun (l : Nat) (hl : l ≤ 1048576) => szSegPartS_ok esf2 hef2 l hl
  obtain ⟨tf2, htf2⟩ : ∃ t, (D.row esf2).tot = t := ⟨_, rfl⟩
  rw [htf2] at cf2
  have cf4 := fun (l : Nat) (hl : l ≤ 1048576) => szSegPartS_ok esf4 hef4 l hl
  obtain ⟨tf4, htf4⟩ : ∃ t, (D.row esf4).tot = t := ⟨_, rfl⟩
  rw [htf4] at cf4
  have hsum : tots ([D.v (.int .i64 nf0)] ++ ([D.v (.int .i64 nf1)] ++ ([D.row esf2] ++ ([D.v (.int .i64 nf3)] ++ ([D.row esf4] ++ ([D.v (.bool bf5)] ++ ([D.v (.int .i64 nf6)] ++ ([D.v (.bool bf7)] ++ ([D.v (.int .i64 nf8)] ++ ([D.v (.bool bf9)] ++ [])))))))))) = tf2 + tf4 := by
    simp only [tots_append, tots, htf2, htf4, D.tot.eq_1, Nat.add_zero, Nat.zero_add]
    try omega
  rw [hsum]
  clear hsum
  simp only [List.cons_append, List.nil_append, List.append_nil, List.map_cons, List.map_nil]
  refine Spec.intro (n := 18) (rv := [.tmp 4]) Try.func10 rfl rfl rfl (by simp) fun C hN hX => ?_
  refine AW.seq ?_
  apply AW.list
  apply Wk.bx 2 rfl rfl (lt_of_ble rfl)
  apply Wk.asg (by conv => lhs; whnf) (lt_of_ble rfl)
  refine Wk.nil ?_
  have df2 := cf2 l (by omega)
  refine AW.seq ?_
  apply AW.list
  apply Wk.fad 2 0 false fd26_2 rfl (lt_of_ble rfl)
  apply Wk.ld (i := 2) 1 false ty24 rfl rfl (by conv => lhs; whnf) (lt_of_ble rfl)
  apply Wk.mv (by conv => lhs; whnf) (lt_of_ble rfl)
  apply Wk.dat df2 Try.func39 rfl rfl rfl rfl rfl (lt_of_ble rfl)
  apply Wk.asg (by conv => lhs; whnf) (lt_of_ble rfl)
  refine Wk.nil ?_
  refine AW.seq (AW.seq ?_)
  by_cases g0 : tf2 ≤ l
  case neg =>
    rw [show leftI l tf2 = -1 from if_neg g0]
    apply AW.list
    apply Wk.mv (by conv => lhs; whnf) (lt_of_ble rfl)
    apply Wk.bin rfl rfl (r := .bool true) (fun w => by simp [go_sem]) (lt_of_ble rfl)
    refine Wk.nil ?_
    refine AW.cond rfl (fun _ => ?_) (fun hc => by cases hc)
    refine AW.seq ?_
    apply AW.list
    apply Wk.asg (by conv => lhs; whnf) (lt_of_ble rfl)
    refine Wk.nil (AW.ret ?_)
    repeat (first | refine thenA_ret ?_ | refine inBlockA_ret ?_)
    rw [show leftI l (tf2 + tf4) = -1 from if_neg (by omega)]
    exact RetQ.ret [] (.cons rfl .nil) ⟨rfl, rfl⟩ none_kept
  rw [show leftI l tf2 = (l : Int) - (tf2 : Int) from if_pos g0]
  apply AW.list
  apply Wk.mv (by conv => lhs; whnf) (lt_of_ble rfl)
  apply Wk.bin rfl rfl (r := .bool false) (fun w => by simp [go_sem] <;> omega) (lt_of_ble rfl)
  refine Wk.nil ?_
  refine AW.cond rfl (fun hc => by cases hc) (fun _ => AW.skip (thenA_normal ?_))
  obtain ⟨l1, hl1⟩ : ∃ q : Nat, (l : Int) - (tf2 : Int) = (q : Int) := ⟨l - tf2, by omega⟩
  rw [hl1]
  have df4 := cf4 l1 (by omega)
  refine AW.seq ?_
  apply AW.list
  apply Wk.fad 4 0 false fd26_4 rfl (lt_of_ble rfl)
  apply Wk.ld (i := 2) 1 false ty24 rfl rfl (by conv => lhs; whnf) (lt_of_ble rfl)
  apply Wk.mv (by conv => lhs; whnf) (lt_of_ble rfl)
  apply Wk.dat df4 Try.func39 rfl rfl rfl rfl rfl (lt_of_ble rfl)
  apply Wk.asg (by conv => lhs; whnf) (lt_of_ble rfl)
  refine Wk.nil ?_
  refine AW.seq (AW.seq ?_)
  by_cases g1 : tf4 ≤ l1
  case neg =>
    rw [show leftI l1 tf4 = -1 from if_neg g1]
    apply AW.list
    apply Wk.mv (by conv => lhs; whnf) (lt_of_ble rfl)
    apply Wk.bin rfl rfl (r := .bool true) (fun w => by simp [go_sem]) (lt_of_ble rfl)
    refine Wk.nil ?_
    refine AW.cond rfl (fun _ => ?_) (fun hc => by cases hc)
    refine AW.seq ?_
    apply AW.list
    apply Wk.asg (by conv => lhs; whnf) (lt_of_ble rfl)
    refine Wk.nil (AW.ret ?_)
    repeat (first | refine thenA_ret ?_ | refine inBlockA_ret ?_)
    rw [show leftI l (tf2 + tf4) = -1 from if_neg (by omega)]
    exact RetQ.ret [] (.cons rfl .nil) ⟨rfl, rfl⟩ none_kept
  rw [show leftI l1 tf4 = (l1 : Int) - (tf4 : Int) from if_pos g1]
  apply AW.list
  apply Wk.mv (by conv => lhs; whnf) (lt_of_ble rfl)
  apply Wk.bin rfl rfl (r := .bool false) (fun w => by simp [go_sem] <;> omega) (lt_of_ble rfl)
  refine Wk.nil ?_
  refine AW.cond rfl (fun hc => by cases hc) (fun _ => AW.skip (thenA_normal ?_))
  refine AW.seq ?_
  apply AW.list
  apply Wk.mv (by conv => lhs; whnf) (lt_of_ble rfl)
  apply Wk.asg (by conv => lhs; whnf) (lt_of_ble rfl)
  refine Wk.nil (AW.ret ?_)
  rw [show leftI l (tf2 + tf4) = (l1 : Int) - (tf4 : Int) from (if_pos (by omega)).trans (by omega)]
  exact RetQ.ret [] (.cons rfl .nil) ⟨rfl, rfl⟩ none_kept
set_option maxHeartbeats 4000000 in
set_option maxRecDepth 100000 in
theorem toCrdTx_ok (ds : List D) (h : Sh.ok (.struct [.int, (.slice (.struct [.int, .int, (.slice .byte)])), .int, .int, .bool]) ds) (ht : tots ds ≤ 1048576) : DataOk Try.prog 20 [.agg (ds.map .d)] (.agg (ds.map .d)) := by
  have qf_0 := ok_rec h
  clear h
  obtain ⟨_, _, rfl, hf0, qf_1⟩ := oks_cons qf_0
  clear qf_0
  obtain ⟨nf0, inf0, rfl⟩ := ok_num hf0
  obtain ⟨_, _, rfl, hf1, qf_2⟩ := oks_cons qf_1
  clear qf_1
  obtain ⟨esf1, rfl, hef1⟩ := ok_row hf1
  obtain ⟨_, _, rfl, hf2, qf_3⟩ := oks_cons qf_2
  clear qf_2
  obtain ⟨nf2, inf2, rfl⟩ := ok_num hf2
  obtain ⟨_, _, rfl, hf3, qf_4⟩ := oks_cons qf_3
  clear qf_3
  obtain ⟨nf3, inf3, rfl⟩ := ok_num hf3
  obtain ⟨_, _, rfl, hf4, qf_5⟩ := oks_cons qf_4
  clear qf_4
  obtain ⟨bf4, rfl⟩ := ok_truth hf4
  obtain rfl := oks_nil qf_5
  have cf1 := toSegPartS_ok esf1 hef1 (by simp only [tots_append, tots] at ht; omega)
  simp only [List.cons_append, List.nil_append, List.append_nil, List.map_cons, List.map_nil]
  refine Spec.intro (n := 21) (rv := [.cell 2 44]) Try.func20 rfl rfl rfl (by simp) fun C hN hX => ?_
  refine AW.seq ?_
  apply AW.list
  apply Wk.bx 1 rfl rfl (lt_of_ble rfl)
  apply Wk.alc 2 [.int .i64 0, .slice none 0 0, .int .i64 0, .int .i64 0, .bool false] ze44 rfl rfl (lt_of_ble rfl)
  refine Wk.nil ?_
  refine AW.seq ?_
  apply AW.list
  apply Wk.alc 3 [.int .i64 0, .slice none 0 0, .int .i64 0, .int .i64 0, .bool false] ze44 rfl rfl (lt_of_ble rfl)
  refine Wk.nil ?_
  refine AW.seq ?_
  apply AW.list
  apply Wk.fad 0 0 false fd40_0 rfl (lt_of_ble rfl)
  apply Wk.ld (i := 1) 1 false ty3 rfl rfl (by conv => lhs; whnf) (lt_of_ble rfl)
  apply Wk.fad 0 0 false fd44_0 rfl (lt_of_ble rfl)
  apply Wk.sto (i := 3) 1 false ty3 rfl rfl rfl rfl (Nat.le_of_ble_eq_true rfl) (lt_of_ble rfl)
  refine Wk.nil ?_
  refine AW.seq ?_
  apply AW.list
  apply Wk.fad 1 0 false fd40_1 rfl (lt_of_ble rfl)
  apply Wk.ld (i := 1) 1 false ty24 rfl rfl (by conv => lhs; whnf) (lt_of_ble rfl)
  apply Wk.dat cf1 Try.func44 rfl rfl rfl rfl rfl (lt_of_ble rfl)
  apply Wk.fad 1 0 false fd44_1 rfl (lt_of_ble rfl)
  apply Wk.sto (i := 3) 1 false ty31 rfl rfl rfl rfl (Nat.le_of_ble_eq_true rfl) (lt_of_ble rfl)
  refine Wk.nil ?_
  skip
  refine AW.keep (n := 21) (ts := [(1, .ptr 1 0), (2, .ptr 2 0), (3, .ptr 3 0)]) (bs := [(1, .var [A.d (.v (.int .i64 nf0)), A.d (.row esf1), A.d (.v (.int .i64 nf2)), A.d (.v (.int .i64 nf3)), A.d (.v (.bool bf4))]), (2, .var [A.d (.v (.int .i64 0)), A.d (.v (.slice none 0 0)), A.d (.v (.int .i64 0)), A.d (.v (.int .i64 0)), A.d (.v (.bool false))]), (3, .var [A.d (.v (.int .i64 nf0)), A.d (.row esf1), A.d (.v (.int .i64 0)), A.d (.v (.int .i64 0)), A.d (.v (.bool false))])]) ⟨rfl, .cons rfl rfl (.cons rfl rfl (.cons rfl rfl .nil)), .cons rfl rfl (.cons rfl rfl (.cons rfl rfl .nil)), hN.mono (by simp [keys])⟩ ?_
  refine AW.seq ?_
  apply AW.list
  apply Wk.fad 2 0 false fd40_2 rfl (lt_of_ble rfl)
  apply Wk.ld (i := 1) 1 false ty3 rfl rfl (by conv => lhs; whnf) (lt_of_ble rfl)
  apply Wk.fad 2 0 false fd44_2 rfl (lt_of_ble rfl)
  apply Wk.sto (i := 3) 1 false ty3 rfl rfl rfl rfl (Nat.le_of_ble_eq_true rfl) (lt_of_ble rfl)
  refine Wk.nil ?_
  refine AW.seq ?_
  apply AW.list
  apply Wk.fad 3 0 false fd40_3 rfl (lt_of_ble rfl)
  apply Wk.ld (i := 1) 1 false ty3 rfl rfl (by conv => lhs; whnf) (lt_of_ble rfl)
  apply Wk.fad 3 0 false fd44_3 rfl (lt_of_ble rfl)
  apply Wk.sto (i := 3) 1 false ty3 rfl rfl rfl rfl (Nat.le_of_ble_eq_true rfl) (lt_of_ble rfl)
  refine Wk.nil ?_
  skip
  refine AW.keep (n := 21) (ts := [(1, .ptr 1 0), (2, .ptr 2 0), (3, .ptr 3 0)]) (bs := [(1, .var [A.d (.v (.int .i64 nf0)), A.d (.row esf1), A.d (.v (.int .i64 nf2)), A.d (.v (.int .i64 nf3)), A.d (.v (.bool bf4))]), (2, .var [A.d (.v (.int .i64 0)), A.d (.v (.slice none 0 0)), A.d (.v (.int .i64 0)), A.d (.v (.int .i64 0)), A.d (.v (.bool false))]), (3, .var [A.d (.v (.int .i64 nf0)), A.d (.row esf1), A.d (.v (.int .i64 nf2)), A.d (.v (.int .i64 nf3)), A.d (.v (.bool false))])]) ⟨rfl, .cons rfl rfl (.cons rfl rfl (.cons rfl rfl .nil)), .cons rfl rfl (.cons rfl rfl (.cons rfl rfl .nil)), hN.mono (by simp [keys])⟩ ?_
  refine AW.seq ?_
  apply AW.list
  apply Wk.fad 4 0 false fd40_4 rfl (lt_of_ble rfl)
  apply Wk.ld (i := 1) 1 false ty4 rfl rfl (by conv => lhs; whnf) (lt_of_ble rfl)
  apply Wk.fad 4 0 false fd44_4 rfl (lt_of_ble rfl)
  apply Wk.sto (i := 3) 1 false ty4 rfl rfl rfl rfl (Nat.le_of_ble_eq_true rfl) (lt_of_ble rfl)
  refine Wk.nil ?_
  refine AW.seq ?_
  apply AW.list
  apply Wk.ld (i := 3) 5 true ty44 rfl rfl (by conv => lhs; whnf) (lt_of_ble rfl)
  apply Wk.sto (i := 2) 5 true ty44 rfl rfl rfl rfl (Nat.le_of_ble_eq_true rfl) (lt_of_ble rfl)
  refine Wk.nil (AW.ret ?_)
  exact RetQ.ret [] (.cons ⟨2, 0, _, _, _, rfl, rfl, ty44, rfl⟩ .nil) ⟨rfl, rfl⟩ none_kept
set_option maxHeartbeats 4000000 in
set_option maxRecDepth 100000 in
theorem eqCrdTx_ok (ds : List D) (h : Sh.ok (.struct [.int, (.slice (.struct [.int, .int, (.slice .byte)])), .int, .int, .bool]) ds) : DataOk Try.prog 22 [.agg (ds.map .d), .agg (ds.map .d)] (.d (.v (.bool true))) := by
  have qf_0 := ok_rec h
  clear h
  obtain ⟨_, _, rfl, hf0, qf_1⟩ := oks_cons qf_0
  clear qf_0
  obtain ⟨nf0, inf0, rfl⟩ := ok_num hf0
  obtain ⟨_, _, rfl, hf1, qf_2⟩ := oks_cons qf_1
  clear qf_1
  obtain ⟨esf1, rfl, hef1⟩ := ok_row hf1
  obtain ⟨_, _, rfl, hf2, qf_3⟩ := oks_cons qf_2
  clear qf_2
  obtain ⟨nf2, inf2, rfl⟩ := ok_num hf2
  obtain ⟨_, _, rfl, hf3, qf_4⟩ := oks_cons qf_3
  clear qf_3
  obtain ⟨nf3, inf3, rfl⟩ := ok_num hf3
  obtain ⟨_, _, rfl, hf4, qf_5⟩ := oks_cons qf_4
  clear qf_4
  obtain ⟨bf4, rfl⟩ := ok_truth hf4
  obtain rfl := oks_nil qf_5
  have cf1 := eqSegPartS_ok esf1 hef1
  simp only [List.cons_append, List.nil_append, List.append_nil, List.map_cons, List.map_nil]
  refine Spec.intro (n := 31) (rv := [.tmp 4]) Try.func22 rfl rfl rfl (by simp) fun C hN hX => ?_
  refine AW.seq ?_
  apply AW.list
  apply Wk.bx 2 rfl rfl (lt_of_ble rfl)
  apply Wk.bx 3 rfl rfl (lt_of_ble rfl)
  apply Wk.asg (by conv => lhs; whnf) (lt_of_ble rfl)
  refine Wk.nil ?_
  refine AW.seq (AW.seq ?_)
  apply AW.list
  apply Wk.fad 0 0 false fd44_0 rfl (lt_of_ble rfl)
  apply Wk.ld (i := 2) 1 false ty3 rfl rfl (by conv => lhs; whnf) (lt_of_ble rfl)
  apply Wk.fad 0 0 false fd44_0 rfl (lt_of_ble rfl)
  apply Wk.ld (i := 3) 1 false ty3 rfl rfl (by conv => lhs; whnf) (lt_of_ble rfl)
  apply Wk.bin rfl rfl (r := .bool false) (fun w => by simp [go_sem]) (lt_of_ble rfl)
  refine Wk.nil ?_
  refine AW.cond rfl (fun hc => by cases hc) (fun _ => AW.skip (thenA_normal ?_))
  refine AW.seq (AW.seq ?_)
  apply AW.list
  apply Wk.fad 1 0 false fd44_1 rfl (lt_of_ble rfl)
  apply Wk.ld (i := 2) 1 false ty31 rfl rfl (by conv => lhs; whnf) (lt_of_ble rfl)
  apply Wk.fad 1 0 false fd44_1 rfl (lt_of_ble rfl)
  apply Wk.ld (i := 3) 1 false ty31 rfl rfl (by conv => lhs; whnf) (lt_of_ble rfl)
  apply Wk.dat cf1 Try.func50 rfl rfl rfl rfl rfl (lt_of_ble rfl)
  apply Wk.un rfl (fun w => by simp [go_sem] <;> rfl) (lt_of_ble rfl)
  refine Wk.nil ?_
  refine AW.cond rfl (fun hc => by cases hc) (fun _ => AW.skip (thenA_normal ?_))
  refine AW.seq (AW.seq ?_)
  apply AW.list
  apply Wk.fad 2 0 false fd44_2 rfl (lt_of_ble rfl)
  apply Wk.ld (i := 2) 1 false ty3 rfl rfl (by conv => lhs; whnf) (lt_of_ble rfl)
  apply Wk.fad 2 0 false fd44_2 rfl (lt_of_ble rfl)
  apply Wk.ld (i := 3) 1 false ty3 rfl rfl (by conv => lhs; whnf) (lt_of_ble rfl)
  apply Wk.bin rfl rfl (r := .bool false) (fun w => by simp [go_sem]) (lt_of_ble rfl)
  refine Wk.nil ?_
  refine AW.cond rfl (fun hc => by cases hc) (fun _ => AW.skip (thenA_normal ?_))
  refine AW.seq (AW.seq ?_)
  apply AW.list
  apply Wk.fad 3 0 false fd44_3 rfl (lt_of_ble rfl)
  apply Wk.ld (i := 2) 1 false ty3 rfl rfl (by conv => lhs; whnf) (lt_of_ble rfl)
  apply Wk.fad 3 0 false fd44_3 rfl (lt_of_ble rfl)
  apply Wk.ld (i := 3) 1 false ty3 rfl rfl (by conv => lhs; whnf) (lt_of_ble rfl)
  apply Wk.bin rfl rfl (r := .bool false) (fun w => by simp [go_sem]) (lt_of_ble rfl)
  refine Wk.nil ?_
  refine AW.cond rfl (fun hc => by cases hc) (fun _ => AW.skip (thenA_normal ?_))
  refine AW.seq (AW.seq ?_)
  apply AW.list
  apply Wk.fad 4 0 false fd44_4 rfl (lt_of_ble rfl)
  apply Wk.ld (i := 2) 1 false ty4 rfl rfl (by conv => lhs; whnf) (lt_of_ble rfl)
  apply Wk.fad 4 0 false fd44_4 rfl (lt_of_ble rfl)
  apply Wk.ld (i := 3) 1 false ty4 rfl rfl (by conv => lhs; whnf) (lt_of_ble rfl)
  apply Wk.bin rfl rfl (r := .bool false) (fun w => by simp [go_sem]) (lt_of_ble rfl)
  refine Wk.nil ?_
  refine AW.cond rfl (fun hc => by cases hc) (fun _ => AW.skip (thenA_normal ?_))
  refine AW.seq ?_
  apply AW.list
  apply Wk.asg (by conv => lhs; whnf) (lt_of_ble rfl)
  refine Wk.nil (AW.ret ?_)
  exact RetQ.ret [] (.cons rfl .nil) ⟨rfl, rfl⟩ none_kept
set_option maxHeartbeats 4000000 in
set_option maxRecDepth 100000 in
theorem szCrdTx_ok (ds : List D) (h : Sh.ok (.struct [.int, (.slice (.struct [.int, .int, (.slice .byte)])), .int, .int, .bool]) ds) (l : Nat) (hl : l ≤ 1048576) : DataOk Try.prog 18 [.agg (ds.map .d), .d (.v (.int .i64 (l : Int)))] (.d (.v (.int .i64 (leftI l (tots ds))))) := by
  have qf_0 := ok_rec h
  clear h
  obtain ⟨_, _, rfl, hf0, qf_1⟩ := oks_cons qf_0
  clear qf_0
  obtain ⟨nf0, inf0, rfl⟩ := ok_num hf0
  obtain ⟨_, _, rfl, hf1, qf_2⟩ := oks_cons qf_1
  clear qf_1
  obtain ⟨esf1, rfl, hef1⟩ := ok_row hf1
  obtain ⟨_, _, rfl, hf2, qf_3⟩ := oks_cons qf_2
  clear qf_2
  obtain ⟨nf2, inf2, rfl⟩ := ok_num hf2
  obtain ⟨_, _, rfl, hf3, qf_4⟩ := oks_cons qf_3
  clear qf_3
  obtain ⟨nf3, inf3, rfl⟩ := ok_num hf3
  obtain ⟨_, _, rfl, hf4, qf_5⟩ := oks_cons qf_4
  clear qf_4
  obtain ⟨bf4, rfl⟩ := ok_truth hf4
  obtain rfl := oks_nil qf_5
  have cf1 := fun (l : Nat) (hl : l ≤ 1048576) => szSegPartS_ok esf1 hef1 l hl
  obtain ⟨tf1, htf1⟩ : ∃ t, (D.row esf1).tot = t := ⟨_, rfl⟩
  rw [htf1] at cf1
  have hsum : tots ([D.v (.int .i64 nf0)] ++ ([D.row esf1] ++ ([D.v (.int .i64 nf2)] ++ ([D.v (.int .i64 nf3)] ++ ([D.v (.bool bf4)] ++ []))))) = tf1 := by
    simp only [tots_append, tots, htf1, D.tot.eq_1, Nat.add_zero, Nat.zero_add]
    try omega
  rw [hsum]
  clear hsum
  simp only [List.cons_append, List.nil_append, List.append_nil, List.map_cons, List.map_nil]
  refine Spec.intro (n := 12) (rv := [.tmp 4]) Try.func18 rfl rfl rfl (by simp) fun C hN hX => ?_
  refine AW.seq ?_
  apply AW.list
  apply Wk.bx 2 rfl rfl (lt_of_ble rfl)
  apply Wk.asg (by conv => lhs; whnf) (lt_of_ble rfl)
  refine Wk.nil ?_
  have df1 := cf1 l (by omega)
  refine AW.seq ?_
  apply AW.list
  apply Wk.fad 1 0 false fd40_1 rfl (lt_of_ble rfl)
  apply Wk.ld (i := 2) 1 false ty24 rfl rfl (by conv => lhs; whnf) (lt_of_ble rfl)
  apply Wk.mv (by conv => lhs; whnf) (lt_of_ble rfl)
  apply Wk.dat df1 Try.func39 rfl rfl rfl rfl rfl (lt_of_ble rfl)
  apply Wk.asg (by conv => lhs; whnf) (lt_of_ble rfl)
  refine Wk.nil ?_
  refine AW.seq (AW.seq ?_)
  by_cases g0 : tf1 ≤ l
  case neg =>
    rw [show leftI l tf1 = -1 from if_neg g0]
    apply AW.list
    apply Wk.mv (by conv => lhs; whnf) (lt_of_ble rfl)
    apply Wk.bin rfl rfl (r := .bool true) (fun w => by simp [go_sem]) (lt_of_ble rfl)
    refine Wk.nil ?_
    refine AW.cond rfl (fun _ => ?_) (fun hc => by cases hc)
    refine AW.seq ?_
    apply AW.list
    apply Wk.asg (by conv => lhs; whnf) (lt_of_ble rfl)
    refine Wk.nil (AW.ret ?_)
    repeat (first | refine thenA_ret ?_ | refine inBlockA_ret ?_)
    exact RetQ.ret [] (.cons rfl .nil) ⟨rfl, rfl⟩ none_kept
  rw [show leftI l tf1 = (l : Int) - (tf1 : Int) from if_pos g0]
  apply AW.list
  apply Wk.mv (by conv => lhs; whnf) (lt_of_ble rfl)
  apply Wk.bin rfl rfl (r := .bool false) (fun w => by simp [go_sem] <;> omega) (lt_of_ble rfl)
  refine Wk.nil ?_
  refine AW.cond rfl (fun hc => by cases hc) (fun _ => AW.skip (thenA_normal ?_))
  refine AW.seq ?_
  apply AW.list
  apply Wk.mv (by conv => lhs; whnf) (lt_of_ble rfl)
  apply Wk.asg (by conv => lhs; whnf) (lt_of_ble rfl)
  refine Wk.nil (AW.ret ?_)
  exact RetQ.ret [] (.cons rfl .nil) ⟨rfl, rfl⟩ none_kept
end Go.Proofs.Ytdjadeegjbhihaa
