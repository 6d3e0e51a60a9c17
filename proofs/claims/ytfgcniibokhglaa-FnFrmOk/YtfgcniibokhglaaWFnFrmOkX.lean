/- The law FnFrmOk (promise 15: a frame has just what its kind has) returns true at every code. -/
import Derived.Test.YtfgcniibokhglaaMa
import Derived.Test.YtfgcniibokhglaaMb
import Derived.Test.YtfgcniibokhglaaMc
import Derived.Test.YtfgcniibokhglaaMd
import Derived.RowKit3
namespace Go.Proofs.Ytfgcniibokhglaa
open Go Go.RowKit
set_option maxHeartbeats 8000000 in
set_option maxRecDepth 100000 in
theorem lawFrmOk_ok (cs : List (Fin 256)) : DataOk Try.prog 3 [.d (bytesD (cs.map (·.val)))] (.d (.v (.bool true))) := by
  refine Spec.intro (n := 60) (rv := [.tmp 2]) Try.func3 rfl rfl rfl (by simp) fun C hN hX => ?_
  refine AW.seq ?_
  apply AW.list
  apply Wk.asg (by conv => lhs; whnf) (lt_of_ble rfl)
  refine Wk.nil ?_
  refine AW.seq (AW.seq ?_)
  apply AW.list
  apply Wk.mv (by conv => lhs; whnf) (lt_of_ble rfl)
  apply Wk.len un22 rfl (lt_of_ble rfl)
  apply Wk.bin rfl rfl (fun w => by simp [go_sem] <;> rfl) (lt_of_ble rfl)
  refine Wk.nil ?_
  refine AW.cond rfl (fun hc => ?_) (fun hc => ?_)
  · refine AW.seq ?_
    apply AW.list
    apply Wk.asg (by conv => lhs; whnf) (lt_of_ble rfl)
    refine Wk.nil (AW.ret ?_)
    refine thenA_ret ?_
    exact RetQ.ret [] (.cons rfl .nil) ⟨rfl, rfl⟩ none_kept
  refine AW.skip (thenA_normal ?_)
  refine AW.seq ?_
  apply AW.list
  apply Wk.mv (by conv => lhs; whnf) (lt_of_ble rfl)
  apply Wk.datw (drawFrmOk_ok cs) Try.func5 rfl rfl rfl rfl (lt_of_ble rfl)
  rintro _ ⟨k, s, c, p, f, y, g, l, bs, rfl, hk, hs, hc2, hy, hg, hl, hbl⟩
  apply Wk.alc 3 [.int .i64 0, .int .i64 0, .int .i64 0, .bool false, .bool false, .int .i64 0, .int .i64 0, .int .i64 0, .slice none 0 0] ze24 rfl rfl (lt_of_ble rfl)
  apply Wk.sto (i := 3) 9 true ty24 rfl rfl rfl rfl (Nat.le_of_ble_eq_true rfl) (lt_of_ble rfl)
  refine Wk.nil ?_
  have hb1 : bs.length ≤ 2000000 := by omega
  have h9 := ifrmb k s c p f y g l (List.replicate 9 (0 : Fin 256)) (by simp) (frm_nine k s c p f y g l)
  cases hb : frmB k s c p f y g l bs.length
  · refine AW.seq ?_
    apply AW.list
    apply Wk.ld (i := 3) 9 true ty24 rfl rfl (by conv => lhs; whnf) (lt_of_ble rfl)
    apply Wk.dat (ifrmb k s c p f y g l bs hb1 hb) Try.func6 rfl rfl rfl rfl rfl (lt_of_ble rfl)
    apply Wk.asg (by conv => lhs; whnf) (lt_of_ble rfl)
    refine Wk.nil ?_
    refine AW.seq (AW.seq ?_)
    apply AW.list
    apply Wk.mv (by conv => lhs; whnf) (lt_of_ble rfl)
    apply Wk.ld (i := 3) 9 true ty24 rfl rfl (by conv => lhs; whnf) (lt_of_ble rfl)
    apply Wk.dat (sfrmb k s c p f y g l bs hb) Try.func7 rfl rfl rfl rfl rfl (lt_of_ble rfl)
    apply Wk.bin rfl rfl (r := .bool false) (fun w => by simp [go_sem]) (lt_of_ble rfl)
    refine Wk.nil ?_
    refine AW.cond rfl (fun hc => by cases hc) (fun _ => AW.skip (thenA_normal ?_))
    refine AW.seq ?_
    apply AW.list
    apply Wk.ld (i := 3) 9 true ty24 rfl rfl (by conv => lhs; whnf) (lt_of_ble rfl)
    apply Wk.alc 5 [.int .i64 0, .int .i64 0, .int .i64 0, .bool false, .bool false, .int .i64 0, .int .i64 0, .int .i64 0, .slice none 0 0] ze24 rfl rfl (lt_of_ble rfl)
    apply Wk.sto (i := 5) 9 true ty24 rfl rfl rfl rfl (Nat.le_of_ble_eq_true rfl) (lt_of_ble rfl)
    refine Wk.nil ?_
    refine AW.seq ?_
    apply AW.list
    apply Wk.mk8 18 9 rfl rfl (by decide) (lt_of_ble rfl)
    apply Wk.fad 8 0 false fd24_8 rfl (lt_of_ble rfl)
    apply Wk.sto (i := 5) 1 false ty22 rfl rfl rfl rfl (Nat.le_of_ble_eq_true rfl) (lt_of_ble rfl)
    refine Wk.nil ?_
    refine AW.thawc (j := 5) (c := 8) (i := 18) (cellsD (List.replicate 9 (0 : Fin 256))) rfl rfl (by rfl) (asData_zero8 9) hX.none ?_
    refine AW.seq (AW.seq ?_)
    apply AW.list
    apply Wk.ld (i := 5) 9 true ty24 rfl rfl (by conv => lhs; whnf) (lt_of_ble rfl)
    apply Wk.dat h9 Try.func6 rfl rfl rfl rfl rfl (lt_of_ble rfl)
    refine Wk.nil ?_
    refine AW.cond rfl (fun hc => by cases hc) (fun _ => AW.skip (thenA_normal ?_))
    refine AW.seq (AW.seq ?_)
    apply AW.list
    apply Wk.mv (by conv => lhs; whnf) (lt_of_ble rfl)
    apply Wk.un rfl (fun w => by simp [go_sem] <;> rfl) (lt_of_ble rfl)
    refine Wk.nil ?_
    refine AW.cond rfl (fun _ => ?_) (fun hc => by cases hc)
    refine AW.seq ?_
    apply AW.list
    apply Wk.dat liok_ok Try.func8 rfl rfl rfl rfl rfl (lt_of_ble rfl)
    apply Wk.asg (by conv => lhs; whnf) (lt_of_ble rfl)
    refine Wk.nil (AW.ret ?_)
    refine thenA_ret ?_
    exact RetQ.ret [] (.cons rfl .nil) ⟨rfl, rfl⟩ none_kept
  · refine AW.seq ?_
    apply AW.list
    apply Wk.ld (i := 3) 9 true ty24 rfl rfl (by conv => lhs; whnf) (lt_of_ble rfl)
    apply Wk.dat (ifrmb k s c p f y g l bs hb1 hb) Try.func6 rfl rfl rfl rfl rfl (lt_of_ble rfl)
    apply Wk.asg (by conv => lhs; whnf) (lt_of_ble rfl)
    refine Wk.nil ?_
    refine AW.seq (AW.seq ?_)
    apply AW.list
    apply Wk.mv (by conv => lhs; whnf) (lt_of_ble rfl)
    apply Wk.ld (i := 3) 9 true ty24 rfl rfl (by conv => lhs; whnf) (lt_of_ble rfl)
    apply Wk.dat (sfrmb k s c p f y g l bs hb) Try.func7 rfl rfl rfl rfl rfl (lt_of_ble rfl)
    apply Wk.bin rfl rfl (r := .bool false) (fun w => by simp [go_sem]) (lt_of_ble rfl)
    refine Wk.nil ?_
    refine AW.cond rfl (fun hc => by cases hc) (fun _ => AW.skip (thenA_normal ?_))
    refine AW.seq ?_
    apply AW.list
    apply Wk.ld (i := 3) 9 true ty24 rfl rfl (by conv => lhs; whnf) (lt_of_ble rfl)
    apply Wk.alc 5 [.int .i64 0, .int .i64 0, .int .i64 0, .bool false, .bool false, .int .i64 0, .int .i64 0, .int .i64 0, .slice none 0 0] ze24 rfl rfl (lt_of_ble rfl)
    apply Wk.sto (i := 5) 9 true ty24 rfl rfl rfl rfl (Nat.le_of_ble_eq_true rfl) (lt_of_ble rfl)
    refine Wk.nil ?_
    refine AW.seq ?_
    apply AW.list
    apply Wk.mk8 18 9 rfl rfl (by decide) (lt_of_ble rfl)
    apply Wk.fad 8 0 false fd24_8 rfl (lt_of_ble rfl)
    apply Wk.sto (i := 5) 1 false ty22 rfl rfl rfl rfl (Nat.le_of_ble_eq_true rfl) (lt_of_ble rfl)
    refine Wk.nil ?_
    refine AW.thawc (j := 5) (c := 8) (i := 18) (cellsD (List.replicate 9 (0 : Fin 256))) rfl rfl (by rfl) (asData_zero8 9) hX.none ?_
    refine AW.seq (AW.seq ?_)
    apply AW.list
    apply Wk.ld (i := 5) 9 true ty24 rfl rfl (by conv => lhs; whnf) (lt_of_ble rfl)
    apply Wk.dat h9 Try.func6 rfl rfl rfl rfl rfl (lt_of_ble rfl)
    refine Wk.nil ?_
    refine AW.cond rfl (fun hc => by cases hc) (fun _ => AW.skip (thenA_normal ?_))
    refine AW.seq (AW.seq ?_)
    apply AW.list
    apply Wk.mv (by conv => lhs; whnf) (lt_of_ble rfl)
    apply Wk.un rfl (fun w => by simp [go_sem] <;> rfl) (lt_of_ble rfl)
    refine Wk.nil ?_
    refine AW.cond rfl (fun hc => by cases hc) (fun _ => AW.skip (thenA_normal ?_))
    rcases frm_kinds hb with ⟨k1, q1, q2, rfl, q3, _⟩ | ⟨k1, q1, q2, q4, q3, _⟩ | ⟨k1, q1, q2, rfl, q4, q3, _⟩ | ⟨k1, q1, q2, rfl, q4, q3, _⟩
    · refine AW.seq (AW.seq ?_)
      apply AW.list
      apply Wk.fad 0 0 false fd24_0 rfl (lt_of_ble rfl)
      apply Wk.ld (i := 3) 1 false ty3 rfl rfl (by conv => lhs; whnf) (lt_of_ble rfl)
      apply Wk.bin rfl rfl (r := .bool false) (fun w => by simp [go_sem] <;> omega) (lt_of_ble rfl)
      apply Wk.mv (by conv => lhs; whnf) (lt_of_ble rfl)
      apply Wk.goff 28 (ok_faddr fd24_1) rfl rfl (by simp)
      apply Wk.goff 28 (ok_load 3 ty3) rfl rfl (by simp)
      apply Wk.goff 28 (ok_faddr fd24_2) rfl rfl (by simp)
      apply Wk.goff 28 (ok_load 3 ty3) rfl rfl (by simp)
      apply Wk.goff 28 (ok_bin _ _ _ _ _) rfl rfl (by simp)
      apply Wk.goff 28 (ok_faddr fd24_5) rfl rfl (by simp)
      apply Wk.goff 28 (ok_load 3 ty3) rfl rfl (by simp)
      apply Wk.goff 28 (ok_bin _ _ _ _ _) rfl rfl (by simp)
      apply Wk.goff 28 (ok_bin _ _ _ _ _) rfl rfl (by simp)
      apply Wk.pckF rfl (by conv => lhs; whnf) (lt_of_ble rfl)
      apply Wk.mv (by conv => lhs; whnf) (lt_of_ble rfl)
      apply Wk.gon 39 rfl rfl
      apply Wk.fad 3 0 false fd24_3 rfl (lt_of_ble rfl)
      apply Wk.gon 39 rfl rfl
      apply Wk.ld (i := 3) 1 false ty4 rfl rfl (by conv => lhs; whnf) (lt_of_ble rfl)
      apply Wk.gon 39 rfl rfl
      apply Wk.mv (by conv => lhs; whnf) (lt_of_ble rfl)
      apply Wk.goff 42 (ok_faddr fd24_4) rfl rfl (by simp)
      apply Wk.goff 42 (ok_load 3 ty4) rfl rfl (by simp)
      apply Wk.goff 42 (ok_move _) rfl rfl (by simp)
      apply Wk.goffu 45 (ok_faddr fd24_0) rfl rfl
      apply Wk.goffu 45 (ok_load 3 ty3) rfl rfl
      apply Wk.goffu 45 (ok_bin _ _ _ _ _) rfl rfl
      apply Wk.goff 42 (ok_pick _ _ _) rfl rfl (by simp)
      apply Wk.gon 39 rfl rfl
      apply Wk.pckF rfl (by conv => lhs; whnf) (lt_of_ble rfl)
      apply Wk.pckF rfl (by conv => lhs; whnf) (lt_of_ble rfl)
      refine Wk.nil ?_
      refine AW.cond rfl (fun hc => by cases hc) (fun _ => AW.skip (thenA_normal ?_))
      refine AW.seq ?_
      apply AW.list
      apply Wk.fad 0 0 false fd24_0 rfl (lt_of_ble rfl)
      apply Wk.ld (i := 3) 1 false ty3 rfl rfl (by conv => lhs; whnf) (lt_of_ble rfl)
      apply Wk.bin rfl rfl (r := .bool true) (fun w => by simp [go_sem] <;> omega) (lt_of_ble rfl)
      apply Wk.mv (by conv => lhs; whnf) (lt_of_ble rfl)
      apply Wk.gon 55 rfl rfl
      apply Wk.fad 0 0 false fd24_0 rfl (lt_of_ble rfl)
      apply Wk.gon 55 rfl rfl
      apply Wk.ld (i := 3) 1 false ty3 rfl rfl (by conv => lhs; whnf) (lt_of_ble rfl)
      apply Wk.gon 55 rfl rfl
      apply Wk.bin rfl rfl (r := .bool true) (fun w => by simp [go_sem] <;> omega) (lt_of_ble rfl)
      apply Wk.pckT rfl (by conv => lhs; whnf) (lt_of_ble rfl)
      apply Wk.asg (by conv => lhs; whnf) (lt_of_ble rfl)
      refine Wk.nil (AW.ret ?_)
      exact RetQ.ret [] (.cons rfl .nil) ⟨rfl, rfl⟩ none_kept
    · cases p
      · refine AW.seq (AW.seq ?_)
        apply AW.list
        apply Wk.fad 0 0 false fd24_0 rfl (lt_of_ble rfl)
        apply Wk.ld (i := 3) 1 false ty3 rfl rfl (by conv => lhs; whnf) (lt_of_ble rfl)
        apply Wk.bin rfl rfl (r := .bool false) (fun w => by simp [go_sem] <;> omega) (lt_of_ble rfl)
        apply Wk.mv (by conv => lhs; whnf) (lt_of_ble rfl)
        apply Wk.goff 28 (ok_faddr fd24_1) rfl rfl (by simp)
        apply Wk.goff 28 (ok_load 3 ty3) rfl rfl (by simp)
        apply Wk.goff 28 (ok_faddr fd24_2) rfl rfl (by simp)
        apply Wk.goff 28 (ok_load 3 ty3) rfl rfl (by simp)
        apply Wk.goff 28 (ok_bin _ _ _ _ _) rfl rfl (by simp)
        apply Wk.goff 28 (ok_faddr fd24_5) rfl rfl (by simp)
        apply Wk.goff 28 (ok_load 3 ty3) rfl rfl (by simp)
        apply Wk.goff 28 (ok_bin _ _ _ _ _) rfl rfl (by simp)
        apply Wk.goff 28 (ok_bin _ _ _ _ _) rfl rfl (by simp)
        apply Wk.pckF rfl (by conv => lhs; whnf) (lt_of_ble rfl)
        apply Wk.mv (by conv => lhs; whnf) (lt_of_ble rfl)
        apply Wk.gon 39 rfl rfl
        apply Wk.fad 3 0 false fd24_3 rfl (lt_of_ble rfl)
        apply Wk.gon 39 rfl rfl
        apply Wk.ld (i := 3) 1 false ty4 rfl rfl (by conv => lhs; whnf) (lt_of_ble rfl)
        apply Wk.gon 39 rfl rfl
        apply Wk.mv (by conv => lhs; whnf) (lt_of_ble rfl)
        apply Wk.goff 42 (ok_faddr fd24_4) rfl rfl (by simp)
        apply Wk.goff 42 (ok_load 3 ty4) rfl rfl (by simp)
        apply Wk.goff 42 (ok_move _) rfl rfl (by simp)
        apply Wk.goffu 45 (ok_faddr fd24_0) rfl rfl
        apply Wk.goffu 45 (ok_load 3 ty3) rfl rfl
        apply Wk.goffu 45 (ok_bin _ _ _ _ _) rfl rfl
        apply Wk.goff 42 (ok_pick _ _ _) rfl rfl (by simp)
        apply Wk.gon 39 rfl rfl
        apply Wk.pckF rfl (by conv => lhs; whnf) (lt_of_ble rfl)
        apply Wk.pckF rfl (by conv => lhs; whnf) (lt_of_ble rfl)
        refine Wk.nil ?_
        refine AW.cond rfl (fun hc => by cases hc) (fun _ => AW.skip (thenA_normal ?_))
        refine AW.seq ?_
        apply AW.list
        apply Wk.fad 0 0 false fd24_0 rfl (lt_of_ble rfl)
        apply Wk.ld (i := 3) 1 false ty3 rfl rfl (by conv => lhs; whnf) (lt_of_ble rfl)
        apply Wk.bin rfl rfl (r := .bool true) (fun w => by simp [go_sem] <;> omega) (lt_of_ble rfl)
        apply Wk.mv (by conv => lhs; whnf) (lt_of_ble rfl)
        apply Wk.gon 55 rfl rfl
        apply Wk.fad 0 0 false fd24_0 rfl (lt_of_ble rfl)
        apply Wk.gon 55 rfl rfl
        apply Wk.ld (i := 3) 1 false ty3 rfl rfl (by conv => lhs; whnf) (lt_of_ble rfl)
        apply Wk.gon 55 rfl rfl
        apply Wk.bin rfl rfl (r := .bool true) (fun w => by simp [go_sem] <;> omega) (lt_of_ble rfl)
        apply Wk.pckT rfl (by conv => lhs; whnf) (lt_of_ble rfl)
        apply Wk.asg (by conv => lhs; whnf) (lt_of_ble rfl)
        refine Wk.nil (AW.ret ?_)
        exact RetQ.ret [] (.cons rfl .nil) ⟨rfl, rfl⟩ none_kept
      · obtain rfl : f = false := by simpa using q4
        refine AW.seq (AW.seq ?_)
        apply AW.list
        apply Wk.fad 0 0 false fd24_0 rfl (lt_of_ble rfl)
        apply Wk.ld (i := 3) 1 false ty3 rfl rfl (by conv => lhs; whnf) (lt_of_ble rfl)
        apply Wk.bin rfl rfl (r := .bool false) (fun w => by simp [go_sem] <;> omega) (lt_of_ble rfl)
        apply Wk.mv (by conv => lhs; whnf) (lt_of_ble rfl)
        apply Wk.goff 28 (ok_faddr fd24_1) rfl rfl (by simp)
        apply Wk.goff 28 (ok_load 3 ty3) rfl rfl (by simp)
        apply Wk.goff 28 (ok_faddr fd24_2) rfl rfl (by simp)
        apply Wk.goff 28 (ok_load 3 ty3) rfl rfl (by simp)
        apply Wk.goff 28 (ok_bin _ _ _ _ _) rfl rfl (by simp)
        apply Wk.goff 28 (ok_faddr fd24_5) rfl rfl (by simp)
        apply Wk.goff 28 (ok_load 3 ty3) rfl rfl (by simp)
        apply Wk.goff 28 (ok_bin _ _ _ _ _) rfl rfl (by simp)
        apply Wk.goff 28 (ok_bin _ _ _ _ _) rfl rfl (by simp)
        apply Wk.pckF rfl (by conv => lhs; whnf) (lt_of_ble rfl)
        apply Wk.mv (by conv => lhs; whnf) (lt_of_ble rfl)
        apply Wk.gon 39 rfl rfl
        apply Wk.fad 3 0 false fd24_3 rfl (lt_of_ble rfl)
        apply Wk.gon 39 rfl rfl
        apply Wk.ld (i := 3) 1 false ty4 rfl rfl (by conv => lhs; whnf) (lt_of_ble rfl)
        apply Wk.gon 39 rfl rfl
        apply Wk.mv (by conv => lhs; whnf) (lt_of_ble rfl)
        apply Wk.gon 42 rfl rfl
        apply Wk.fad 4 0 false fd24_4 rfl (lt_of_ble rfl)
        apply Wk.gon 42 rfl rfl
        apply Wk.ld (i := 3) 1 false ty4 rfl rfl (by conv => lhs; whnf) (lt_of_ble rfl)
        apply Wk.gon 42 rfl rfl
        apply Wk.mv (by conv => lhs; whnf) (lt_of_ble rfl)
        apply Wk.gon 45 rfl rfl
        apply Wk.fad 0 0 false fd24_0 rfl (lt_of_ble rfl)
        apply Wk.gon 45 rfl rfl
        apply Wk.ld (i := 3) 1 false ty3 rfl rfl (by conv => lhs; whnf) (lt_of_ble rfl)
        apply Wk.gon 45 rfl rfl
        apply Wk.bin rfl rfl (r := .bool false) (fun w => by simp [go_sem] <;> omega) (lt_of_ble rfl)
        apply Wk.gon 42 rfl rfl
        apply Wk.pckF rfl (by conv => lhs; whnf) (lt_of_ble rfl)
        apply Wk.gon 39 rfl rfl
        apply Wk.pckT rfl (by conv => lhs; whnf) (lt_of_ble rfl)
        apply Wk.pckF rfl (by conv => lhs; whnf) (lt_of_ble rfl)
        refine Wk.nil ?_
        refine AW.cond rfl (fun hc => by cases hc) (fun _ => AW.skip (thenA_normal ?_))
        refine AW.seq ?_
        apply AW.list
        apply Wk.fad 0 0 false fd24_0 rfl (lt_of_ble rfl)
        apply Wk.ld (i := 3) 1 false ty3 rfl rfl (by conv => lhs; whnf) (lt_of_ble rfl)
        apply Wk.bin rfl rfl (r := .bool true) (fun w => by simp [go_sem] <;> omega) (lt_of_ble rfl)
        apply Wk.mv (by conv => lhs; whnf) (lt_of_ble rfl)
        apply Wk.gon 55 rfl rfl
        apply Wk.fad 0 0 false fd24_0 rfl (lt_of_ble rfl)
        apply Wk.gon 55 rfl rfl
        apply Wk.ld (i := 3) 1 false ty3 rfl rfl (by conv => lhs; whnf) (lt_of_ble rfl)
        apply Wk.gon 55 rfl rfl
        apply Wk.bin rfl rfl (r := .bool true) (fun w => by simp [go_sem] <;> omega) (lt_of_ble rfl)
        apply Wk.pckT rfl (by conv => lhs; whnf) (lt_of_ble rfl)
        apply Wk.asg (by conv => lhs; whnf) (lt_of_ble rfl)
        refine Wk.nil (AW.ret ?_)
        exact RetQ.ret [] (.cons rfl .nil) ⟨rfl, rfl⟩ none_kept
    · refine AW.seq (AW.seq ?_)
      apply AW.list
      apply Wk.fad 0 0 false fd24_0 rfl (lt_of_ble rfl)
      apply Wk.ld (i := 3) 1 false ty3 rfl rfl (by conv => lhs; whnf) (lt_of_ble rfl)
      apply Wk.bin rfl rfl (r := .bool true) (fun w => by simp [go_sem] <;> omega) (lt_of_ble rfl)
      apply Wk.mv (by conv => lhs; whnf) (lt_of_ble rfl)
      apply Wk.gon 28 rfl rfl
      apply Wk.fad 1 0 false fd24_1 rfl (lt_of_ble rfl)
      apply Wk.gon 28 rfl rfl
      apply Wk.ld (i := 3) 1 false ty3 rfl rfl (by conv => lhs; whnf) (lt_of_ble rfl)
      apply Wk.gon 28 rfl rfl
      apply Wk.fad 2 0 false fd24_2 rfl (lt_of_ble rfl)
      apply Wk.gon 28 rfl rfl
      apply Wk.ld (i := 3) 1 false ty3 rfl rfl (by conv => lhs; whnf) (lt_of_ble rfl)
      apply Wk.gon 28 rfl rfl
      apply Wk.addi rfl rfl (by omega) (lt_of_ble rfl)
      apply Wk.gon 28 rfl rfl
      apply Wk.fad 5 0 false fd24_5 rfl (lt_of_ble rfl)
      apply Wk.gon 28 rfl rfl
      apply Wk.ld (i := 3) 1 false ty3 rfl rfl (by conv => lhs; whnf) (lt_of_ble rfl)
      apply Wk.gon 28 rfl rfl
      apply Wk.addi rfl rfl (by omega) (lt_of_ble rfl)
      apply Wk.gon 28 rfl rfl
      apply Wk.bin rfl rfl (r := .bool false) (fun w => by simp [go_sem] <;> omega) (lt_of_ble rfl)
      apply Wk.pckT rfl (by conv => lhs; whnf) (lt_of_ble rfl)
      apply Wk.mv (by conv => lhs; whnf) (lt_of_ble rfl)
      apply Wk.gon 39 rfl rfl
      apply Wk.fad 3 0 false fd24_3 rfl (lt_of_ble rfl)
      apply Wk.gon 39 rfl rfl
      apply Wk.ld (i := 3) 1 false ty4 rfl rfl (by conv => lhs; whnf) (lt_of_ble rfl)
      apply Wk.gon 39 rfl rfl
      apply Wk.mv (by conv => lhs; whnf) (lt_of_ble rfl)
      apply Wk.goff 42 (ok_faddr fd24_4) rfl rfl (by simp)
      apply Wk.goff 42 (ok_load 3 ty4) rfl rfl (by simp)
      apply Wk.goff 42 (ok_move _) rfl rfl (by simp)
      apply Wk.goffu 45 (ok_faddr fd24_0) rfl rfl
      apply Wk.goffu 45 (ok_load 3 ty3) rfl rfl
      apply Wk.goffu 45 (ok_bin _ _ _ _ _) rfl rfl
      apply Wk.goff 42 (ok_pick _ _ _) rfl rfl (by simp)
      apply Wk.gon 39 rfl rfl
      apply Wk.pckF rfl (by conv => lhs; whnf) (lt_of_ble rfl)
      apply Wk.pckF rfl (by conv => lhs; whnf) (lt_of_ble rfl)
      refine Wk.nil ?_
      refine AW.cond rfl (fun hc => by cases hc) (fun _ => AW.skip (thenA_normal ?_))
      refine AW.seq ?_
      apply AW.list
      apply Wk.fad 0 0 false fd24_0 rfl (lt_of_ble rfl)
      apply Wk.ld (i := 3) 1 false ty3 rfl rfl (by conv => lhs; whnf) (lt_of_ble rfl)
      apply Wk.bin rfl rfl (r := .bool true) (fun w => by simp [go_sem] <;> omega) (lt_of_ble rfl)
      apply Wk.mv (by conv => lhs; whnf) (lt_of_ble rfl)
      apply Wk.gon 55 rfl rfl
      apply Wk.fad 0 0 false fd24_0 rfl (lt_of_ble rfl)
      apply Wk.gon 55 rfl rfl
      apply Wk.ld (i := 3) 1 false ty3 rfl rfl (by conv => lhs; whnf) (lt_of_ble rfl)
      apply Wk.gon 55 rfl rfl
      apply Wk.bin rfl rfl (r := .bool true) (fun w => by simp [go_sem] <;> omega) (lt_of_ble rfl)
      apply Wk.pckT rfl (by conv => lhs; whnf) (lt_of_ble rfl)
      apply Wk.asg (by conv => lhs; whnf) (lt_of_ble rfl)
      refine Wk.nil (AW.ret ?_)
      exact RetQ.ret [] (.cons rfl .nil) ⟨rfl, rfl⟩ none_kept
    · refine AW.seq (AW.seq ?_)
      apply AW.list
      apply Wk.fad 0 0 false fd24_0 rfl (lt_of_ble rfl)
      apply Wk.ld (i := 3) 1 false ty3 rfl rfl (by conv => lhs; whnf) (lt_of_ble rfl)
      apply Wk.bin rfl rfl (r := .bool true) (fun w => by simp [go_sem] <;> omega) (lt_of_ble rfl)
      apply Wk.mv (by conv => lhs; whnf) (lt_of_ble rfl)
      apply Wk.gon 28 rfl rfl
      apply Wk.fad 1 0 false fd24_1 rfl (lt_of_ble rfl)
      apply Wk.gon 28 rfl rfl
      apply Wk.ld (i := 3) 1 false ty3 rfl rfl (by conv => lhs; whnf) (lt_of_ble rfl)
      apply Wk.gon 28 rfl rfl
      apply Wk.fad 2 0 false fd24_2 rfl (lt_of_ble rfl)
      apply Wk.gon 28 rfl rfl
      apply Wk.ld (i := 3) 1 false ty3 rfl rfl (by conv => lhs; whnf) (lt_of_ble rfl)
      apply Wk.gon 28 rfl rfl
      apply Wk.addi rfl rfl (by omega) (lt_of_ble rfl)
      apply Wk.gon 28 rfl rfl
      apply Wk.fad 5 0 false fd24_5 rfl (lt_of_ble rfl)
      apply Wk.gon 28 rfl rfl
      apply Wk.ld (i := 3) 1 false ty3 rfl rfl (by conv => lhs; whnf) (lt_of_ble rfl)
      apply Wk.gon 28 rfl rfl
      apply Wk.addi rfl rfl (by omega) (lt_of_ble rfl)
      apply Wk.gon 28 rfl rfl
      apply Wk.bin rfl rfl (r := .bool false) (fun w => by simp [go_sem] <;> omega) (lt_of_ble rfl)
      apply Wk.pckT rfl (by conv => lhs; whnf) (lt_of_ble rfl)
      apply Wk.mv (by conv => lhs; whnf) (lt_of_ble rfl)
      apply Wk.gon 39 rfl rfl
      apply Wk.fad 3 0 false fd24_3 rfl (lt_of_ble rfl)
      apply Wk.gon 39 rfl rfl
      apply Wk.ld (i := 3) 1 false ty4 rfl rfl (by conv => lhs; whnf) (lt_of_ble rfl)
      apply Wk.gon 39 rfl rfl
      apply Wk.mv (by conv => lhs; whnf) (lt_of_ble rfl)
      apply Wk.goff 42 (ok_faddr fd24_4) rfl rfl (by simp)
      apply Wk.goff 42 (ok_load 3 ty4) rfl rfl (by simp)
      apply Wk.goff 42 (ok_move _) rfl rfl (by simp)
      apply Wk.goffu 45 (ok_faddr fd24_0) rfl rfl
      apply Wk.goffu 45 (ok_load 3 ty3) rfl rfl
      apply Wk.goffu 45 (ok_bin _ _ _ _ _) rfl rfl
      apply Wk.goff 42 (ok_pick _ _ _) rfl rfl (by simp)
      apply Wk.gon 39 rfl rfl
      apply Wk.pckF rfl (by conv => lhs; whnf) (lt_of_ble rfl)
      apply Wk.pckF rfl (by conv => lhs; whnf) (lt_of_ble rfl)
      refine Wk.nil ?_
      refine AW.cond rfl (fun hc => by cases hc) (fun _ => AW.skip (thenA_normal ?_))
      refine AW.seq ?_
      apply AW.list
      apply Wk.fad 0 0 false fd24_0 rfl (lt_of_ble rfl)
      apply Wk.ld (i := 3) 1 false ty3 rfl rfl (by conv => lhs; whnf) (lt_of_ble rfl)
      apply Wk.bin rfl rfl (r := .bool true) (fun w => by simp [go_sem] <;> omega) (lt_of_ble rfl)
      apply Wk.mv (by conv => lhs; whnf) (lt_of_ble rfl)
      apply Wk.gon 55 rfl rfl
      apply Wk.fad 0 0 false fd24_0 rfl (lt_of_ble rfl)
      apply Wk.gon 55 rfl rfl
      apply Wk.ld (i := 3) 1 false ty3 rfl rfl (by conv => lhs; whnf) (lt_of_ble rfl)
      apply Wk.gon 55 rfl rfl
      apply Wk.bin rfl rfl (r := .bool true) (fun w => by simp [go_sem] <;> omega) (lt_of_ble rfl)
      apply Wk.pckT rfl (by conv => lhs; whnf) (lt_of_ble rfl)
      apply Wk.asg (by conv => lhs; whnf) (lt_of_ble rfl)
      refine Wk.nil (AW.ret ?_)
      exact RetQ.ret [] (.cons rfl .nil) ⟨rfl, rfl⟩ none_kept
namespace fnFrmOk
set_option maxRecDepth 100000 in
theorem walk (a0 : Option Addr) (len0 cap0 : Nat) (z0 : List Int) (w : World) (w0 : IsRow .u8 w a0 len0 cap0 z0) :
    Calls Try.prog 3 #[.slice a0 len0 cap0] w fun e w' => e = .returned (.bool true) ∧ Below w.heap.size w w' := by
  by_cases hs0 : (1048576 : Int) < (len0 : Int)
  · go_enter Try.func3, Try.ntmps3
    go_wp2
    go_ret
    exact ⟨rfl, Below.refl _ _⟩
  obtain ⟨cz, hR0, _⟩ := w0.rd (by omega)
  obtain ⟨zs, rfl⟩ := byt_fin hR0.1
  exact (lawFrmOk_ok zs).run hR0
end fnFrmOk
end Go.Proofs.Ytfgcniibokhglaa
