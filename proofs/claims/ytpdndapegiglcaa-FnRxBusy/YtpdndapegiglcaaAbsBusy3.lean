/- Busy or not: the specification's answers; lists of frames compared; over what values read as. -/
import Derived.Test.YtpdndapegiglcaaAbsBusy2
namespace Go.Proofs.Ytpdndapegiglcaa
open Go
def rowE : A := .d (.row [])
set_option maxRecDepth 100000 in
theorem sbusy0 {e c m : Int} {bs : List (Fin 256)} (a u d v : Bool) (hb : rxB e c m bs.length = false) : DataOk Try.prog 6 [rxA e c m bs a u d, .d (.v (.bool v))] (.tup [rxN, rowE]) := by
  refine Spec.intro (n := 31) (rv := [.cell 4 26, .tmp 5]) Try.func6 rfl rfl rfl (by simp) fun C hN hX => ?_
  refine AW.seq ?_
  apply AW.list
  apply Wk.bx 2 rfl rfl (lt_of_ble rfl)
  apply Wk.alc 4 [.int .i64 0, .int .i64 0, .int .i64 0, .slice none 0 0, .bool false, .bool false, .bool false] ze26 rfl rfl (lt_of_ble rfl)
  apply Wk.asg (by conv => lhs; whnf) (lt_of_ble rfl)
  refine Wk.nil ?_
  refine AW.seq (AW.seq ?_)
  apply AW.list
  apply Wk.ld (i := 2) 7 true ty26 rfl rfl (by conv => lhs; whnf) (lt_of_ble rfl)
  apply Wk.dat (srxb2 a u d hb) Try.func9 rfl rfl rfl rfl rfl (lt_of_ble rfl)
  apply Wk.un rfl (fun w => by simp [go_sem] <;> rfl) (lt_of_ble rfl)
  refine Wk.nil ?_
  refine AW.cond rfl (fun _ => ?_) (fun hc => by cases hc)
  refine AW.seq ?_
  apply AW.list
  apply Wk.bld [.int .i64 0, .int .i64 0, .int .i64 0, .slice none 0 0, .bool false, .bool false, .bool false] [(0, 1), (1, 1), (2, 2), (4, 1), (5, 1), (6, 1)] bl26 rfl (by conv => lhs; whnf) (lt_of_ble rfl)
  apply Wk.lst 11 9 true [.int .i64 0, .int .i64 0, .int .i64 0, .bool false, .bool false, .int .i64 0, .int .i64 0, .int .i64 0, .slice none 0 0] un29 ty38 ze38 rfl rfl (by rfl) (by rfl) (by decide) (by decide) rfl rfl (all_len rfl) (lt_of_ble rfl)
  apply Wk.sto (i := 4) 7 true ty26 rfl rfl rfl rfl (Nat.le_of_ble_eq_true rfl) (lt_of_ble rfl)
  apply Wk.asg (by conv => lhs; whnf) (lt_of_ble rfl)
  refine Wk.nil ?_
  refine thenA_normal ?_
  refine AW.thaw (t := 5) (i := 11) [] rfl rfl rfl hX.none ?_
  refine AW.ret (thenA_ret ?_)
  exact RetQ.ret [] (.cons ⟨4, 0, _, _, _, rfl, rfl, ty26, rfl⟩ (.cons rfl .nil)) ⟨rfl, rfl⟩ none_kept
set_option maxRecDepth 100000 in
theorem sbusy1 {e c m : Int} {bs : List (Fin 256)} (a u d v : Bool) (hl : bs.length ≤ 1000) (hb : rxB e c m bs.length = true) (h : d = true ∨ u = v) : DataOk Try.prog 6 [rxA e c m bs a u d, .d (.v (.bool v))] (.tup [rxA e c m bs a u d, rowE]) := by
  refine Spec.intro (n := 31) (rv := [.cell 4 26, .tmp 5]) Try.func6 rfl rfl rfl (by simp) fun C hN hX => ?_
  refine AW.seq ?_
  apply AW.list
  apply Wk.bx 2 rfl rfl (lt_of_ble rfl)
  apply Wk.alc 4 [.int .i64 0, .int .i64 0, .int .i64 0, .slice none 0 0, .bool false, .bool false, .bool false] ze26 rfl rfl (lt_of_ble rfl)
  apply Wk.asg (by conv => lhs; whnf) (lt_of_ble rfl)
  refine Wk.nil ?_
  refine AW.seq (AW.seq ?_)
  apply AW.list
  apply Wk.ld (i := 2) 7 true ty26 rfl rfl (by conv => lhs; whnf) (lt_of_ble rfl)
  apply Wk.dat (srxb2 a u d hb) Try.func9 rfl rfl rfl rfl rfl (lt_of_ble rfl)
  apply Wk.un rfl (fun w => by simp [go_sem] <;> rfl) (lt_of_ble rfl)
  refine Wk.nil ?_
  refine AW.cond rfl (fun hc => by cases hc) (fun _ => AW.skip (thenA_normal ?_))
  refine AW.seq ?_
  apply AW.list
  apply Wk.ld (i := 2) 7 true ty26 rfl rfl (by conv => lhs; whnf) (lt_of_ble rfl)
  apply Wk.dat (copy7_ok e c m bs a u d hl) Try.func19 rfl rfl rfl rfl rfl (lt_of_ble rfl)
  apply Wk.alc 6 [.int .i64 0, .int .i64 0, .int .i64 0, .slice none 0 0, .bool false, .bool false, .bool false] ze26 rfl rfl (lt_of_ble rfl)
  apply Wk.sto (i := 6) 7 true ty26 rfl rfl rfl rfl (Nat.le_of_ble_eq_true rfl) (lt_of_ble rfl)
  refine Wk.nil ?_
  refine AW.seq (AW.seq ?_)
  by_cases huv : u = v
  · subst huv
    apply AW.list
    apply Wk.fad 5 0 false fd26_4 rfl (lt_of_ble rfl)
    apply Wk.ld (i := 2) 1 false ty4 rfl rfl (by conv => lhs; whnf) (lt_of_ble rfl)
    apply Wk.mv (by conv => lhs; whnf) (lt_of_ble rfl)
    apply Wk.bin rfl rfl (r := .bool true) (fun w => by simp [go_sem]) (lt_of_ble rfl)
    apply Wk.mv (by conv => lhs; whnf) (lt_of_ble rfl)
    apply Wk.goff 18 (ok_faddr fd26_5) rfl rfl (by decide)
    apply Wk.goff 18 (ok_load 2 ty4) rfl rfl (by decide)
    apply Wk.pckT rfl (by conv => lhs; whnf) (lt_of_ble rfl)
    refine Wk.nil ?_
    refine AW.cond rfl (fun _ => ?_) (fun hc => by cases hc)
    refine AW.seq ?_
    apply AW.list
    apply Wk.ld (i := 6) 7 true ty26 rfl rfl (by conv => lhs; whnf) (lt_of_ble rfl)
    apply Wk.lst 23 9 true [.int .i64 0, .int .i64 0, .int .i64 0, .bool false, .bool false, .int .i64 0, .int .i64 0, .int .i64 0, .slice none 0 0] un29 ty38 ze38 rfl rfl (by rfl) (by rfl) (by decide) (by decide) rfl rfl (all_len rfl) (lt_of_ble rfl)
    apply Wk.sto (i := 4) 7 true ty26 rfl rfl rfl rfl (Nat.le_of_ble_eq_true rfl) (lt_of_ble rfl)
    apply Wk.asg (by conv => lhs; whnf) (lt_of_ble rfl)
    refine Wk.nil ?_
    refine thenA_normal ?_
    refine AW.thaw (t := 5) (i := 23) [] rfl rfl rfl hX.none ?_
    refine AW.ret (thenA_ret ?_)
    exact RetQ.ret [] (.cons ⟨4, 0, _, _, _, rfl, rfl, ty26, rfl⟩ (.cons rfl .nil)) ⟨rfl, rfl⟩ none_kept
  · obtain rfl : d = true := h.resolve_right huv
    apply AW.list
    apply Wk.fad 5 0 false fd26_4 rfl (lt_of_ble rfl)
    apply Wk.ld (i := 2) 1 false ty4 rfl rfl (by conv => lhs; whnf) (lt_of_ble rfl)
    apply Wk.mv (by conv => lhs; whnf) (lt_of_ble rfl)
    apply Wk.bin rfl rfl (r := .bool false) (fun w => by simp [go_sem, huv]) (lt_of_ble rfl)
    apply Wk.mv (by conv => lhs; whnf) (lt_of_ble rfl)
    apply Wk.gon 18 rfl rfl
    apply Wk.fad 6 0 false fd26_5 rfl (lt_of_ble rfl)
    apply Wk.gon 18 rfl rfl
    apply Wk.ld (i := 2) 1 false ty4 rfl rfl (by conv => lhs; whnf) (lt_of_ble rfl)
    apply Wk.pckF rfl (by conv => lhs; whnf) (lt_of_ble rfl)
    refine Wk.nil ?_
    refine AW.cond rfl (fun _ => ?_) (fun hc => by cases hc)
    refine AW.seq ?_
    apply AW.list
    apply Wk.ld (i := 6) 7 true ty26 rfl rfl (by conv => lhs; whnf) (lt_of_ble rfl)
    apply Wk.lst 23 9 true [.int .i64 0, .int .i64 0, .int .i64 0, .bool false, .bool false, .int .i64 0, .int .i64 0, .int .i64 0, .slice none 0 0] un29 ty38 ze38 rfl rfl (by rfl) (by rfl) (by decide) (by decide) rfl rfl (all_len rfl) (lt_of_ble rfl)
    apply Wk.sto (i := 4) 7 true ty26 rfl rfl rfl rfl (Nat.le_of_ble_eq_true rfl) (lt_of_ble rfl)
    apply Wk.asg (by conv => lhs; whnf) (lt_of_ble rfl)
    refine Wk.nil ?_
    refine thenA_normal ?_
    refine AW.thaw (t := 5) (i := 23) [] rfl rfl rfl hX.none ?_
    refine AW.ret (thenA_ret ?_)
    exact RetQ.ret [] (.cons ⟨4, 0, _, _, _, rfl, rfl, ty26, rfl⟩ (.cons rfl .nil)) ⟨rfl, rfl⟩ none_kept
set_option maxRecDepth 100000 in
theorem sbusy2 {e c m : Int} {bs : List (Fin 256)} (a u v : Bool) (hl : bs.length ≤ 1000) (hb : rxB e c m bs.length = true) (huv : u ≠ v) : DataOk Try.prog 6 [rxA e c m bs a u false, .d (.v (.bool v))] (.tup [rxA e c m bs false v false, .d (.row [frmD 2 0 e false false (sayOf v) 0 0 []])]) := by
  refine Spec.intro (n := 31) (rv := [.cell 4 26, .tmp 5]) Try.func6 rfl rfl rfl (by simp) fun C hN hX => ?_
  refine AW.seq ?_
  apply AW.list
  apply Wk.bx 2 rfl rfl (lt_of_ble rfl)
  apply Wk.alc 4 [.int .i64 0, .int .i64 0, .int .i64 0, .slice none 0 0, .bool false, .bool false, .bool false] ze26 rfl rfl (lt_of_ble rfl)
  apply Wk.asg (by conv => lhs; whnf) (lt_of_ble rfl)
  refine Wk.nil ?_
  refine AW.seq (AW.seq ?_)
  apply AW.list
  apply Wk.ld (i := 2) 7 true ty26 rfl rfl (by conv => lhs; whnf) (lt_of_ble rfl)
  apply Wk.dat (srxb2 a u false hb) Try.func9 rfl rfl rfl rfl rfl (lt_of_ble rfl)
  apply Wk.un rfl (fun w => by simp [go_sem] <;> rfl) (lt_of_ble rfl)
  refine Wk.nil ?_
  refine AW.cond rfl (fun hc => by cases hc) (fun _ => AW.skip (thenA_normal ?_))
  refine AW.seq ?_
  apply AW.list
  apply Wk.ld (i := 2) 7 true ty26 rfl rfl (by conv => lhs; whnf) (lt_of_ble rfl)
  apply Wk.dat (copy7_ok e c m bs a u false hl) Try.func19 rfl rfl rfl rfl rfl (lt_of_ble rfl)
  apply Wk.alc 6 [.int .i64 0, .int .i64 0, .int .i64 0, .slice none 0 0, .bool false, .bool false, .bool false] ze26 rfl rfl (lt_of_ble rfl)
  apply Wk.sto (i := 6) 7 true ty26 rfl rfl rfl rfl (Nat.le_of_ble_eq_true rfl) (lt_of_ble rfl)
  refine Wk.nil ?_
  refine AW.seq (AW.seq ?_)
  apply AW.list
  apply Wk.fad 5 0 false fd26_4 rfl (lt_of_ble rfl)
  apply Wk.ld (i := 2) 1 false ty4 rfl rfl (by conv => lhs; whnf) (lt_of_ble rfl)
  apply Wk.mv (by conv => lhs; whnf) (lt_of_ble rfl)
  apply Wk.bin rfl rfl (r := .bool false) (fun w => by simp [go_sem, huv]) (lt_of_ble rfl)
  apply Wk.mv (by conv => lhs; whnf) (lt_of_ble rfl)
  apply Wk.gon 18 rfl rfl
  apply Wk.fad 6 0 false fd26_5 rfl (lt_of_ble rfl)
  apply Wk.gon 18 rfl rfl
  apply Wk.ld (i := 2) 1 false ty4 rfl rfl (by conv => lhs; whnf) (lt_of_ble rfl)
  apply Wk.pckF rfl (by conv => lhs; whnf) (lt_of_ble rfl)
  refine Wk.nil ?_
  refine AW.cond rfl (fun hc => by cases hc) (fun _ => AW.skip (thenA_normal ?_))
  refine AW.seq ?_
  apply AW.list
  apply Wk.mv (by conv => lhs; whnf) (lt_of_ble rfl)
  apply Wk.fad 5 0 false fd26_4 rfl (lt_of_ble rfl)
  apply Wk.sto (i := 6) 1 false ty4 rfl rfl rfl rfl (Nat.le_of_ble_eq_true rfl) (lt_of_ble rfl)
  refine Wk.nil ?_
  refine AW.seq ?_
  apply AW.list
  apply Wk.fad 4 0 false fd26_3 rfl (lt_of_ble rfl)
  apply Wk.sto (i := 6) 1 false ty4 rfl rfl rfl rfl (Nat.le_of_ble_eq_true rfl) (lt_of_ble rfl)
  refine Wk.nil ?_
  refine AW.seq ?_
  apply AW.draw (hm := hmix) (cs := _)
  · apply Wk.ld (i := 6) 7 true ty26 rfl rfl (by conv => lhs; whnf) (lt_of_ble rfl)
    apply Wk.ld (i := 6) 7 true ty26 rfl rfl (by conv => lhs; whnf) (lt_of_ble rfl)
    apply Wk.dat (say_ok e c m bs false v false false) Try.func20 rfl rfl rfl rfl rfl (lt_of_ble rfl)
    apply Wk.lst 30 9 true [.int .i64 0, .int .i64 0, .int .i64 0, .bool false, .bool false, .int .i64 0, .int .i64 0, .int .i64 0, .slice none 0 0] un29 ty38 ze38 rfl rfl (by rfl) (by rfl) (by decide) (by decide) rfl rfl (all_len rfl) (lt_of_ble rfl)
    apply Wk.sto (i := 4) 7 true ty26 rfl rfl rfl rfl (Nat.le_of_ble_eq_true rfl) (lt_of_ble rfl)
    apply Wk.asg (by conv => lhs; whnf) (lt_of_ble rfl)
    refine Wk.nil ?_
    refine thenA_normal ?_
    refine AW.thaw (t := 5) (i := 30) [frmD 2 0 e false false (sayOf v) 0 0 []] rfl rfl rfl hX.none ?_
    refine AW.ret ?_
    exact RetQ.ret [] (.cons ⟨4, 0, _, _, _, rfl, rfl, ty26, rfl⟩ (.cons rfl .nil)) ⟨rfl, rfl⟩ none_kept
  · rfl
  · rfl
end Go.Proofs.Ytpdndapegiglcaa
