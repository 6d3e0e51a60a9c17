/- Busy or not: both sides' answers; over what values read as. -/
import Derived.Test.YtpdndapegiglcaaAbsHear
namespace Go.Proofs.Ytpdndapegiglcaa
open Go
def rxN : A := .agg [.d (.v (.int .i64 0)), .d (.v (.int .i64 0)), .d (.v (.int .i64 0)), nilA, .d (.v (.bool false)), .d (.v (.bool false)), .d (.v (.bool false))]
def frmD (k s c : Int) (p f : Bool) (y g l : Int) (bs : List (Fin 256)) : List D := [.v (.int .i64 k), .v (.int .i64 s), .v (.int .i64 c), .v (.bool p), .v (.bool f), .v (.int .i64 y), .v (.int .i64 g), .v (.int .i64 l), fbytes bs]
theorem in_new (e c m : Int) (bs : List (Fin 256)) (a u d : Bool) : PostIn ([6] ++ [12]) (fun r bs' => r = .ptr 12 0 ∧ bs' = [(6, .var [nilA]), (12, .var (rxC e c m bs a u d ++ [sayF]))]) := by
  rintro r bs' ⟨rfl, rfl⟩
  refine ⟨rfl, fun i x hx => ?_⟩
  rw [List.lookup_cons] at hx
  split at hx
  · rename_i he
    obtain rfl := Option.some.inj hx
    exact ⟨by simp [eq_of_beq he], rfl⟩
  · rw [List.lookup_cons] at hx
    split at hx
    · rename_i he
      obtain rfl := Option.some.inj hx
      exact ⟨by simp [eq_of_beq he], rfl⟩
    · cases hx
theorem in_turn0 (e c m : Int) (bs : List (Fin 256)) (a u d : Bool) : PostIn ([6, 12] ++ []) (fun r bs' => r = .tup [] ∧ bs' = [(6, .var [nilA]), (12, .var (rxC e c m bs a u d ++ [sayF]))]) := by
  rintro r bs' ⟨rfl, rfl⟩
  refine ⟨rfl, fun i x hx => ?_⟩
  rw [List.lookup_cons] at hx
  split at hx
  · rename_i he
    obtain rfl := Option.some.inj hx
    exact ⟨by simp [eq_of_beq he], rfl⟩
  · rw [List.lookup_cons] at hx
    split at hx
    · rename_i he
      obtain rfl := Option.some.inj hx
      exact ⟨by simp [eq_of_beq he], rfl⟩
    · cases hx
theorem in_turn1 (e c m : Int) (bs : List (Fin 256)) (v : Bool) : PostIn ([6, 12] ++ [77]) (fun r bs' => r = .tup [] ∧ bs' = [(6, .var [.own 77 0]), (12, .var (rxC e c m bs false v false ++ [sayF])), (77, .own 0 38 9 [frmC 2 0 e false false (sayOf v) 0 0 []])]) := by
  rintro r bs' ⟨rfl, rfl⟩
  refine ⟨rfl, fun i x hx => ?_⟩
  rw [List.lookup_cons] at hx
  split at hx
  · rename_i he
    obtain rfl := Option.some.inj hx
    exact ⟨by simp [eq_of_beq he], rfl⟩
  · rw [List.lookup_cons] at hx
    split at hx
    · rename_i he
      obtain rfl := Option.some.inj hx
      exact ⟨by simp [eq_of_beq he], rfl⟩
    · rw [List.lookup_cons] at hx
      split at hx
      · rename_i he
        obtain rfl := Option.some.inj hx
        exact ⟨by simp [eq_of_beq he], rfl⟩
      · cases hx
theorem irxb {e c m : Int} {bs : List (Fin 256)} {b : Bool} (a u d : Bool) (hb : rxB e c m bs.length = b) : DataOk Try.prog 11 [rxA e c m bs a u d] (.d (.v (.bool b))) := by
  have h := irx_ok e c m bs a u d
  rwa [hb] at h
theorem srxb2 {e c m : Int} {bs : List (Fin 256)} {b : Bool} (a u d : Bool) (hb : rxB e c m bs.length = b) : DataOk Try.prog 9 [rxA e c m bs a u d] (.d (.v (.bool b))) := by
  have h := srx_ok e c m bs a u d
  rwa [hb] at h
set_option maxRecDepth 100000 in
theorem ibusy0 {e c m : Int} {bs : List (Fin 256)} (a u d v : Bool) (hb : rxB e c m bs.length = false) : DataOk Try.prog 5 [rxA e c m bs a u d, .d (.v (.bool v))] (.tup [rxN, nilA]) := by
  refine Spec.intro (n := 23) (rv := [.cell 4 26, .tmp 5]) Try.func5 rfl rfl rfl (by simp) fun C hN hX => ?_
  refine AW.seq ?_
  apply AW.list
  apply Wk.bx 2 rfl rfl (lt_of_ble rfl)
  apply Wk.alc 4 [.int .i64 0, .int .i64 0, .int .i64 0, .slice none 0 0, .bool false, .bool false, .bool false] ze26 rfl rfl (lt_of_ble rfl)
  apply Wk.asg (by conv => lhs; whnf) (lt_of_ble rfl)
  refine Wk.nil ?_
  refine AW.seq (AW.seq ?_)
  apply AW.list
  apply Wk.ld (i := 2) 7 true ty26 rfl rfl (by conv => lhs; whnf) (lt_of_ble rfl)
  apply Wk.dat (irxb a u d hb) Try.func11 rfl rfl rfl rfl rfl (lt_of_ble rfl)
  apply Wk.un rfl (fun w => by simp [go_sem] <;> rfl) (lt_of_ble rfl)
  refine Wk.nil ?_
  refine AW.cond rfl (fun _ => ?_) (fun hc => by cases hc)
  refine AW.seq ?_
  apply AW.list
  apply Wk.bld [.int .i64 0, .int .i64 0, .int .i64 0, .slice none 0 0, .bool false, .bool false, .bool false] [(0, 1), (1, 1), (2, 2), (4, 1), (5, 1), (6, 1)] bl26 rfl (by conv => lhs; whnf) (lt_of_ble rfl)
  apply Wk.sto (i := 4) 7 true ty26 rfl rfl rfl rfl (Nat.le_of_ble_eq_true rfl) (lt_of_ble rfl)
  apply Wk.asg (by conv => lhs; whnf) (lt_of_ble rfl)
  refine Wk.nil (AW.ret ?_)
  refine thenA_ret ?_
  exact RetQ.ret [] (.cons ⟨4, 0, _, _, _, rfl, rfl, ty26, rfl⟩ (.cons rfl .nil)) ⟨rfl, rfl⟩ none_kept
set_option maxRecDepth 100000 in
theorem ibusy1 {e c m : Int} {bs : List (Fin 256)} (a u d v : Bool) (hl : bs.length ≤ 1000) (hb : rxB e c m bs.length = true) (h : d = true ∨ u = v) : DataOk Try.prog 5 [rxA e c m bs a u d, .d (.v (.bool v))] (.tup [rxA e c m bs a u d, nilA]) := by
  refine Spec.intro (n := 23) (rv := [.cell 4 26, .tmp 5]) Try.func5 rfl rfl rfl (by simp) fun C hN hX => ?_
  refine AW.seq ?_
  apply AW.list
  apply Wk.bx 2 rfl rfl (lt_of_ble rfl)
  apply Wk.alc 4 [.int .i64 0, .int .i64 0, .int .i64 0, .slice none 0 0, .bool false, .bool false, .bool false] ze26 rfl rfl (lt_of_ble rfl)
  apply Wk.asg (by conv => lhs; whnf) (lt_of_ble rfl)
  refine Wk.nil ?_
  refine AW.seq (AW.seq ?_)
  apply AW.list
  apply Wk.ld (i := 2) 7 true ty26 rfl rfl (by conv => lhs; whnf) (lt_of_ble rfl)
  apply Wk.dat (irxb a u d hb) Try.func11 rfl rfl rfl rfl rfl (lt_of_ble rfl)
  apply Wk.un rfl (fun w => by simp [go_sem] <;> rfl) (lt_of_ble rfl)
  refine Wk.nil ?_
  refine AW.cond rfl (fun hc => by cases hc) (fun _ => AW.skip (thenA_normal ?_))
  refine AW.seq ?_
  apply AW.list
  apply Wk.alc 6 [.slice none 0 0] ze29 rfl rfl (lt_of_ble rfl)
  refine Wk.nil ?_
  refine AW.seq ?_
  apply AW.list
  apply Wk.ld (i := 2) 7 true ty26 rfl rfl (by conv => lhs; whnf) (lt_of_ble rfl)
  apply Wk.mkf (lt_of_ble rfl)
  apply Wk.cal [6] [12] (newH_ok e c m bs a u d hl) (in_new e c m bs a u d) ⟨_, _, rfl, rfl⟩ Try.func16 rfl rfl rfl rfl (by simp; rfl) rfl (by simp; rfl) (lt_of_ble rfl)
  rintro r bs' ⟨rfl, rfl⟩
  apply Wk.asg (by conv => lhs; whnf) (lt_of_ble rfl)
  refine Wk.nil ?_
  refine AW.seq ?_
  apply AW.list
  apply Wk.mv (by conv => lhs; whnf) (lt_of_ble rfl)
  apply Wk.mv (by conv => lhs; whnf) (lt_of_ble rfl)
  apply Wk.cal [6, 12] [] (turn0_ok e c m bs a u d v h) (in_turn0 e c m bs a u d) ⟨_, _, rfl, rfl⟩ Try.func18 rfl rfl rfl rfl (fun i hi => by cases hi) rfl (by simp; exact ⟨rfl, rfl⟩) (lt_of_ble rfl)
  rintro r bs' ⟨rfl, rfl⟩
  refine Wk.nil ?_
  refine AW.seq ?_
  apply AW.draw (hm := hmix) (cs := _)
  · apply Wk.mv (by conv => lhs; whnf) (lt_of_ble rfl)
    apply Wk.nilc rfl (lt_of_ble rfl)
    apply Wk.fad 0 6 true fd49_0 rfl (lt_of_ble rfl)
    apply Wk.ld (i := 12) 7 true ty26 rfl rfl (by conv => lhs; whnf) (lt_of_ble rfl)
    apply Wk.ld (i := 6) 1 false ty29 rfl rfl (by conv => lhs; whnf) (lt_of_ble rfl)
    apply Wk.sto (i := 4) 7 true ty26 rfl rfl rfl rfl (Nat.le_of_ble_eq_true rfl) (lt_of_ble rfl)
    apply Wk.asg (by conv => lhs; whnf) (lt_of_ble rfl)
    refine Wk.nil (AW.ret ?_)
    exact RetQ.ret [] (.cons ⟨4, 0, _, _, _, rfl, rfl, ty26, rfl⟩ (.cons rfl .nil)) ⟨rfl, rfl⟩ none_kept
  · rfl
  · rfl
set_option maxRecDepth 100000 in
theorem ibusy2 {e c m : Int} {bs : List (Fin 256)} (a u v : Bool) (hl : bs.length ≤ 1000) (hb : rxB e c m bs.length = true) (h : u ≠ v) : DataOk Try.prog 5 [rxA e c m bs a u false, .d (.v (.bool v))] (.tup [rxA e c m bs false v false, .d (.row [frmD 2 0 e false false (sayOf v) 0 0 []])]) := by
  refine Spec.intro (n := 23) (rv := [.cell 4 26, .tmp 5]) Try.func5 rfl rfl rfl (by simp) fun C hN hX => ?_
  refine AW.seq ?_
  apply AW.list
  apply Wk.bx 2 rfl rfl (lt_of_ble rfl)
  apply Wk.alc 4 [.int .i64 0, .int .i64 0, .int .i64 0, .slice none 0 0, .bool false, .bool false, .bool false] ze26 rfl rfl (lt_of_ble rfl)
  apply Wk.asg (by conv => lhs; whnf) (lt_of_ble rfl)
  refine Wk.nil ?_
  refine AW.seq (AW.seq ?_)
  apply AW.list
  apply Wk.ld (i := 2) 7 true ty26 rfl rfl (by conv => lhs; whnf) (lt_of_ble rfl)
  apply Wk.dat (irxb a u false hb) Try.func11 rfl rfl rfl rfl rfl (lt_of_ble rfl)
  apply Wk.un rfl (fun w => by simp [go_sem] <;> rfl) (lt_of_ble rfl)
  refine Wk.nil ?_
  refine AW.cond rfl (fun hc => by cases hc) (fun _ => AW.skip (thenA_normal ?_))
  refine AW.seq ?_
  apply AW.list
  apply Wk.alc 6 [.slice none 0 0] ze29 rfl rfl (lt_of_ble rfl)
  refine Wk.nil ?_
  refine AW.seq ?_
  apply AW.list
  apply Wk.ld (i := 2) 7 true ty26 rfl rfl (by conv => lhs; whnf) (lt_of_ble rfl)
  apply Wk.mkf (lt_of_ble rfl)
  apply Wk.cal [6] [12] (newH_ok e c m bs a u false hl) (in_new e c m bs a u false) ⟨_, _, rfl, rfl⟩ Try.func16 rfl rfl rfl rfl (by simp; rfl) rfl (by simp; rfl) (lt_of_ble rfl)
  rintro r bs' ⟨rfl, rfl⟩
  apply Wk.asg (by conv => lhs; whnf) (lt_of_ble rfl)
  refine Wk.nil ?_
  refine AW.seq ?_
  apply AW.list
  apply Wk.mv (by conv => lhs; whnf) (lt_of_ble rfl)
  apply Wk.mv (by conv => lhs; whnf) (lt_of_ble rfl)
  apply Wk.cal [6, 12] [77] (turn1_ok e c m bs a u v h) (in_turn1 e c m bs v) ⟨_, _, rfl, rfl⟩ Try.func18 rfl rfl rfl rfl (by simp; rfl) rfl (by simp; exact ⟨rfl, rfl⟩) (lt_of_ble rfl)
  rintro r bs' ⟨rfl, rfl⟩
  refine Wk.nil ?_
  refine AW.seq ?_
  apply AW.draw (hm := hmix) (cs := _)
  · apply Wk.mv (by conv => lhs; whnf) (lt_of_ble rfl)
    apply Wk.nilc rfl (lt_of_ble rfl)
    apply Wk.fad 0 6 true fd49_0 rfl (lt_of_ble rfl)
    apply Wk.ld (i := 12) 7 true ty26 rfl rfl (by conv => lhs; whnf) (lt_of_ble rfl)
    apply Wk.ld (i := 6) 1 false ty29 rfl rfl (by conv => lhs; whnf) (lt_of_ble rfl)
    apply Wk.sto (i := 4) 7 true ty26 rfl rfl rfl rfl (Nat.le_of_ble_eq_true rfl) (lt_of_ble rfl)
    apply Wk.asg (by conv => lhs; whnf) (lt_of_ble rfl)
    refine Wk.nil ?_
    refine AW.thaw (t := 5) (i := 77) [frmD 2 0 e false false (sayOf v) 0 0 []] rfl rfl rfl hX.none ?_
    refine AW.ret ?_
    exact RetQ.ret [] (.cons ⟨4, 0, _, _, _, rfl, rfl, ty26, rfl⟩ (.cons rfl .nil)) ⟨rfl, rfl⟩ none_kept
  · rfl
  · rfl
end Go.Proofs.Ytpdndapegiglcaa
