/- Who hears, busy or not: the program's way, with a callback; over what values read as. -/
import Derived.Test.YtpdndapegiglcaaAbsBusy
namespace Go.Proofs.Ytpdndapegiglcaa
open Go
theorem ty46 : tyOf Try.prog 46 = some (1, false) := by kernel_rfl
def nilA : A := .d (.v (.slice none 0 0))
def rxC (e c m : Int) (bs : List (Fin 256)) (a u d : Bool) : List A := [.d (.v (.int .i64 e)), .d (.v (.int .i64 c)), .d (.v (.int .i64 m)), .d (fbytes bs), .d (.v (.bool a)), .d (.v (.bool u)), .d (.v (.bool d))]
def sayF : A := .fn (.func 17) [] [.ptr 6 0]
def frmC (k s c : Int) (p f : Bool) (y g l : Int) (bs : List (Fin 256)) : List A := [.d (.v (.int .i64 k)), .d (.v (.int .i64 s)), .d (.v (.int .i64 c)), .d (.v (.bool p)), .d (.v (.bool f)), .d (.v (.int .i64 y)), .d (.v (.int .i64 g)), .d (.v (.int .i64 l)), .d (fbytes bs)]
theorem kept2 {σ : St} {q r : Nat} {y z : Bx} (h1 : σ.b q = y) (h2 : σ.b r = z) : ∀ (i : Nat) (x : Bx), [(q, y), (r, z)].lookup i = some x → σ.b i = x := fun i x hx => by
  rw [List.lookup_cons] at hx
  split at hx
  · rename_i he
    rw [eq_of_beq he, h1]
    exact Option.some.inj hx
  · exact kept1 h2 i x hx
theorem newH_ok (e c m : Int) (bs : List (Fin 256)) (a u d : Bool) (hl : bs.length ≤ 1000) : Spec Try.prog 16 [rxA e c m bs a u d, sayF] [(6, .var [nilA])] (fun r bs' => r = .ptr 12 0 ∧ bs' = [(6, .var [nilA]), (12, .var (rxC e c m bs a u d ++ [sayF]))]) := by
  refine Spec.intro (n := 13) (rv := [.tmp 4]) Try.func16 rfl rfl rfl (by simp) fun C hN hX => ?_
  refine AW.seq ?_
  apply AW.list
  apply Wk.bx 2 rfl rfl (lt_of_ble rfl)
  apply Wk.asg (by conv => lhs; whnf) (lt_of_ble rfl)
  refine Wk.nil ?_
  refine AW.seq ?_
  apply AW.list
  apply Wk.fad 2 1 true fd26_2 rfl (lt_of_ble rfl)
  apply Wk.ld (i := 2) 2 true ty24 rfl rfl (by conv => lhs; whnf) (lt_of_ble rfl)
  apply Wk.dat (copyJoin_ok m bs hl) Try.func33 rfl rfl rfl rfl rfl (lt_of_ble rfl)
  apply Wk.fad 2 1 true fd26_2 rfl (lt_of_ble rfl)
  apply Wk.sto (i := 2) 2 true ty24 rfl rfl rfl rfl (Nat.le_of_ble_eq_true rfl) (lt_of_ble rfl)
  refine Wk.nil ?_
  refine AW.seq ?_
  apply AW.list
  apply Wk.ld (i := 2) 7 true ty26 rfl rfl (by conv => lhs; whnf) (lt_of_ble rfl)
  apply Wk.mv (by conv => lhs; whnf) (lt_of_ble rfl)
  apply Wk.bld [.int .i64 0, .int .i64 0, .int .i64 0, .slice none 0 0, .bool false, .bool false, .bool false, .nilFunc] [(0, 7), (7, 1)] bl49 rfl (by conv => lhs; whnf) (lt_of_ble rfl)
  apply Wk.bx 12 rfl rfl (lt_of_ble rfl)
  apply Wk.asg (by conv => lhs; whnf) (lt_of_ble rfl)
  refine Wk.nil (AW.ret ?_)
  exact RetQ.ret [(6, .var [nilA]), (12, .var (rxC e c m bs a u d ++ [sayF]))] (.cons rfl .nil) ⟨rfl, rfl⟩ (kept2 rfl rfl)
theorem tell_ok (k s c : Int) (p f : Bool) (y g l : Int) (bs : List (Fin 256)) : Spec Try.prog 17 [frmA k s c p f y g l bs, .ptr 6 0] [(6, .var [nilA])] (fun r bs' => r = .tup [] ∧ bs' = [(6, .var [.own 77 0]), (77, .own 0 38 9 [frmC k s c p f y g l bs])]) := by
  refine Spec.intro (n := 7) (rv := []) Try.func17 rfl rfl rfl (by simp) fun C hN hX => ?_
  refine AW.seq ?_
  apply AW.list
  apply Wk.bx 2 rfl rfl (lt_of_ble rfl)
  refine Wk.nil ?_
  apply AW.list
  apply Wk.ld (i := 6) 1 false ty29 rfl rfl (by conv => lhs; whnf) (lt_of_ble rfl)
  apply Wk.ld (i := 2) 9 true ty38 rfl rfl (by conv => lhs; whnf) (lt_of_ble rfl)
  apply Wk.lst 5 9 true [.int .i64 0, .int .i64 0, .int .i64 0, .bool false, .bool false, .int .i64 0, .int .i64 0, .int .i64 0, .slice none 0 0] un29 ty38 ze38 rfl rfl (by rfl) (by rfl) (by decide) (by decide) rfl rfl (all_len rfl) (lt_of_ble rfl)
  apply Wk.appNO 77 5 9 un29 ap38 rfl rfl rfl rfl (by decide) (all_len rfl) (by simp) (lt_of_ble rfl)
  apply Wk.sto (i := 6) 1 false ty29 rfl rfl rfl rfl (Nat.le_of_ble_eq_true rfl) (lt_of_ble rfl)
  refine Wk.nil ?_
  exact ⟨[], [(6, .var [.own 77 0]), (77, .own 0 38 9 [frmC k s c p f y g l bs])], .nil, ⟨rfl, rfl⟩, kept2 rfl rfl⟩
theorem kept3 {σ : St} {q r t : Nat} {y z u : Bx} (h1 : σ.b q = y) (h2 : σ.b r = z) (h3 : σ.b t = u) : ∀ (i : Nat) (x : Bx), [(q, y), (r, z), (t, u)].lookup i = some x → σ.b i = x := fun i x hx => by
  rw [List.lookup_cons] at hx
  split at hx
  · rename_i he
    rw [eq_of_beq he, h1]
    exact Option.some.inj hx
  · exact kept2 h2 h3 i x hx
theorem in_tell (k s c : Int) (p f : Bool) (y g l : Int) (bs : List (Fin 256)) : PostIn ([6] ++ [77]) (fun r bs' => r = .tup [] ∧ bs' = [(6, .var [.own 77 0]), (77, .own 0 38 9 [frmC k s c p f y g l bs])]) := by
  rintro r bs' ⟨rfl, rfl⟩
  refine ⟨rfl, fun i x hx => ?_⟩
  rw [List.lookup_cons] at hx
  split at hx
  · rename_i he
    obtain rfl := Option.some.inj hx
    exact ⟨by simp [eq_of_beq he], rfl⟩
  · rw [List.lookup_cons] at hx
    split at hx
    · rename_i he
      obtain rfl := Option.some.inj hx
      exact ⟨by simp [eq_of_beq he], rfl⟩
    · cases hx
set_option maxRecDepth 100000 in
theorem turn0_ok (e c m : Int) (bs : List (Fin 256)) (a u d v : Bool) (h : d = true ∨ u = v) : Spec Try.prog 18 [.ptr 12 0, .d (.v (.bool v))] [(6, .var [nilA]), (12, .var (rxC e c m bs a u d ++ [sayF]))] (fun r bs' => r = .tup [] ∧ bs' = [(6, .var [nilA]), (12, .var (rxC e c m bs a u d ++ [sayF]))]) := by
  refine Spec.intro (n := 37) (rv := []) Try.func18 rfl rfl rfl (by simp) fun C hN hX => ?_
  refine AW.seq (AW.seq ?_)
  cases d
  · obtain rfl : u = v := by simpa using h
    apply AW.list
    apply Wk.mv (by conv => lhs; whnf) (lt_of_ble rfl)
    apply Wk.nilc rfl (lt_of_ble rfl)
    apply Wk.fad 0 6 true fd49_0 rfl (lt_of_ble rfl)
    apply Wk.fad 6 0 false fd26_5 rfl (lt_of_ble rfl)
    apply Wk.ld (i := 12) 1 false ty4 rfl rfl (by conv => lhs; whnf) (lt_of_ble rfl)
    apply Wk.mv (by conv => lhs; whnf) (lt_of_ble rfl)
    apply Wk.gon 9 rfl rfl
    apply Wk.mv (by conv => lhs; whnf) (lt_of_ble rfl)
    apply Wk.gon 9 rfl rfl
    apply Wk.nilc rfl (lt_of_ble rfl)
    apply Wk.gon 9 rfl rfl
    apply Wk.fad 0 6 true fd49_0 rfl (lt_of_ble rfl)
    apply Wk.gon 9 rfl rfl
    apply Wk.fad 5 0 false fd26_4 rfl (lt_of_ble rfl)
    apply Wk.gon 9 rfl rfl
    apply Wk.ld (i := 12) 1 false ty4 rfl rfl (by conv => lhs; whnf) (lt_of_ble rfl)
    apply Wk.gon 9 rfl rfl
    apply Wk.mv (by conv => lhs; whnf) (lt_of_ble rfl)
    apply Wk.gon 9 rfl rfl
    apply Wk.bin rfl rfl (r := .bool true) (fun w => by simp [go_sem]) (lt_of_ble rfl)
    apply Wk.pckF rfl (by conv => lhs; whnf) (lt_of_ble rfl)
    refine Wk.nil ?_
    refine AW.cond rfl (fun _ => AW.ret ?_) (fun hc => by cases hc)
    refine thenA_ret ?_
    exact RetQ.ret [(6, .var [nilA]), (12, .var (rxC e c m bs a u false ++ [sayF]))] .nil ⟨rfl, rfl⟩ (kept2 rfl rfl)
  · apply AW.list
    apply Wk.mv (by conv => lhs; whnf) (lt_of_ble rfl)
    apply Wk.nilc rfl (lt_of_ble rfl)
    apply Wk.fad 0 6 true fd49_0 rfl (lt_of_ble rfl)
    apply Wk.fad 6 0 false fd26_5 rfl (lt_of_ble rfl)
    apply Wk.ld (i := 12) 1 false ty4 rfl rfl (by conv => lhs; whnf) (lt_of_ble rfl)
    apply Wk.mv (by conv => lhs; whnf) (lt_of_ble rfl)
    apply Wk.goff 9 (ok_move _) rfl rfl (by decide)
    apply Wk.goff 9 (ok_nil _) rfl rfl (by decide)
    apply Wk.goff 9 (ok_faddr fd49_0) rfl rfl (by decide)
    apply Wk.goff 9 (ok_faddr fd26_4) rfl rfl (by decide)
    apply Wk.goff 9 (ok_load 12 ty4) rfl rfl (by decide)
    apply Wk.goff 9 (ok_move _) rfl rfl (by decide)
    apply Wk.goff 9 (ok_bin _ _ _ _ _) rfl rfl (by decide)
    apply Wk.pckT rfl (by conv => lhs; whnf) (lt_of_ble rfl)
    refine Wk.nil ?_
    refine AW.cond rfl (fun _ => AW.ret ?_) (fun hc => by cases hc)
    refine thenA_ret ?_
    exact RetQ.ret [(6, .var [nilA]), (12, .var (rxC e c m bs a u true ++ [sayF]))] .nil ⟨rfl, rfl⟩ (kept2 rfl rfl)
set_option maxRecDepth 100000 in
theorem turn1_ok (e c m : Int) (bs : List (Fin 256)) (a u v : Bool) (h : u ≠ v) : Spec Try.prog 18 [.ptr 12 0, .d (.v (.bool v))] [(6, .var [nilA]), (12, .var (rxC e c m bs a u false ++ [sayF]))] (fun r bs' => r = .tup [] ∧ bs' = [(6, .var [.own 77 0]), (12, .var (rxC e c m bs false v false ++ [sayF])), (77, .own 0 38 9 [frmC 2 0 e false false (sayOf v) 0 0 []])]) := by
  refine Spec.intro (n := 37) (rv := []) Try.func18 rfl rfl rfl (by simp) fun C hN hX => ?_
  refine AW.seq (AW.seq ?_)
  have hne : (u == v) = false := by simpa using h
  apply AW.list
  apply Wk.mv (by conv => lhs; whnf) (lt_of_ble rfl)
  apply Wk.nilc rfl (lt_of_ble rfl)
  apply Wk.fad 0 6 true fd49_0 rfl (lt_of_ble rfl)
  apply Wk.fad 6 0 false fd26_5 rfl (lt_of_ble rfl)
  apply Wk.ld (i := 12) 1 false ty4 rfl rfl (by conv => lhs; whnf) (lt_of_ble rfl)
  apply Wk.mv (by conv => lhs; whnf) (lt_of_ble rfl)
  apply Wk.gon 9 rfl rfl
  apply Wk.mv (by conv => lhs; whnf) (lt_of_ble rfl)
  apply Wk.gon 9 rfl rfl
  apply Wk.nilc rfl (lt_of_ble rfl)
  apply Wk.gon 9 rfl rfl
  apply Wk.fad 0 6 true fd49_0 rfl (lt_of_ble rfl)
  apply Wk.gon 9 rfl rfl
  apply Wk.fad 5 0 false fd26_4 rfl (lt_of_ble rfl)
  apply Wk.gon 9 rfl rfl
  apply Wk.ld (i := 12) 1 false ty4 rfl rfl (by conv => lhs; whnf) (lt_of_ble rfl)
  apply Wk.gon 9 rfl rfl
  apply Wk.mv (by conv => lhs; whnf) (lt_of_ble rfl)
  apply Wk.gon 9 rfl rfl
  apply Wk.bin rfl rfl (r := .bool false) (fun w => by simp [go_sem, h]) (lt_of_ble rfl)
  apply Wk.pckF rfl (by conv => lhs; whnf) (lt_of_ble rfl)
  refine Wk.nil ?_
  refine AW.cond rfl (fun hc => by cases hc) (fun _ => AW.skip (thenA_normal ?_))
  refine AW.seq ?_
  apply AW.list
  apply Wk.mv (by conv => lhs; whnf) (lt_of_ble rfl)
  apply Wk.mv (by conv => lhs; whnf) (lt_of_ble rfl)
  apply Wk.nilc rfl (lt_of_ble rfl)
  apply Wk.fad 0 6 true fd49_0 rfl (lt_of_ble rfl)
  apply Wk.fad 5 0 false fd26_4 rfl (lt_of_ble rfl)
  apply Wk.sto (i := 12) 1 false ty4 rfl rfl rfl rfl (Nat.le_of_ble_eq_true rfl) (lt_of_ble rfl)
  refine Wk.nil ?_
  refine AW.seq ?_
  apply AW.list
  apply Wk.mv (by conv => lhs; whnf) (lt_of_ble rfl)
  apply Wk.nilc rfl (lt_of_ble rfl)
  apply Wk.fad 0 6 true fd49_0 rfl (lt_of_ble rfl)
  apply Wk.fad 4 0 false fd26_3 rfl (lt_of_ble rfl)
  apply Wk.sto (i := 12) 1 false ty4 rfl rfl rfl rfl (Nat.le_of_ble_eq_true rfl) (lt_of_ble rfl)
  refine Wk.nil ?_
  apply AW.draw (hm := hmix) (cs := _)
  · apply Wk.mv (by conv => lhs; whnf) (lt_of_ble rfl)
    apply Wk.nilc rfl (lt_of_ble rfl)
    apply Wk.fad 7 0 false fd49_1 rfl (lt_of_ble rfl)
    apply Wk.ld (i := 12) 1 false ty46 rfl rfl (by conv => lhs; whnf) (lt_of_ble rfl)
    apply Wk.mv (by conv => lhs; whnf) (lt_of_ble rfl)
    apply Wk.nilc rfl (lt_of_ble rfl)
    apply Wk.fad 0 6 true fd49_0 rfl (lt_of_ble rfl)
    apply Wk.ld (i := 12) 7 true ty26 rfl rfl (by conv => lhs; whnf) (lt_of_ble rfl)
    apply Wk.dat (far_ok e c m bs false v false) Try.func34 rfl rfl rfl rfl rfl (lt_of_ble rfl)
    apply Wk.clf [6] [77] (tell_ok 2 0 e false false (sayOf v) 0 0 []) (in_tell 2 0 e false false (sayOf v) 0 0 []) ⟨_, _, rfl, rfl⟩ Try.func17 rfl rfl rfl rfl (by simp; rfl) rfl (by simp; rfl) (lt_of_ble rfl)
    rintro r bs' ⟨rfl, rfl⟩
    refine Wk.nil ?_
    exact ⟨[], [(6, .var [.own 77 0]), (12, .var (rxC e c m bs false v false ++ [sayF])), (77, .own 0 38 9 [frmC 2 0 e false false (sayOf v) 0 0 []])], .nil, ⟨rfl, rfl⟩, kept3 rfl rfl rfl⟩
  · rfl
  · rfl
end Go.Proofs.Ytpdndapegiglcaa
