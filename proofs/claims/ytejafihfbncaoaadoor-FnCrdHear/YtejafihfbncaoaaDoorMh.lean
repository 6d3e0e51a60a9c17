/- Laws and contracts that the proof stands on: AbsCrdHear, LiParts, LiFrm, WFnCrdGrant, LiSdus. -/
import Derived.Test.YtejafihfbncaoaaDoorMa
import Derived.Test.YtejafihfbncaoaaDoorMb
import Derived.Test.YtejafihfbncaoaaDoorMc
import Derived.Test.YtejafihfbncaoaaDoorMd
import Derived.Test.YtejafihfbncaoaaDoorMe
import Derived.Test.YtejafihfbncaoaaDoorMf
import Derived.Test.YtejafihfbncaoaaDoorMg
import Derived.RowKit3
/- Who hears for credits, behind a piece: both sides, over what values read as; and the draw. Written by tools/mk_AbsCrdHear.py. -/
namespace Go.Proofs.YtejafihfbncaoaaDoor
open Go Go.RowKit
set_option linter.unusedVariables false
theorem ifrmT (k s c : Int) (p f : Bool) (y g l : Int) (bs : List (Fin 256)) (hl : bs.length ≤ 2000000) {t : Bool} (h : frmB k s c p f y g l bs.length = t) : DataOk Tryd.prog 17 [frmA k s c p f y g l bs] (.d (.v (.bool t))) := h ▸ ifrm_ok k s c p f y g l bs hl
theorem frm3 {s c : Int} {p f : Bool} {y g l : Int} {n : Nat} (h : frmB 3 s c p f y g l n = true) : pieceB g l n = true := by
  simp only [frmB, decide_eq_true_eq] at h
  rcases h with h | h | h | h
  · omega
  · omega
  · exact h.2.2.2.2.2.2
  · omega
theorem putC_three {m : Int} {n : Nat} {g : Int} {k : Nat} : putC m n g k = 1 ∨ putC m n g k = 2 ∨ putC m n g k = 3 := by
  unfold putC
  repeat (first | omega | split)
def nilS : A := .d (.v (.slice none 0 0))
def noS : A := .d (.row [])
def oneS (bs : List (Fin 256)) : A := .d (.row [[fbytes bs]])
section
variable {V : List (Nat × Value)} {a : Addr}
set_option maxHeartbeats 8000000 in
set_option maxRecDepth 100000 in
theorem ihearCNo (m0 w0 s0 t0 y0 : Int) (v m : Int) (bs : List (Fin 256)) (d : Bool) (k s c : Int) (p f : Bool) (y g l : Int) (fs : List (Fin 256)) (hl : fs.length ≤ 2000000) (h : Opt.ok ⟨m0, w0, s0, t0, y0⟩ = false ∨ crxB v m bs.length = false ∨ k ≠ 3 ∨ frmB k s c p f y g l fs.length = false) : DataV Tryd.prog V 28 [cfgA m0 w0 s0 t0 y0, crA v m bs d, frmA k s c p f y g l fs] (.tup [crNil, nilS]) := by
  cases h0 : Opt.ok ⟨m0, w0, s0, t0, y0⟩
  · skip
    refine DataV.intro (n := 76) (rv := [.cell 6 50, .tmp 7]) Tryd.func28 rfl rfl rfl (by simp) fun C hV hN hX => ?_
    refine AW.seq ?_
    apply AW.list
    apply Wk.bx 3 rfl rfl (lt_of_ble rfl)
    apply Wk.bx 4 rfl rfl (lt_of_ble rfl)
    apply Wk.bx 5 rfl rfl (lt_of_ble rfl)
    apply Wk.alc 6 [.int .i64 0, .int .i64 0, .slice none 0 0, .bool false] ze50 rfl rfl (lt_of_ble rfl)
    apply Wk.asg (by conv => lhs; whnf) (lt_of_ble rfl)
    refine Wk.nil ?_
    refine AW.seq (AW.seq ?_)
    apply AW.list
    apply Wk.ld (i := 3) 5 true ty24 rfl rfl (by conv => lhs; whnf) (lt_of_ble rfl)
    apply Wk.dat (icfgbX m0 w0 s0 t0 y0 h0) Tryd.func47 rfl rfl rfl rfl rfl (lt_of_ble rfl)
    apply Wk.un rfl (fun w => by simp [go_sem] <;> rfl) (lt_of_ble rfl)
    apply Wk.mv (by conv => lhs; whnf) (lt_of_ble rfl)
    apply Wk.goff 16 (ok_load 4 ty50) rfl rfl (by simp)
    apply Wk.goff 16 (ok_datw ((icrxb (v := 0) (m := 0) (bs := []) false rfl).w rfl) Tryd.func26 rfl rfl) rfl rfl (by simp)
    apply Wk.goff 16 (ok_un _ _ _) rfl rfl (by simp)
    apply Wk.pckT rfl (by conv => lhs; whnf) (lt_of_ble rfl)
    apply Wk.mv (by conv => lhs; whnf) (lt_of_ble rfl)
    apply Wk.goff 21 (ok_faddr fd31_0) rfl rfl (by simp)
    apply Wk.goff 21 (ok_load 5 ty3) rfl rfl (by simp)
    apply Wk.goff 21 (ok_bin _ _ _ _ _) rfl rfl (by simp)
    apply Wk.pckT rfl (by conv => lhs; whnf) (lt_of_ble rfl)
    apply Wk.mv (by conv => lhs; whnf) (lt_of_ble rfl)
    apply Wk.goff 26 (ok_load 5 ty31) rfl rfl (by simp)
    apply Wk.goff 26 (ok_datw ((ifrmT k s c p f y g l fs hl rfl).w rfl) Tryd.func17 rfl rfl) rfl rfl (by simp)
    apply Wk.goff 26 (ok_un _ _ _) rfl rfl (by simp)
    apply Wk.pckT rfl (by conv => lhs; whnf) (lt_of_ble rfl)
    refine Wk.nil ?_
    refine AW.cond rfl (fun _ => ?_) (fun hc => by cases hc)
    refine AW.seq ?_
    apply AW.list
    apply Wk.bld [.int .i64 0, .int .i64 0, .slice none 0 0, .bool false] [(0, 1), (1, 2), (3, 1)] bl50 rfl (by conv => lhs; whnf) (lt_of_ble rfl)
    apply Wk.sto (i := 6) 4 true ty50 rfl rfl rfl rfl (Nat.le_of_ble_eq_true rfl) (lt_of_ble rfl)
    apply Wk.asg (by conv => lhs; whnf) (lt_of_ble rfl)
    refine Wk.nil (AW.ret ?_)
    repeat (first | refine thenA_ret ?_ | refine inBlockA_ret ?_)
    exact RetQ.ret [] (.cons ⟨6, 0, _, _, _, rfl, rfl, ty50, rfl⟩ (.cons rfl .nil)) ⟨rfl, rfl⟩ none_kept
  cases h1 : crxB v m bs.length
  · skip
    refine DataV.intro (n := 76) (rv := [.cell 6 50, .tmp 7]) Tryd.func28 rfl rfl rfl (by simp) fun C hV hN hX => ?_
    refine AW.seq ?_
    apply AW.list
    apply Wk.bx 3 rfl rfl (lt_of_ble rfl)
    apply Wk.bx 4 rfl rfl (lt_of_ble rfl)
    apply Wk.bx 5 rfl rfl (lt_of_ble rfl)
    apply Wk.alc 6 [.int .i64 0, .int .i64 0, .slice none 0 0, .bool false] ze50 rfl rfl (lt_of_ble rfl)
    apply Wk.asg (by conv => lhs; whnf) (lt_of_ble rfl)
    refine Wk.nil ?_
    refine AW.seq (AW.seq ?_)
    apply AW.list
    apply Wk.ld (i := 3) 5 true ty24 rfl rfl (by conv => lhs; whnf) (lt_of_ble rfl)
    apply Wk.dat (icfgbX m0 w0 s0 t0 y0 h0) Tryd.func47 rfl rfl rfl rfl rfl (lt_of_ble rfl)
    apply Wk.un rfl (fun w => by simp [go_sem] <;> rfl) (lt_of_ble rfl)
    apply Wk.mv (by conv => lhs; whnf) (lt_of_ble rfl)
    apply Wk.gon 16 rfl rfl
    apply Wk.ld (i := 4) 4 true ty50 rfl rfl (by conv => lhs; whnf) (lt_of_ble rfl)
    apply Wk.gon 16 rfl rfl
    apply Wk.dat (icrxb d h1) Tryd.func26 rfl rfl rfl rfl rfl (lt_of_ble rfl)
    apply Wk.gon 16 rfl rfl
    apply Wk.un rfl (fun w => by simp [go_sem] <;> rfl) (lt_of_ble rfl)
    apply Wk.pckF rfl (by conv => lhs; whnf) (lt_of_ble rfl)
    apply Wk.mv (by conv => lhs; whnf) (lt_of_ble rfl)
    apply Wk.goff 21 (ok_faddr fd31_0) rfl rfl (by simp)
    apply Wk.goff 21 (ok_load 5 ty3) rfl rfl (by simp)
    apply Wk.goff 21 (ok_bin _ _ _ _ _) rfl rfl (by simp)
    apply Wk.pckT rfl (by conv => lhs; whnf) (lt_of_ble rfl)
    apply Wk.mv (by conv => lhs; whnf) (lt_of_ble rfl)
    apply Wk.goff 26 (ok_load 5 ty31) rfl rfl (by simp)
    apply Wk.goff 26 (ok_datw ((ifrmT k s c p f y g l fs hl rfl).w rfl) Tryd.func17 rfl rfl) rfl rfl (by simp)
    apply Wk.goff 26 (ok_un _ _ _) rfl rfl (by simp)
    apply Wk.pckT rfl (by conv => lhs; whnf) (lt_of_ble rfl)
    refine Wk.nil ?_
    refine AW.cond rfl (fun _ => ?_) (fun hc => by cases hc)
    refine AW.seq ?_
    apply AW.list
    apply Wk.bld [.int .i64 0, .int .i64 0, .slice none 0 0, .bool false] [(0, 1), (1, 2), (3, 1)] bl50 rfl (by conv => lhs; whnf) (lt_of_ble rfl)
    apply Wk.sto (i := 6) 4 true ty50 rfl rfl rfl rfl (Nat.le_of_ble_eq_true rfl) (lt_of_ble rfl)
    apply Wk.asg (by conv => lhs; whnf) (lt_of_ble rfl)
    refine Wk.nil (AW.ret ?_)
    repeat (first | refine thenA_ret ?_ | refine inBlockA_ret ?_)
    exact RetQ.ret [] (.cons ⟨6, 0, _, _, _, rfl, rfl, ty50, rfl⟩ (.cons rfl .nil)) ⟨rfl, rfl⟩ none_kept
  by_cases hk : k = 3
  · have h3 : frmB k s c p f y g l fs.length = false := by
      rcases h with h | h | h | h
      · rw [h0] at h; cases h
      · rw [h1] at h; cases h
      · exact absurd hk h
      · exact h
    refine DataV.intro (n := 76) (rv := [.cell 6 50, .tmp 7]) Tryd.func28 rfl rfl rfl (by simp) fun C hV hN hX => ?_
    refine AW.seq ?_
    apply AW.list
    apply Wk.bx 3 rfl rfl (lt_of_ble rfl)
    apply Wk.bx 4 rfl rfl (lt_of_ble rfl)
    apply Wk.bx 5 rfl rfl (lt_of_ble rfl)
    apply Wk.alc 6 [.int .i64 0, .int .i64 0, .slice none 0 0, .bool false] ze50 rfl rfl (lt_of_ble rfl)
    apply Wk.asg (by conv => lhs; whnf) (lt_of_ble rfl)
    refine Wk.nil ?_
    refine AW.seq (AW.seq ?_)
    apply AW.list
    apply Wk.ld (i := 3) 5 true ty24 rfl rfl (by conv => lhs; whnf) (lt_of_ble rfl)
    apply Wk.dat (icfgbX m0 w0 s0 t0 y0 h0) Tryd.func47 rfl rfl rfl rfl rfl (lt_of_ble rfl)
    apply Wk.un rfl (fun w => by simp [go_sem] <;> rfl) (lt_of_ble rfl)
    apply Wk.mv (by conv => lhs; whnf) (lt_of_ble rfl)
    apply Wk.gon 16 rfl rfl
    apply Wk.ld (i := 4) 4 true ty50 rfl rfl (by conv => lhs; whnf) (lt_of_ble rfl)
    apply Wk.gon 16 rfl rfl
    apply Wk.dat (icrxb d h1) Tryd.func26 rfl rfl rfl rfl rfl (lt_of_ble rfl)
    apply Wk.gon 16 rfl rfl
    apply Wk.un rfl (fun w => by simp [go_sem] <;> rfl) (lt_of_ble rfl)
    apply Wk.pckF rfl (by conv => lhs; whnf) (lt_of_ble rfl)
    apply Wk.mv (by conv => lhs; whnf) (lt_of_ble rfl)
    apply Wk.gon 21 rfl rfl
    apply Wk.fad 0 0 false fd31_0 rfl (lt_of_ble rfl)
    apply Wk.gon 21 rfl rfl
    apply Wk.ld (i := 5) 1 false ty3 rfl rfl (by conv => lhs; whnf) (lt_of_ble rfl)
    apply Wk.gon 21 rfl rfl
    apply Wk.bin rfl rfl (r := .bool false) (fun w => by simp [go_sem, hk]) (lt_of_ble rfl)
    apply Wk.pckF rfl (by conv => lhs; whnf) (lt_of_ble rfl)
    apply Wk.mv (by conv => lhs; whnf) (lt_of_ble rfl)
    apply Wk.gon 26 rfl rfl
    apply Wk.ld (i := 5) 9 true ty31 rfl rfl (by conv => lhs; whnf) (lt_of_ble rfl)
    apply Wk.gon 26 rfl rfl
    apply Wk.dat (ifrmT k s c p f y g l fs hl h3) Tryd.func17 rfl rfl rfl rfl rfl (lt_of_ble rfl)
    apply Wk.gon 26 rfl rfl
    apply Wk.un rfl (fun w => by simp [go_sem] <;> rfl) (lt_of_ble rfl)
    apply Wk.pckF rfl (by conv => lhs; whnf) (lt_of_ble rfl)
    refine Wk.nil ?_
    refine AW.cond rfl (fun _ => ?_) (fun hc => by cases hc)
    refine AW.seq ?_
    apply AW.list
    apply Wk.bld [.int .i64 0, .int .i64 0, .slice none 0 0, .bool false] [(0, 1), (1, 2), (3, 1)] bl50 rfl (by conv => lhs; whnf) (lt_of_ble rfl)
    apply Wk.sto (i := 6) 4 true ty50 rfl rfl rfl rfl (Nat.le_of_ble_eq_true rfl) (lt_of_ble rfl)
    apply Wk.asg (by conv => lhs; whnf) (lt_of_ble rfl)
    refine Wk.nil (AW.ret ?_)
    repeat (first | refine thenA_ret ?_ | refine inBlockA_ret ?_)
    exact RetQ.ret [] (.cons ⟨6, 0, _, _, _, rfl, rfl, ty50, rfl⟩ (.cons rfl .nil)) ⟨rfl, rfl⟩ none_kept
  · skip
    refine DataV.intro (n := 76) (rv := [.cell 6 50, .tmp 7]) Tryd.func28 rfl rfl rfl (by simp) fun C hV hN hX => ?_
    refine AW.seq ?_
    apply AW.list
    apply Wk.bx 3 rfl rfl (lt_of_ble rfl)
    apply Wk.bx 4 rfl rfl (lt_of_ble rfl)
    apply Wk.bx 5 rfl rfl (lt_of_ble rfl)
    apply Wk.alc 6 [.int .i64 0, .int .i64 0, .slice none 0 0, .bool false] ze50 rfl rfl (lt_of_ble rfl)
    apply Wk.asg (by conv => lhs; whnf) (lt_of_ble rfl)
    refine Wk.nil ?_
    refine AW.seq (AW.seq ?_)
    apply AW.list
    apply Wk.ld (i := 3) 5 true ty24 rfl rfl (by conv => lhs; whnf) (lt_of_ble rfl)
    apply Wk.dat (icfgbX m0 w0 s0 t0 y0 h0) Tryd.func47 rfl rfl rfl rfl rfl (lt_of_ble rfl)
    apply Wk.un rfl (fun w => by simp [go_sem] <;> rfl) (lt_of_ble rfl)
    apply Wk.mv (by conv => lhs; whnf) (lt_of_ble rfl)
    apply Wk.gon 16 rfl rfl
    apply Wk.ld (i := 4) 4 true ty50 rfl rfl (by conv => lhs; whnf) (lt_of_ble rfl)
    apply Wk.gon 16 rfl rfl
    apply Wk.dat (icrxb d h1) Tryd.func26 rfl rfl rfl rfl rfl (lt_of_ble rfl)
    apply Wk.gon 16 rfl rfl
    apply Wk.un rfl (fun w => by simp [go_sem] <;> rfl) (lt_of_ble rfl)
    apply Wk.pckF rfl (by conv => lhs; whnf) (lt_of_ble rfl)
    apply Wk.mv (by conv => lhs; whnf) (lt_of_ble rfl)
    apply Wk.gon 21 rfl rfl
    apply Wk.fad 0 0 false fd31_0 rfl (lt_of_ble rfl)
    apply Wk.gon 21 rfl rfl
    apply Wk.ld (i := 5) 1 false ty3 rfl rfl (by conv => lhs; whnf) (lt_of_ble rfl)
    apply Wk.gon 21 rfl rfl
    apply Wk.bin rfl rfl (r := .bool true) (fun w => by simp [go_sem, hk]) (lt_of_ble rfl)
    apply Wk.pckF rfl (by conv => lhs; whnf) (lt_of_ble rfl)
    apply Wk.mv (by conv => lhs; whnf) (lt_of_ble rfl)
    apply Wk.goff 26 (ok_load 5 ty31) rfl rfl (by simp)
    apply Wk.goff 26 (ok_datw ((ifrmT k s c p f y g l fs hl rfl).w rfl) Tryd.func17 rfl rfl) rfl rfl (by simp)
    apply Wk.goff 26 (ok_un _ _ _) rfl rfl (by simp)
    apply Wk.pckT rfl (by conv => lhs; whnf) (lt_of_ble rfl)
    refine Wk.nil ?_
    refine AW.cond rfl (fun _ => ?_) (fun hc => by cases hc)
    refine AW.seq ?_
    apply AW.list
    apply Wk.bld [.int .i64 0, .int .i64 0, .slice none 0 0, .bool false] [(0, 1), (1, 2), (3, 1)] bl50 rfl (by conv => lhs; whnf) (lt_of_ble rfl)
    apply Wk.sto (i := 6) 4 true ty50 rfl rfl rfl rfl (Nat.le_of_ble_eq_true rfl) (lt_of_ble rfl)
    apply Wk.asg (by conv => lhs; whnf) (lt_of_ble rfl)
    refine Wk.nil (AW.ret ?_)
    repeat (first | refine thenA_ret ?_ | refine inBlockA_ret ?_)
    exact RetQ.ret [] (.cons ⟨6, 0, _, _, _, rfl, rfl, ty50, rfl⟩ (.cons rfl .nil)) ⟨rfl, rfl⟩ none_kept
set_option maxHeartbeats 8000000 in
set_option maxRecDepth 100000 in
theorem ihearCEnd (m0 w0 s0 t0 y0 : Int) (v m : Int) (bs : List (Fin 256)) (d : Bool) (k s c : Int) (p f : Bool) (y g l : Int) (fs : List (Fin 256)) (h0 : Opt.ok ⟨m0, w0, s0, t0, y0⟩ = true) (h1 : crxB v m bs.length = true) (hk : k = 3) (h3 : frmB k s c p f y g l fs.length = true) (hbl : bs.length ≤ 1000) (hl : fs.length ≤ 2000000) (hV0 : (0, errV a) ∈ V) (hi : d = true ∨ v = 0 ∨ t0 < l ∨ s0 < (fs.length : Int)) : DataV Tryd.prog V 28 [cfgA m0 w0 s0 t0 y0, crA v m bs d, frmA k s c p f y g l fs] (.tup [crA v m bs true, nilS]) := by
  have hf := crx_facts h1
  have hsm := (isSame_ok a).v (V := V)
  have hsn := (isNil_ok a).v (V := V)
  by_cases hv : v < 1
  · have hs := ispendNo (V := V) v hv hV0
    cases d
    · skip
      refine DataV.intro (n := 76) (rv := [.cell 6 50, .tmp 7]) Tryd.func28 rfl rfl rfl (by simp) fun C hV hN hX => ?_
      refine AW.seq ?_
      apply AW.list
      apply Wk.bx 3 rfl rfl (lt_of_ble rfl)
      apply Wk.bx 4 rfl rfl (lt_of_ble rfl)
      apply Wk.bx 5 rfl rfl (lt_of_ble rfl)
      apply Wk.alc 6 [.int .i64 0, .int .i64 0, .slice none 0 0, .bool false] ze50 rfl rfl (lt_of_ble rfl)
      apply Wk.asg (by conv => lhs; whnf) (lt_of_ble rfl)
      refine Wk.nil ?_
      refine AW.seq (AW.seq ?_)
      apply AW.list
      apply Wk.ld (i := 3) 5 true ty24 rfl rfl (by conv => lhs; whnf) (lt_of_ble rfl)
      apply Wk.dat (icfgbX m0 w0 s0 t0 y0 h0) Tryd.func47 rfl rfl rfl rfl rfl (lt_of_ble rfl)
      apply Wk.un rfl (fun w => by simp [go_sem] <;> rfl) (lt_of_ble rfl)
      apply Wk.mv (by conv => lhs; whnf) (lt_of_ble rfl)
      apply Wk.gon 16 rfl rfl
      apply Wk.ld (i := 4) 4 true ty50 rfl rfl (by conv => lhs; whnf) (lt_of_ble rfl)
      apply Wk.gon 16 rfl rfl
      apply Wk.dat (icrxb false h1) Tryd.func26 rfl rfl rfl rfl rfl (lt_of_ble rfl)
      apply Wk.gon 16 rfl rfl
      apply Wk.un rfl (fun w => by simp [go_sem] <;> rfl) (lt_of_ble rfl)
      apply Wk.pckF rfl (by conv => lhs; whnf) (lt_of_ble rfl)
      apply Wk.mv (by conv => lhs; whnf) (lt_of_ble rfl)
      apply Wk.gon 21 rfl rfl
      apply Wk.fad 0 0 false fd31_0 rfl (lt_of_ble rfl)
      apply Wk.gon 21 rfl rfl
      apply Wk.ld (i := 5) 1 false ty3 rfl rfl (by conv => lhs; whnf) (lt_of_ble rfl)
      apply Wk.gon 21 rfl rfl
      apply Wk.bin rfl rfl (r := .bool false) (fun w => by simp [go_sem, hk]) (lt_of_ble rfl)
      apply Wk.pckF rfl (by conv => lhs; whnf) (lt_of_ble rfl)
      apply Wk.mv (by conv => lhs; whnf) (lt_of_ble rfl)
      apply Wk.gon 26 rfl rfl
      apply Wk.ld (i := 5) 9 true ty31 rfl rfl (by conv => lhs; whnf) (lt_of_ble rfl)
      apply Wk.gon 26 rfl rfl
      apply Wk.dat (ifrmT k s c p f y g l fs hl h3) Tryd.func17 rfl rfl rfl rfl rfl (lt_of_ble rfl)
      apply Wk.gon 26 rfl rfl
      apply Wk.un rfl (fun w => by simp [go_sem] <;> rfl) (lt_of_ble rfl)
      apply Wk.pckF rfl (by conv => lhs; whnf) (lt_of_ble rfl)
      refine Wk.nil ?_
      refine AW.cond rfl (fun hc => by cases hc) (fun _ => AW.skip (thenA_normal ?_))
      refine AW.seq ?_
      apply AW.list
      apply Wk.fad 0 0 false fd50_0 rfl (lt_of_ble rfl)
      apply Wk.ld (i := 4) 1 false ty3 rfl rfl (by conv => lhs; whnf) (lt_of_ble rfl)
      apply Wk.dav hs hX hV Tryd.func39 rfl rfl rfl rfl rfl (lt_of_ble rfl)
      apply Wk.mv (by conv => lhs; whnf) (lt_of_ble rfl)
      apply Wk.ext rfl rfl (lt_of_ble rfl)
      apply Wk.ext rfl rfl (lt_of_ble rfl)
      apply Wk.asg (by conv => lhs; whnf) (lt_of_ble rfl)
      apply Wk.asg (by conv => lhs; whnf) (lt_of_ble rfl)
      refine Wk.nil ?_
      refine AW.seq (AW.seq ?_)
      apply AW.list
      apply Wk.fad 3 0 false fd50_2 rfl (lt_of_ble rfl)
      apply Wk.ld (i := 4) 1 false ty4 rfl rfl (by conv => lhs; whnf) (lt_of_ble rfl)
      apply Wk.mv (by conv => lhs; whnf) (lt_of_ble rfl)
      apply Wk.gon 40 rfl rfl
      apply Wk.mv (by conv => lhs; whnf) (lt_of_ble rfl)
      apply Wk.gon 40 rfl rfl
      apply Wk.ldv hX hV tyErr hV0 (lt_of_ble rfl)
      apply Wk.gon 40 rfl rfl
      apply Wk.dav hsm hX hV Tryd.func40 rfl rfl rfl rfl rfl (lt_of_ble rfl)
      apply Wk.pckF rfl (by conv => lhs; whnf) (lt_of_ble rfl)
      apply Wk.mv (by conv => lhs; whnf) (lt_of_ble rfl)
      apply Wk.goff 45 (ok_load 3 ty24) rfl rfl (by simp)
      apply Wk.goff 45 (ok_load 5 ty31) rfl rfl (by simp)
      apply Wk.goff 45 (ok_datw ((itlb m0 w0 s0 t0 y0 k s c p f y g l fs rfl).w rfl) Tryd.func63 rfl rfl) rfl rfl (by simp)
      apply Wk.pckT rfl (by conv => lhs; whnf) (lt_of_ble rfl)
      refine Wk.nil ?_
      refine AW.cond rfl (fun _ => ?_) (fun hc => by cases hc)
      refine AW.seq ?_
      apply AW.draw (hm := hmix) (cs := _)
      · apply Wk.fad 0 0 false fd50_0 rfl (lt_of_ble rfl)
        apply Wk.ld (i := 4) 1 false ty3 rfl rfl (by conv => lhs; whnf) (lt_of_ble rfl)
        apply Wk.fad 1 1 true fd50_1 rfl (lt_of_ble rfl)
        apply Wk.ld (i := 4) 2 true ty48 rfl rfl (by conv => lhs; whnf) (lt_of_ble rfl)
        apply Wk.dat (copyJoin_ok m bs hbl) Tryd.func55 rfl rfl rfl rfl rfl (lt_of_ble rfl)
        apply Wk.bld [.int .i64 0, .int .i64 0, .slice none 0 0, .bool false] [(0, 1), (1, 2), (3, 1)] bl50 rfl (by conv => lhs; whnf) (lt_of_ble rfl)
        apply Wk.sto (i := 6) 4 true ty50 rfl rfl rfl rfl (Nat.le_of_ble_eq_true rfl) (lt_of_ble rfl)
        apply Wk.asg (by conv => lhs; whnf) (lt_of_ble rfl)
        refine Wk.nil (AW.ret ?_)
        repeat (first | refine thenA_ret ?_ | refine inBlockA_ret ?_)
        exact RetQ.ret [] (.cons ⟨6, 0, _, _, _, rfl, rfl, ty50, rfl⟩ (.cons rfl .nil)) ⟨rfl, rfl⟩ none_kept
      · rfl
      · rfl
    · skip
      refine DataV.intro (n := 76) (rv := [.cell 6 50, .tmp 7]) Tryd.func28 rfl rfl rfl (by simp) fun C hV hN hX => ?_
      refine AW.seq ?_
      apply AW.list
      apply Wk.bx 3 rfl rfl (lt_of_ble rfl)
      apply Wk.bx 4 rfl rfl (lt_of_ble rfl)
      apply Wk.bx 5 rfl rfl (lt_of_ble rfl)
      apply Wk.alc 6 [.int .i64 0, .int .i64 0, .slice none 0 0, .bool false] ze50 rfl rfl (lt_of_ble rfl)
      apply Wk.asg (by conv => lhs; whnf) (lt_of_ble rfl)
      refine Wk.nil ?_
      refine AW.seq (AW.seq ?_)
      apply AW.list
      apply Wk.ld (i := 3) 5 true ty24 rfl rfl (by conv => lhs; whnf) (lt_of_ble rfl)
      apply Wk.dat (icfgbX m0 w0 s0 t0 y0 h0) Tryd.func47 rfl rfl rfl rfl rfl (lt_of_ble rfl)
      apply Wk.un rfl (fun w => by simp [go_sem] <;> rfl) (lt_of_ble rfl)
      apply Wk.mv (by conv => lhs; whnf) (lt_of_ble rfl)
      apply Wk.gon 16 rfl rfl
      apply Wk.ld (i := 4) 4 true ty50 rfl rfl (by conv => lhs; whnf) (lt_of_ble rfl)
      apply Wk.gon 16 rfl rfl
      apply Wk.dat (icrxb true h1) Tryd.func26 rfl rfl rfl rfl rfl (lt_of_ble rfl)
      apply Wk.gon 16 rfl rfl
      apply Wk.un rfl (fun w => by simp [go_sem] <;> rfl) (lt_of_ble rfl)
      apply Wk.pckF rfl (by conv => lhs; whnf) (lt_of_ble rfl)
      apply Wk.mv (by conv => lhs; whnf) (lt_of_ble rfl)
      apply Wk.gon 21 rfl rfl
      apply Wk.fad 0 0 false fd31_0 rfl (lt_of_ble rfl)
      apply Wk.gon 21 rfl rfl
      apply Wk.ld (i := 5) 1 false ty3 rfl rfl (by conv => lhs; whnf) (lt_of_ble rfl)
      apply Wk.gon 21 rfl rfl
      apply Wk.bin rfl rfl (r := .bool false) (fun w => by simp [go_sem, hk]) (lt_of_ble rfl)
      apply Wk.pckF rfl (by conv => lhs; whnf) (lt_of_ble rfl)
      apply Wk.mv (by conv => lhs; whnf) (lt_of_ble rfl)
      apply Wk.gon 26 rfl rfl
      apply Wk.ld (i := 5) 9 true ty31 rfl rfl (by conv => lhs; whnf) (lt_of_ble rfl)
      apply Wk.gon 26 rfl rfl
      apply Wk.dat (ifrmT k s c p f y g l fs hl h3) Tryd.func17 rfl rfl rfl rfl rfl (lt_of_ble rfl)
      apply Wk.gon 26 rfl rfl
      apply Wk.un rfl (fun w => by simp [go_sem] <;> rfl) (lt_of_ble rfl)
      apply Wk.pckF rfl (by conv => lhs; whnf) (lt_of_ble rfl)
      refine Wk.nil ?_
      refine AW.cond rfl (fun hc => by cases hc) (fun _ => AW.skip (thenA_normal ?_))
      refine AW.seq ?_
      apply AW.list
      apply Wk.fad 0 0 false fd50_0 rfl (lt_of_ble rfl)
      apply Wk.ld (i := 4) 1 false ty3 rfl rfl (by conv => lhs; whnf) (lt_of_ble rfl)
      apply Wk.dav hs hX hV Tryd.func39 rfl rfl rfl rfl rfl (lt_of_ble rfl)
      apply Wk.mv (by conv => lhs; whnf) (lt_of_ble rfl)
      apply Wk.ext rfl rfl (lt_of_ble rfl)
      apply Wk.ext rfl rfl (lt_of_ble rfl)
      apply Wk.asg (by conv => lhs; whnf) (lt_of_ble rfl)
      apply Wk.asg (by conv => lhs; whnf) (lt_of_ble rfl)
      refine Wk.nil ?_
      refine AW.seq (AW.seq ?_)
      apply AW.list
      apply Wk.fad 3 0 false fd50_2 rfl (lt_of_ble rfl)
      apply Wk.ld (i := 4) 1 false ty4 rfl rfl (by conv => lhs; whnf) (lt_of_ble rfl)
      apply Wk.mv (by conv => lhs; whnf) (lt_of_ble rfl)
      apply Wk.goff 40 (ok_move _) rfl rfl (by simp)
      apply Wk.goff 40 (ok_ldv hX hV tyErr hV0) rfl rfl (by simp)
      apply Wk.goff 40 (ok_dav hsm rfl hX hV Tryd.func40 rfl rfl) rfl rfl (by simp)
      apply Wk.pckT rfl (by conv => lhs; whnf) (lt_of_ble rfl)
      apply Wk.mv (by conv => lhs; whnf) (lt_of_ble rfl)
      apply Wk.goff 45 (ok_load 3 ty24) rfl rfl (by simp)
      apply Wk.goff 45 (ok_load 5 ty31) rfl rfl (by simp)
      apply Wk.goff 45 (ok_datw ((itlb m0 w0 s0 t0 y0 k s c p f y g l fs rfl).w rfl) Tryd.func63 rfl rfl) rfl rfl (by simp)
      apply Wk.pckT rfl (by conv => lhs; whnf) (lt_of_ble rfl)
      refine Wk.nil ?_
      refine AW.cond rfl (fun _ => ?_) (fun hc => by cases hc)
      refine AW.seq ?_
      apply AW.draw (hm := hmix) (cs := _)
      · apply Wk.fad 0 0 false fd50_0 rfl (lt_of_ble rfl)
        apply Wk.ld (i := 4) 1 false ty3 rfl rfl (by conv => lhs; whnf) (lt_of_ble rfl)
        apply Wk.fad 1 1 true fd50_1 rfl (lt_of_ble rfl)
        apply Wk.ld (i := 4) 2 true ty48 rfl rfl (by conv => lhs; whnf) (lt_of_ble rfl)
        apply Wk.dat (copyJoin_ok m bs hbl) Tryd.func55 rfl rfl rfl rfl rfl (lt_of_ble rfl)
        apply Wk.bld [.int .i64 0, .int .i64 0, .slice none 0 0, .bool false] [(0, 1), (1, 2), (3, 1)] bl50 rfl (by conv => lhs; whnf) (lt_of_ble rfl)
        apply Wk.sto (i := 6) 4 true ty50 rfl rfl rfl rfl (Nat.le_of_ble_eq_true rfl) (lt_of_ble rfl)
        apply Wk.asg (by conv => lhs; whnf) (lt_of_ble rfl)
        refine Wk.nil (AW.ret ?_)
        repeat (first | refine thenA_ret ?_ | refine inBlockA_ret ?_)
        exact RetQ.ret [] (.cons ⟨6, 0, _, _, _, rfl, rfl, ty50, rfl⟩ (.cons rfl .nil)) ⟨rfl, rfl⟩ none_kept
      · rfl
      · rfl
  · have hs := ispendOn (V := V) v (by omega) (by omega)
    cases d
    · have htl : decide (t0 < l ∨ s0 < (fs.length : Int)) = true := by
        rcases hi with h | h | h | h
        · cases h
        · omega
        · exact decide_eq_true (.inl h)
        · exact decide_eq_true (.inr h)
      refine DataV.intro (n := 76) (rv := [.cell 6 50, .tmp 7]) Tryd.func28 rfl rfl rfl (by simp) fun C hV hN hX => ?_
      refine AW.seq ?_
      apply AW.list
      apply Wk.bx 3 rfl rfl (lt_of_ble rfl)
      apply Wk.bx 4 rfl rfl (lt_of_ble rfl)
      apply Wk.bx 5 rfl rfl (lt_of_ble rfl)
      apply Wk.alc 6 [.int .i64 0, .int .i64 0, .slice none 0 0, .bool false] ze50 rfl rfl (lt_of_ble rfl)
      apply Wk.asg (by conv => lhs; whnf) (lt_of_ble rfl)
      refine Wk.nil ?_
      refine AW.seq (AW.seq ?_)
      apply AW.list
      apply Wk.ld (i := 3) 5 true ty24 rfl rfl (by conv => lhs; whnf) (lt_of_ble rfl)
      apply Wk.dat (icfgbX m0 w0 s0 t0 y0 h0) Tryd.func47 rfl rfl rfl rfl rfl (lt_of_ble rfl)
      apply Wk.un rfl (fun w => by simp [go_sem] <;> rfl) (lt_of_ble rfl)
      apply Wk.mv (by conv => lhs; whnf) (lt_of_ble rfl)
      apply Wk.gon 16 rfl rfl
      apply Wk.ld (i := 4) 4 true ty50 rfl rfl (by conv => lhs; whnf) (lt_of_ble rfl)
      apply Wk.gon 16 rfl rfl
      apply Wk.dat (icrxb false h1) Tryd.func26 rfl rfl rfl rfl rfl (lt_of_ble rfl)
      apply Wk.gon 16 rfl rfl
      apply Wk.un rfl (fun w => by simp [go_sem] <;> rfl) (lt_of_ble rfl)
      apply Wk.pckF rfl (by conv => lhs; whnf) (lt_of_ble rfl)
      apply Wk.mv (by conv => lhs; whnf) (lt_of_ble rfl)
      apply Wk.gon 21 rfl rfl
      apply Wk.fad 0 0 false fd31_0 rfl (lt_of_ble rfl)
      apply Wk.gon 21 rfl rfl
      apply Wk.ld (i := 5) 1 false ty3 rfl rfl (by conv => lhs; whnf) (lt_of_ble rfl)
      apply Wk.gon 21 rfl rfl
      apply Wk.bin rfl rfl (r := .bool false) (fun w => by simp [go_sem, hk]) (lt_of_ble rfl)
      apply Wk.pckF rfl (by conv => lhs; whnf) (lt_of_ble rfl)
      apply Wk.mv (by conv => lhs; whnf) (lt_of_ble rfl)
      apply Wk.gon 26 rfl rfl
      apply Wk.ld (i := 5) 9 true ty31 rfl rfl (by conv => lhs; whnf) (lt_of_ble rfl)
      apply Wk.gon 26 rfl rfl
      apply Wk.dat (ifrmT k s c p f y g l fs hl h3) Tryd.func17 rfl rfl rfl rfl rfl (lt_of_ble rfl)
      apply Wk.gon 26 rfl rfl
      apply Wk.un rfl (fun w => by simp [go_sem] <;> rfl) (lt_of_ble rfl)
      apply Wk.pckF rfl (by conv => lhs; whnf) (lt_of_ble rfl)
      refine Wk.nil ?_
      refine AW.cond rfl (fun hc => by cases hc) (fun _ => AW.skip (thenA_normal ?_))
      refine AW.seq ?_
      apply AW.list
      apply Wk.fad 0 0 false fd50_0 rfl (lt_of_ble rfl)
      apply Wk.ld (i := 4) 1 false ty3 rfl rfl (by conv => lhs; whnf) (lt_of_ble rfl)
      apply Wk.dav hs hX hV Tryd.func39 rfl rfl rfl rfl rfl (lt_of_ble rfl)
      apply Wk.mv (by conv => lhs; whnf) (lt_of_ble rfl)
      apply Wk.ext rfl rfl (lt_of_ble rfl)
      apply Wk.ext rfl rfl (lt_of_ble rfl)
      apply Wk.asg (by conv => lhs; whnf) (lt_of_ble rfl)
      apply Wk.asg (by conv => lhs; whnf) (lt_of_ble rfl)
      refine Wk.nil ?_
      refine AW.seq (AW.seq ?_)
      apply AW.list
      apply Wk.fad 3 0 false fd50_2 rfl (lt_of_ble rfl)
      apply Wk.ld (i := 4) 1 false ty4 rfl rfl (by conv => lhs; whnf) (lt_of_ble rfl)
      apply Wk.mv (by conv => lhs; whnf) (lt_of_ble rfl)
      apply Wk.gon 40 rfl rfl
      apply Wk.mv (by conv => lhs; whnf) (lt_of_ble rfl)
      apply Wk.gon 40 rfl rfl
      apply Wk.ldv hX hV tyErr hV0 (lt_of_ble rfl)
      apply Wk.gon 40 rfl rfl
      apply Wk.dav hsn hX hV Tryd.func40 rfl rfl rfl rfl rfl (lt_of_ble rfl)
      apply Wk.pckF rfl (by conv => lhs; whnf) (lt_of_ble rfl)
      apply Wk.mv (by conv => lhs; whnf) (lt_of_ble rfl)
      apply Wk.gon 45 rfl rfl
      apply Wk.ld (i := 3) 5 true ty24 rfl rfl (by conv => lhs; whnf) (lt_of_ble rfl)
      apply Wk.gon 45 rfl rfl
      apply Wk.ld (i := 5) 9 true ty31 rfl rfl (by conv => lhs; whnf) (lt_of_ble rfl)
      apply Wk.gon 45 rfl rfl
      apply Wk.dat (itlb m0 w0 s0 t0 y0 k s c p f y g l fs htl) Tryd.func63 rfl rfl rfl rfl rfl (lt_of_ble rfl)
      apply Wk.pckF rfl (by conv => lhs; whnf) (lt_of_ble rfl)
      refine Wk.nil ?_
      refine AW.cond rfl (fun _ => ?_) (fun hc => by cases hc)
      refine AW.seq ?_
      apply AW.draw (hm := hmix) (cs := _)
      · apply Wk.fad 0 0 false fd50_0 rfl (lt_of_ble rfl)
        apply Wk.ld (i := 4) 1 false ty3 rfl rfl (by conv => lhs; whnf) (lt_of_ble rfl)
        apply Wk.fad 1 1 true fd50_1 rfl (lt_of_ble rfl)
        apply Wk.ld (i := 4) 2 true ty48 rfl rfl (by conv => lhs; whnf) (lt_of_ble rfl)
        apply Wk.dat (copyJoin_ok m bs hbl) Tryd.func55 rfl rfl rfl rfl rfl (lt_of_ble rfl)
        apply Wk.bld [.int .i64 0, .int .i64 0, .slice none 0 0, .bool false] [(0, 1), (1, 2), (3, 1)] bl50 rfl (by conv => lhs; whnf) (lt_of_ble rfl)
        apply Wk.sto (i := 6) 4 true ty50 rfl rfl rfl rfl (Nat.le_of_ble_eq_true rfl) (lt_of_ble rfl)
        apply Wk.asg (by conv => lhs; whnf) (lt_of_ble rfl)
        refine Wk.nil (AW.ret ?_)
        repeat (first | refine thenA_ret ?_ | refine inBlockA_ret ?_)
        exact RetQ.ret [] (.cons ⟨6, 0, _, _, _, rfl, rfl, ty50, rfl⟩ (.cons rfl .nil)) ⟨rfl, rfl⟩ none_kept
      · rfl
      · rfl
    · skip
      refine DataV.intro (n := 76) (rv := [.cell 6 50, .tmp 7]) Tryd.func28 rfl rfl rfl (by simp) fun C hV hN hX => ?_
      refine AW.seq ?_
      apply AW.list
      apply Wk.bx 3 rfl rfl (lt_of_ble rfl)
      apply Wk.bx 4 rfl rfl (lt_of_ble rfl)
      apply Wk.bx 5 rfl rfl (lt_of_ble rfl)
      apply Wk.alc 6 [.int .i64 0, .int .i64 0, .slice none 0 0, .bool false] ze50 rfl rfl (lt_of_ble rfl)
      apply Wk.asg (by conv => lhs; whnf) (lt_of_ble rfl)
      refine Wk.nil ?_
      refine AW.seq (AW.seq ?_)
      apply AW.list
      apply Wk.ld (i := 3) 5 true ty24 rfl rfl (by conv => lhs; whnf) (lt_of_ble rfl)
      apply Wk.dat (icfgbX m0 w0 s0 t0 y0 h0) Tryd.func47 rfl rfl rfl rfl rfl (lt_of_ble rfl)
      apply Wk.un rfl (fun w => by simp [go_sem] <;> rfl) (lt_of_ble rfl)
      apply Wk.mv (by conv => lhs; whnf) (lt_of_ble rfl)
      apply Wk.gon 16 rfl rfl
      apply Wk.ld (i := 4) 4 true ty50 rfl rfl (by conv => lhs; whnf) (lt_of_ble rfl)
      apply Wk.gon 16 rfl rfl
      apply Wk.dat (icrxb true h1) Tryd.func26 rfl rfl rfl rfl rfl (lt_of_ble rfl)
      apply Wk.gon 16 rfl rfl
      apply Wk.un rfl (fun w => by simp [go_sem] <;> rfl) (lt_of_ble rfl)
      apply Wk.pckF rfl (by conv => lhs; whnf) (lt_of_ble rfl)
      apply Wk.mv (by conv => lhs; whnf) (lt_of_ble rfl)
      apply Wk.gon 21 rfl rfl
      apply Wk.fad 0 0 false fd31_0 rfl (lt_of_ble rfl)
      apply Wk.gon 21 rfl rfl
      apply Wk.ld (i := 5) 1 false ty3 rfl rfl (by conv => lhs; whnf) (lt_of_ble rfl)
      apply Wk.gon 21 rfl rfl
      apply Wk.bin rfl rfl (r := .bool false) (fun w => by simp [go_sem, hk]) (lt_of_ble rfl)
      apply Wk.pckF rfl (by conv => lhs; whnf) (lt_of_ble rfl)
      apply Wk.mv (by conv => lhs; whnf) (lt_of_ble rfl)
      apply Wk.gon 26 rfl rfl
      apply Wk.ld (i := 5) 9 true ty31 rfl rfl (by conv => lhs; whnf) (lt_of_ble rfl)
      apply Wk.gon 26 rfl rfl
      apply Wk.dat (ifrmT k s c p f y g l fs hl h3) Tryd.func17 rfl rfl rfl rfl rfl (lt_of_ble rfl)
      apply Wk.gon 26 rfl rfl
      apply Wk.un rfl (fun w => by simp [go_sem] <;> rfl) (lt_of_ble rfl)
      apply Wk.pckF rfl (by conv => lhs; whnf) (lt_of_ble rfl)
      refine Wk.nil ?_
      refine AW.cond rfl (fun hc => by cases hc) (fun _ => AW.skip (thenA_normal ?_))
      refine AW.seq ?_
      apply AW.list
      apply Wk.fad 0 0 false fd50_0 rfl (lt_of_ble rfl)
      apply Wk.ld (i := 4) 1 false ty3 rfl rfl (by conv => lhs; whnf) (lt_of_ble rfl)
      apply Wk.dav hs hX hV Tryd.func39 rfl rfl rfl rfl rfl (lt_of_ble rfl)
      apply Wk.mv (by conv => lhs; whnf) (lt_of_ble rfl)
      apply Wk.ext rfl rfl (lt_of_ble rfl)
      apply Wk.ext rfl rfl (lt_of_ble rfl)
      apply Wk.asg (by conv => lhs; whnf) (lt_of_ble rfl)
      apply Wk.asg (by conv => lhs; whnf) (lt_of_ble rfl)
      refine Wk.nil ?_
      refine AW.seq (AW.seq ?_)
      apply AW.list
      apply Wk.fad 3 0 false fd50_2 rfl (lt_of_ble rfl)
      apply Wk.ld (i := 4) 1 false ty4 rfl rfl (by conv => lhs; whnf) (lt_of_ble rfl)
      apply Wk.mv (by conv => lhs; whnf) (lt_of_ble rfl)
      apply Wk.goff 40 (ok_move _) rfl rfl (by simp)
      apply Wk.goff 40 (ok_ldv hX hV tyErr hV0) rfl rfl (by simp)
      apply Wk.goff 40 (ok_dav hsn rfl hX hV Tryd.func40 rfl rfl) rfl rfl (by simp)
      apply Wk.pckT rfl (by conv => lhs; whnf) (lt_of_ble rfl)
      apply Wk.mv (by conv => lhs; whnf) (lt_of_ble rfl)
      apply Wk.goff 45 (ok_load 3 ty24) rfl rfl (by simp)
      apply Wk.goff 45 (ok_load 5 ty31) rfl rfl (by simp)
      apply Wk.goff 45 (ok_datw ((itlb m0 w0 s0 t0 y0 k s c p f y g l fs rfl).w rfl) Tryd.func63 rfl rfl) rfl rfl (by simp)
      apply Wk.pckT rfl (by conv => lhs; whnf) (lt_of_ble rfl)
      refine Wk.nil ?_
      refine AW.cond rfl (fun _ => ?_) (fun hc => by cases hc)
      refine AW.seq ?_
      apply AW.draw (hm := hmix) (cs := _)
      · apply Wk.fad 0 0 false fd50_0 rfl (lt_of_ble rfl)
        apply Wk.ld (i := 4) 1 false ty3 rfl rfl (by conv => lhs; whnf) (lt_of_ble rfl)
        apply Wk.fad 1 1 true fd50_1 rfl (lt_of_ble rfl)
        apply Wk.ld (i := 4) 2 true ty48 rfl rfl (by conv => lhs; whnf) (lt_of_ble rfl)
        apply Wk.dat (copyJoin_ok m bs hbl) Tryd.func55 rfl rfl rfl rfl rfl (lt_of_ble rfl)
        apply Wk.bld [.int .i64 0, .int .i64 0, .slice none 0 0, .bool false] [(0, 1), (1, 2), (3, 1)] bl50 rfl (by conv => lhs; whnf) (lt_of_ble rfl)
        apply Wk.sto (i := 6) 4 true ty50 rfl rfl rfl rfl (Nat.le_of_ble_eq_true rfl) (lt_of_ble rfl)
        apply Wk.asg (by conv => lhs; whnf) (lt_of_ble rfl)
        refine Wk.nil (AW.ret ?_)
        repeat (first | refine thenA_ret ?_ | refine inBlockA_ret ?_)
        exact RetQ.ret [] (.cons ⟨6, 0, _, _, _, rfl, rfl, ty50, rfl⟩ (.cons rfl .nil)) ⟨rfl, rfl⟩ none_kept
      · rfl
      · rfl
set_option maxHeartbeats 8000000 in
set_option maxRecDepth 100000 in
theorem ihearCBad (m0 w0 s0 t0 y0 : Int) (v m : Int) (bs : List (Fin 256)) (k s c : Int) (p f : Bool) (y g l : Int) (fs : List (Fin 256)) (h0 : Opt.ok ⟨m0, w0, s0, t0, y0⟩ = true) (h1 : crxB v m bs.length = true) (hk : k = 3) (h3 : frmB k s c p f y g l fs.length = true) (hbl : bs.length ≤ 1000) (hl : fs.length ≤ 2000000) (hV0 : (0, errV a) ∈ V) (hv : ¬ v = 0) (ht : ¬ (t0 < l ∨ s0 < (fs.length : Int))) (hC : putC m bs.length g fs.length = 3) : DataV Tryd.prog V 28 [cfgA m0 w0 s0 t0 y0, crA v m bs false, frmA k s c p f y g l fs] (.tup [crA (v - 1) 0 [] true, nilS]) := by
  have hf := crx_facts h1
  have hp : pieceB g l fs.length = true := by subst hk; exact frm3 h3
  have hl1 := joinB_small hf.2
  have hl2 := pieceB_small hp
  have hsn := (isNil_ok a).v (V := V)
  have hs := ispendOn (V := V) v (by omega) (by omega)
  have htl : decide (t0 < l ∨ s0 < (fs.length : Int)) = false := decide_eq_false ht
  refine DataV.intro (n := 76) (rv := [.cell 6 50, .tmp 7]) Tryd.func28 rfl rfl rfl (by simp) fun C hV hN hX => ?_
  refine AW.seq ?_
  apply AW.list
  apply Wk.bx 3 rfl rfl (lt_of_ble rfl)
  apply Wk.bx 4 rfl rfl (lt_of_ble rfl)
  apply Wk.bx 5 rfl rfl (lt_of_ble rfl)
  apply Wk.alc 6 [.int .i64 0, .int .i64 0, .slice none 0 0, .bool false] ze50 rfl rfl (lt_of_ble rfl)
  apply Wk.asg (by conv => lhs; whnf) (lt_of_ble rfl)
  refine Wk.nil ?_
  refine AW.seq (AW.seq ?_)
  apply AW.list
  apply Wk.ld (i := 3) 5 true ty24 rfl rfl (by conv => lhs; whnf) (lt_of_ble rfl)
  apply Wk.dat (icfgbX m0 w0 s0 t0 y0 h0) Tryd.func47 rfl rfl rfl rfl rfl (lt_of_ble rfl)
  apply Wk.un rfl (fun w => by simp [go_sem] <;> rfl) (lt_of_ble rfl)
  apply Wk.mv (by conv => lhs; whnf) (lt_of_ble rfl)
  apply Wk.gon 16 rfl rfl
  apply Wk.ld (i := 4) 4 true ty50 rfl rfl (by conv => lhs; whnf) (lt_of_ble rfl)
  apply Wk.gon 16 rfl rfl
  apply Wk.dat (icrxb false h1) Tryd.func26 rfl rfl rfl rfl rfl (lt_of_ble rfl)
  apply Wk.gon 16 rfl rfl
  apply Wk.un rfl (fun w => by simp [go_sem] <;> rfl) (lt_of_ble rfl)
  apply Wk.pckF rfl (by conv => lhs; whnf) (lt_of_ble rfl)
  apply Wk.mv (by conv => lhs; whnf) (lt_of_ble rfl)
  apply Wk.gon 21 rfl rfl
  apply Wk.fad 0 0 false fd31_0 rfl (lt_of_ble rfl)
  apply Wk.gon 21 rfl rfl
  apply Wk.ld (i := 5) 1 false ty3 rfl rfl (by conv => lhs; whnf) (lt_of_ble rfl)
  apply Wk.gon 21 rfl rfl
  apply Wk.bin rfl rfl (r := .bool false) (fun w => by simp [go_sem, hk]) (lt_of_ble rfl)
  apply Wk.pckF rfl (by conv => lhs; whnf) (lt_of_ble rfl)
  apply Wk.mv (by conv => lhs; whnf) (lt_of_ble rfl)
  apply Wk.gon 26 rfl rfl
  apply Wk.ld (i := 5) 9 true ty31 rfl rfl (by conv => lhs; whnf) (lt_of_ble rfl)
  apply Wk.gon 26 rfl rfl
  apply Wk.dat (ifrmT k s c p f y g l fs hl h3) Tryd.func17 rfl rfl rfl rfl rfl (lt_of_ble rfl)
  apply Wk.gon 26 rfl rfl
  apply Wk.un rfl (fun w => by simp [go_sem] <;> rfl) (lt_of_ble rfl)
  apply Wk.pckF rfl (by conv => lhs; whnf) (lt_of_ble rfl)
  refine Wk.nil ?_
  refine AW.cond rfl (fun hc => by cases hc) (fun _ => AW.skip (thenA_normal ?_))
  refine AW.seq ?_
  apply AW.list
  apply Wk.fad 0 0 false fd50_0 rfl (lt_of_ble rfl)
  apply Wk.ld (i := 4) 1 false ty3 rfl rfl (by conv => lhs; whnf) (lt_of_ble rfl)
  apply Wk.dav hs hX hV Tryd.func39 rfl rfl rfl rfl rfl (lt_of_ble rfl)
  apply Wk.mv (by conv => lhs; whnf) (lt_of_ble rfl)
  apply Wk.ext rfl rfl (lt_of_ble rfl)
  apply Wk.ext rfl rfl (lt_of_ble rfl)
  apply Wk.asg (by conv => lhs; whnf) (lt_of_ble rfl)
  apply Wk.asg (by conv => lhs; whnf) (lt_of_ble rfl)
  refine Wk.nil ?_
  refine AW.seq (AW.seq ?_)
  apply AW.list
  apply Wk.fad 3 0 false fd50_2 rfl (lt_of_ble rfl)
  apply Wk.ld (i := 4) 1 false ty4 rfl rfl (by conv => lhs; whnf) (lt_of_ble rfl)
  apply Wk.mv (by conv => lhs; whnf) (lt_of_ble rfl)
  apply Wk.gon 40 rfl rfl
  apply Wk.mv (by conv => lhs; whnf) (lt_of_ble rfl)
  apply Wk.gon 40 rfl rfl
  apply Wk.ldv hX hV tyErr hV0 (lt_of_ble rfl)
  apply Wk.gon 40 rfl rfl
  apply Wk.dav hsn hX hV Tryd.func40 rfl rfl rfl rfl rfl (lt_of_ble rfl)
  apply Wk.pckF rfl (by conv => lhs; whnf) (lt_of_ble rfl)
  apply Wk.mv (by conv => lhs; whnf) (lt_of_ble rfl)
  apply Wk.gon 45 rfl rfl
  apply Wk.ld (i := 3) 5 true ty24 rfl rfl (by conv => lhs; whnf) (lt_of_ble rfl)
  apply Wk.gon 45 rfl rfl
  apply Wk.ld (i := 5) 9 true ty31 rfl rfl (by conv => lhs; whnf) (lt_of_ble rfl)
  apply Wk.gon 45 rfl rfl
  apply Wk.dat (itlb m0 w0 s0 t0 y0 k s c p f y g l fs htl) Tryd.func63 rfl rfl rfl rfl rfl (lt_of_ble rfl)
  apply Wk.pckF rfl (by conv => lhs; whnf) (lt_of_ble rfl)
  refine Wk.nil ?_
  refine AW.cond rfl (fun hc => by cases hc) (fun _ => AW.skip (thenA_normal ?_))
  refine AW.seq ?_
  apply AW.draw (hm := hmix) (cs := _)
  · apply Wk.fad 1 1 true fd50_1 rfl (lt_of_ble rfl)
    apply Wk.ld (i := 4) 2 true ty48 rfl rfl (by conv => lhs; whnf) (lt_of_ble rfl)
    apply Wk.ld (i := 5) 9 true ty31 rfl rfl (by conv => lhs; whnf) (lt_of_ble rfl)
    apply Wk.dat (car_ok k s c p f y g l fs) Tryd.func64 rfl rfl rfl rfl rfl (lt_of_ble rfl)
    apply Wk.dat (iputb m bs g l fs (by omega) (by omega) (putA4_bad hf.2 hp hC)) Tryd.func33 rfl rfl rfl rfl rfl (lt_of_ble rfl)
    apply Wk.mv (by conv => lhs; whnf) (lt_of_ble rfl)
    apply Wk.ext rfl rfl (lt_of_ble rfl)
    apply Wk.ext rfl rfl (lt_of_ble rfl)
    apply Wk.ext rfl rfl (lt_of_ble rfl)
    apply Wk.alc 10 [.int .i64 0, .slice none 0 0] ze48 rfl rfl (lt_of_ble rfl)
    apply Wk.sto (i := 10) 2 true ty48 rfl rfl rfl rfl (Nat.le_of_ble_eq_true rfl) (lt_of_ble rfl)
    apply Wk.asg (by conv => lhs; whnf) (lt_of_ble rfl)
    apply Wk.asg (by conv => lhs; whnf) (lt_of_ble rfl)
    refine Wk.nil ?_
    refine AW.seq ?_
    apply AW.list
    apply Wk.mv (by conv => lhs; whnf) (lt_of_ble rfl)
    apply Wk.ld (i := 10) 2 true ty48 rfl rfl (by conv => lhs; whnf) (lt_of_ble rfl)
    apply Wk.mv (by conv => lhs; whnf) (lt_of_ble rfl)
    apply Wk.bin rfl rfl (fun w => by simp [go_sem] <;> rfl) (lt_of_ble rfl)
    apply Wk.bld [.int .i64 0, .int .i64 0, .slice none 0 0, .bool false] [(0, 1), (1, 2), (3, 1)] bl50 rfl (by conv => lhs; whnf) (lt_of_ble rfl)
    apply Wk.sto (i := 4) 4 true ty50 rfl rfl rfl rfl (Nat.le_of_ble_eq_true rfl) (lt_of_ble rfl)
    refine Wk.nil ?_
    refine AW.seq (AW.seq ?_)
    apply AW.list
    apply Wk.mv (by conv => lhs; whnf) (lt_of_ble rfl)
    apply Wk.bin rfl rfl (fun w => by simp [go_sem] <;> rfl) (lt_of_ble rfl)
    refine Wk.nil ?_
    refine AW.cond rfl (fun hc => by cases hc) (fun _ => AW.skip (thenA_normal ?_))
    refine AW.seq ?_
    apply AW.list
    apply Wk.ld (i := 4) 4 true ty50 rfl rfl (by conv => lhs; whnf) (lt_of_ble rfl)
    apply Wk.sto (i := 6) 4 true ty50 rfl rfl rfl rfl (Nat.le_of_ble_eq_true rfl) (lt_of_ble rfl)
    apply Wk.asg (by conv => lhs; whnf) (lt_of_ble rfl)
    refine Wk.nil (AW.ret ?_)
    repeat (first | refine thenA_ret ?_ | refine inBlockA_ret ?_)
    exact RetQ.ret [] (.cons ⟨6, 0, _, _, _, rfl, rfl, ty50, rfl⟩ (.cons rfl .nil)) ⟨rfl, rfl⟩ none_kept
  · rfl
  · rfl
set_option maxHeartbeats 8000000 in
set_option maxRecDepth 100000 in
theorem ihearCAll (m0 w0 s0 t0 y0 : Int) (v m : Int) (bs : List (Fin 256)) (k s c : Int) (p f : Bool) (y g l : Int) (fs : List (Fin 256)) (h0 : Opt.ok ⟨m0, w0, s0, t0, y0⟩ = true) (h1 : crxB v m bs.length = true) (hk : k = 3) (h3 : frmB k s c p f y g l fs.length = true) (hbl : bs.length ≤ 1000) (hl : fs.length ≤ 2000000) (hV0 : (0, errV a) ∈ V) (hv : ¬ v = 0) (ht : ¬ (t0 < l ∨ s0 < (fs.length : Int))) (hC : putC m bs.length g fs.length = 2) : DataV Tryd.prog V 28 [cfgA m0 w0 s0 t0 y0, crA v m bs false, frmA k s c p f y g l fs] (.tup [crA (v - 1) 0 [] false, oneS (bs ++ fs)]) := by
  have hf := crx_facts h1
  have hp : pieceB g l fs.length = true := by subst hk; exact frm3 h3
  have hl1 := joinB_small hf.2
  have hl2 := pieceB_small hp
  have hsn := (isNil_ok a).v (V := V)
  have hs := ispendOn (V := V) v (by omega) (by omega)
  have htl : decide (t0 < l ∨ s0 < (fs.length : Int)) = false := decide_eq_false ht
  refine DataV.intro (n := 76) (rv := [.cell 6 50, .tmp 7]) Tryd.func28 rfl rfl rfl (by simp) fun C hV hN hX => ?_
  refine AW.seq ?_
  apply AW.list
  apply Wk.bx 3 rfl rfl (lt_of_ble rfl)
  apply Wk.bx 4 rfl rfl (lt_of_ble rfl)
  apply Wk.bx 5 rfl rfl (lt_of_ble rfl)
  apply Wk.alc 6 [.int .i64 0, .int .i64 0, .slice none 0 0, .bool false] ze50 rfl rfl (lt_of_ble rfl)
  apply Wk.asg (by conv => lhs; whnf) (lt_of_ble rfl)
  refine Wk.nil ?_
  refine AW.seq (AW.seq ?_)
  apply AW.list
  apply Wk.ld (i := 3) 5 true ty24 rfl rfl (by conv => lhs; whnf) (lt_of_ble rfl)
  apply Wk.dat (icfgbX m0 w0 s0 t0 y0 h0) Tryd.func47 rfl rfl rfl rfl rfl (lt_of_ble rfl)
  apply Wk.un rfl (fun w => by simp [go_sem] <;> rfl) (lt_of_ble rfl)
  apply Wk.mv (by conv => lhs; whnf) (lt_of_ble rfl)
  apply Wk.gon 16 rfl rfl
  apply Wk.ld (i := 4) 4 true ty50 rfl rfl (by conv => lhs; whnf) (lt_of_ble rfl)
  apply Wk.gon 16 rfl rfl
  apply Wk.dat (icrxb false h1) Tryd.func26 rfl rfl rfl rfl rfl (lt_of_ble rfl)
  apply Wk.gon 16 rfl rfl
  apply Wk.un rfl (fun w => by simp [go_sem] <;> rfl) (lt_of_ble rfl)
  apply Wk.pckF rfl (by conv => lhs; whnf) (lt_of_ble rfl)
  apply Wk.mv (by conv => lhs; whnf) (lt_of_ble rfl)
  apply Wk.gon 21 rfl rfl
  apply Wk.fad 0 0 false fd31_0 rfl (lt_of_ble rfl)
  apply Wk.gon 21 rfl rfl
  apply Wk.ld (i := 5) 1 false ty3 rfl rfl (by conv => lhs; whnf) (lt_of_ble rfl)
  apply Wk.gon 21 rfl rfl
  apply Wk.bin rfl rfl (r := .bool false) (fun w => by simp [go_sem, hk]) (lt_of_ble rfl)
  apply Wk.pckF rfl (by conv => lhs; whnf) (lt_of_ble rfl)
  apply Wk.mv (by conv => lhs; whnf) (lt_of_ble rfl)
  apply Wk.gon 26 rfl rfl
  apply Wk.ld (i := 5) 9 true ty31 rfl rfl (by conv => lhs; whnf) (lt_of_ble rfl)
  apply Wk.gon 26 rfl rfl
  apply Wk.dat (ifrmT k s c p f y g l fs hl h3) Tryd.func17 rfl rfl rfl rfl rfl (lt_of_ble rfl)
  apply Wk.gon 26 rfl rfl
  apply Wk.un rfl (fun w => by simp [go_sem] <;> rfl) (lt_of_ble rfl)
  apply Wk.pckF rfl (by conv => lhs; whnf) (lt_of_ble rfl)
  refine Wk.nil ?_
  refine AW.cond rfl (fun hc => by cases hc) (fun _ => AW.skip (thenA_normal ?_))
  refine AW.seq ?_
  apply AW.list
  apply Wk.fad 0 0 false fd50_0 rfl (lt_of_ble rfl)
  apply Wk.ld (i := 4) 1 false ty3 rfl rfl (by conv => lhs; whnf) (lt_of_ble rfl)
  apply Wk.dav hs hX hV Tryd.func39 rfl rfl rfl rfl rfl (lt_of_ble rfl)
  apply Wk.mv (by conv => lhs; whnf) (lt_of_ble rfl)
  apply Wk.ext rfl rfl (lt_of_ble rfl)
  apply Wk.ext rfl rfl (lt_of_ble rfl)
  apply Wk.asg (by conv => lhs; whnf) (lt_of_ble rfl)
  apply Wk.asg (by conv => lhs; whnf) (lt_of_ble rfl)
  refine Wk.nil ?_
  refine AW.seq (AW.seq ?_)
  apply AW.list
  apply Wk.fad 3 0 false fd50_2 rfl (lt_of_ble rfl)
  apply Wk.ld (i := 4) 1 false ty4 rfl rfl (by conv => lhs; whnf) (lt_of_ble rfl)
  apply Wk.mv (by conv => lhs; whnf) (lt_of_ble rfl)
  apply Wk.gon 40 rfl rfl
  apply Wk.mv (by conv => lhs; whnf) (lt_of_ble rfl)
  apply Wk.gon 40 rfl rfl
  apply Wk.ldv hX hV tyErr hV0 (lt_of_ble rfl)
  apply Wk.gon 40 rfl rfl
  apply Wk.dav hsn hX hV Tryd.func40 rfl rfl rfl rfl rfl (lt_of_ble rfl)
  apply Wk.pckF rfl (by conv => lhs; whnf) (lt_of_ble rfl)
  apply Wk.mv (by conv => lhs; whnf) (lt_of_ble rfl)
  apply Wk.gon 45 rfl rfl
  apply Wk.ld (i := 3) 5 true ty24 rfl rfl (by conv => lhs; whnf) (lt_of_ble rfl)
  apply Wk.gon 45 rfl rfl
  apply Wk.ld (i := 5) 9 true ty31 rfl rfl (by conv => lhs; whnf) (lt_of_ble rfl)
  apply Wk.gon 45 rfl rfl
  apply Wk.dat (itlb m0 w0 s0 t0 y0 k s c p f y g l fs htl) Tryd.func63 rfl rfl rfl rfl rfl (lt_of_ble rfl)
  apply Wk.pckF rfl (by conv => lhs; whnf) (lt_of_ble rfl)
  refine Wk.nil ?_
  refine AW.cond rfl (fun hc => by cases hc) (fun _ => AW.skip (thenA_normal ?_))
  refine AW.seq ?_
  apply AW.draw (hm := hmix) (cs := _)
  · apply Wk.fad 1 1 true fd50_1 rfl (lt_of_ble rfl)
    apply Wk.ld (i := 4) 2 true ty48 rfl rfl (by conv => lhs; whnf) (lt_of_ble rfl)
    apply Wk.ld (i := 5) 9 true ty31 rfl rfl (by conv => lhs; whnf) (lt_of_ble rfl)
    apply Wk.dat (car_ok k s c p f y g l fs) Tryd.func64 rfl rfl rfl rfl rfl (lt_of_ble rfl)
    apply Wk.dat (iputb m bs g l fs (by omega) (by omega) (putA4_all hf.2 hp hC)) Tryd.func33 rfl rfl rfl rfl rfl (lt_of_ble rfl)
    apply Wk.mv (by conv => lhs; whnf) (lt_of_ble rfl)
    apply Wk.ext rfl rfl (lt_of_ble rfl)
    apply Wk.ext rfl rfl (lt_of_ble rfl)
    apply Wk.ext rfl rfl (lt_of_ble rfl)
    apply Wk.alc 10 [.int .i64 0, .slice none 0 0] ze48 rfl rfl (lt_of_ble rfl)
    apply Wk.sto (i := 10) 2 true ty48 rfl rfl rfl rfl (Nat.le_of_ble_eq_true rfl) (lt_of_ble rfl)
    apply Wk.asg (by conv => lhs; whnf) (lt_of_ble rfl)
    apply Wk.asg (by conv => lhs; whnf) (lt_of_ble rfl)
    refine Wk.nil ?_
    refine AW.seq ?_
    apply AW.list
    apply Wk.mv (by conv => lhs; whnf) (lt_of_ble rfl)
    apply Wk.ld (i := 10) 2 true ty48 rfl rfl (by conv => lhs; whnf) (lt_of_ble rfl)
    apply Wk.mv (by conv => lhs; whnf) (lt_of_ble rfl)
    apply Wk.bin rfl rfl (fun w => by simp [go_sem] <;> rfl) (lt_of_ble rfl)
    apply Wk.bld [.int .i64 0, .int .i64 0, .slice none 0 0, .bool false] [(0, 1), (1, 2), (3, 1)] bl50 rfl (by conv => lhs; whnf) (lt_of_ble rfl)
    apply Wk.sto (i := 4) 4 true ty50 rfl rfl rfl rfl (Nat.le_of_ble_eq_true rfl) (lt_of_ble rfl)
    refine Wk.nil ?_
    refine AW.seq (AW.seq ?_)
    apply AW.list
    apply Wk.mv (by conv => lhs; whnf) (lt_of_ble rfl)
    apply Wk.bin rfl rfl (fun w => by simp [go_sem] <;> rfl) (lt_of_ble rfl)
    refine Wk.nil ?_
    refine AW.cond rfl (fun _ => ?_) (fun hc => by cases hc)
    refine AW.seq ?_
    apply AW.list
    apply Wk.ld (i := 4) 4 true ty50 rfl rfl (by conv => lhs; whnf) (lt_of_ble rfl)
    apply Wk.mv (by conv => lhs; whnf) (lt_of_ble rfl)
    apply Wk.lst 74 1 false [.slice none 0 0] un58 ty22 ze22 rfl rfl (by rfl) (by rfl) (by decide) (by decide) rfl rfl (all_len rfl) (lt_of_ble rfl)
    apply Wk.sto (i := 6) 4 true ty50 rfl rfl rfl rfl (Nat.le_of_ble_eq_true rfl) (lt_of_ble rfl)
    apply Wk.asg (by conv => lhs; whnf) (lt_of_ble rfl)
    refine Wk.nil ?_
    repeat (first | refine thenA_normal ?_ | refine inBlockA_normal ?_)
    refine AW.thaw (t := 7) (i := 74) [[fbytes (bs ++ fs)]] rfl rfl rfl hX.none ?_
    refine AW.ret ?_
    repeat (first | refine thenA_ret ?_ | refine inBlockA_ret ?_)
    exact RetQ.ret [] (.cons ⟨6, 0, _, _, _, rfl, rfl, ty50, rfl⟩ (.cons rfl .nil)) ⟨rfl, rfl⟩ none_kept
  · rfl
  · rfl
set_option maxHeartbeats 8000000 in
set_option maxRecDepth 100000 in
theorem ihearCMore (m0 w0 s0 t0 y0 : Int) (v m : Int) (bs : List (Fin 256)) (k s c : Int) (p f : Bool) (y g l : Int) (fs : List (Fin 256)) (h0 : Opt.ok ⟨m0, w0, s0, t0, y0⟩ = true) (h1 : crxB v m bs.length = true) (hk : k = 3) (h3 : frmB k s c p f y g l fs.length = true) (hbl : bs.length ≤ 1000) (hl : fs.length ≤ 2000000) (hV0 : (0, errV a) ∈ V) (hv : ¬ v = 0) (ht : ¬ (t0 < l ∨ s0 < (fs.length : Int))) (hC : putC m bs.length g fs.length = 1) : DataV Tryd.prog V 28 [cfgA m0 w0 s0 t0 y0, crA v m bs false, frmA k s c p f y g l fs] (.tup [crA (v - 1) (if m = 0 then l else m) (bs ++ fs) false, nilS]) := by
  have hf := crx_facts h1
  have hp : pieceB g l fs.length = true := by subst hk; exact frm3 h3
  have hl1 := joinB_small hf.2
  have hl2 := pieceB_small hp
  have hsn := (isNil_ok a).v (V := V)
  have hs := ispendOn (V := V) v (by omega) (by omega)
  have htl : decide (t0 < l ∨ s0 < (fs.length : Int)) = false := decide_eq_false ht
  refine DataV.intro (n := 76) (rv := [.cell 6 50, .tmp 7]) Tryd.func28 rfl rfl rfl (by simp) fun C hV hN hX => ?_
  refine AW.seq ?_
  apply AW.list
  apply Wk.bx 3 rfl rfl (lt_of_ble rfl)
  apply Wk.bx 4 rfl rfl (lt_of_ble rfl)
  apply Wk.bx 5 rfl rfl (lt_of_ble rfl)
  apply Wk.alc 6 [.int .i64 0, .int .i64 0, .slice none 0 0, .bool false] ze50 rfl rfl (lt_of_ble rfl)
  apply Wk.asg (by conv => lhs; whnf) (lt_of_ble rfl)
  refine Wk.nil ?_
  refine AW.seq (AW.seq ?_)
  apply AW.list
  apply Wk.ld (i := 3) 5 true ty24 rfl rfl (by conv => lhs; whnf) (lt_of_ble rfl)
  apply Wk.dat (icfgbX m0 w0 s0 t0 y0 h0) Tryd.func47 rfl rfl rfl rfl rfl (lt_of_ble rfl)
  apply Wk.un rfl (fun w => by simp [go_sem] <;> rfl) (lt_of_ble rfl)
  apply Wk.mv (by conv => lhs; whnf) (lt_of_ble rfl)
  apply Wk.gon 16 rfl rfl
  apply Wk.ld (i := 4) 4 true ty50 rfl rfl (by conv => lhs; whnf) (lt_of_ble rfl)
  apply Wk.gon 16 rfl rfl
  apply Wk.dat (icrxb false h1) Tryd.func26 rfl rfl rfl rfl rfl (lt_of_ble rfl)
  apply Wk.gon 16 rfl rfl
  apply Wk.un rfl (fun w => by simp [go_sem] <;> rfl) (lt_of_ble rfl)
  apply Wk.pckF rfl (by conv => lhs; whnf) (lt_of_ble rfl)
  apply Wk.mv (by conv => lhs; whnf) (lt_of_ble rfl)
  apply Wk.gon 21 rfl rfl
  apply Wk.fad 0 0 false fd31_0 rfl (lt_of_ble rfl)
  apply Wk.gon 21 rfl rfl
  apply Wk.ld (i := 5) 1 false ty3 rfl rfl (by conv => lhs; whnf) (lt_of_ble rfl)
  apply Wk.gon 21 rfl rfl
  apply Wk.bin rfl rfl (r := .bool false) (fun w => by simp [go_sem, hk]) (lt_of_ble rfl)
  apply Wk.pckF rfl (by conv => lhs; whnf) (lt_of_ble rfl)
  apply Wk.mv (by conv => lhs; whnf) (lt_of_ble rfl)
  apply Wk.gon 26 rfl rfl
  apply Wk.ld (i := 5) 9 true ty31 rfl rfl (by conv => lhs; whnf) (lt_of_ble rfl)
  apply Wk.gon 26 rfl rfl
  apply Wk.dat (ifrmT k s c p f y g l fs hl h3) Tryd.func17 rfl rfl rfl rfl rfl (lt_of_ble rfl)
  apply Wk.gon 26 rfl rfl
  apply Wk.un rfl (fun w => by simp [go_sem] <;> rfl) (lt_of_ble rfl)
  apply Wk.pckF rfl (by conv => lhs; whnf) (lt_of_ble rfl)
  refine Wk.nil ?_
  refine AW.cond rfl (fun hc => by cases hc) (fun _ => AW.skip (thenA_normal ?_))
  refine AW.seq ?_
  apply AW.list
  apply Wk.fad 0 0 false fd50_0 rfl (lt_of_ble rfl)
  apply Wk.ld (i := 4) 1 false ty3 rfl rfl (by conv => lhs; whnf) (lt_of_ble rfl)
  apply Wk.dav hs hX hV Tryd.func39 rfl rfl rfl rfl rfl (lt_of_ble rfl)
  apply Wk.mv (by conv => lhs; whnf) (lt_of_ble rfl)
  apply Wk.ext rfl rfl (lt_of_ble rfl)
  apply Wk.ext rfl rfl (lt_of_ble rfl)
  apply Wk.asg (by conv => lhs; whnf) (lt_of_ble rfl)
  apply Wk.asg (by conv => lhs; whnf) (lt_of_ble rfl)
  refine Wk.nil ?_
  refine AW.seq (AW.seq ?_)
  apply AW.list
  apply Wk.fad 3 0 false fd50_2 rfl (lt_of_ble rfl)
  apply Wk.ld (i := 4) 1 false ty4 rfl rfl (by conv => lhs; whnf) (lt_of_ble rfl)
  apply Wk.mv (by conv => lhs; whnf) (lt_of_ble rfl)
  apply Wk.gon 40 rfl rfl
  apply Wk.mv (by conv => lhs; whnf) (lt_of_ble rfl)
  apply Wk.gon 40 rfl rfl
  apply Wk.ldv hX hV tyErr hV0 (lt_of_ble rfl)
  apply Wk.gon 40 rfl rfl
  apply Wk.dav hsn hX hV Tryd.func40 rfl rfl rfl rfl rfl (lt_of_ble rfl)
  apply Wk.pckF rfl (by conv => lhs; whnf) (lt_of_ble rfl)
  apply Wk.mv (by conv => lhs; whnf) (lt_of_ble rfl)
  apply Wk.gon 45 rfl rfl
  apply Wk.ld (i := 3) 5 true ty24 rfl rfl (by conv => lhs; whnf) (lt_of_ble rfl)
  apply Wk.gon 45 rfl rfl
  apply Wk.ld (i := 5) 9 true ty31 rfl rfl (by conv => lhs; whnf) (lt_of_ble rfl)
  apply Wk.gon 45 rfl rfl
  apply Wk.dat (itlb m0 w0 s0 t0 y0 k s c p f y g l fs htl) Tryd.func63 rfl rfl rfl rfl rfl (lt_of_ble rfl)
  apply Wk.pckF rfl (by conv => lhs; whnf) (lt_of_ble rfl)
  refine Wk.nil ?_
  refine AW.cond rfl (fun hc => by cases hc) (fun _ => AW.skip (thenA_normal ?_))
  refine AW.seq ?_
  apply AW.draw (hm := hmix) (cs := _)
  · apply Wk.fad 1 1 true fd50_1 rfl (lt_of_ble rfl)
    apply Wk.ld (i := 4) 2 true ty48 rfl rfl (by conv => lhs; whnf) (lt_of_ble rfl)
    apply Wk.ld (i := 5) 9 true ty31 rfl rfl (by conv => lhs; whnf) (lt_of_ble rfl)
    apply Wk.dat (car_ok k s c p f y g l fs) Tryd.func64 rfl rfl rfl rfl rfl (lt_of_ble rfl)
    apply Wk.dat (iputb m bs g l fs (by omega) (by omega) (putA4_more hf.2 hp hC)) Tryd.func33 rfl rfl rfl rfl rfl (lt_of_ble rfl)
    apply Wk.mv (by conv => lhs; whnf) (lt_of_ble rfl)
    apply Wk.ext rfl rfl (lt_of_ble rfl)
    apply Wk.ext rfl rfl (lt_of_ble rfl)
    apply Wk.ext rfl rfl (lt_of_ble rfl)
    apply Wk.alc 10 [.int .i64 0, .slice none 0 0] ze48 rfl rfl (lt_of_ble rfl)
    apply Wk.sto (i := 10) 2 true ty48 rfl rfl rfl rfl (Nat.le_of_ble_eq_true rfl) (lt_of_ble rfl)
    apply Wk.asg (by conv => lhs; whnf) (lt_of_ble rfl)
    apply Wk.asg (by conv => lhs; whnf) (lt_of_ble rfl)
    refine Wk.nil ?_
    refine AW.seq ?_
    apply AW.list
    apply Wk.mv (by conv => lhs; whnf) (lt_of_ble rfl)
    apply Wk.ld (i := 10) 2 true ty48 rfl rfl (by conv => lhs; whnf) (lt_of_ble rfl)
    apply Wk.mv (by conv => lhs; whnf) (lt_of_ble rfl)
    apply Wk.bin rfl rfl (fun w => by simp [go_sem] <;> rfl) (lt_of_ble rfl)
    apply Wk.bld [.int .i64 0, .int .i64 0, .slice none 0 0, .bool false] [(0, 1), (1, 2), (3, 1)] bl50 rfl (by conv => lhs; whnf) (lt_of_ble rfl)
    apply Wk.sto (i := 4) 4 true ty50 rfl rfl rfl rfl (Nat.le_of_ble_eq_true rfl) (lt_of_ble rfl)
    refine Wk.nil ?_
    refine AW.seq (AW.seq ?_)
    apply AW.list
    apply Wk.mv (by conv => lhs; whnf) (lt_of_ble rfl)
    apply Wk.bin rfl rfl (fun w => by simp [go_sem] <;> rfl) (lt_of_ble rfl)
    refine Wk.nil ?_
    refine AW.cond rfl (fun hc => by cases hc) (fun _ => AW.skip (thenA_normal ?_))
    refine AW.seq ?_
    apply AW.list
    apply Wk.ld (i := 4) 4 true ty50 rfl rfl (by conv => lhs; whnf) (lt_of_ble rfl)
    apply Wk.sto (i := 6) 4 true ty50 rfl rfl rfl rfl (Nat.le_of_ble_eq_true rfl) (lt_of_ble rfl)
    apply Wk.asg (by conv => lhs; whnf) (lt_of_ble rfl)
    refine Wk.nil (AW.ret ?_)
    repeat (first | refine thenA_ret ?_ | refine inBlockA_ret ?_)
    exact RetQ.ret [] (.cons ⟨6, 0, _, _, _, rfl, rfl, ty50, rfl⟩ (.cons rfl .nil)) ⟨rfl, rfl⟩ none_kept
  · rfl
  · rfl
end
set_option maxHeartbeats 8000000 in
set_option maxRecDepth 100000 in
theorem shearCNo (m0 w0 s0 t0 y0 : Int) (v m : Int) (bs : List (Fin 256)) (d : Bool) (k s c : Int) (p f : Bool) (y g l : Int) (fs : List (Fin 256)) (hl : fs.length ≤ 2000000) (h : Opt.ok ⟨m0, w0, s0, t0, y0⟩ = false ∨ crxB v m bs.length = false ∨ k ≠ 3 ∨ frmB k s c p f y g l fs.length = false) : DataOk Tryd.prog 29 [cfgA m0 w0 s0 t0 y0, crA v m bs d, frmA k s c p f y g l fs] (.tup [crNil, noS]) := by
  cases h0 : Opt.ok ⟨m0, w0, s0, t0, y0⟩
  · skip
    refine Spec.intro (n := 92) (rv := [.cell 6 50, .tmp 7]) Tryd.func29 rfl rfl rfl (by simp) fun C hN hX => ?_
    refine AW.seq ?_
    apply AW.list
    apply Wk.bx 3 rfl rfl (lt_of_ble rfl)
    apply Wk.bx 4 rfl rfl (lt_of_ble rfl)
    apply Wk.bx 5 rfl rfl (lt_of_ble rfl)
    apply Wk.alc 6 [.int .i64 0, .int .i64 0, .slice none 0 0, .bool false] ze50 rfl rfl (lt_of_ble rfl)
    apply Wk.asg (by conv => lhs; whnf) (lt_of_ble rfl)
    refine Wk.nil ?_
    refine AW.seq (AW.seq ?_)
    apply AW.list
    apply Wk.ld (i := 3) 5 true ty24 rfl rfl (by conv => lhs; whnf) (lt_of_ble rfl)
    apply Wk.dat (scfgbX m0 w0 s0 t0 y0 h0) Tryd.func31 rfl rfl rfl rfl rfl (lt_of_ble rfl)
    apply Wk.un rfl (fun w => by simp [go_sem] <;> rfl) (lt_of_ble rfl)
    apply Wk.mv (by conv => lhs; whnf) (lt_of_ble rfl)
    apply Wk.goff 15 (ok_load 4 ty50) rfl rfl (by simp)
    apply Wk.goff 15 (ok_datw ((scrxb (v := 0) (m := 0) (bs := []) false rfl).w rfl) Tryd.func25 rfl rfl) rfl rfl (by simp)
    apply Wk.goff 15 (ok_un _ _ _) rfl rfl (by simp)
    apply Wk.pckT rfl (by conv => lhs; whnf) (lt_of_ble rfl)
    apply Wk.mv (by conv => lhs; whnf) (lt_of_ble rfl)
    apply Wk.goff 20 (ok_load 5 ty31) rfl rfl (by simp)
    apply Wk.goff 20 (ok_datw ((sfrmb k s c p f y g l fs rfl).w rfl) Tryd.func32 rfl rfl) rfl rfl (by simp)
    apply Wk.goff 20 (ok_un _ _ _) rfl rfl (by simp)
    apply Wk.pckT rfl (by conv => lhs; whnf) (lt_of_ble rfl)
    apply Wk.mv (by conv => lhs; whnf) (lt_of_ble rfl)
    apply Wk.goff 25 (ok_faddr fd31_0) rfl rfl (by simp)
    apply Wk.goff 25 (ok_load 5 ty3) rfl rfl (by simp)
    apply Wk.goff 25 (ok_bin _ _ _ _ _) rfl rfl (by simp)
    apply Wk.pckT rfl (by conv => lhs; whnf) (lt_of_ble rfl)
    refine Wk.nil ?_
    refine AW.cond rfl (fun _ => ?_) (fun hc => by cases hc)
    refine AW.seq ?_
    apply AW.list
    apply Wk.bld [.int .i64 0, .int .i64 0, .slice none 0 0, .bool false] [(0, 1), (1, 2), (3, 1)] bl50 rfl (by conv => lhs; whnf) (lt_of_ble rfl)
    apply Wk.lst 31 1 false [.slice none 0 0] un58 ty22 ze22 rfl rfl (by rfl) (by rfl) (by decide) (by decide) rfl rfl (all_len rfl) (lt_of_ble rfl)
    apply Wk.sto (i := 6) 4 true ty50 rfl rfl rfl rfl (Nat.le_of_ble_eq_true rfl) (lt_of_ble rfl)
    apply Wk.asg (by conv => lhs; whnf) (lt_of_ble rfl)
    refine Wk.nil ?_
    repeat (first | refine thenA_normal ?_ | refine inBlockA_normal ?_)
    refine AW.thaw (t := 7) (i := 31) [] rfl rfl rfl hX.none ?_
    refine AW.ret ?_
    repeat (first | refine thenA_ret ?_ | refine inBlockA_ret ?_)
    exact RetQ.ret [] (.cons ⟨6, 0, _, _, _, rfl, rfl, ty50, rfl⟩ (.cons rfl .nil)) ⟨rfl, rfl⟩ none_kept
  cases h1 : crxB v m bs.length
  · skip
    refine Spec.intro (n := 92) (rv := [.cell 6 50, .tmp 7]) Tryd.func29 rfl rfl rfl (by simp) fun C hN hX => ?_
    refine AW.seq ?_
    apply AW.list
    apply Wk.bx 3 rfl rfl (lt_of_ble rfl)
    apply Wk.bx 4 rfl rfl (lt_of_ble rfl)
    apply Wk.bx 5 rfl rfl (lt_of_ble rfl)
    apply Wk.alc 6 [.int .i64 0, .int .i64 0, .slice none 0 0, .bool false] ze50 rfl rfl (lt_of_ble rfl)
    apply Wk.asg (by conv => lhs; whnf) (lt_of_ble rfl)
    refine Wk.nil ?_
    refine AW.seq (AW.seq ?_)
    apply AW.list
    apply Wk.ld (i := 3) 5 true ty24 rfl rfl (by conv => lhs; whnf) (lt_of_ble rfl)
    apply Wk.dat (scfgbX m0 w0 s0 t0 y0 h0) Tryd.func31 rfl rfl rfl rfl rfl (lt_of_ble rfl)
    apply Wk.un rfl (fun w => by simp [go_sem] <;> rfl) (lt_of_ble rfl)
    apply Wk.mv (by conv => lhs; whnf) (lt_of_ble rfl)
    apply Wk.gon 15 rfl rfl
    apply Wk.ld (i := 4) 4 true ty50 rfl rfl (by conv => lhs; whnf) (lt_of_ble rfl)
    apply Wk.gon 15 rfl rfl
    apply Wk.dat (scrxb d h1) Tryd.func25 rfl rfl rfl rfl rfl (lt_of_ble rfl)
    apply Wk.gon 15 rfl rfl
    apply Wk.un rfl (fun w => by simp [go_sem] <;> rfl) (lt_of_ble rfl)
    apply Wk.pckF rfl (by conv => lhs; whnf) (lt_of_ble rfl)
    apply Wk.mv (by conv => lhs; whnf) (lt_of_ble rfl)
    apply Wk.goff 20 (ok_load 5 ty31) rfl rfl (by simp)
    apply Wk.goff 20 (ok_datw ((sfrmb k s c p f y g l fs rfl).w rfl) Tryd.func32 rfl rfl) rfl rfl (by simp)
    apply Wk.goff 20 (ok_un _ _ _) rfl rfl (by simp)
    apply Wk.pckT rfl (by conv => lhs; whnf) (lt_of_ble rfl)
    apply Wk.mv (by conv => lhs; whnf) (lt_of_ble rfl)
    apply Wk.goff 25 (ok_faddr fd31_0) rfl rfl (by simp)
    apply Wk.goff 25 (ok_load 5 ty3) rfl rfl (by simp)
    apply Wk.goff 25 (ok_bin _ _ _ _ _) rfl rfl (by simp)
    apply Wk.pckT rfl (by conv => lhs; whnf) (lt_of_ble rfl)
    refine Wk.nil ?_
    refine AW.cond rfl (fun _ => ?_) (fun hc => by cases hc)
    refine AW.seq ?_
    apply AW.list
    apply Wk.bld [.int .i64 0, .int .i64 0, .slice none 0 0, .bool false] [(0, 1), (1, 2), (3, 1)] bl50 rfl (by conv => lhs; whnf) (lt_of_ble rfl)
    apply Wk.lst 31 1 false [.slice none 0 0] un58 ty22 ze22 rfl rfl (by rfl) (by rfl) (by decide) (by decide) rfl rfl (all_len rfl) (lt_of_ble rfl)
    apply Wk.sto (i := 6) 4 true ty50 rfl rfl rfl rfl (Nat.le_of_ble_eq_true rfl) (lt_of_ble rfl)
    apply Wk.asg (by conv => lhs; whnf) (lt_of_ble rfl)
    refine Wk.nil ?_
    repeat (first | refine thenA_normal ?_ | refine inBlockA_normal ?_)
    refine AW.thaw (t := 7) (i := 31) [] rfl rfl rfl hX.none ?_
    refine AW.ret ?_
    repeat (first | refine thenA_ret ?_ | refine inBlockA_ret ?_)
    exact RetQ.ret [] (.cons ⟨6, 0, _, _, _, rfl, rfl, ty50, rfl⟩ (.cons rfl .nil)) ⟨rfl, rfl⟩ none_kept
  cases h3 : frmB k s c p f y g l fs.length
  · skip
    refine Spec.intro (n := 92) (rv := [.cell 6 50, .tmp 7]) Tryd.func29 rfl rfl rfl (by simp) fun C hN hX => ?_
    refine AW.seq ?_
    apply AW.list
    apply Wk.bx 3 rfl rfl (lt_of_ble rfl)
    apply Wk.bx 4 rfl rfl (lt_of_ble rfl)
    apply Wk.bx 5 rfl rfl (lt_of_ble rfl)
    apply Wk.alc 6 [.int .i64 0, .int .i64 0, .slice none 0 0, .bool false] ze50 rfl rfl (lt_of_ble rfl)
    apply Wk.asg (by conv => lhs; whnf) (lt_of_ble rfl)
    refine Wk.nil ?_
    refine AW.seq (AW.seq ?_)
    apply AW.list
    apply Wk.ld (i := 3) 5 true ty24 rfl rfl (by conv => lhs; whnf) (lt_of_ble rfl)
    apply Wk.dat (scfgbX m0 w0 s0 t0 y0 h0) Tryd.func31 rfl rfl rfl rfl rfl (lt_of_ble rfl)
    apply Wk.un rfl (fun w => by simp [go_sem] <;> rfl) (lt_of_ble rfl)
    apply Wk.mv (by conv => lhs; whnf) (lt_of_ble rfl)
    apply Wk.gon 15 rfl rfl
    apply Wk.ld (i := 4) 4 true ty50 rfl rfl (by conv => lhs; whnf) (lt_of_ble rfl)
    apply Wk.gon 15 rfl rfl
    apply Wk.dat (scrxb d h1) Tryd.func25 rfl rfl rfl rfl rfl (lt_of_ble rfl)
    apply Wk.gon 15 rfl rfl
    apply Wk.un rfl (fun w => by simp [go_sem] <;> rfl) (lt_of_ble rfl)
    apply Wk.pckF rfl (by conv => lhs; whnf) (lt_of_ble rfl)
    apply Wk.mv (by conv => lhs; whnf) (lt_of_ble rfl)
    apply Wk.gon 20 rfl rfl
    apply Wk.ld (i := 5) 9 true ty31 rfl rfl (by conv => lhs; whnf) (lt_of_ble rfl)
    apply Wk.gon 20 rfl rfl
    apply Wk.dat (sfrmb k s c p f y g l fs h3) Tryd.func32 rfl rfl rfl rfl rfl (lt_of_ble rfl)
    apply Wk.gon 20 rfl rfl
    apply Wk.un rfl (fun w => by simp [go_sem] <;> rfl) (lt_of_ble rfl)
    apply Wk.pckF rfl (by conv => lhs; whnf) (lt_of_ble rfl)
    apply Wk.mv (by conv => lhs; whnf) (lt_of_ble rfl)
    apply Wk.goff 25 (ok_faddr fd31_0) rfl rfl (by simp)
    apply Wk.goff 25 (ok_load 5 ty3) rfl rfl (by simp)
    apply Wk.goff 25 (ok_bin _ _ _ _ _) rfl rfl (by simp)
    apply Wk.pckT rfl (by conv => lhs; whnf) (lt_of_ble rfl)
    refine Wk.nil ?_
    refine AW.cond rfl (fun _ => ?_) (fun hc => by cases hc)
    refine AW.seq ?_
    apply AW.list
    apply Wk.bld [.int .i64 0, .int .i64 0, .slice none 0 0, .bool false] [(0, 1), (1, 2), (3, 1)] bl50 rfl (by conv => lhs; whnf) (lt_of_ble rfl)
    apply Wk.lst 31 1 false [.slice none 0 0] un58 ty22 ze22 rfl rfl (by rfl) (by rfl) (by decide) (by decide) rfl rfl (all_len rfl) (lt_of_ble rfl)
    apply Wk.sto (i := 6) 4 true ty50 rfl rfl rfl rfl (Nat.le_of_ble_eq_true rfl) (lt_of_ble rfl)
    apply Wk.asg (by conv => lhs; whnf) (lt_of_ble rfl)
    refine Wk.nil ?_
    repeat (first | refine thenA_normal ?_ | refine inBlockA_normal ?_)
    refine AW.thaw (t := 7) (i := 31) [] rfl rfl rfl hX.none ?_
    refine AW.ret ?_
    repeat (first | refine thenA_ret ?_ | refine inBlockA_ret ?_)
    exact RetQ.ret [] (.cons ⟨6, 0, _, _, _, rfl, rfl, ty50, rfl⟩ (.cons rfl .nil)) ⟨rfl, rfl⟩ none_kept
  have hk : k ≠ 3 := by
    rcases h with h | h | h | h
    · rw [h0] at h; cases h
    · rw [h1] at h; cases h
    · exact h
    · rw [h3] at h; cases h
  refine Spec.intro (n := 92) (rv := [.cell 6 50, .tmp 7]) Tryd.func29 rfl rfl rfl (by simp) fun C hN hX => ?_
  refine AW.seq ?_
  apply AW.list
  apply Wk.bx 3 rfl rfl (lt_of_ble rfl)
  apply Wk.bx 4 rfl rfl (lt_of_ble rfl)
  apply Wk.bx 5 rfl rfl (lt_of_ble rfl)
  apply Wk.alc 6 [.int .i64 0, .int .i64 0, .slice none 0 0, .bool false] ze50 rfl rfl (lt_of_ble rfl)
  apply Wk.asg (by conv => lhs; whnf) (lt_of_ble rfl)
  refine Wk.nil ?_
  refine AW.seq (AW.seq ?_)
  apply AW.list
  apply Wk.ld (i := 3) 5 true ty24 rfl rfl (by conv => lhs; whnf) (lt_of_ble rfl)
  apply Wk.dat (scfgbX m0 w0 s0 t0 y0 h0) Tryd.func31 rfl rfl rfl rfl rfl (lt_of_ble rfl)
  apply Wk.un rfl (fun w => by simp [go_sem] <;> rfl) (lt_of_ble rfl)
  apply Wk.mv (by conv => lhs; whnf) (lt_of_ble rfl)
  apply Wk.gon 15 rfl rfl
  apply Wk.ld (i := 4) 4 true ty50 rfl rfl (by conv => lhs; whnf) (lt_of_ble rfl)
  apply Wk.gon 15 rfl rfl
  apply Wk.dat (scrxb d h1) Tryd.func25 rfl rfl rfl rfl rfl (lt_of_ble rfl)
  apply Wk.gon 15 rfl rfl
  apply Wk.un rfl (fun w => by simp [go_sem] <;> rfl) (lt_of_ble rfl)
  apply Wk.pckF rfl (by conv => lhs; whnf) (lt_of_ble rfl)
  apply Wk.mv (by conv => lhs; whnf) (lt_of_ble rfl)
  apply Wk.gon 20 rfl rfl
  apply Wk.ld (i := 5) 9 true ty31 rfl rfl (by conv => lhs; whnf) (lt_of_ble rfl)
  apply Wk.gon 20 rfl rfl
  apply Wk.dat (sfrmb k s c p f y g l fs h3) Tryd.func32 rfl rfl rfl rfl rfl (lt_of_ble rfl)
  apply Wk.gon 20 rfl rfl
  apply Wk.un rfl (fun w => by simp [go_sem] <;> rfl) (lt_of_ble rfl)
  apply Wk.pckF rfl (by conv => lhs; whnf) (lt_of_ble rfl)
  apply Wk.mv (by conv => lhs; whnf) (lt_of_ble rfl)
  apply Wk.gon 25 rfl rfl
  apply Wk.fad 0 0 false fd31_0 rfl (lt_of_ble rfl)
  apply Wk.gon 25 rfl rfl
  apply Wk.ld (i := 5) 1 false ty3 rfl rfl (by conv => lhs; whnf) (lt_of_ble rfl)
  apply Wk.gon 25 rfl rfl
  apply Wk.bin rfl rfl (r := .bool true) (fun w => by simp [go_sem, hk]) (lt_of_ble rfl)
  apply Wk.pckF rfl (by conv => lhs; whnf) (lt_of_ble rfl)
  refine Wk.nil ?_
  refine AW.cond rfl (fun _ => ?_) (fun hc => by cases hc)
  refine AW.seq ?_
  apply AW.list
  apply Wk.bld [.int .i64 0, .int .i64 0, .slice none 0 0, .bool false] [(0, 1), (1, 2), (3, 1)] bl50 rfl (by conv => lhs; whnf) (lt_of_ble rfl)
  apply Wk.lst 31 1 false [.slice none 0 0] un58 ty22 ze22 rfl rfl (by rfl) (by rfl) (by decide) (by decide) rfl rfl (all_len rfl) (lt_of_ble rfl)
  apply Wk.sto (i := 6) 4 true ty50 rfl rfl rfl rfl (Nat.le_of_ble_eq_true rfl) (lt_of_ble rfl)
  apply Wk.asg (by conv => lhs; whnf) (lt_of_ble rfl)
  refine Wk.nil ?_
  repeat (first | refine thenA_normal ?_ | refine inBlockA_normal ?_)
  refine AW.thaw (t := 7) (i := 31) [] rfl rfl rfl hX.none ?_
  refine AW.ret ?_
  repeat (first | refine thenA_ret ?_ | refine inBlockA_ret ?_)
  exact RetQ.ret [] (.cons ⟨6, 0, _, _, _, rfl, rfl, ty50, rfl⟩ (.cons rfl .nil)) ⟨rfl, rfl⟩ none_kept
set_option maxHeartbeats 8000000 in
set_option maxRecDepth 100000 in
theorem shearCEnd (m0 w0 s0 t0 y0 : Int) (v m : Int) (bs : List (Fin 256)) (d : Bool) (k s c : Int) (p f : Bool) (y g l : Int) (fs : List (Fin 256)) (h0 : Opt.ok ⟨m0, w0, s0, t0, y0⟩ = true) (h1 : crxB v m bs.length = true) (hk : k = 3) (h3 : frmB k s c p f y g l fs.length = true) (hbl : bs.length ≤ 1000) (hi : d = true ∨ v = 0 ∨ t0 < l ∨ s0 < (fs.length : Int)) : DataOk Tryd.prog 29 [cfgA m0 w0 s0 t0 y0, crA v m bs d, frmA k s c p f y g l fs] (.tup [crA v m bs true, noS]) := by
  have hf := crx_facts h1
  cases d
  · skip
    refine Spec.intro (n := 92) (rv := [.cell 6 50, .tmp 7]) Tryd.func29 rfl rfl rfl (by simp) fun C hN hX => ?_
    refine AW.seq ?_
    apply AW.list
    apply Wk.bx 3 rfl rfl (lt_of_ble rfl)
    apply Wk.bx 4 rfl rfl (lt_of_ble rfl)
    apply Wk.bx 5 rfl rfl (lt_of_ble rfl)
    apply Wk.alc 6 [.int .i64 0, .int .i64 0, .slice none 0 0, .bool false] ze50 rfl rfl (lt_of_ble rfl)
    apply Wk.asg (by conv => lhs; whnf) (lt_of_ble rfl)
    refine Wk.nil ?_
    refine AW.seq (AW.seq ?_)
    apply AW.list
    apply Wk.ld (i := 3) 5 true ty24 rfl rfl (by conv => lhs; whnf) (lt_of_ble rfl)
    apply Wk.dat (scfgbX m0 w0 s0 t0 y0 h0) Tryd.func31 rfl rfl rfl rfl rfl (lt_of_ble rfl)
    apply Wk.un rfl (fun w => by simp [go_sem] <;> rfl) (lt_of_ble rfl)
    apply Wk.mv (by conv => lhs; whnf) (lt_of_ble rfl)
    apply Wk.gon 15 rfl rfl
    apply Wk.ld (i := 4) 4 true ty50 rfl rfl (by conv => lhs; whnf) (lt_of_ble rfl)
    apply Wk.gon 15 rfl rfl
    apply Wk.dat (scrxb false h1) Tryd.func25 rfl rfl rfl rfl rfl (lt_of_ble rfl)
    apply Wk.gon 15 rfl rfl
    apply Wk.un rfl (fun w => by simp [go_sem] <;> rfl) (lt_of_ble rfl)
    apply Wk.pckF rfl (by conv => lhs; whnf) (lt_of_ble rfl)
    apply Wk.mv (by conv => lhs; whnf) (lt_of_ble rfl)
    apply Wk.gon 20 rfl rfl
    apply Wk.ld (i := 5) 9 true ty31 rfl rfl (by conv => lhs; whnf) (lt_of_ble rfl)
    apply Wk.gon 20 rfl rfl
    apply Wk.dat (sfrmb k s c p f y g l fs h3) Tryd.func32 rfl rfl rfl rfl rfl (lt_of_ble rfl)
    apply Wk.gon 20 rfl rfl
    apply Wk.un rfl (fun w => by simp [go_sem] <;> rfl) (lt_of_ble rfl)
    apply Wk.pckF rfl (by conv => lhs; whnf) (lt_of_ble rfl)
    apply Wk.mv (by conv => lhs; whnf) (lt_of_ble rfl)
    apply Wk.gon 25 rfl rfl
    apply Wk.fad 0 0 false fd31_0 rfl (lt_of_ble rfl)
    apply Wk.gon 25 rfl rfl
    apply Wk.ld (i := 5) 1 false ty3 rfl rfl (by conv => lhs; whnf) (lt_of_ble rfl)
    apply Wk.gon 25 rfl rfl
    apply Wk.bin rfl rfl (r := .bool false) (fun w => by simp [go_sem, hk]) (lt_of_ble rfl)
    apply Wk.pckF rfl (by conv => lhs; whnf) (lt_of_ble rfl)
    refine Wk.nil ?_
    refine AW.cond rfl (fun hc => by cases hc) (fun _ => AW.skip (thenA_normal ?_))
    refine AW.seq ?_
    apply AW.list
    apply Wk.ld (i := 4) 4 true ty50 rfl rfl (by conv => lhs; whnf) (lt_of_ble rfl)
    apply Wk.dat (sl8r_ok v m bs false hbl) Tryd.func57 rfl rfl rfl rfl rfl (lt_of_ble rfl)
    apply Wk.alc 8 [.int .i64 0, .int .i64 0, .slice none 0 0, .bool false] ze50 rfl rfl (lt_of_ble rfl)
    apply Wk.sto (i := 8) 4 true ty50 rfl rfl rfl rfl (Nat.le_of_ble_eq_true rfl) (lt_of_ble rfl)
    refine Wk.nil ?_
    refine AW.seq (AW.seq ?_)
    apply AW.list
    apply Wk.fad 3 0 false fd50_2 rfl (lt_of_ble rfl)
    apply Wk.ld (i := 4) 1 false ty4 rfl rfl (by conv => lhs; whnf) (lt_of_ble rfl)
    refine Wk.nil ?_
    refine AW.cond rfl (fun hc => by cases hc) (fun _ => AW.skip (thenA_normal ?_))
    by_cases c1 : v = 0
    · skip
      refine AW.seq (AW.seq ?_)
      apply AW.list
      apply Wk.fad 0 0 false fd50_0 rfl (lt_of_ble rfl)
      apply Wk.ld (i := 4) 1 false ty3 rfl rfl (by conv => lhs; whnf) (lt_of_ble rfl)
      apply Wk.bin rfl rfl (r := .bool true) (fun w => by simp [go_sem] <;> omega) (lt_of_ble rfl)
      apply Wk.mv (by conv => lhs; whnf) (lt_of_ble rfl)
      apply Wk.goff 41 (ok_faddr fd31_7) rfl rfl (by simp)
      apply Wk.goff 41 (ok_load 5 ty3) rfl rfl (by simp)
      apply Wk.goff 41 (ok_faddr fd24_3) rfl rfl (by simp)
      apply Wk.goff 41 (ok_load 3 ty3) rfl rfl (by simp)
      apply Wk.goff 41 (ok_bin _ _ _ _ _) rfl rfl (by simp)
      apply Wk.pckT rfl (by conv => lhs; whnf) (lt_of_ble rfl)
      apply Wk.mv (by conv => lhs; whnf) (lt_of_ble rfl)
      apply Wk.goff 48 (ok_faddr fd31_8) rfl rfl (by simp)
      apply Wk.goff 48 (ok_load 5 ty22) rfl rfl (by simp)
      apply Wk.goff 48 (ok_len un22) rfl rfl (by simp)
      apply Wk.goff 48 (ok_faddr fd24_2) rfl rfl (by simp)
      apply Wk.goff 48 (ok_load 3 ty3) rfl rfl (by simp)
      apply Wk.goff 48 (ok_bin _ _ _ _ _) rfl rfl (by simp)
      apply Wk.pckT rfl (by conv => lhs; whnf) (lt_of_ble rfl)
      refine Wk.nil ?_
      refine AW.cond rfl (fun _ => ?_) (fun hc => by cases hc)
      refine AW.seq ?_
      apply AW.list
      apply Wk.fad 3 0 false fd50_2 rfl (lt_of_ble rfl)
      apply Wk.sto (i := 8) 1 false ty4 rfl rfl rfl rfl (Nat.le_of_ble_eq_true rfl) (lt_of_ble rfl)
      refine Wk.nil ?_
      refine AW.seq ?_
      apply AW.list
      apply Wk.ld (i := 8) 4 true ty50 rfl rfl (by conv => lhs; whnf) (lt_of_ble rfl)
      apply Wk.lst 58 1 false [.slice none 0 0] un58 ty22 ze22 rfl rfl (by rfl) (by rfl) (by decide) (by decide) rfl rfl (all_len rfl) (lt_of_ble rfl)
      apply Wk.sto (i := 6) 4 true ty50 rfl rfl rfl rfl (Nat.le_of_ble_eq_true rfl) (lt_of_ble rfl)
      apply Wk.asg (by conv => lhs; whnf) (lt_of_ble rfl)
      refine Wk.nil ?_
      repeat (first | refine thenA_normal ?_ | refine inBlockA_normal ?_)
      refine AW.thaw (t := 7) (i := 58) [] rfl rfl rfl hX.none ?_
      refine AW.ret ?_
      repeat (first | refine thenA_ret ?_ | refine inBlockA_ret ?_)
      exact RetQ.ret [] (.cons ⟨6, 0, _, _, _, rfl, rfl, ty50, rfl⟩ (.cons rfl .nil)) ⟨rfl, rfl⟩ none_kept
    · by_cases c2 : t0 < l
      · skip
        refine AW.seq (AW.seq ?_)
        apply AW.list
        apply Wk.fad 0 0 false fd50_0 rfl (lt_of_ble rfl)
        apply Wk.ld (i := 4) 1 false ty3 rfl rfl (by conv => lhs; whnf) (lt_of_ble rfl)
        apply Wk.bin rfl rfl (r := .bool false) (fun w => by simp [go_sem] <;> omega) (lt_of_ble rfl)
        apply Wk.mv (by conv => lhs; whnf) (lt_of_ble rfl)
        apply Wk.gon 41 rfl rfl
        apply Wk.fad 7 0 false fd31_7 rfl (lt_of_ble rfl)
        apply Wk.gon 41 rfl rfl
        apply Wk.ld (i := 5) 1 false ty3 rfl rfl (by conv => lhs; whnf) (lt_of_ble rfl)
        apply Wk.gon 41 rfl rfl
        apply Wk.fad 3 0 false fd24_3 rfl (lt_of_ble rfl)
        apply Wk.gon 41 rfl rfl
        apply Wk.ld (i := 3) 1 false ty3 rfl rfl (by conv => lhs; whnf) (lt_of_ble rfl)
        apply Wk.gon 41 rfl rfl
        apply Wk.bin rfl rfl (r := .bool true) (fun w => by simp [go_sem] <;> omega) (lt_of_ble rfl)
        apply Wk.pckF rfl (by conv => lhs; whnf) (lt_of_ble rfl)
        apply Wk.mv (by conv => lhs; whnf) (lt_of_ble rfl)
        apply Wk.goff 48 (ok_faddr fd31_8) rfl rfl (by simp)
        apply Wk.goff 48 (ok_load 5 ty22) rfl rfl (by simp)
        apply Wk.goff 48 (ok_len un22) rfl rfl (by simp)
        apply Wk.goff 48 (ok_faddr fd24_2) rfl rfl (by simp)
        apply Wk.goff 48 (ok_load 3 ty3) rfl rfl (by simp)
        apply Wk.goff 48 (ok_bin _ _ _ _ _) rfl rfl (by simp)
        apply Wk.pckT rfl (by conv => lhs; whnf) (lt_of_ble rfl)
        refine Wk.nil ?_
        refine AW.cond rfl (fun _ => ?_) (fun hc => by cases hc)
        refine AW.seq ?_
        apply AW.list
        apply Wk.fad 3 0 false fd50_2 rfl (lt_of_ble rfl)
        apply Wk.sto (i := 8) 1 false ty4 rfl rfl rfl rfl (Nat.le_of_ble_eq_true rfl) (lt_of_ble rfl)
        refine Wk.nil ?_
        refine AW.seq ?_
        apply AW.list
        apply Wk.ld (i := 8) 4 true ty50 rfl rfl (by conv => lhs; whnf) (lt_of_ble rfl)
        apply Wk.lst 58 1 false [.slice none 0 0] un58 ty22 ze22 rfl rfl (by rfl) (by rfl) (by decide) (by decide) rfl rfl (all_len rfl) (lt_of_ble rfl)
        apply Wk.sto (i := 6) 4 true ty50 rfl rfl rfl rfl (Nat.le_of_ble_eq_true rfl) (lt_of_ble rfl)
        apply Wk.asg (by conv => lhs; whnf) (lt_of_ble rfl)
        refine Wk.nil ?_
        repeat (first | refine thenA_normal ?_ | refine inBlockA_normal ?_)
        refine AW.thaw (t := 7) (i := 58) [] rfl rfl rfl hX.none ?_
        refine AW.ret ?_
        repeat (first | refine thenA_ret ?_ | refine inBlockA_ret ?_)
        exact RetQ.ret [] (.cons ⟨6, 0, _, _, _, rfl, rfl, ty50, rfl⟩ (.cons rfl .nil)) ⟨rfl, rfl⟩ none_kept
      · have c3 : s0 < (fs.length : Int) := by
          rcases hi with h | h | h | h
          · cases h
          · exact absurd h c1
          · exact absurd h c2
          · exact h
        refine AW.seq (AW.seq ?_)
        apply AW.list
        apply Wk.fad 0 0 false fd50_0 rfl (lt_of_ble rfl)
        apply Wk.ld (i := 4) 1 false ty3 rfl rfl (by conv => lhs; whnf) (lt_of_ble rfl)
        apply Wk.bin rfl rfl (r := .bool false) (fun w => by simp [go_sem] <;> omega) (lt_of_ble rfl)
        apply Wk.mv (by conv => lhs; whnf) (lt_of_ble rfl)
        apply Wk.gon 41 rfl rfl
        apply Wk.fad 7 0 false fd31_7 rfl (lt_of_ble rfl)
        apply Wk.gon 41 rfl rfl
        apply Wk.ld (i := 5) 1 false ty3 rfl rfl (by conv => lhs; whnf) (lt_of_ble rfl)
        apply Wk.gon 41 rfl rfl
        apply Wk.fad 3 0 false fd24_3 rfl (lt_of_ble rfl)
        apply Wk.gon 41 rfl rfl
        apply Wk.ld (i := 3) 1 false ty3 rfl rfl (by conv => lhs; whnf) (lt_of_ble rfl)
        apply Wk.gon 41 rfl rfl
        apply Wk.bin rfl rfl (r := .bool false) (fun w => by simp [go_sem] <;> omega) (lt_of_ble rfl)
        apply Wk.pckF rfl (by conv => lhs; whnf) (lt_of_ble rfl)
        apply Wk.mv (by conv => lhs; whnf) (lt_of_ble rfl)
        apply Wk.gon 48 rfl rfl
        apply Wk.fad 8 0 false fd31_8 rfl (lt_of_ble rfl)
        apply Wk.gon 48 rfl rfl
        apply Wk.ld (i := 5) 1 false ty22 rfl rfl (by conv => lhs; whnf) (lt_of_ble rfl)
        apply Wk.gon 48 rfl rfl
        apply Wk.len un22 rfl (lt_of_ble rfl)
        apply Wk.gon 48 rfl rfl
        apply Wk.fad 2 0 false fd24_2 rfl (lt_of_ble rfl)
        apply Wk.gon 48 rfl rfl
        apply Wk.ld (i := 3) 1 false ty3 rfl rfl (by conv => lhs; whnf) (lt_of_ble rfl)
        apply Wk.gon 48 rfl rfl
        apply Wk.bin rfl rfl (r := .bool true) (fun w => by simp [go_sem] <;> omega) (lt_of_ble rfl)
        apply Wk.pckF rfl (by conv => lhs; whnf) (lt_of_ble rfl)
        refine Wk.nil ?_
        refine AW.cond rfl (fun _ => ?_) (fun hc => by cases hc)
        refine AW.seq ?_
        apply AW.list
        apply Wk.fad 3 0 false fd50_2 rfl (lt_of_ble rfl)
        apply Wk.sto (i := 8) 1 false ty4 rfl rfl rfl rfl (Nat.le_of_ble_eq_true rfl) (lt_of_ble rfl)
        refine Wk.nil ?_
        refine AW.seq ?_
        apply AW.list
        apply Wk.ld (i := 8) 4 true ty50 rfl rfl (by conv => lhs; whnf) (lt_of_ble rfl)
        apply Wk.lst 58 1 false [.slice none 0 0] un58 ty22 ze22 rfl rfl (by rfl) (by rfl) (by decide) (by decide) rfl rfl (all_len rfl) (lt_of_ble rfl)
        apply Wk.sto (i := 6) 4 true ty50 rfl rfl rfl rfl (Nat.le_of_ble_eq_true rfl) (lt_of_ble rfl)
        apply Wk.asg (by conv => lhs; whnf) (lt_of_ble rfl)
        refine Wk.nil ?_
        repeat (first | refine thenA_normal ?_ | refine inBlockA_normal ?_)
        refine AW.thaw (t := 7) (i := 58) [] rfl rfl rfl hX.none ?_
        refine AW.ret ?_
        repeat (first | refine thenA_ret ?_ | refine inBlockA_ret ?_)
        exact RetQ.ret [] (.cons ⟨6, 0, _, _, _, rfl, rfl, ty50, rfl⟩ (.cons rfl .nil)) ⟨rfl, rfl⟩ none_kept
  · skip
    refine Spec.intro (n := 92) (rv := [.cell 6 50, .tmp 7]) Tryd.func29 rfl rfl rfl (by simp) fun C hN hX => ?_
    refine AW.seq ?_
    apply AW.list
    apply Wk.bx 3 rfl rfl (lt_of_ble rfl)
    apply Wk.bx 4 rfl rfl (lt_of_ble rfl)
    apply Wk.bx 5 rfl rfl (lt_of_ble rfl)
    apply Wk.alc 6 [.int .i64 0, .int .i64 0, .slice none 0 0, .bool false] ze50 rfl rfl (lt_of_ble rfl)
    apply Wk.asg (by conv => lhs; whnf) (lt_of_ble rfl)
    refine Wk.nil ?_
    refine AW.seq (AW.seq ?_)
    apply AW.list
    apply Wk.ld (i := 3) 5 true ty24 rfl rfl (by conv => lhs; whnf) (lt_of_ble rfl)
    apply Wk.dat (scfgbX m0 w0 s0 t0 y0 h0) Tryd.func31 rfl rfl rfl rfl rfl (lt_of_ble rfl)
    apply Wk.un rfl (fun w => by simp [go_sem] <;> rfl) (lt_of_ble rfl)
    apply Wk.mv (by conv => lhs; whnf) (lt_of_ble rfl)
    apply Wk.gon 15 rfl rfl
    apply Wk.ld (i := 4) 4 true ty50 rfl rfl (by conv => lhs; whnf) (lt_of_ble rfl)
    apply Wk.gon 15 rfl rfl
    apply Wk.dat (scrxb true h1) Tryd.func25 rfl rfl rfl rfl rfl (lt_of_ble rfl)
    apply Wk.gon 15 rfl rfl
    apply Wk.un rfl (fun w => by simp [go_sem] <;> rfl) (lt_of_ble rfl)
    apply Wk.pckF rfl (by conv => lhs; whnf) (lt_of_ble rfl)
    apply Wk.mv (by conv => lhs; whnf) (lt_of_ble rfl)
    apply Wk.gon 20 rfl rfl
    apply Wk.ld (i := 5) 9 true ty31 rfl rfl (by conv => lhs; whnf) (lt_of_ble rfl)
    apply Wk.gon 20 rfl rfl
    apply Wk.dat (sfrmb k s c p f y g l fs h3) Tryd.func32 rfl rfl rfl rfl rfl (lt_of_ble rfl)
    apply Wk.gon 20 rfl rfl
    apply Wk.un rfl (fun w => by simp [go_sem] <;> rfl) (lt_of_ble rfl)
    apply Wk.pckF rfl (by conv => lhs; whnf) (lt_of_ble rfl)
    apply Wk.mv (by conv => lhs; whnf) (lt_of_ble rfl)
    apply Wk.gon 25 rfl rfl
    apply Wk.fad 0 0 false fd31_0 rfl (lt_of_ble rfl)
    apply Wk.gon 25 rfl rfl
    apply Wk.ld (i := 5) 1 false ty3 rfl rfl (by conv => lhs; whnf) (lt_of_ble rfl)
    apply Wk.gon 25 rfl rfl
    apply Wk.bin rfl rfl (r := .bool false) (fun w => by simp [go_sem, hk]) (lt_of_ble rfl)
    apply Wk.pckF rfl (by conv => lhs; whnf) (lt_of_ble rfl)
    refine Wk.nil ?_
    refine AW.cond rfl (fun hc => by cases hc) (fun _ => AW.skip (thenA_normal ?_))
    refine AW.seq ?_
    apply AW.list
    apply Wk.ld (i := 4) 4 true ty50 rfl rfl (by conv => lhs; whnf) (lt_of_ble rfl)
    apply Wk.dat (sl8r_ok v m bs true hbl) Tryd.func57 rfl rfl rfl rfl rfl (lt_of_ble rfl)
    apply Wk.alc 8 [.int .i64 0, .int .i64 0, .slice none 0 0, .bool false] ze50 rfl rfl (lt_of_ble rfl)
    apply Wk.sto (i := 8) 4 true ty50 rfl rfl rfl rfl (Nat.le_of_ble_eq_true rfl) (lt_of_ble rfl)
    refine Wk.nil ?_
    refine AW.seq (AW.seq ?_)
    apply AW.list
    apply Wk.fad 3 0 false fd50_2 rfl (lt_of_ble rfl)
    apply Wk.ld (i := 4) 1 false ty4 rfl rfl (by conv => lhs; whnf) (lt_of_ble rfl)
    refine Wk.nil ?_
    refine AW.cond rfl (fun _ => ?_) (fun hc => by cases hc)
    refine AW.seq ?_
    apply AW.list
    apply Wk.ld (i := 8) 4 true ty50 rfl rfl (by conv => lhs; whnf) (lt_of_ble rfl)
    apply Wk.lst 37 1 false [.slice none 0 0] un58 ty22 ze22 rfl rfl (by rfl) (by rfl) (by decide) (by decide) rfl rfl (all_len rfl) (lt_of_ble rfl)
    apply Wk.sto (i := 6) 4 true ty50 rfl rfl rfl rfl (Nat.le_of_ble_eq_true rfl) (lt_of_ble rfl)
    apply Wk.asg (by conv => lhs; whnf) (lt_of_ble rfl)
    refine Wk.nil ?_
    repeat (first | refine thenA_normal ?_ | refine inBlockA_normal ?_)
    refine AW.thaw (t := 7) (i := 37) [] rfl rfl rfl hX.none ?_
    refine AW.ret ?_
    repeat (first | refine thenA_ret ?_ | refine inBlockA_ret ?_)
    exact RetQ.ret [] (.cons ⟨6, 0, _, _, _, rfl, rfl, ty50, rfl⟩ (.cons rfl .nil)) ⟨rfl, rfl⟩ none_kept
set_option maxHeartbeats 8000000 in
set_option maxRecDepth 100000 in
theorem shearCBad (m0 w0 s0 t0 y0 : Int) (v m : Int) (bs : List (Fin 256)) (k s c : Int) (p f : Bool) (y g l : Int) (fs : List (Fin 256)) (h0 : Opt.ok ⟨m0, w0, s0, t0, y0⟩ = true) (h1 : crxB v m bs.length = true) (hk : k = 3) (h3 : frmB k s c p f y g l fs.length = true) (hbl : bs.length ≤ 1000) (hv : ¬ v = 0) (ht : ¬ (t0 < l ∨ s0 < (fs.length : Int))) (hC : putC m bs.length g fs.length = 3) : DataOk Tryd.prog 29 [cfgA m0 w0 s0 t0 y0, crA v m bs false, frmA k s c p f y g l fs] (.tup [crA (v - 1) 0 [] true, noS]) := by
  have hf := crx_facts h1
  have hp : pieceB g l fs.length = true := by subst hk; exact frm3 h3
  have hl1 := joinB_small hf.2
  have hl2 := pieceB_small hp
  refine Spec.intro (n := 92) (rv := [.cell 6 50, .tmp 7]) Tryd.func29 rfl rfl rfl (by simp) fun C hN hX => ?_
  refine AW.seq ?_
  apply AW.list
  apply Wk.bx 3 rfl rfl (lt_of_ble rfl)
  apply Wk.bx 4 rfl rfl (lt_of_ble rfl)
  apply Wk.bx 5 rfl rfl (lt_of_ble rfl)
  apply Wk.alc 6 [.int .i64 0, .int .i64 0, .slice none 0 0, .bool false] ze50 rfl rfl (lt_of_ble rfl)
  apply Wk.asg (by conv => lhs; whnf) (lt_of_ble rfl)
  refine Wk.nil ?_
  refine AW.seq (AW.seq ?_)
  apply AW.list
  apply Wk.ld (i := 3) 5 true ty24 rfl rfl (by conv => lhs; whnf) (lt_of_ble rfl)
  apply Wk.dat (scfgbX m0 w0 s0 t0 y0 h0) Tryd.func31 rfl rfl rfl rfl rfl (lt_of_ble rfl)
  apply Wk.un rfl (fun w => by simp [go_sem] <;> rfl) (lt_of_ble rfl)
  apply Wk.mv (by conv => lhs; whnf) (lt_of_ble rfl)
  apply Wk.gon 15 rfl rfl
  apply Wk.ld (i := 4) 4 true ty50 rfl rfl (by conv => lhs; whnf) (lt_of_ble rfl)
  apply Wk.gon 15 rfl rfl
  apply Wk.dat (scrxb false h1) Tryd.func25 rfl rfl rfl rfl rfl (lt_of_ble rfl)
  apply Wk.gon 15 rfl rfl
  apply Wk.un rfl (fun w => by simp [go_sem] <;> rfl) (lt_of_ble rfl)
  apply Wk.pckF rfl (by conv => lhs; whnf) (lt_of_ble rfl)
  apply Wk.mv (by conv => lhs; whnf) (lt_of_ble rfl)
  apply Wk.gon 20 rfl rfl
  apply Wk.ld (i := 5) 9 true ty31 rfl rfl (by conv => lhs; whnf) (lt_of_ble rfl)
  apply Wk.gon 20 rfl rfl
  apply Wk.dat (sfrmb k s c p f y g l fs h3) Tryd.func32 rfl rfl rfl rfl rfl (lt_of_ble rfl)
  apply Wk.gon 20 rfl rfl
  apply Wk.un rfl (fun w => by simp [go_sem] <;> rfl) (lt_of_ble rfl)
  apply Wk.pckF rfl (by conv => lhs; whnf) (lt_of_ble rfl)
  apply Wk.mv (by conv => lhs; whnf) (lt_of_ble rfl)
  apply Wk.gon 25 rfl rfl
  apply Wk.fad 0 0 false fd31_0 rfl (lt_of_ble rfl)
  apply Wk.gon 25 rfl rfl
  apply Wk.ld (i := 5) 1 false ty3 rfl rfl (by conv => lhs; whnf) (lt_of_ble rfl)
  apply Wk.gon 25 rfl rfl
  apply Wk.bin rfl rfl (r := .bool false) (fun w => by simp [go_sem, hk]) (lt_of_ble rfl)
  apply Wk.pckF rfl (by conv => lhs; whnf) (lt_of_ble rfl)
  refine Wk.nil ?_
  refine AW.cond rfl (fun hc => by cases hc) (fun _ => AW.skip (thenA_normal ?_))
  refine AW.seq ?_
  apply AW.list
  apply Wk.ld (i := 4) 4 true ty50 rfl rfl (by conv => lhs; whnf) (lt_of_ble rfl)
  apply Wk.dat (sl8r_ok v m bs false hbl) Tryd.func57 rfl rfl rfl rfl rfl (lt_of_ble rfl)
  apply Wk.alc 8 [.int .i64 0, .int .i64 0, .slice none 0 0, .bool false] ze50 rfl rfl (lt_of_ble rfl)
  apply Wk.sto (i := 8) 4 true ty50 rfl rfl rfl rfl (Nat.le_of_ble_eq_true rfl) (lt_of_ble rfl)
  refine Wk.nil ?_
  refine AW.seq (AW.seq ?_)
  apply AW.list
  apply Wk.fad 3 0 false fd50_2 rfl (lt_of_ble rfl)
  apply Wk.ld (i := 4) 1 false ty4 rfl rfl (by conv => lhs; whnf) (lt_of_ble rfl)
  refine Wk.nil ?_
  refine AW.cond rfl (fun hc => by cases hc) (fun _ => AW.skip (thenA_normal ?_))
  refine AW.seq (AW.seq ?_)
  apply AW.list
  apply Wk.fad 0 0 false fd50_0 rfl (lt_of_ble rfl)
  apply Wk.ld (i := 4) 1 false ty3 rfl rfl (by conv => lhs; whnf) (lt_of_ble rfl)
  apply Wk.bin rfl rfl (r := .bool false) (fun w => by simp [go_sem] <;> omega) (lt_of_ble rfl)
  apply Wk.mv (by conv => lhs; whnf) (lt_of_ble rfl)
  apply Wk.gon 41 rfl rfl
  apply Wk.fad 7 0 false fd31_7 rfl (lt_of_ble rfl)
  apply Wk.gon 41 rfl rfl
  apply Wk.ld (i := 5) 1 false ty3 rfl rfl (by conv => lhs; whnf) (lt_of_ble rfl)
  apply Wk.gon 41 rfl rfl
  apply Wk.fad 3 0 false fd24_3 rfl (lt_of_ble rfl)
  apply Wk.gon 41 rfl rfl
  apply Wk.ld (i := 3) 1 false ty3 rfl rfl (by conv => lhs; whnf) (lt_of_ble rfl)
  apply Wk.gon 41 rfl rfl
  apply Wk.bin rfl rfl (r := .bool false) (fun w => by simp [go_sem] <;> omega) (lt_of_ble rfl)
  apply Wk.pckF rfl (by conv => lhs; whnf) (lt_of_ble rfl)
  apply Wk.mv (by conv => lhs; whnf) (lt_of_ble rfl)
  apply Wk.gon 48 rfl rfl
  apply Wk.fad 8 0 false fd31_8 rfl (lt_of_ble rfl)
  apply Wk.gon 48 rfl rfl
  apply Wk.ld (i := 5) 1 false ty22 rfl rfl (by conv => lhs; whnf) (lt_of_ble rfl)
  apply Wk.gon 48 rfl rfl
  apply Wk.len un22 rfl (lt_of_ble rfl)
  apply Wk.gon 48 rfl rfl
  apply Wk.fad 2 0 false fd24_2 rfl (lt_of_ble rfl)
  apply Wk.gon 48 rfl rfl
  apply Wk.ld (i := 3) 1 false ty3 rfl rfl (by conv => lhs; whnf) (lt_of_ble rfl)
  apply Wk.gon 48 rfl rfl
  apply Wk.bin rfl rfl (r := .bool false) (fun w => by simp [go_sem] <;> omega) (lt_of_ble rfl)
  apply Wk.pckF rfl (by conv => lhs; whnf) (lt_of_ble rfl)
  refine Wk.nil ?_
  refine AW.cond rfl (fun hc => by cases hc) (fun _ => AW.skip (thenA_normal ?_))
  refine AW.seq ?_
  apply AW.list
  apply Wk.fad 1 1 true fd50_1 rfl (lt_of_ble rfl)
  apply Wk.ld (i := 8) 2 true ty48 rfl rfl (by conv => lhs; whnf) (lt_of_ble rfl)
  apply Wk.fad 6 0 false fd31_6 rfl (lt_of_ble rfl)
  apply Wk.ld (i := 5) 1 false ty3 rfl rfl (by conv => lhs; whnf) (lt_of_ble rfl)
  apply Wk.fad 7 0 false fd31_7 rfl (lt_of_ble rfl)
  apply Wk.ld (i := 5) 1 false ty3 rfl rfl (by conv => lhs; whnf) (lt_of_ble rfl)
  apply Wk.fad 8 0 false fd31_8 rfl (lt_of_ble rfl)
  apply Wk.ld (i := 5) 1 false ty22 rfl rfl (by conv => lhs; whnf) (lt_of_ble rfl)
  apply Wk.bld [.int .i64 0, .int .i64 0, .slice none 0 0] [(0, 1), (1, 1), (2, 1)] bl41 rfl (by conv => lhs; whnf) (lt_of_ble rfl)
  apply Wk.dat (sl4b m bs g l fs hf.2 hp (putA4_bad hf.2 hp hC)) Tryd.func65 rfl rfl rfl rfl rfl (lt_of_ble rfl)
  apply Wk.mv (by conv => lhs; whnf) (lt_of_ble rfl)
  apply Wk.ext rfl rfl (lt_of_ble rfl)
  apply Wk.ext rfl rfl (lt_of_ble rfl)
  apply Wk.ext rfl rfl (lt_of_ble rfl)
  apply Wk.alc 9 [.int .i64 0, .slice none 0 0] ze48 rfl rfl (lt_of_ble rfl)
  apply Wk.sto (i := 9) 2 true ty48 rfl rfl rfl rfl (Nat.le_of_ble_eq_true rfl) (lt_of_ble rfl)
  apply Wk.asg (by conv => lhs; whnf) (lt_of_ble rfl)
  apply Wk.asg (by conv => lhs; whnf) (lt_of_ble rfl)
  refine Wk.nil ?_
  refine AW.seq ?_
  apply AW.list
  apply Wk.ld (i := 9) 2 true ty48 rfl rfl (by conv => lhs; whnf) (lt_of_ble rfl)
  apply Wk.fad 1 1 true fd50_1 rfl (lt_of_ble rfl)
  apply Wk.sto (i := 8) 2 true ty48 rfl rfl rfl rfl (Nat.le_of_ble_eq_true rfl) (lt_of_ble rfl)
  refine Wk.nil ?_
  refine AW.seq ?_
  apply AW.list
  apply Wk.fad 0 0 false fd50_0 rfl (lt_of_ble rfl)
  apply Wk.ld (i := 4) 1 false ty3 rfl rfl (by conv => lhs; whnf) (lt_of_ble rfl)
  apply Wk.subi rfl rfl (by omega) (lt_of_ble rfl)
  apply Wk.fad 0 0 false fd50_0 rfl (lt_of_ble rfl)
  apply Wk.sto (i := 8) 1 false ty3 rfl rfl rfl rfl (Nat.le_of_ble_eq_true rfl) (lt_of_ble rfl)
  refine Wk.nil ?_
  refine AW.seq (AW.seq ?_)
  apply AW.list
  apply Wk.mv (by conv => lhs; whnf) (lt_of_ble rfl)
  apply Wk.bin rfl rfl (fun w => by simp [go_sem] <;> rfl) (lt_of_ble rfl)
  refine Wk.nil ?_
  refine AW.cond rfl (fun _ => ?_) (fun hc => by cases hc)
  apply AW.list
  apply Wk.fad 3 0 false fd50_2 rfl (lt_of_ble rfl)
  apply Wk.sto (i := 8) 1 false ty4 rfl rfl rfl rfl (Nat.le_of_ble_eq_true rfl) (lt_of_ble rfl)
  refine Wk.nil ?_
  refine AW.seq (AW.seq ?_)
  apply AW.list
  apply Wk.mv (by conv => lhs; whnf) (lt_of_ble rfl)
  apply Wk.bin rfl rfl (fun w => by simp [go_sem] <;> rfl) (lt_of_ble rfl)
  refine Wk.nil ?_
  refine AW.cond rfl (fun hc => by cases hc) (fun _ => AW.skip (thenA_normal ?_))
  refine AW.seq ?_
  apply AW.list
  apply Wk.ld (i := 8) 4 true ty50 rfl rfl (by conv => lhs; whnf) (lt_of_ble rfl)
  apply Wk.dat (sl8r_ok (v - 1) 0 [] true (by simp)) Tryd.func57 rfl rfl rfl rfl rfl (lt_of_ble rfl)
  apply Wk.lst 91 1 false [.slice none 0 0] un58 ty22 ze22 rfl rfl (by rfl) (by rfl) (by decide) (by decide) rfl rfl (all_len rfl) (lt_of_ble rfl)
  apply Wk.sto (i := 6) 4 true ty50 rfl rfl rfl rfl (Nat.le_of_ble_eq_true rfl) (lt_of_ble rfl)
  apply Wk.asg (by conv => lhs; whnf) (lt_of_ble rfl)
  refine Wk.nil ?_
  repeat (first | refine thenA_normal ?_ | refine inBlockA_normal ?_)
  refine AW.thaw (t := 7) (i := 91) [] rfl rfl rfl hX.none ?_
  refine AW.ret ?_
  repeat (first | refine thenA_ret ?_ | refine inBlockA_ret ?_)
  exact RetQ.ret [] (.cons ⟨6, 0, _, _, _, rfl, rfl, ty50, rfl⟩ (.cons rfl .nil)) ⟨rfl, rfl⟩ none_kept
set_option maxHeartbeats 8000000 in
set_option maxRecDepth 100000 in
theorem shearCAll (m0 w0 s0 t0 y0 : Int) (v m : Int) (bs : List (Fin 256)) (k s c : Int) (p f : Bool) (y g l : Int) (fs : List (Fin 256)) (h0 : Opt.ok ⟨m0, w0, s0, t0, y0⟩ = true) (h1 : crxB v m bs.length = true) (hk : k = 3) (h3 : frmB k s c p f y g l fs.length = true) (hbl : bs.length ≤ 1000) (hv : ¬ v = 0) (ht : ¬ (t0 < l ∨ s0 < (fs.length : Int))) (hC : putC m bs.length g fs.length = 2) : DataOk Tryd.prog 29 [cfgA m0 w0 s0 t0 y0, crA v m bs false, frmA k s c p f y g l fs] (.tup [crA (v - 1) 0 [] false, oneS (bs ++ fs)]) := by
  have hf := crx_facts h1
  have hp : pieceB g l fs.length = true := by subst hk; exact frm3 h3
  have hl1 := joinB_small hf.2
  have hl2 := pieceB_small hp
  refine Spec.intro (n := 92) (rv := [.cell 6 50, .tmp 7]) Tryd.func29 rfl rfl rfl (by simp) fun C hN hX => ?_
  refine AW.seq ?_
  apply AW.list
  apply Wk.bx 3 rfl rfl (lt_of_ble rfl)
  apply Wk.bx 4 rfl rfl (lt_of_ble rfl)
  apply Wk.bx 5 rfl rfl (lt_of_ble rfl)
  apply Wk.alc 6 [.int .i64 0, .int .i64 0, .slice none 0 0, .bool false] ze50 rfl rfl (lt_of_ble rfl)
  apply Wk.asg (by conv => lhs; whnf) (lt_of_ble rfl)
  refine Wk.nil ?_
  refine AW.seq (AW.seq ?_)
  apply AW.list
  apply Wk.ld (i := 3) 5 true ty24 rfl rfl (by conv => lhs; whnf) (lt_of_ble rfl)
  apply Wk.dat (scfgbX m0 w0 s0 t0 y0 h0) Tryd.func31 rfl rfl rfl rfl rfl (lt_of_ble rfl)
  apply Wk.un rfl (fun w => by simp [go_sem] <;> rfl) (lt_of_ble rfl)
  apply Wk.mv (by conv => lhs; whnf) (lt_of_ble rfl)
  apply Wk.gon 15 rfl rfl
  apply Wk.ld (i := 4) 4 true ty50 rfl rfl (by conv => lhs; whnf) (lt_of_ble rfl)
  apply Wk.gon 15 rfl rfl
  apply Wk.dat (scrxb false h1) Tryd.func25 rfl rfl rfl rfl rfl (lt_of_ble rfl)
  apply Wk.gon 15 rfl rfl
  apply Wk.un rfl (fun w => by simp [go_sem] <;> rfl) (lt_of_ble rfl)
  apply Wk.pckF rfl (by conv => lhs; whnf) (lt_of_ble rfl)
  apply Wk.mv (by conv => lhs; whnf) (lt_of_ble rfl)
  apply Wk.gon 20 rfl rfl
  apply Wk.ld (i := 5) 9 true ty31 rfl rfl (by conv => lhs; whnf) (lt_of_ble rfl)
  apply Wk.gon 20 rfl rfl
  apply Wk.dat (sfrmb k s c p f y g l fs h3) Tryd.func32 rfl rfl rfl rfl rfl (lt_of_ble rfl)
  apply Wk.gon 20 rfl rfl
  apply Wk.un rfl (fun w => by simp [go_sem] <;> rfl) (lt_of_ble rfl)
  apply Wk.pckF rfl (by conv => lhs; whnf) (lt_of_ble rfl)
  apply Wk.mv (by conv => lhs; whnf) (lt_of_ble rfl)
  apply Wk.gon 25 rfl rfl
  apply Wk.fad 0 0 false fd31_0 rfl (lt_of_ble rfl)
  apply Wk.gon 25 rfl rfl
  apply Wk.ld (i := 5) 1 false ty3 rfl rfl (by conv => lhs; whnf) (lt_of_ble rfl)
  apply Wk.gon 25 rfl rfl
  apply Wk.bin rfl rfl (r := .bool false) (fun w => by simp [go_sem, hk]) (lt_of_ble rfl)
  apply Wk.pckF rfl (by conv => lhs; whnf) (lt_of_ble rfl)
  refine Wk.nil ?_
  refine AW.cond rfl (fun hc => by cases hc) (fun _ => AW.skip (thenA_normal ?_))
  refine AW.seq ?_
  apply AW.list
  apply Wk.ld (i := 4) 4 true ty50 rfl rfl (by conv => lhs; whnf) (lt_of_ble rfl)
  apply Wk.dat (sl8r_ok v m bs false hbl) Tryd.func57 rfl rfl rfl rfl rfl (lt_of_ble rfl)
  apply Wk.alc 8 [.int .i64 0, .int .i64 0, .slice none 0 0, .bool false] ze50 rfl rfl (lt_of_ble rfl)
  apply Wk.sto (i := 8) 4 true ty50 rfl rfl rfl rfl (Nat.le_of_ble_eq_true rfl) (lt_of_ble rfl)
  refine Wk.nil ?_
  refine AW.seq (AW.seq ?_)
  apply AW.list
  apply Wk.fad 3 0 false fd50_2 rfl (lt_of_ble rfl)
  apply Wk.ld (i := 4) 1 false ty4 rfl rfl (by conv => lhs; whnf) (lt_of_ble rfl)
  refine Wk.nil ?_
  refine AW.cond rfl (fun hc => by cases hc) (fun _ => AW.skip (thenA_normal ?_))
  refine AW.seq (AW.seq ?_)
  apply AW.list
  apply Wk.fad 0 0 false fd50_0 rfl (lt_of_ble rfl)
  apply Wk.ld (i := 4) 1 false ty3 rfl rfl (by conv => lhs; whnf) (lt_of_ble rfl)
  apply Wk.bin rfl rfl (r := .bool false) (fun w => by simp [go_sem] <;> omega) (lt_of_ble rfl)
  apply Wk.mv (by conv => lhs; whnf) (lt_of_ble rfl)
  apply Wk.gon 41 rfl rfl
  apply Wk.fad 7 0 false fd31_7 rfl (lt_of_ble rfl)
  apply Wk.gon 41 rfl rfl
  apply Wk.ld (i := 5) 1 false ty3 rfl rfl (by conv => lhs; whnf) (lt_of_ble rfl)
  apply Wk.gon 41 rfl rfl
  apply Wk.fad 3 0 false fd24_3 rfl (lt_of_ble rfl)
  apply Wk.gon 41 rfl rfl
  apply Wk.ld (i := 3) 1 false ty3 rfl rfl (by conv => lhs; whnf) (lt_of_ble rfl)
  apply Wk.gon 41 rfl rfl
  apply Wk.bin rfl rfl (r := .bool false) (fun w => by simp [go_sem] <;> omega) (lt_of_ble rfl)
  apply Wk.pckF rfl (by conv => lhs; whnf) (lt_of_ble rfl)
  apply Wk.mv (by conv => lhs; whnf) (lt_of_ble rfl)
  apply Wk.gon 48 rfl rfl
  apply Wk.fad 8 0 false fd31_8 rfl (lt_of_ble rfl)
  apply Wk.gon 48 rfl rfl
  apply Wk.ld (i := 5) 1 false ty22 rfl rfl (by conv => lhs; whnf) (lt_of_ble rfl)
  apply Wk.gon 48 rfl rfl
  apply Wk.len un22 rfl (lt_of_ble rfl)
  apply Wk.gon 48 rfl rfl
  apply Wk.fad 2 0 false fd24_2 rfl (lt_of_ble rfl)
  apply Wk.gon 48 rfl rfl
  apply Wk.ld (i := 3) 1 false ty3 rfl rfl (by conv => lhs; whnf) (lt_of_ble rfl)
  apply Wk.gon 48 rfl rfl
  apply Wk.bin rfl rfl (r := .bool false) (fun w => by simp [go_sem] <;> omega) (lt_of_ble rfl)
  apply Wk.pckF rfl (by conv => lhs; whnf) (lt_of_ble rfl)
  refine Wk.nil ?_
  refine AW.cond rfl (fun hc => by cases hc) (fun _ => AW.skip (thenA_normal ?_))
  refine AW.seq ?_
  apply AW.list
  apply Wk.fad 1 1 true fd50_1 rfl (lt_of_ble rfl)
  apply Wk.ld (i := 8) 2 true ty48 rfl rfl (by conv => lhs; whnf) (lt_of_ble rfl)
  apply Wk.fad 6 0 false fd31_6 rfl (lt_of_ble rfl)
  apply Wk.ld (i := 5) 1 false ty3 rfl rfl (by conv => lhs; whnf) (lt_of_ble rfl)
  apply Wk.fad 7 0 false fd31_7 rfl (lt_of_ble rfl)
  apply Wk.ld (i := 5) 1 false ty3 rfl rfl (by conv => lhs; whnf) (lt_of_ble rfl)
  apply Wk.fad 8 0 false fd31_8 rfl (lt_of_ble rfl)
  apply Wk.ld (i := 5) 1 false ty22 rfl rfl (by conv => lhs; whnf) (lt_of_ble rfl)
  apply Wk.bld [.int .i64 0, .int .i64 0, .slice none 0 0] [(0, 1), (1, 1), (2, 1)] bl41 rfl (by conv => lhs; whnf) (lt_of_ble rfl)
  apply Wk.dat (sl4b m bs g l fs hf.2 hp (putA4_all hf.2 hp hC)) Tryd.func65 rfl rfl rfl rfl rfl (lt_of_ble rfl)
  apply Wk.mv (by conv => lhs; whnf) (lt_of_ble rfl)
  apply Wk.ext rfl rfl (lt_of_ble rfl)
  apply Wk.ext rfl rfl (lt_of_ble rfl)
  apply Wk.ext rfl rfl (lt_of_ble rfl)
  apply Wk.alc 9 [.int .i64 0, .slice none 0 0] ze48 rfl rfl (lt_of_ble rfl)
  apply Wk.sto (i := 9) 2 true ty48 rfl rfl rfl rfl (Nat.le_of_ble_eq_true rfl) (lt_of_ble rfl)
  apply Wk.asg (by conv => lhs; whnf) (lt_of_ble rfl)
  apply Wk.asg (by conv => lhs; whnf) (lt_of_ble rfl)
  refine Wk.nil ?_
  refine AW.seq ?_
  apply AW.list
  apply Wk.ld (i := 9) 2 true ty48 rfl rfl (by conv => lhs; whnf) (lt_of_ble rfl)
  apply Wk.fad 1 1 true fd50_1 rfl (lt_of_ble rfl)
  apply Wk.sto (i := 8) 2 true ty48 rfl rfl rfl rfl (Nat.le_of_ble_eq_true rfl) (lt_of_ble rfl)
  refine Wk.nil ?_
  refine AW.seq ?_
  apply AW.list
  apply Wk.fad 0 0 false fd50_0 rfl (lt_of_ble rfl)
  apply Wk.ld (i := 4) 1 false ty3 rfl rfl (by conv => lhs; whnf) (lt_of_ble rfl)
  apply Wk.subi rfl rfl (by omega) (lt_of_ble rfl)
  apply Wk.fad 0 0 false fd50_0 rfl (lt_of_ble rfl)
  apply Wk.sto (i := 8) 1 false ty3 rfl rfl rfl rfl (Nat.le_of_ble_eq_true rfl) (lt_of_ble rfl)
  refine Wk.nil ?_
  refine AW.seq (AW.seq ?_)
  apply AW.list
  apply Wk.mv (by conv => lhs; whnf) (lt_of_ble rfl)
  apply Wk.bin rfl rfl (fun w => by simp [go_sem] <;> rfl) (lt_of_ble rfl)
  refine Wk.nil ?_
  refine AW.cond rfl (fun hc => by cases hc) (fun _ => AW.skip (thenA_normal ?_))
  refine AW.seq (AW.seq ?_)
  apply AW.list
  apply Wk.mv (by conv => lhs; whnf) (lt_of_ble rfl)
  apply Wk.bin rfl rfl (fun w => by simp [go_sem] <;> rfl) (lt_of_ble rfl)
  refine Wk.nil ?_
  refine AW.cond rfl (fun _ => ?_) (fun hc => by cases hc)
  refine AW.seq ?_
  apply AW.list
  apply Wk.ld (i := 8) 4 true ty50 rfl rfl (by conv => lhs; whnf) (lt_of_ble rfl)
  apply Wk.dat (sl8r_ok (v - 1) 0 [] false (by simp)) Tryd.func57 rfl rfl rfl rfl rfl (lt_of_ble rfl)
  apply Wk.mv (by conv => lhs; whnf) (lt_of_ble rfl)
  apply Wk.lst 87 1 false [.slice none 0 0] un58 ty22 ze22 rfl rfl (by rfl) (by rfl) (by decide) (by decide) rfl rfl (all_len rfl) (lt_of_ble rfl)
  apply Wk.thaw 87 87 [[fbytes (bs ++ fs)]] hX rfl (by rfl) (by rfl)
  apply Wk.dat (sdus1_ok (bs ++ fs) (by simp; omega)) Tryd.func66 rfl rfl rfl rfl rfl (lt_of_ble rfl)
  apply Wk.sto (i := 6) 4 true ty50 rfl rfl rfl rfl (Nat.le_of_ble_eq_true rfl) (lt_of_ble rfl)
  apply Wk.asg (by conv => lhs; whnf) (lt_of_ble rfl)
  refine Wk.nil (AW.ret ?_)
  repeat (first | refine thenA_ret ?_ | refine inBlockA_ret ?_)
  exact RetQ.ret [] (.cons ⟨6, 0, _, _, _, rfl, rfl, ty50, rfl⟩ (.cons rfl .nil)) ⟨rfl, rfl⟩ none_kept
set_option maxHeartbeats 8000000 in
set_option maxRecDepth 100000 in
theorem shearCMore (m0 w0 s0 t0 y0 : Int) (v m : Int) (bs : List (Fin 256)) (k s c : Int) (p f : Bool) (y g l : Int) (fs : List (Fin 256)) (h0 : Opt.ok ⟨m0, w0, s0, t0, y0⟩ = true) (h1 : crxB v m bs.length = true) (hk : k = 3) (h3 : frmB k s c p f y g l fs.length = true) (hbl : bs.length ≤ 1000) (hv : ¬ v = 0) (ht : ¬ (t0 < l ∨ s0 < (fs.length : Int))) (hC : putC m bs.length g fs.length = 1) : DataOk Tryd.prog 29 [cfgA m0 w0 s0 t0 y0, crA v m bs false, frmA k s c p f y g l fs] (.tup [crA (v - 1) (if m = 0 then l else m) (bs ++ fs) false, noS]) := by
  have hf := crx_facts h1
  have hp : pieceB g l fs.length = true := by subst hk; exact frm3 h3
  have hl1 := joinB_small hf.2
  have hl2 := pieceB_small hp
  refine Spec.intro (n := 92) (rv := [.cell 6 50, .tmp 7]) Tryd.func29 rfl rfl rfl (by simp) fun C hN hX => ?_
  refine AW.seq ?_
  apply AW.list
  apply Wk.bx 3 rfl rfl (lt_of_ble rfl)
  apply Wk.bx 4 rfl rfl (lt_of_ble rfl)
  apply Wk.bx 5 rfl rfl (lt_of_ble rfl)
  apply Wk.alc 6 [.int .i64 0, .int .i64 0, .slice none 0 0, .bool false] ze50 rfl rfl (lt_of_ble rfl)
  apply Wk.asg (by conv => lhs; whnf) (lt_of_ble rfl)
  refine Wk.nil ?_
  refine AW.seq (AW.seq ?_)
  apply AW.list
  apply Wk.ld (i := 3) 5 true ty24 rfl rfl (by conv => lhs; whnf) (lt_of_ble rfl)
  apply Wk.dat (scfgbX m0 w0 s0 t0 y0 h0) Tryd.func31 rfl rfl rfl rfl rfl (lt_of_ble rfl)
  apply Wk.un rfl (fun w => by simp [go_sem] <;> rfl) (lt_of_ble rfl)
  apply Wk.mv (by conv => lhs; whnf) (lt_of_ble rfl)
  apply Wk.gon 15 rfl rfl
  apply Wk.ld (i := 4) 4 true ty50 rfl rfl (by conv => lhs; whnf) (lt_of_ble rfl)
  apply Wk.gon 15 rfl rfl
  apply Wk.dat (scrxb false h1) Tryd.func25 rfl rfl rfl rfl rfl (lt_of_ble rfl)
  apply Wk.gon 15 rfl rfl
  apply Wk.un rfl (fun w => by simp [go_sem] <;> rfl) (lt_of_ble rfl)
  apply Wk.pckF rfl (by conv => lhs; whnf) (lt_of_ble rfl)
  apply Wk.mv (by conv => lhs; whnf) (lt_of_ble rfl)
  apply Wk.gon 20 rfl rfl
  apply Wk.ld (i := 5) 9 true ty31 rfl rfl (by conv => lhs; whnf) (lt_of_ble rfl)
  apply Wk.gon 20 rfl rfl
  apply Wk.dat (sfrmb k s c p f y g l fs h3) Tryd.func32 rfl rfl rfl rfl rfl (lt_of_ble rfl)
  apply Wk.gon 20 rfl rfl
  apply Wk.un rfl (fun w => by simp [go_sem] <;> rfl) (lt_of_ble rfl)
  apply Wk.pckF rfl (by conv => lhs; whnf) (lt_of_ble rfl)
  apply Wk.mv (by conv => lhs; whnf) (lt_of_ble rfl)
  apply Wk.gon 25 rfl rfl
  apply Wk.fad 0 0 false fd31_0 rfl (lt_of_ble rfl)
  apply Wk.gon 25 rfl rfl
  apply Wk.ld (i := 5) 1 false ty3 rfl rfl (by conv => lhs; whnf) (lt_of_ble rfl)
  apply Wk.gon 25 rfl rfl
  apply Wk.bin rfl rfl (r := .bool false) (fun w => by simp [go_sem, hk]) (lt_of_ble rfl)
  apply Wk.pckF rfl (by conv => lhs; whnf) (lt_of_ble rfl)
  refine Wk.nil ?_
  refine AW.cond rfl (fun hc => by cases hc) (fun _ => AW.skip (thenA_normal ?_))
  refine AW.seq ?_
  apply AW.list
  apply Wk.ld (i := 4) 4 true ty50 rfl rfl (by conv => lhs; whnf) (lt_of_ble rfl)
  apply Wk.dat (sl8r_ok v m bs false hbl) Tryd.func57 rfl rfl rfl rfl rfl (lt_of_ble rfl)
  apply Wk.alc 8 [.int .i64 0, .int .i64 0, .slice none 0 0, .bool false] ze50 rfl rfl (lt_of_ble rfl)
  apply Wk.sto (i := 8) 4 true ty50 rfl rfl rfl rfl (Nat.le_of_ble_eq_true rfl) (lt_of_ble rfl)
  refine Wk.nil ?_
  refine AW.seq (AW.seq ?_)
  apply AW.list
  apply Wk.fad 3 0 false fd50_2 rfl (lt_of_ble rfl)
  apply Wk.ld (i := 4) 1 false ty4 rfl rfl (by conv => lhs; whnf) (lt_of_ble rfl)
  refine Wk.nil ?_
  refine AW.cond rfl (fun hc => by cases hc) (fun _ => AW.skip (thenA_normal ?_))
  refine AW.seq (AW.seq ?_)
  apply AW.list
  apply Wk.fad 0 0 false fd50_0 rfl (lt_of_ble rfl)
  apply Wk.ld (i := 4) 1 false ty3 rfl rfl (by conv => lhs; whnf) (lt_of_ble rfl)
  apply Wk.bin rfl rfl (r := .bool false) (fun w => by simp [go_sem] <;> omega) (lt_of_ble rfl)
  apply Wk.mv (by conv => lhs; whnf) (lt_of_ble rfl)
  apply Wk.gon 41 rfl rfl
  apply Wk.fad 7 0 false fd31_7 rfl (lt_of_ble rfl)
  apply Wk.gon 41 rfl rfl
  apply Wk.ld (i := 5) 1 false ty3 rfl rfl (by conv => lhs; whnf) (lt_of_ble rfl)
  apply Wk.gon 41 rfl rfl
  apply Wk.fad 3 0 false fd24_3 rfl (lt_of_ble rfl)
  apply Wk.gon 41 rfl rfl
  apply Wk.ld (i := 3) 1 false ty3 rfl rfl (by conv => lhs; whnf) (lt_of_ble rfl)
  apply Wk.gon 41 rfl rfl
  apply Wk.bin rfl rfl (r := .bool false) (fun w => by simp [go_sem] <;> omega) (lt_of_ble rfl)
  apply Wk.pckF rfl (by conv => lhs; whnf) (lt_of_ble rfl)
  apply Wk.mv (by conv => lhs; whnf) (lt_of_ble rfl)
  apply Wk.gon 48 rfl rfl
  apply Wk.fad 8 0 false fd31_8 rfl (lt_of_ble rfl)
  apply Wk.gon 48 rfl rfl
  apply Wk.ld (i := 5) 1 false ty22 rfl rfl (by conv => lhs; whnf) (lt_of_ble rfl)
  apply Wk.gon 48 rfl rfl
  apply Wk.len un22 rfl (lt_of_ble rfl)
  apply Wk.gon 48 rfl rfl
  apply Wk.fad 2 0 false fd24_2 rfl (lt_of_ble rfl)
  apply Wk.gon 48 rfl rfl
  apply Wk.ld (i := 3) 1 false ty3 rfl rfl (by conv => lhs; whnf) (lt_of_ble rfl)
  apply Wk.gon 48 rfl rfl
  apply Wk.bin rfl rfl (r := .bool false) (fun w => by simp [go_sem] <;> omega) (lt_of_ble rfl)
  apply Wk.pckF rfl (by conv => lhs; whnf) (lt_of_ble rfl)
  refine Wk.nil ?_
  refine AW.cond rfl (fun hc => by cases hc) (fun _ => AW.skip (thenA_normal ?_))
  refine AW.seq ?_
  apply AW.list
  apply Wk.fad 1 1 true fd50_1 rfl (lt_of_ble rfl)
  apply Wk.ld (i := 8) 2 true ty48 rfl rfl (by conv => lhs; whnf) (lt_of_ble rfl)
  apply Wk.fad 6 0 false fd31_6 rfl (lt_of_ble rfl)
  apply Wk.ld (i := 5) 1 false ty3 rfl rfl (by conv => lhs; whnf) (lt_of_ble rfl)
  apply Wk.fad 7 0 false fd31_7 rfl (lt_of_ble rfl)
  apply Wk.ld (i := 5) 1 false ty3 rfl rfl (by conv => lhs; whnf) (lt_of_ble rfl)
  apply Wk.fad 8 0 false fd31_8 rfl (lt_of_ble rfl)
  apply Wk.ld (i := 5) 1 false ty22 rfl rfl (by conv => lhs; whnf) (lt_of_ble rfl)
  apply Wk.bld [.int .i64 0, .int .i64 0, .slice none 0 0] [(0, 1), (1, 1), (2, 1)] bl41 rfl (by conv => lhs; whnf) (lt_of_ble rfl)
  apply Wk.dat (sl4b m bs g l fs hf.2 hp (putA4_more hf.2 hp hC)) Tryd.func65 rfl rfl rfl rfl rfl (lt_of_ble rfl)
  apply Wk.mv (by conv => lhs; whnf) (lt_of_ble rfl)
  apply Wk.ext rfl rfl (lt_of_ble rfl)
  apply Wk.ext rfl rfl (lt_of_ble rfl)
  apply Wk.ext rfl rfl (lt_of_ble rfl)
  apply Wk.alc 9 [.int .i64 0, .slice none 0 0] ze48 rfl rfl (lt_of_ble rfl)
  apply Wk.sto (i := 9) 2 true ty48 rfl rfl rfl rfl (Nat.le_of_ble_eq_true rfl) (lt_of_ble rfl)
  apply Wk.asg (by conv => lhs; whnf) (lt_of_ble rfl)
  apply Wk.asg (by conv => lhs; whnf) (lt_of_ble rfl)
  refine Wk.nil ?_
  refine AW.seq ?_
  apply AW.list
  apply Wk.ld (i := 9) 2 true ty48 rfl rfl (by conv => lhs; whnf) (lt_of_ble rfl)
  apply Wk.fad 1 1 true fd50_1 rfl (lt_of_ble rfl)
  apply Wk.sto (i := 8) 2 true ty48 rfl rfl rfl rfl (Nat.le_of_ble_eq_true rfl) (lt_of_ble rfl)
  refine Wk.nil ?_
  refine AW.seq ?_
  apply AW.list
  apply Wk.fad 0 0 false fd50_0 rfl (lt_of_ble rfl)
  apply Wk.ld (i := 4) 1 false ty3 rfl rfl (by conv => lhs; whnf) (lt_of_ble rfl)
  apply Wk.subi rfl rfl (by omega) (lt_of_ble rfl)
  apply Wk.fad 0 0 false fd50_0 rfl (lt_of_ble rfl)
  apply Wk.sto (i := 8) 1 false ty3 rfl rfl rfl rfl (Nat.le_of_ble_eq_true rfl) (lt_of_ble rfl)
  refine Wk.nil ?_
  refine AW.seq (AW.seq ?_)
  apply AW.list
  apply Wk.mv (by conv => lhs; whnf) (lt_of_ble rfl)
  apply Wk.bin rfl rfl (fun w => by simp [go_sem] <;> rfl) (lt_of_ble rfl)
  refine Wk.nil ?_
  refine AW.cond rfl (fun hc => by cases hc) (fun _ => AW.skip (thenA_normal ?_))
  refine AW.seq (AW.seq ?_)
  apply AW.list
  apply Wk.mv (by conv => lhs; whnf) (lt_of_ble rfl)
  apply Wk.bin rfl rfl (fun w => by simp [go_sem] <;> rfl) (lt_of_ble rfl)
  refine Wk.nil ?_
  refine AW.cond rfl (fun hc => by cases hc) (fun _ => AW.skip (thenA_normal ?_))
  refine AW.seq ?_
  apply AW.list
  apply Wk.ld (i := 8) 4 true ty50 rfl rfl (by conv => lhs; whnf) (lt_of_ble rfl)
  apply Wk.dat (sl8r_ok (v - 1) (if m = 0 then l else m) (bs ++ fs) false (by simp; omega)) Tryd.func57 rfl rfl rfl rfl rfl (lt_of_ble rfl)
  apply Wk.lst 91 1 false [.slice none 0 0] un58 ty22 ze22 rfl rfl (by rfl) (by rfl) (by decide) (by decide) rfl rfl (all_len rfl) (lt_of_ble rfl)
  apply Wk.sto (i := 6) 4 true ty50 rfl rfl rfl rfl (Nat.le_of_ble_eq_true rfl) (lt_of_ble rfl)
  apply Wk.asg (by conv => lhs; whnf) (lt_of_ble rfl)
  refine Wk.nil ?_
  repeat (first | refine thenA_normal ?_ | refine inBlockA_normal ?_)
  refine AW.thaw (t := 7) (i := 91) [] rfl rfl rfl hX.none ?_
  refine AW.ret ?_
  repeat (first | refine thenA_ret ?_ | refine inBlockA_ret ?_)
  exact RetQ.ret [] (.cons ⟨6, 0, _, _, _, rfl, rfl, ty50, rfl⟩ (.cons rfl .nil)) ⟨rfl, rfl⟩ none_kept
def chearPost (_ : List A) (r : A) : Prop := ∃ (m0 w0 s0 t0 y0 : Int) (v m : Int) (bs : List (Fin 256)) (d : Bool) (k s c : Int) (p f : Bool) (y g l : Int) (fs : List (Fin 256)), r = .tup [cfgA m0 w0 s0 t0 y0, crA v m bs d, frmA k s c p f y g l fs] ∧ bs.length ≤ 1000 ∧ fs.length ≤ 1000
set_option maxHeartbeats 8000000 in
set_option maxRecDepth 100000 in
theorem drawCHear_ok (zs : List (Fin 256)) : DataW Tryd.prog 27 [.d (bytesD (zs.map (·.val)))] (chearPost []) := by
  refine ⟨?_, ⟨_, 0, 0, 0, 0, 0, 0, 0, [], false, 0, 0, 0, false, false, 0, 0, 0, [], rfl, by simp, by simp⟩, ?_⟩
  · refine id ?_
    refine Spec.intro (n := 32) (rv := [.cell 2 24, .cell 3 50, .cell 4 31]) Tryd.func27 rfl rfl rfl (by simp) fun C hN hX => ?_
    refine AW.seq ?_
    apply AW.list
    apply Wk.alc 2 [.int .i64 0, .int .i64 0, .int .i64 0, .int .i64 0, .int .i64 0] ze24 rfl rfl (lt_of_ble rfl)
    apply Wk.alc 3 [.int .i64 0, .int .i64 0, .slice none 0 0, .bool false] ze50 rfl rfl (lt_of_ble rfl)
    apply Wk.alc 4 [.int .i64 0, .int .i64 0, .int .i64 0, .bool false, .bool false, .int .i64 0, .int .i64 0, .int .i64 0, .slice none 0 0] ze31 rfl rfl (lt_of_ble rfl)
    refine Wk.nil ?_
    refine AW.seq ?_
    apply AW.list
    apply Wk.mv (by conv => lhs; whnf) (lt_of_ble rfl)
    apply Wk.opn open_ok Tryd.func36 rfl rfl rfl rfl (lt_of_ble rfl)
    rintro zs1
    apply Wk.asg (by conv => lhs; whnf) (lt_of_ble rfl)
    refine Wk.nil ?_
    refine AW.seq ?_
    apply AW.list
    apply Wk.mv (by conv => lhs; whnf) (lt_of_ble rfl)
    apply Wk.drw 0 cfg_ok Tryd.func37 rfl rfl rfl rfl ⟨_, rfl, by omega⟩ (by omega) rfl (lt_of_ble rfl)
    rintro r2 zs2 p2 ⟨m0, w0, s0, t0, y0, rfl, _, _⟩ hp2
    apply Wk.alc 6 [.int .i64 0, .int .i64 0, .int .i64 0, .int .i64 0, .int .i64 0] ze24 rfl rfl (lt_of_ble rfl)
    apply Wk.sto (i := 6) 5 true ty24 rfl rfl rfl rfl (Nat.le_of_ble_eq_true rfl) (lt_of_ble rfl)
    refine Wk.nil ?_
    refine AW.seq ?_
    apply AW.list
    apply Wk.mv (by conv => lhs; whnf) (lt_of_ble rfl)
    apply Wk.drw 0 l20Crx_ok Tryd.func54 rfl rfl rfl rfl ⟨_, rfl, by omega⟩ (by omega) rfl (lt_of_ble rfl)
    rintro r3 zs3 p3 ⟨v, m, bs, d, rfl, _, _, hbl⟩ hp3
    apply Wk.alc 7 [.int .i64 0, .int .i64 0, .slice none 0 0, .bool false] ze50 rfl rfl (lt_of_ble rfl)
    apply Wk.sto (i := 7) 4 true ty50 rfl rfl rfl rfl (Nat.le_of_ble_eq_true rfl) (lt_of_ble rfl)
    refine Wk.nil ?_
    refine AW.seq ?_
    apply AW.list
    apply Wk.mv (by conv => lhs; whnf) (lt_of_ble rfl)
    apply Wk.drw 0 partD_ok Tryd.func60 rfl rfl rfl rfl rfl (by omega) rfl (lt_of_ble rfl)
    rintro r4 zs4 p4 ⟨sg, ln, ps, rfl, _, _, hpl⟩ hp4
    apply Wk.alc 8 [.int .i64 0, .int .i64 0, .slice none 0 0] ze41 rfl rfl (lt_of_ble rfl)
    apply Wk.sto (i := 8) 3 true ty41 rfl rfl rfl rfl (Nat.le_of_ble_eq_true rfl) (lt_of_ble rfl)
    refine Wk.nil ?_
    refine AW.seq ?_
    apply AW.list
    apply Wk.fad 0 0 false fd41_0 rfl (lt_of_ble rfl)
    apply Wk.ld (i := 8) 1 false ty3 rfl rfl (by conv => lhs; whnf) (lt_of_ble rfl)
    apply Wk.fad 1 0 false fd41_1 rfl (lt_of_ble rfl)
    apply Wk.ld (i := 8) 1 false ty3 rfl rfl (by conv => lhs; whnf) (lt_of_ble rfl)
    apply Wk.fad 2 0 false fd41_2 rfl (lt_of_ble rfl)
    apply Wk.ld (i := 8) 1 false ty22 rfl rfl (by conv => lhs; whnf) (lt_of_ble rfl)
    apply Wk.bld [.int .i64 0, .int .i64 0, .int .i64 0, .bool false, .bool false, .int .i64 0, .int .i64 0, .int .i64 0, .slice none 0 0] [(0, 1), (1, 1), (2, 1), (3, 1), (4, 1), (5, 1), (6, 1), (7, 1), (8, 1)] bl31 rfl (by conv => lhs; whnf) (lt_of_ble rfl)
    apply Wk.alc 9 [.int .i64 0, .int .i64 0, .int .i64 0, .bool false, .bool false, .int .i64 0, .int .i64 0, .int .i64 0, .slice none 0 0] ze31 rfl rfl (lt_of_ble rfl)
    apply Wk.sto (i := 9) 9 true ty31 rfl rfl rfl rfl (Nat.le_of_ble_eq_true rfl) (lt_of_ble rfl)
    refine Wk.nil ?_
    refine AW.seq (AW.seq ?_)
    apply AW.list
    apply Wk.mv (by conv => lhs; whnf) (lt_of_ble rfl)
    apply Wk.drw 0 odd_ok Tryd.func61 rfl rfl rfl rfl ⟨_, rfl, by omega⟩ (by omega) rfl (lt_of_ble rfl)
    rintro r6 zs6 p6 ⟨b6, rfl, _⟩ hp6
    refine Wk.nil ?_
    refine AW.cond rfl (fun hc => ?_) (fun hc => ?_)
    · apply AW.list
      apply Wk.mv (by conv => lhs; whnf) (lt_of_ble rfl)
      apply Wk.drw 0 frame_ok Tryd.func62 rfl rfl rfl rfl ⟨_, rfl, by omega⟩ (by omega) rfl (lt_of_ble rfl)
      rintro r7 zs7 p7 ⟨k, s, k2, p, f, y, g, l, fs, rfl, h1, h2, h3, h4, h5, h6, hfl⟩ hp7
      apply Wk.sto (i := 9) 9 true ty31 rfl rfl rfl rfl (Nat.le_of_ble_eq_true rfl) (lt_of_ble rfl)
      refine Wk.nil (thenA_normal ?_)
      refine AW.seq ?_
      apply AW.draw (hm := hmix) (cs := _)
      · apply Wk.ld (i := 6) 5 true ty24 rfl rfl (by conv => lhs; whnf) (lt_of_ble rfl)
        apply Wk.ld (i := 7) 4 true ty50 rfl rfl (by conv => lhs; whnf) (lt_of_ble rfl)
        apply Wk.ld (i := 9) 9 true ty31 rfl rfl (by conv => lhs; whnf) (lt_of_ble rfl)
        apply Wk.sto (i := 2) 5 true ty24 rfl rfl rfl rfl (Nat.le_of_ble_eq_true rfl) (lt_of_ble rfl)
        apply Wk.sto (i := 3) 4 true ty50 rfl rfl rfl rfl (Nat.le_of_ble_eq_true rfl) (lt_of_ble rfl)
        apply Wk.sto (i := 4) 9 true ty31 rfl rfl rfl rfl (Nat.le_of_ble_eq_true rfl) (lt_of_ble rfl)
        refine Wk.nil (AW.ret ?_)
        exact RetQ.ret [] (.cons ⟨2, 0, _, _, _, rfl, rfl, ty24, rfl⟩ (.cons ⟨3, 0, _, _, _, rfl, rfl, ty50, rfl⟩ (.cons ⟨4, 0, _, _, _, rfl, rfl, ty31, rfl⟩ .nil))) ⟨⟨m0, w0, s0, t0, y0, v, m, bs, d, k, s, k2, p, f, y, g, l, fs, rfl, hbl, by omega⟩, rfl⟩ none_kept
      · rfl
      · rfl
    · refine AW.skip (thenA_normal ?_)
      refine AW.seq ?_
      apply AW.draw (hm := hmix) (cs := _)
      · apply Wk.ld (i := 6) 5 true ty24 rfl rfl (by conv => lhs; whnf) (lt_of_ble rfl)
        apply Wk.ld (i := 7) 4 true ty50 rfl rfl (by conv => lhs; whnf) (lt_of_ble rfl)
        apply Wk.ld (i := 9) 9 true ty31 rfl rfl (by conv => lhs; whnf) (lt_of_ble rfl)
        apply Wk.sto (i := 2) 5 true ty24 rfl rfl rfl rfl (Nat.le_of_ble_eq_true rfl) (lt_of_ble rfl)
        apply Wk.sto (i := 3) 4 true ty50 rfl rfl rfl rfl (Nat.le_of_ble_eq_true rfl) (lt_of_ble rfl)
        apply Wk.sto (i := 4) 9 true ty31 rfl rfl rfl rfl (Nat.le_of_ble_eq_true rfl) (lt_of_ble rfl)
        refine Wk.nil (AW.ret ?_)
        exact RetQ.ret [] (.cons ⟨2, 0, _, _, _, rfl, rfl, ty24, rfl⟩ (.cons ⟨3, 0, _, _, _, rfl, rfl, ty50, rfl⟩ (.cons ⟨4, 0, _, _, _, rfl, rfl, ty31, rfl⟩ .nil))) ⟨⟨m0, w0, s0, t0, y0, v, m, bs, d, 3, 0, 0, false, false, 0, sg, ln, ps, rfl, hbl, by omega⟩, rfl⟩ none_kept
      · rfl
      · rfl
  · rintro r ⟨m0, w0, s0, t0, y0, v, m, bs, d, k, s, c, p, f, y, g, l, fs, rfl, _⟩; rfl
end Go.Proofs.YtejafihfbncaoaaDoor

/- Pieces that are the same, by the laws' own words. -/
namespace Go.Proofs.YtejafihfbncaoaaDoor
open Go Go.RowKit
theorem liBytesE (zs : List Nat) : DataOk Tryd.prog 35 [.d (bytesD zs), .d (bytesD zs)] (.d (.v (.bool true))) := by
  have h := liBytes_ok zs zs
  simpa using h
theorem liPartE (d : Dat) : DataOk Tryd.prog 16 [partN d, partN d] (.d (.v (.bool true))) := by
  obtain ⟨g, l, ys⟩ := d
  refine Spec.intro (n := 24) (rv := [.tmp 4]) Tryd.func16 rfl rfl rfl (by simp) fun C hN hX => ?_
  refine AW.seq ?_
  apply AW.list
  apply Wk.bx 2 rfl rfl (lt_of_ble rfl)
  apply Wk.bx 3 rfl rfl (lt_of_ble rfl)
  apply Wk.asg (by conv => lhs; whnf) (lt_of_ble rfl)
  refine Wk.nil ?_
  refine AW.seq ?_
  apply AW.list
  apply Wk.fad 0 0 false fd41_0 rfl (lt_of_ble rfl)
  apply Wk.ld (i := 2) 1 false ty3 rfl rfl (by conv => lhs; whnf) (lt_of_ble rfl)
  apply Wk.fad 0 0 false fd41_0 rfl (lt_of_ble rfl)
  apply Wk.ld (i := 3) 1 false ty3 rfl rfl (by conv => lhs; whnf) (lt_of_ble rfl)
  apply Wk.bin rfl rfl (r := .bool true) (fun w => by simp [go_sem]) (lt_of_ble rfl)
  apply Wk.mv (by conv => lhs; whnf) (lt_of_ble rfl)
  apply Wk.gon 10 rfl rfl
  apply Wk.fad 1 0 false fd41_1 rfl (lt_of_ble rfl)
  apply Wk.gon 10 rfl rfl
  apply Wk.ld (i := 2) 1 false ty3 rfl rfl (by conv => lhs; whnf) (lt_of_ble rfl)
  apply Wk.gon 10 rfl rfl
  apply Wk.fad 1 0 false fd41_1 rfl (lt_of_ble rfl)
  apply Wk.gon 10 rfl rfl
  apply Wk.ld (i := 3) 1 false ty3 rfl rfl (by conv => lhs; whnf) (lt_of_ble rfl)
  apply Wk.gon 10 rfl rfl
  apply Wk.bin rfl rfl (r := .bool true) (fun w => by simp [go_sem]) (lt_of_ble rfl)
  apply Wk.pckT rfl (by conv => lhs; whnf) (lt_of_ble rfl)
  apply Wk.mv (by conv => lhs; whnf) (lt_of_ble rfl)
  apply Wk.gon 17 rfl rfl
  apply Wk.fad 2 0 false fd41_2 rfl (lt_of_ble rfl)
  apply Wk.gon 17 rfl rfl
  apply Wk.ld (i := 2) 1 false ty22 rfl rfl (by conv => lhs; whnf) (lt_of_ble rfl)
  apply Wk.gon 17 rfl rfl
  apply Wk.fad 2 0 false fd41_2 rfl (lt_of_ble rfl)
  apply Wk.gon 17 rfl rfl
  apply Wk.ld (i := 3) 1 false ty22 rfl rfl (by conv => lhs; whnf) (lt_of_ble rfl)
  apply Wk.gon 17 rfl rfl
  apply Wk.dat (liBytesE ys) Tryd.func35 rfl rfl rfl rfl rfl (lt_of_ble rfl)
  apply Wk.pckT rfl (by conv => lhs; whnf) (lt_of_ble rfl)
  apply Wk.asg (by conv => lhs; whnf) (lt_of_ble rfl)
  refine Wk.nil (AW.ret ?_)
  exact RetQ.ret [] (.cons rfl .nil) ⟨rfl, rfl⟩ none_kept
theorem liPartsE (ds : List Dat) : DataOk Tryd.prog 15 [.d (partsD ds), .d (partsD ds)] (.d (.v (.bool true))) := by
  refine Spec.intro (n := 27) (rv := [.tmp 4]) Tryd.func15 rfl rfl rfl (by simp) fun C hN hX => ?_
  refine AW.bound (x := .tmp 0) rfl fun hb => ?_
  simp only [List.length_map] at hb
  refine AW.seq ?_
  apply AW.list
  apply Wk.asg (by conv => lhs; whnf) (lt_of_ble rfl)
  refine Wk.nil ?_
  refine AW.seq (AW.seq ?_)
  apply AW.list
  apply Wk.mv (by conv => lhs; whnf) (lt_of_ble rfl)
  apply Wk.len un25 rfl (lt_of_ble rfl)
  apply Wk.mv (by conv => lhs; whnf) (lt_of_ble rfl)
  apply Wk.len un25 rfl (lt_of_ble rfl)
  apply Wk.bin rfl rfl (fun w => by simp [go_sem] <;> rfl) (lt_of_ble rfl)
  refine Wk.nil ?_
  refine AW.cond rfl (fun hc => by simp at hc) (fun _ => AW.skip (thenA_normal ?_))
  refine AW.seq (AW.seq ?_)
  apply AW.list
  apply Wk.asg (by conv => lhs; whnf) (lt_of_ble rfl)
  refine Wk.nil (AW.block ?_)
  refine AW.loop (fun q : Nat => St.of 27 [(0, .d (partsD ds)), (1, .d (partsD ds)), (5, .d (.v (.int .i64 (q : Int))))] []) (fun q => q ≤ ds.length) (fun q => ds.length - q) 0 (Nat.zero_le _) ?_ (fun q hq => ?_)
  · exact fun a w => Rel.keep ⟨rfl, .cons rfl rfl (.cons rfl rfl (.cons rfl rfl .nil)), .nil, hN⟩
  refine AW.seq (AW.seq ?_)
  apply AW.list
  apply Wk.mv (by conv => lhs; whnf) (lt_of_ble rfl)
  apply Wk.mv (by conv => lhs; whnf) (lt_of_ble rfl)
  apply Wk.len un25 rfl (lt_of_ble rfl)
  apply Wk.bin rfl rfl (fun w => by simp [go_sem] <;> rfl) (lt_of_ble rfl)
  refine Wk.nil ?_
  refine AW.cond rfl (fun hc => ?_) (fun hc => ?_)
  · have hlt : q < ds.length := by simpa using hc
    obtain ⟨d, hd⟩ : ∃ d, ds[q]? = some d := ⟨_, List.getElem?_eq_getElem hlt⟩
    have hget : (ds.map datD)[q]? = some (datD d) := by simp [hd]
    refine AW.skip ?_
    repeat (first | refine thenA_normal ?_ | refine inBlockA_normal ?_)
    refine AW.seq (AW.block (AW.seq ?_))
    apply AW.draw (hm := hmix) (cs := _)
    · apply Wk.mv (by conv => lhs; whnf) (lt_of_ble rfl)
      apply Wk.mv (by conv => lhs; whnf) (lt_of_ble rfl)
      apply Wk.iad 3 true un25 ty41 rfl rfl (by simpa using hlt) (datD_len ds) (lt_of_ble rfl)
      apply Wk.ldr 3 true ty41 rfl hget (by conv => lhs; whnf) (lt_of_ble rfl)
      apply Wk.mv (by conv => lhs; whnf) (lt_of_ble rfl)
      apply Wk.mv (by conv => lhs; whnf) (lt_of_ble rfl)
      apply Wk.iad 3 true un25 ty41 rfl rfl (by simpa using hlt) (datD_len ds) (lt_of_ble rfl)
      apply Wk.ldr 3 true ty41 rfl hget (by conv => lhs; whnf) (lt_of_ble rfl)
      apply Wk.dat (liPartE d) Tryd.func16 rfl rfl rfl rfl rfl (lt_of_ble rfl)
      apply Wk.un rfl (fun w => by simp [go_sem] <;> rfl) (lt_of_ble rfl)
      refine Wk.nil ?_
      refine AW.cond rfl (fun hn => by cases hn) (fun hn => ?_)
      refine AW.skip ?_
      repeat (first | refine thenA_normal ?_ | refine inBlockA_normal ?_)
      apply AW.list
      apply Wk.mv (by conv => lhs; whnf) (lt_of_ble rfl)
      apply Wk.addi rfl rfl (by omega) (lt_of_ble rfl)
      apply Wk.asg (by conv => lhs; whnf) (lt_of_ble rfl)
      refine Wk.nil ?_
      exact ⟨q + 1, by omega, by omega, fun a w => Rel.keep ⟨rfl, .cons rfl rfl (.cons rfl rfl (.cons rfl rfl .nil)), .nil, hN⟩⟩
    · rfl
    · rfl
  · refine AW.exit ?_
    repeat (first | refine inBlockA_same ?_ | refine thenA_exit ?_)
    repeat (first | refine thenA_normal ?_ | refine inBlockA_normal ?_)
    refine AW.seq ?_
    apply AW.list
    apply Wk.asg (by conv => lhs; whnf) (lt_of_ble rfl)
    refine Wk.nil (AW.ret ?_)
    repeat (first | refine thenA_ret ?_ | refine inBlockA_ret ?_)
    exact RetQ.ret [] (.cons rfl .nil) ⟨rfl, rfl⟩ none_kept
end Go.Proofs.YtejafihfbncaoaaDoor

/- Two frames that are the same, by the laws' own words. -/
namespace Go.Proofs.YtejafihfbncaoaaDoor
open Go Go.RowKit
theorem liFrmE (k s c : Int) (p f : Bool) (y g l : Int) (zs : List Nat) : DataOk Tryd.prog 11 [frmD k s c p f y g l zs, frmD k s c p f y g l zs] (.d (.v (.bool true))) := by
  refine Spec.intro (n := 66) (rv := [.tmp 4]) Tryd.func11 rfl rfl rfl (by simp) fun C hN hX => ?_
  refine AW.seq ?_
  apply AW.list
  apply Wk.bx 2 rfl rfl (lt_of_ble rfl)
  apply Wk.bx 3 rfl rfl (lt_of_ble rfl)
  apply Wk.asg (by conv => lhs; whnf) (lt_of_ble rfl)
  refine Wk.nil ?_
  refine AW.seq ?_
  apply AW.list
  apply Wk.fad 0 0 false fd31_0 rfl (lt_of_ble rfl)
  apply Wk.ld (i := 2) 1 false ty3 rfl rfl (by conv => lhs; whnf) (lt_of_ble rfl)
  apply Wk.fad 0 0 false fd31_0 rfl (lt_of_ble rfl)
  apply Wk.ld (i := 3) 1 false ty3 rfl rfl (by conv => lhs; whnf) (lt_of_ble rfl)
  apply Wk.bin rfl rfl (r := .bool true) (fun w => by simp [go_sem]) (lt_of_ble rfl)
  apply Wk.mv (by conv => lhs; whnf) (lt_of_ble rfl)
  apply Wk.gon 10 rfl rfl
  apply Wk.fad 1 0 false fd31_1 rfl (lt_of_ble rfl)
  apply Wk.gon 10 rfl rfl
  apply Wk.ld (i := 2) 1 false ty3 rfl rfl (by conv => lhs; whnf) (lt_of_ble rfl)
  apply Wk.gon 10 rfl rfl
  apply Wk.fad 1 0 false fd31_1 rfl (lt_of_ble rfl)
  apply Wk.gon 10 rfl rfl
  apply Wk.ld (i := 3) 1 false ty3 rfl rfl (by conv => lhs; whnf) (lt_of_ble rfl)
  apply Wk.gon 10 rfl rfl
  apply Wk.bin rfl rfl (r := .bool true) (fun w => by simp [go_sem]) (lt_of_ble rfl)
  apply Wk.pckT rfl (by conv => lhs; whnf) (lt_of_ble rfl)
  apply Wk.mv (by conv => lhs; whnf) (lt_of_ble rfl)
  apply Wk.gon 17 rfl rfl
  apply Wk.fad 2 0 false fd31_2 rfl (lt_of_ble rfl)
  apply Wk.gon 17 rfl rfl
  apply Wk.ld (i := 2) 1 false ty3 rfl rfl (by conv => lhs; whnf) (lt_of_ble rfl)
  apply Wk.gon 17 rfl rfl
  apply Wk.fad 2 0 false fd31_2 rfl (lt_of_ble rfl)
  apply Wk.gon 17 rfl rfl
  apply Wk.ld (i := 3) 1 false ty3 rfl rfl (by conv => lhs; whnf) (lt_of_ble rfl)
  apply Wk.gon 17 rfl rfl
  apply Wk.bin rfl rfl (r := .bool true) (fun w => by simp [go_sem]) (lt_of_ble rfl)
  apply Wk.pckT rfl (by conv => lhs; whnf) (lt_of_ble rfl)
  apply Wk.mv (by conv => lhs; whnf) (lt_of_ble rfl)
  apply Wk.gon 24 rfl rfl
  apply Wk.fad 3 0 false fd31_3 rfl (lt_of_ble rfl)
  apply Wk.gon 24 rfl rfl
  apply Wk.ld (i := 2) 1 false ty4 rfl rfl (by conv => lhs; whnf) (lt_of_ble rfl)
  apply Wk.gon 24 rfl rfl
  apply Wk.fad 3 0 false fd31_3 rfl (lt_of_ble rfl)
  apply Wk.gon 24 rfl rfl
  apply Wk.ld (i := 3) 1 false ty4 rfl rfl (by conv => lhs; whnf) (lt_of_ble rfl)
  apply Wk.gon 24 rfl rfl
  apply Wk.bin rfl rfl (r := .bool true) (fun w => by simp [go_sem]) (lt_of_ble rfl)
  apply Wk.pckT rfl (by conv => lhs; whnf) (lt_of_ble rfl)
  apply Wk.mv (by conv => lhs; whnf) (lt_of_ble rfl)
  apply Wk.gon 31 rfl rfl
  apply Wk.fad 4 0 false fd31_4 rfl (lt_of_ble rfl)
  apply Wk.gon 31 rfl rfl
  apply Wk.ld (i := 2) 1 false ty4 rfl rfl (by conv => lhs; whnf) (lt_of_ble rfl)
  apply Wk.gon 31 rfl rfl
  apply Wk.fad 4 0 false fd31_4 rfl (lt_of_ble rfl)
  apply Wk.gon 31 rfl rfl
  apply Wk.ld (i := 3) 1 false ty4 rfl rfl (by conv => lhs; whnf) (lt_of_ble rfl)
  apply Wk.gon 31 rfl rfl
  apply Wk.bin rfl rfl (r := .bool true) (fun w => by simp [go_sem]) (lt_of_ble rfl)
  apply Wk.pckT rfl (by conv => lhs; whnf) (lt_of_ble rfl)
  apply Wk.mv (by conv => lhs; whnf) (lt_of_ble rfl)
  apply Wk.gon 38 rfl rfl
  apply Wk.fad 5 0 false fd31_5 rfl (lt_of_ble rfl)
  apply Wk.gon 38 rfl rfl
  apply Wk.ld (i := 2) 1 false ty3 rfl rfl (by conv => lhs; whnf) (lt_of_ble rfl)
  apply Wk.gon 38 rfl rfl
  apply Wk.fad 5 0 false fd31_5 rfl (lt_of_ble rfl)
  apply Wk.gon 38 rfl rfl
  apply Wk.ld (i := 3) 1 false ty3 rfl rfl (by conv => lhs; whnf) (lt_of_ble rfl)
  apply Wk.gon 38 rfl rfl
  apply Wk.bin rfl rfl (r := .bool true) (fun w => by simp [go_sem]) (lt_of_ble rfl)
  apply Wk.pckT rfl (by conv => lhs; whnf) (lt_of_ble rfl)
  apply Wk.mv (by conv => lhs; whnf) (lt_of_ble rfl)
  apply Wk.gon 45 rfl rfl
  apply Wk.fad 6 0 false fd31_6 rfl (lt_of_ble rfl)
  apply Wk.gon 45 rfl rfl
  apply Wk.ld (i := 2) 1 false ty3 rfl rfl (by conv => lhs; whnf) (lt_of_ble rfl)
  apply Wk.gon 45 rfl rfl
  apply Wk.fad 6 0 false fd31_6 rfl (lt_of_ble rfl)
  apply Wk.gon 45 rfl rfl
  apply Wk.ld (i := 3) 1 false ty3 rfl rfl (by conv => lhs; whnf) (lt_of_ble rfl)
  apply Wk.gon 45 rfl rfl
  apply Wk.bin rfl rfl (r := .bool true) (fun w => by simp [go_sem]) (lt_of_ble rfl)
  apply Wk.pckT rfl (by conv => lhs; whnf) (lt_of_ble rfl)
  apply Wk.mv (by conv => lhs; whnf) (lt_of_ble rfl)
  apply Wk.gon 52 rfl rfl
  apply Wk.fad 7 0 false fd31_7 rfl (lt_of_ble rfl)
  apply Wk.gon 52 rfl rfl
  apply Wk.ld (i := 2) 1 false ty3 rfl rfl (by conv => lhs; whnf) (lt_of_ble rfl)
  apply Wk.gon 52 rfl rfl
  apply Wk.fad 7 0 false fd31_7 rfl (lt_of_ble rfl)
  apply Wk.gon 52 rfl rfl
  apply Wk.ld (i := 3) 1 false ty3 rfl rfl (by conv => lhs; whnf) (lt_of_ble rfl)
  apply Wk.gon 52 rfl rfl
  apply Wk.bin rfl rfl (r := .bool true) (fun w => by simp [go_sem]) (lt_of_ble rfl)
  apply Wk.pckT rfl (by conv => lhs; whnf) (lt_of_ble rfl)
  apply Wk.mv (by conv => lhs; whnf) (lt_of_ble rfl)
  apply Wk.gon 59 rfl rfl
  apply Wk.fad 8 0 false fd31_8 rfl (lt_of_ble rfl)
  apply Wk.gon 59 rfl rfl
  apply Wk.ld (i := 2) 1 false ty22 rfl rfl (by conv => lhs; whnf) (lt_of_ble rfl)
  apply Wk.gon 59 rfl rfl
  apply Wk.fad 8 0 false fd31_8 rfl (lt_of_ble rfl)
  apply Wk.gon 59 rfl rfl
  apply Wk.ld (i := 3) 1 false ty22 rfl rfl (by conv => lhs; whnf) (lt_of_ble rfl)
  apply Wk.gon 59 rfl rfl
  apply Wk.dat (liBytesE zs) Tryd.func35 rfl rfl rfl rfl rfl (lt_of_ble rfl)
  apply Wk.pckT rfl (by conv => lhs; whnf) (lt_of_ble rfl)
  apply Wk.asg (by conv => lhs; whnf) (lt_of_ble rfl)
  refine Wk.nil (AW.ret ?_)
  exact RetQ.ret [] (.cons rfl .nil) ⟨rfl, rfl⟩ none_kept
end Go.Proofs.YtejafihfbncaoaaDoor

/- The law of CrdGrant, promise 42, returns true at every code. Written by tools/mk_WFnCrdGrant.py. -/
namespace Go.Proofs.YtejafihfbncaoaaDoor
open Go Go.RowKit
theorem liCrxE (v m : Int) (bs : List (Fin 256)) (d : Bool) : DataOk Tryd.prog 24 [crA v m bs d, crA v m bs d] (.d (.v (.bool true))) := by
  refine Spec.intro (n := 24) (rv := [.tmp 4]) Tryd.func24 rfl rfl rfl (by simp) fun C hN hX => ?_
  refine AW.seq ?_
  apply AW.list
  apply Wk.bx 2 rfl rfl (lt_of_ble rfl)
  apply Wk.bx 3 rfl rfl (lt_of_ble rfl)
  apply Wk.asg (by conv => lhs; whnf) (lt_of_ble rfl)
  refine Wk.nil ?_
  refine AW.seq ?_
  apply AW.list
  apply Wk.fad 0 0 false fd50_0 rfl (lt_of_ble rfl)
  apply Wk.ld (i := 2) 1 false ty3 rfl rfl (by conv => lhs; whnf) (lt_of_ble rfl)
  apply Wk.fad 0 0 false fd50_0 rfl (lt_of_ble rfl)
  apply Wk.ld (i := 3) 1 false ty3 rfl rfl (by conv => lhs; whnf) (lt_of_ble rfl)
  apply Wk.bin rfl rfl (r := .bool true) (fun w => by simp [go_sem]) (lt_of_ble rfl)
  apply Wk.mv (by conv => lhs; whnf) (lt_of_ble rfl)
  apply Wk.gon 10 rfl rfl
  apply Wk.fad 1 1 true fd50_1 rfl (lt_of_ble rfl)
  apply Wk.gon 10 rfl rfl
  apply Wk.ld (i := 2) 2 true ty48 rfl rfl (by conv => lhs; whnf) (lt_of_ble rfl)
  apply Wk.gon 10 rfl rfl
  apply Wk.fad 1 1 true fd50_1 rfl (lt_of_ble rfl)
  apply Wk.gon 10 rfl rfl
  apply Wk.ld (i := 3) 2 true ty48 rfl rfl (by conv => lhs; whnf) (lt_of_ble rfl)
  apply Wk.gon 10 rfl rfl
  apply Wk.dat (liJoin_ok m bs) Tryd.func34 rfl rfl rfl rfl rfl (lt_of_ble rfl)
  apply Wk.pckT rfl (by conv => lhs; whnf) (lt_of_ble rfl)
  apply Wk.mv (by conv => lhs; whnf) (lt_of_ble rfl)
  apply Wk.gon 17 rfl rfl
  apply Wk.fad 3 0 false fd50_2 rfl (lt_of_ble rfl)
  apply Wk.gon 17 rfl rfl
  apply Wk.ld (i := 2) 1 false ty4 rfl rfl (by conv => lhs; whnf) (lt_of_ble rfl)
  apply Wk.gon 17 rfl rfl
  apply Wk.fad 3 0 false fd50_2 rfl (lt_of_ble rfl)
  apply Wk.gon 17 rfl rfl
  apply Wk.ld (i := 3) 1 false ty4 rfl rfl (by conv => lhs; whnf) (lt_of_ble rfl)
  apply Wk.gon 17 rfl rfl
  apply Wk.bin rfl rfl (r := .bool true) (fun w => by simp [go_sem]) (lt_of_ble rfl)
  apply Wk.pckT rfl (by conv => lhs; whnf) (lt_of_ble rfl)
  apply Wk.asg (by conv => lhs; whnf) (lt_of_ble rfl)
  refine Wk.nil (AW.ret ?_)
  exact RetQ.ret [] (.cons rfl .nil) ⟨rfl, rfl⟩ none_kept
theorem liCrxN : DataOk Tryd.prog 24 [crNil, crNil] (.d (.v (.bool true))) := by
  have h := liCrxE 0 0 [] false
  intro w F E H args hpo hs hd
  refine h w F E H args hpo hs (fun i a ha => ?_)
  match i with
  | 0 => obtain rfl := Option.some.inj ha; exact (hd 0 _ rfl).nrm
  | 1 => obtain rfl := Option.some.inj ha; exact (hd 1 _ rfl).nrm
  | _ + 2 => simp at ha
theorem ifrmG {l : Int} (hl : 1 ≤ l ∧ l ≤ 255) : DataOk Tryd.prog 17 [frmZ 4 0 0 false false 0 0 l (.row [])] (.d (.v (.bool true))) := by
  have hf : frmB 4 0 0 false false 0 0 l ([] : List (Fin 256)).length = true := decide_eq_true (.inr (.inr (.inr ⟨rfl, rfl, rfl, rfl, rfl, rfl, rfl, hl, rfl⟩)))
  have h := ifrm_ok 4 0 0 false false 0 0 l [] (by simp)
  rw [hf] at h
  exact h
theorem crxB_six {v m : Int} {n : Nat} (h : crxB v m n = true) : crxB 6 m n = true := by
  simp only [crxB, Bool.and_eq_true] at h ⊢
  exact ⟨by decide, h.2⟩
set_option maxHeartbeats 8000000 in
set_option maxRecDepth 100000 in
theorem drawCGrant_ok (zs : List (Fin 256)) : DataW Tryd.prog 21 [.d (bytesD (zs.map (·.val)))] (crPost []) := by
  refine ⟨?_, ⟨_, 0, 0, [], false, rfl, by omega, by omega, by simp⟩, ?_⟩
  · refine id ?_
    refine Spec.intro (n := 6) (rv := [.cell 2 50]) Tryd.func21 rfl rfl rfl (by simp) fun C hN hX => ?_
    refine AW.seq ?_
    apply AW.list
    apply Wk.alc 2 [.int .i64 0, .int .i64 0, .slice none 0 0, .bool false] ze50 rfl rfl (lt_of_ble rfl)
    refine Wk.nil ?_
    refine AW.seq ?_
    apply AW.list
    apply Wk.mv (by conv => lhs; whnf) (lt_of_ble rfl)
    apply Wk.opn open_ok Tryd.func36 rfl rfl rfl rfl (lt_of_ble rfl)
    rintro zs1
    apply Wk.drw 0 l20Crx_ok Tryd.func54 rfl rfl rfl rfl ⟨6, rfl, by omega, by omega⟩ (by omega) rfl (lt_of_ble rfl)
    rintro r2 zs2 p2 ⟨v, m, bs, d, rfl, hx⟩ hp2
    apply Wk.sto (i := 2) 4 true ty50 rfl rfl rfl rfl (Nat.le_of_ble_eq_true rfl) (lt_of_ble rfl)
    refine Wk.nil (AW.ret ?_)
    exact RetQ.ret [] (.cons ⟨2, 0, _, _, _, rfl, rfl, ty50, rfl⟩ .nil) ⟨⟨v, m, bs, d, rfl, hx⟩, rfl⟩ none_kept
  · rintro r ⟨v, m, bs, d, rfl, _⟩; rfl
set_option maxHeartbeats 8000000 in
set_option maxRecDepth 100000 in
theorem lawCrdGrant_ok (zs : List (Fin 256)) {V : List (Nat × Value)} {a : Addr} (h0 : (3, errV a) ∈ V) : DataV Tryd.prog V 5 [.d (bytesD (zs.map (·.val)))] (.d (.v (.bool true))) := by
  refine DataV.intro (n := 106) (rv := [.tmp 2]) Tryd.func5 rfl rfl rfl (by simp) fun C hV hN hX => ?_
  refine AW.seq ?_
  apply AW.list
  apply Wk.asg (by conv => lhs; whnf) (lt_of_ble rfl)
  refine Wk.nil ?_
  refine AW.seq (AW.seq ?_)
  apply AW.list
  apply Wk.mv (by conv => lhs; whnf) (lt_of_ble rfl)
  apply Wk.len un22 rfl (lt_of_ble rfl)
  apply Wk.bin rfl rfl (fun w => by simp [go_sem] <;> rfl) (lt_of_ble rfl)
  refine Wk.nil ?_
  refine AW.cond rfl (fun hc => ?_) (fun hc => ?_)
  · refine AW.seq ?_
    apply AW.list
    apply Wk.asg (by conv => lhs; whnf) (lt_of_ble rfl)
    refine Wk.nil (AW.ret ?_)
    refine thenA_ret ?_
    exact RetQ.ret [] (.cons rfl .nil) ⟨rfl, rfl⟩ none_kept
  refine AW.skip (thenA_normal ?_)
  refine AW.seq ?_
  apply AW.list
  apply Wk.mv (by conv => lhs; whnf) (lt_of_ble rfl)
  apply Wk.datw (drawCGrant_ok zs) Tryd.func21 rfl rfl rfl rfl (lt_of_ble rfl)
  rintro _ ⟨v, m, bs, d, rfl, hv, hm, hl⟩
  apply Wk.alc 3 [.int .i64 0, .int .i64 0, .slice none 0 0, .bool false] ze50 rfl rfl (lt_of_ble rfl)
  apply Wk.sto (i := 3) 4 true ty50 rfl rfl rfl rfl (Nat.le_of_ble_eq_true rfl) (lt_of_ble rfl)
  refine Wk.nil ?_
  cases hok : crxB v m bs.length
  · have ci := icgrantNo (V := V) v m bs d hok
    have cs := scgrantNo v m bs d hok
    refine AW.seq ?_
    apply AW.list
    apply Wk.ld (i := 3) 4 true ty50 rfl rfl (by conv => lhs; whnf) (lt_of_ble rfl)
    apply Wk.dav ci hX hV Tryd.func22 rfl rfl rfl rfl rfl (lt_of_ble rfl)
    apply Wk.mv (by conv => lhs; whnf) (lt_of_ble rfl)
    apply Wk.ext rfl rfl (lt_of_ble rfl)
    apply Wk.ext rfl rfl (lt_of_ble rfl)
    apply Wk.ext rfl rfl (lt_of_ble rfl)
    apply Wk.alc 4 [.int .i64 0, .int .i64 0, .slice none 0 0, .bool false] ze50 rfl rfl (lt_of_ble rfl)
    apply Wk.alc 5 [.int .i64 0, .int .i64 0, .int .i64 0, .bool false, .bool false, .int .i64 0, .int .i64 0, .int .i64 0, .slice none 0 0] ze31 rfl rfl (lt_of_ble rfl)
    apply Wk.sto (i := 4) 4 true ty50 rfl rfl rfl rfl (Nat.le_of_ble_eq_true rfl) (lt_of_ble rfl)
    apply Wk.sto (i := 5) 9 true ty31 rfl rfl rfl rfl (Nat.le_of_ble_eq_true rfl) (lt_of_ble rfl)
    apply Wk.asg (by conv => lhs; whnf) (lt_of_ble rfl)
    refine Wk.nil ?_
    refine AW.seq ?_
    apply AW.list
    apply Wk.ld (i := 3) 4 true ty50 rfl rfl (by conv => lhs; whnf) (lt_of_ble rfl)
    apply Wk.dat cs Tryd.func23 rfl rfl rfl rfl rfl (lt_of_ble rfl)
    apply Wk.mv (by conv => lhs; whnf) (lt_of_ble rfl)
    apply Wk.ext rfl rfl (lt_of_ble rfl)
    apply Wk.ext rfl rfl (lt_of_ble rfl)
    apply Wk.ext rfl rfl (lt_of_ble rfl)
    apply Wk.alc 7 [.int .i64 0, .int .i64 0, .slice none 0 0, .bool false] ze50 rfl rfl (lt_of_ble rfl)
    apply Wk.alc 8 [.int .i64 0, .int .i64 0, .int .i64 0, .bool false, .bool false, .int .i64 0, .int .i64 0, .int .i64 0, .slice none 0 0] ze31 rfl rfl (lt_of_ble rfl)
    apply Wk.sto (i := 7) 4 true ty50 rfl rfl rfl rfl (Nat.le_of_ble_eq_true rfl) (lt_of_ble rfl)
    apply Wk.sto (i := 8) 9 true ty31 rfl rfl rfl rfl (Nat.le_of_ble_eq_true rfl) (lt_of_ble rfl)
    apply Wk.asg (by conv => lhs; whnf) (lt_of_ble rfl)
    refine Wk.nil ?_
    refine AW.seq (AW.seq ?_)
    apply AW.list
    apply Wk.ld (i := 4) 4 true ty50 rfl rfl (by conv => lhs; whnf) (lt_of_ble rfl)
    apply Wk.ld (i := 7) 4 true ty50 rfl rfl (by conv => lhs; whnf) (lt_of_ble rfl)
    apply Wk.dat (liCrxE 0 0 [] false) Tryd.func24 rfl rfl rfl rfl rfl (lt_of_ble rfl)
    apply Wk.un rfl (fun w => by simp [go_sem] <;> rfl) (lt_of_ble rfl)
    apply Wk.mv (by conv => lhs; whnf) (lt_of_ble rfl)
    apply Wk.gon 34 rfl rfl
    apply Wk.ld (i := 5) 9 true ty31 rfl rfl (by conv => lhs; whnf) (lt_of_ble rfl)
    apply Wk.gon 34 rfl rfl
    apply Wk.ld (i := 8) 9 true ty31 rfl rfl (by conv => lhs; whnf) (lt_of_ble rfl)
    apply Wk.gon 34 rfl rfl
    apply Wk.dat (liFrmE 0 0 0 false false 0 0 0 []) Tryd.func11 rfl rfl rfl rfl rfl (lt_of_ble rfl)
    apply Wk.gon 34 rfl rfl
    apply Wk.un rfl (fun w => by simp [go_sem] <;> rfl) (lt_of_ble rfl)
    apply Wk.pckF rfl (by conv => lhs; whnf) (lt_of_ble rfl)
    apply Wk.mv (by conv => lhs; whnf) (lt_of_ble rfl)
    apply Wk.gon 40 rfl rfl
    apply Wk.mv (by conv => lhs; whnf) (lt_of_ble rfl)
    apply Wk.gon 40 rfl rfl
    apply Wk.mv (by conv => lhs; whnf) (lt_of_ble rfl)
    apply Wk.gon 40 rfl rfl
    apply Wk.bin rfl rfl (r := .bool false) (fun w => by simp [go_sem]) (lt_of_ble rfl)
    apply Wk.pckF rfl (by conv => lhs; whnf) (lt_of_ble rfl)
    refine Wk.nil ?_
    refine AW.cond rfl (fun hc => by cases hc) (fun _ => AW.skip (thenA_normal ?_))
    refine AW.seq (AW.seq ?_)
    apply AW.list
    apply Wk.ld (i := 3) 4 true ty50 rfl rfl (by conv => lhs; whnf) (lt_of_ble rfl)
    apply Wk.dat (scrxb d hok) Tryd.func25 rfl rfl rfl rfl rfl (lt_of_ble rfl)
    apply Wk.un rfl (fun w => by simp [go_sem] <;> rfl) (lt_of_ble rfl)
    refine Wk.nil ?_
    refine AW.cond rfl (fun _ => ?_) (fun hc => by cases hc)
    refine AW.seq ?_
    apply AW.list
    apply Wk.mv (by conv => lhs; whnf) (lt_of_ble rfl)
    apply Wk.un rfl (fun w => by simp [go_sem] <;> rfl) (lt_of_ble rfl)
    apply Wk.mv (by conv => lhs; whnf) (lt_of_ble rfl)
    apply Wk.gon 50 rfl rfl
    apply Wk.ld (i := 4) 4 true ty50 rfl rfl (by conv => lhs; whnf) (lt_of_ble rfl)
    apply Wk.gon 50 rfl rfl
    apply Wk.bld [.int .i64 0, .int .i64 0, .slice none 0 0, .bool false] [(0, 1), (1, 2), (3, 1)] bl50 rfl (by conv => lhs; whnf) (lt_of_ble rfl)
    apply Wk.gon 50 rfl rfl
    apply Wk.dat (liCrxE 0 0 [] false) Tryd.func24 rfl rfl rfl rfl rfl (lt_of_ble rfl)
    apply Wk.pckT rfl (by conv => lhs; whnf) (lt_of_ble rfl)
    apply Wk.mv (by conv => lhs; whnf) (lt_of_ble rfl)
    apply Wk.gon 55 rfl rfl
    apply Wk.dat liok_ok Tryd.func13 rfl rfl rfl rfl rfl (lt_of_ble rfl)
    apply Wk.pckT rfl (by conv => lhs; whnf) (lt_of_ble rfl)
    apply Wk.asg (by conv => lhs; whnf) (lt_of_ble rfl)
    refine Wk.nil (AW.ret ?_)
    repeat (first | refine thenA_ret ?_ | refine inBlockA_ret ?_)
    exact RetQ.ret [] (.cons rfl .nil) ⟨rfl, rfl⟩ none_kept
  by_cases hi : idleG v d
  · have ci := icgrantIdle v m bs d hok hl hi h0
    have cs := scgrantIdle v m bs d hok hl hi
    refine AW.seq ?_
    apply AW.list
    apply Wk.ld (i := 3) 4 true ty50 rfl rfl (by conv => lhs; whnf) (lt_of_ble rfl)
    apply Wk.dav ci hX hV Tryd.func22 rfl rfl rfl rfl rfl (lt_of_ble rfl)
    apply Wk.mv (by conv => lhs; whnf) (lt_of_ble rfl)
    apply Wk.ext rfl rfl (lt_of_ble rfl)
    apply Wk.ext rfl rfl (lt_of_ble rfl)
    apply Wk.ext rfl rfl (lt_of_ble rfl)
    apply Wk.alc 4 [.int .i64 0, .int .i64 0, .slice none 0 0, .bool false] ze50 rfl rfl (lt_of_ble rfl)
    apply Wk.alc 5 [.int .i64 0, .int .i64 0, .int .i64 0, .bool false, .bool false, .int .i64 0, .int .i64 0, .int .i64 0, .slice none 0 0] ze31 rfl rfl (lt_of_ble rfl)
    apply Wk.sto (i := 4) 4 true ty50 rfl rfl rfl rfl (Nat.le_of_ble_eq_true rfl) (lt_of_ble rfl)
    apply Wk.sto (i := 5) 9 true ty31 rfl rfl rfl rfl (Nat.le_of_ble_eq_true rfl) (lt_of_ble rfl)
    apply Wk.asg (by conv => lhs; whnf) (lt_of_ble rfl)
    refine Wk.nil ?_
    refine AW.seq ?_
    apply AW.list
    apply Wk.ld (i := 3) 4 true ty50 rfl rfl (by conv => lhs; whnf) (lt_of_ble rfl)
    apply Wk.dat cs Tryd.func23 rfl rfl rfl rfl rfl (lt_of_ble rfl)
    apply Wk.mv (by conv => lhs; whnf) (lt_of_ble rfl)
    apply Wk.ext rfl rfl (lt_of_ble rfl)
    apply Wk.ext rfl rfl (lt_of_ble rfl)
    apply Wk.ext rfl rfl (lt_of_ble rfl)
    apply Wk.alc 7 [.int .i64 0, .int .i64 0, .slice none 0 0, .bool false] ze50 rfl rfl (lt_of_ble rfl)
    apply Wk.alc 8 [.int .i64 0, .int .i64 0, .int .i64 0, .bool false, .bool false, .int .i64 0, .int .i64 0, .int .i64 0, .slice none 0 0] ze31 rfl rfl (lt_of_ble rfl)
    apply Wk.sto (i := 7) 4 true ty50 rfl rfl rfl rfl (Nat.le_of_ble_eq_true rfl) (lt_of_ble rfl)
    apply Wk.sto (i := 8) 9 true ty31 rfl rfl rfl rfl (Nat.le_of_ble_eq_true rfl) (lt_of_ble rfl)
    apply Wk.asg (by conv => lhs; whnf) (lt_of_ble rfl)
    refine Wk.nil ?_
    refine AW.seq (AW.seq ?_)
    apply AW.list
    apply Wk.ld (i := 4) 4 true ty50 rfl rfl (by conv => lhs; whnf) (lt_of_ble rfl)
    apply Wk.ld (i := 7) 4 true ty50 rfl rfl (by conv => lhs; whnf) (lt_of_ble rfl)
    apply Wk.dat (liCrxE v m bs d) Tryd.func24 rfl rfl rfl rfl rfl (lt_of_ble rfl)
    apply Wk.un rfl (fun w => by simp [go_sem] <;> rfl) (lt_of_ble rfl)
    apply Wk.mv (by conv => lhs; whnf) (lt_of_ble rfl)
    apply Wk.gon 34 rfl rfl
    apply Wk.ld (i := 5) 9 true ty31 rfl rfl (by conv => lhs; whnf) (lt_of_ble rfl)
    apply Wk.gon 34 rfl rfl
    apply Wk.ld (i := 8) 9 true ty31 rfl rfl (by conv => lhs; whnf) (lt_of_ble rfl)
    apply Wk.gon 34 rfl rfl
    apply Wk.dat (liFrmE 0 0 0 false false 0 0 0 []) Tryd.func11 rfl rfl rfl rfl rfl (lt_of_ble rfl)
    apply Wk.gon 34 rfl rfl
    apply Wk.un rfl (fun w => by simp [go_sem] <;> rfl) (lt_of_ble rfl)
    apply Wk.pckF rfl (by conv => lhs; whnf) (lt_of_ble rfl)
    apply Wk.mv (by conv => lhs; whnf) (lt_of_ble rfl)
    apply Wk.gon 40 rfl rfl
    apply Wk.mv (by conv => lhs; whnf) (lt_of_ble rfl)
    apply Wk.gon 40 rfl rfl
    apply Wk.mv (by conv => lhs; whnf) (lt_of_ble rfl)
    apply Wk.gon 40 rfl rfl
    apply Wk.bin rfl rfl (r := .bool false) (fun w => by simp [go_sem]) (lt_of_ble rfl)
    apply Wk.pckF rfl (by conv => lhs; whnf) (lt_of_ble rfl)
    refine Wk.nil ?_
    refine AW.cond rfl (fun hc => by cases hc) (fun _ => AW.skip (thenA_normal ?_))
    refine AW.seq (AW.seq ?_)
    apply AW.list
    apply Wk.ld (i := 3) 4 true ty50 rfl rfl (by conv => lhs; whnf) (lt_of_ble rfl)
    apply Wk.dat (scrxb d hok) Tryd.func25 rfl rfl rfl rfl rfl (lt_of_ble rfl)
    apply Wk.un rfl (fun w => by simp [go_sem] <;> rfl) (lt_of_ble rfl)
    refine Wk.nil ?_
    refine AW.cond rfl (fun hc => by cases hc) (fun _ => AW.skip (thenA_normal ?_))
    refine AW.seq (AW.seq ?_)
    apply AW.list
    apply Wk.mv (by conv => lhs; whnf) (lt_of_ble rfl)
    apply Wk.un rfl (fun w => by simp [go_sem] <;> rfl) (lt_of_ble rfl)
    refine Wk.nil ?_
    refine AW.cond rfl (fun _ => ?_) (fun hc => by cases hc)
    simp only [idleG] at hi
    cases d
    · have hi : 6 ≤ v := by simpa using hi
      refine AW.seq ?_
      apply AW.list
      apply Wk.ld (i := 4) 4 true ty50 rfl rfl (by conv => lhs; whnf) (lt_of_ble rfl)
      apply Wk.ld (i := 3) 4 true ty50 rfl rfl (by conv => lhs; whnf) (lt_of_ble rfl)
      apply Wk.dat (liCrxE v m bs false) Tryd.func24 rfl rfl rfl rfl rfl (lt_of_ble rfl)
      apply Wk.mv (by conv => lhs; whnf) (lt_of_ble rfl)
      apply Wk.gon 63 rfl rfl
      apply Wk.fad 3 0 false fd50_2 rfl (lt_of_ble rfl)
      apply Wk.gon 63 rfl rfl
      apply Wk.ld (i := 3) 1 false ty4 rfl rfl (by conv => lhs; whnf) (lt_of_ble rfl)
      apply Wk.gon 63 rfl rfl
      apply Wk.mv (by conv => lhs; whnf) (lt_of_ble rfl)
      apply Wk.gon 66 rfl rfl
      apply Wk.fad 0 0 false fd50_0 rfl (lt_of_ble rfl)
      apply Wk.gon 66 rfl rfl
      apply Wk.ld (i := 3) 1 false ty3 rfl rfl (by conv => lhs; whnf) (lt_of_ble rfl)
      apply Wk.gon 66 rfl rfl
      apply Wk.bin rfl rfl (r := .bool true) (fun w => by simp [go_sem] <;> omega) (lt_of_ble rfl)
      apply Wk.gon 63 rfl rfl
      apply Wk.pckF rfl (by conv => lhs; whnf) (lt_of_ble rfl)
      apply Wk.pckT rfl (by conv => lhs; whnf) (lt_of_ble rfl)
      apply Wk.asg (by conv => lhs; whnf) (lt_of_ble rfl)
      refine Wk.nil (AW.ret ?_)
      repeat (first | refine thenA_ret ?_ | refine inBlockA_ret ?_)
      exact RetQ.ret [] (.cons rfl .nil) ⟨rfl, rfl⟩ none_kept
    · skip
      refine AW.seq ?_
      apply AW.list
      apply Wk.ld (i := 4) 4 true ty50 rfl rfl (by conv => lhs; whnf) (lt_of_ble rfl)
      apply Wk.ld (i := 3) 4 true ty50 rfl rfl (by conv => lhs; whnf) (lt_of_ble rfl)
      apply Wk.dat (liCrxE v m bs true) Tryd.func24 rfl rfl rfl rfl rfl (lt_of_ble rfl)
      apply Wk.mv (by conv => lhs; whnf) (lt_of_ble rfl)
      apply Wk.gon 63 rfl rfl
      apply Wk.fad 3 0 false fd50_2 rfl (lt_of_ble rfl)
      apply Wk.gon 63 rfl rfl
      apply Wk.ld (i := 3) 1 false ty4 rfl rfl (by conv => lhs; whnf) (lt_of_ble rfl)
      apply Wk.gon 63 rfl rfl
      apply Wk.mv (by conv => lhs; whnf) (lt_of_ble rfl)
      apply Wk.goff 66 (ok_faddr fd50_0) rfl rfl (by simp)
      apply Wk.goff 66 (ok_load 3 ty3) rfl rfl (by simp)
      apply Wk.goff 66 (ok_bin _ _ _ _ _) rfl rfl (by simp)
      apply Wk.gon 63 rfl rfl
      apply Wk.pckT rfl (by conv => lhs; whnf) (lt_of_ble rfl)
      apply Wk.pckT rfl (by conv => lhs; whnf) (lt_of_ble rfl)
      apply Wk.asg (by conv => lhs; whnf) (lt_of_ble rfl)
      refine Wk.nil (AW.ret ?_)
      repeat (first | refine thenA_ret ?_ | refine inBlockA_ret ?_)
      exact RetQ.ret [] (.cons rfl .nil) ⟨rfl, rfl⟩ none_kept
  simp only [idleG, not_or, Bool.not_eq_true] at hi
  obtain ⟨rfl, hi⟩ := hi
  have hv6 : v < 6 := by omega
  have hf := crx_facts hok
  have ci := icgrantOn v m bs hok hl hv6 h0
  have cs := scgrantOn v m bs hok hl hv6
  have ok6 := crxB_six hok
  have cag := icgrantIdle 6 m bs false ok6 hl (.inr (by omega)) h0
  have hfr := ifrmG (l := 6 - v) (by omega)
  refine AW.seq ?_
  apply AW.list
  apply Wk.ld (i := 3) 4 true ty50 rfl rfl (by conv => lhs; whnf) (lt_of_ble rfl)
  apply Wk.dav ci hX hV Tryd.func22 rfl rfl rfl rfl rfl (lt_of_ble rfl)
  apply Wk.mv (by conv => lhs; whnf) (lt_of_ble rfl)
  apply Wk.ext rfl rfl (lt_of_ble rfl)
  apply Wk.ext rfl rfl (lt_of_ble rfl)
  apply Wk.ext rfl rfl (lt_of_ble rfl)
  apply Wk.alc 4 [.int .i64 0, .int .i64 0, .slice none 0 0, .bool false] ze50 rfl rfl (lt_of_ble rfl)
  apply Wk.alc 5 [.int .i64 0, .int .i64 0, .int .i64 0, .bool false, .bool false, .int .i64 0, .int .i64 0, .int .i64 0, .slice none 0 0] ze31 rfl rfl (lt_of_ble rfl)
  apply Wk.sto (i := 4) 4 true ty50 rfl rfl rfl rfl (Nat.le_of_ble_eq_true rfl) (lt_of_ble rfl)
  apply Wk.sto (i := 5) 9 true ty31 rfl rfl rfl rfl (Nat.le_of_ble_eq_true rfl) (lt_of_ble rfl)
  apply Wk.asg (by conv => lhs; whnf) (lt_of_ble rfl)
  refine Wk.nil ?_
  refine AW.seq ?_
  apply AW.list
  apply Wk.ld (i := 3) 4 true ty50 rfl rfl (by conv => lhs; whnf) (lt_of_ble rfl)
  apply Wk.dat cs Tryd.func23 rfl rfl rfl rfl rfl (lt_of_ble rfl)
  apply Wk.mv (by conv => lhs; whnf) (lt_of_ble rfl)
  apply Wk.ext rfl rfl (lt_of_ble rfl)
  apply Wk.ext rfl rfl (lt_of_ble rfl)
  apply Wk.ext rfl rfl (lt_of_ble rfl)
  apply Wk.alc 7 [.int .i64 0, .int .i64 0, .slice none 0 0, .bool false] ze50 rfl rfl (lt_of_ble rfl)
  apply Wk.alc 8 [.int .i64 0, .int .i64 0, .int .i64 0, .bool false, .bool false, .int .i64 0, .int .i64 0, .int .i64 0, .slice none 0 0] ze31 rfl rfl (lt_of_ble rfl)
  apply Wk.sto (i := 7) 4 true ty50 rfl rfl rfl rfl (Nat.le_of_ble_eq_true rfl) (lt_of_ble rfl)
  apply Wk.sto (i := 8) 9 true ty31 rfl rfl rfl rfl (Nat.le_of_ble_eq_true rfl) (lt_of_ble rfl)
  apply Wk.asg (by conv => lhs; whnf) (lt_of_ble rfl)
  refine Wk.nil ?_
  refine AW.seq (AW.seq ?_)
  apply AW.list
  apply Wk.ld (i := 4) 4 true ty50 rfl rfl (by conv => lhs; whnf) (lt_of_ble rfl)
  apply Wk.ld (i := 7) 4 true ty50 rfl rfl (by conv => lhs; whnf) (lt_of_ble rfl)
  apply Wk.dat (liCrxE 6 m bs false) Tryd.func24 rfl rfl rfl rfl rfl (lt_of_ble rfl)
  apply Wk.un rfl (fun w => by simp [go_sem] <;> rfl) (lt_of_ble rfl)
  apply Wk.mv (by conv => lhs; whnf) (lt_of_ble rfl)
  apply Wk.gon 34 rfl rfl
  apply Wk.ld (i := 5) 9 true ty31 rfl rfl (by conv => lhs; whnf) (lt_of_ble rfl)
  apply Wk.gon 34 rfl rfl
  apply Wk.ld (i := 8) 9 true ty31 rfl rfl (by conv => lhs; whnf) (lt_of_ble rfl)
  apply Wk.gon 34 rfl rfl
  apply Wk.dat (liFrmE 4 0 0 false false 0 0 (6 - v) []) Tryd.func11 rfl rfl rfl rfl rfl (lt_of_ble rfl)
  apply Wk.gon 34 rfl rfl
  apply Wk.un rfl (fun w => by simp [go_sem] <;> rfl) (lt_of_ble rfl)
  apply Wk.pckF rfl (by conv => lhs; whnf) (lt_of_ble rfl)
  apply Wk.mv (by conv => lhs; whnf) (lt_of_ble rfl)
  apply Wk.gon 40 rfl rfl
  apply Wk.mv (by conv => lhs; whnf) (lt_of_ble rfl)
  apply Wk.gon 40 rfl rfl
  apply Wk.mv (by conv => lhs; whnf) (lt_of_ble rfl)
  apply Wk.gon 40 rfl rfl
  apply Wk.bin rfl rfl (r := .bool false) (fun w => by simp [go_sem]) (lt_of_ble rfl)
  apply Wk.pckF rfl (by conv => lhs; whnf) (lt_of_ble rfl)
  refine Wk.nil ?_
  refine AW.cond rfl (fun hc => by cases hc) (fun _ => AW.skip (thenA_normal ?_))
  refine AW.seq (AW.seq ?_)
  apply AW.list
  apply Wk.ld (i := 3) 4 true ty50 rfl rfl (by conv => lhs; whnf) (lt_of_ble rfl)
  apply Wk.dat (scrxb false hok) Tryd.func25 rfl rfl rfl rfl rfl (lt_of_ble rfl)
  apply Wk.un rfl (fun w => by simp [go_sem] <;> rfl) (lt_of_ble rfl)
  refine Wk.nil ?_
  refine AW.cond rfl (fun hc => by cases hc) (fun _ => AW.skip (thenA_normal ?_))
  refine AW.seq (AW.seq ?_)
  apply AW.list
  apply Wk.mv (by conv => lhs; whnf) (lt_of_ble rfl)
  apply Wk.un rfl (fun w => by simp [go_sem] <;> rfl) (lt_of_ble rfl)
  refine Wk.nil ?_
  refine AW.cond rfl (fun hc => by cases hc) (fun _ => AW.skip (thenA_normal ?_))
  refine AW.seq ?_
  apply AW.list
  apply Wk.ld (i := 4) 4 true ty50 rfl rfl (by conv => lhs; whnf) (lt_of_ble rfl)
  apply Wk.dav cag hX hV Tryd.func22 rfl rfl rfl rfl rfl (lt_of_ble rfl)
  apply Wk.mv (by conv => lhs; whnf) (lt_of_ble rfl)
  apply Wk.ext rfl rfl (lt_of_ble rfl)
  apply Wk.ext rfl rfl (lt_of_ble rfl)
  apply Wk.ext rfl rfl (lt_of_ble rfl)
  apply Wk.alc 10 [.int .i64 0, .int .i64 0, .slice none 0 0, .bool false] ze50 rfl rfl (lt_of_ble rfl)
  apply Wk.alc 11 [.int .i64 0, .int .i64 0, .int .i64 0, .bool false, .bool false, .int .i64 0, .int .i64 0, .int .i64 0, .slice none 0 0] ze31 rfl rfl (lt_of_ble rfl)
  apply Wk.sto (i := 10) 4 true ty50 rfl rfl rfl rfl (Nat.le_of_ble_eq_true rfl) (lt_of_ble rfl)
  apply Wk.sto (i := 11) 9 true ty31 rfl rfl rfl rfl (Nat.le_of_ble_eq_true rfl) (lt_of_ble rfl)
  apply Wk.asg (by conv => lhs; whnf) (lt_of_ble rfl)
  refine Wk.nil ?_
  refine AW.seq ?_
  apply AW.list
  apply Wk.ld (i := 4) 4 true ty50 rfl rfl (by conv => lhs; whnf) (lt_of_ble rfl)
  apply Wk.dat (icrxb false ok6) Tryd.func26 rfl rfl rfl rfl rfl (lt_of_ble rfl)
  apply Wk.mv (by conv => lhs; whnf) (lt_of_ble rfl)
  apply Wk.gon 80 rfl rfl
  apply Wk.ld (i := 5) 9 true ty31 rfl rfl (by conv => lhs; whnf) (lt_of_ble rfl)
  apply Wk.gon 80 rfl rfl
  apply Wk.dat hfr Tryd.func17 rfl rfl rfl rfl rfl (lt_of_ble rfl)
  apply Wk.pckT rfl (by conv => lhs; whnf) (lt_of_ble rfl)
  apply Wk.mv (by conv => lhs; whnf) (lt_of_ble rfl)
  apply Wk.gon 84 rfl rfl
  apply Wk.fad 0 0 false fd50_0 rfl (lt_of_ble rfl)
  apply Wk.gon 84 rfl rfl
  apply Wk.ld (i := 4) 1 false ty3 rfl rfl (by conv => lhs; whnf) (lt_of_ble rfl)
  apply Wk.gon 84 rfl rfl
  apply Wk.bin rfl rfl (r := .bool true) (fun w => by simp [go_sem]) (lt_of_ble rfl)
  apply Wk.pckT rfl (by conv => lhs; whnf) (lt_of_ble rfl)
  apply Wk.mv (by conv => lhs; whnf) (lt_of_ble rfl)
  apply Wk.gon 89 rfl rfl
  apply Wk.fad 0 0 false fd31_0 rfl (lt_of_ble rfl)
  apply Wk.gon 89 rfl rfl
  apply Wk.ld (i := 5) 1 false ty3 rfl rfl (by conv => lhs; whnf) (lt_of_ble rfl)
  apply Wk.gon 89 rfl rfl
  apply Wk.bin rfl rfl (r := .bool true) (fun w => by simp [go_sem]) (lt_of_ble rfl)
  apply Wk.pckT rfl (by conv => lhs; whnf) (lt_of_ble rfl)
  apply Wk.mv (by conv => lhs; whnf) (lt_of_ble rfl)
  apply Wk.gon 94 rfl rfl
  apply Wk.fad 7 0 false fd31_7 rfl (lt_of_ble rfl)
  apply Wk.gon 94 rfl rfl
  apply Wk.ld (i := 5) 1 false ty3 rfl rfl (by conv => lhs; whnf) (lt_of_ble rfl)
  apply Wk.gon 94 rfl rfl
  apply Wk.fad 0 0 false fd50_0 rfl (lt_of_ble rfl)
  apply Wk.gon 94 rfl rfl
  apply Wk.ld (i := 3) 1 false ty3 rfl rfl (by conv => lhs; whnf) (lt_of_ble rfl)
  apply Wk.gon 94 rfl rfl
  apply Wk.subi rfl rfl (by omega) (lt_of_ble rfl)
  apply Wk.gon 94 rfl rfl
  apply Wk.bin rfl rfl (r := .bool true) (fun w => by simp [go_sem]) (lt_of_ble rfl)
  apply Wk.pckT rfl (by conv => lhs; whnf) (lt_of_ble rfl)
  apply Wk.mv (by conv => lhs; whnf) (lt_of_ble rfl)
  apply Wk.gon 102 rfl rfl
  apply Wk.mv (by conv => lhs; whnf) (lt_of_ble rfl)
  apply Wk.gon 102 rfl rfl
  apply Wk.un rfl (fun w => by simp [go_sem] <;> rfl) (lt_of_ble rfl)
  apply Wk.pckT rfl (by conv => lhs; whnf) (lt_of_ble rfl)
  apply Wk.asg (by conv => lhs; whnf) (lt_of_ble rfl)
  refine Wk.nil (AW.ret ?_)
  repeat (first | refine thenA_ret ?_ | refine inBlockA_ret ?_)
  exact RetQ.ret [] (.cons rfl .nil) ⟨rfl, rfl⟩ none_kept
namespace fnCrdGrant
set_option maxRecDepth 100000 in
theorem walk (a0 : Option Addr) (len0 cap0 : Nat) (z0 : List Int) (w : World) (w0 : IsRow .u8 w a0 len0 cap0 z0) (a10 : Addr) (hE : VarsIn [(3, errV a10)] w) :
    Calls Tryd.prog 5 #[.slice a0 len0 cap0] w fun e w' => e = .returned (.bool true) ∧ Below w.heap.size w w' := by
  by_cases hs0 : (1048576 : Int) < (len0 : Int)
  · go_enter Tryd.func5, Tryd.ntmps5
    go_wp2
    go_ret
    exact ⟨rfl, Below.refl _ _⟩
  obtain ⟨cz, hR0, _⟩ := w0.rd (by omega)
  obtain ⟨zs, rfl⟩ := byt_fin hR0.1
  exact (lawCrdGrant_ok zs (V := [(3, errV a10)]) (show (3, errV a10) ∈ ([(3, errV a10)] : List (Nat × Value)) by simp)).run hE hR0
end fnCrdGrant
end Go.Proofs.YtejafihfbncaoaaDoor

/- Lists of messages, and that two of them are alike; over what values read as. -/
namespace Go.Proofs.YtejafihfbncaoaaDoor
open Go Go.RowKit
def msgsD (ms : List (List Nat)) : D := .row (ms.map fun zs => [bytesD zs])
def msgsA (ms : List (List Nat)) : List (List A) := ms.map fun zs => [A.d (bytesD zs)]
theorem asData_msgs (ms : List (List Nat)) : asData (msgsA ms) (ms.map fun zs => [bytesD zs]) := by
  simp [asData, msgsA, nrms, nrm, bytesD]
theorem one_msgs (ms : List (List Nat)) : ∀ c ∈ msgsA ms, c.length = 1 := by
  intro c hc
  obtain ⟨z, _, rfl⟩ := List.mem_map.1 hc
  rfl
theorem one_msgsD (ms : List (List Nat)) : ∀ c ∈ (ms.map fun zs => [bytesD zs]), c.length = 1 := by
  intro c hc
  obtain ⟨z, _, rfl⟩ := List.mem_map.1 hc
  rfl
theorem within_msgs {K : List Nat} (ms : List (List Nat)) : (msgsA ms).all (A.withins K) = true := by
  simp [msgsA, A.withins, A.within]
theorem liSdusE (ms : List (List Nat)) : DataOk Tryd.prog 30 [.d (msgsD ms), .d (msgsD ms)] (.d (.v (.bool true))) := by
  refine Spec.intro (n := 27) (rv := [.tmp 4]) Tryd.func30 rfl rfl rfl (by simp) fun C hN hX => ?_
  refine AW.bound (x := .tmp 0) rfl fun hb => ?_
  simp only [List.length_map] at hb
  refine AW.seq ?_
  apply AW.list
  apply Wk.asg (by conv => lhs; whnf) (lt_of_ble rfl)
  refine Wk.nil ?_
  refine AW.seq (AW.seq ?_)
  apply AW.list
  apply Wk.mv (by conv => lhs; whnf) (lt_of_ble rfl)
  apply Wk.len un58 rfl (lt_of_ble rfl)
  apply Wk.mv (by conv => lhs; whnf) (lt_of_ble rfl)
  apply Wk.len un58 rfl (lt_of_ble rfl)
  apply Wk.bin rfl rfl (fun w => by simp [go_sem] <;> rfl) (lt_of_ble rfl)
  refine Wk.nil ?_
  refine AW.cond rfl (fun hc => by simp at hc) (fun _ => AW.skip (thenA_normal ?_))
  refine AW.seq (AW.seq ?_)
  apply AW.list
  apply Wk.asg (by conv => lhs; whnf) (lt_of_ble rfl)
  refine Wk.nil (AW.block ?_)
  refine AW.loop (fun q : Nat => St.of 27 [(0, .d (msgsD ms)), (1, .d (msgsD ms)), (5, .d (.v (.int .i64 (q : Int))))] []) (fun q => q ≤ ms.length) (fun q => ms.length - q) 0 (Nat.zero_le _) ?_ (fun q hq => ?_)
  · exact fun a w => Rel.keep ⟨rfl, .cons rfl rfl (.cons rfl rfl (.cons rfl rfl .nil)), .nil, hN⟩
  refine AW.seq (AW.seq ?_)
  apply AW.list
  apply Wk.mv (by conv => lhs; whnf) (lt_of_ble rfl)
  apply Wk.mv (by conv => lhs; whnf) (lt_of_ble rfl)
  apply Wk.len un58 rfl (lt_of_ble rfl)
  apply Wk.bin rfl rfl (fun w => by simp [go_sem] <;> rfl) (lt_of_ble rfl)
  refine Wk.nil ?_
  refine AW.cond rfl (fun hc => ?_) (fun hc => ?_)
  · have hlt : q < ms.length := by simpa using hc
    obtain ⟨d, hd⟩ : ∃ d, ms[q]? = some d := ⟨_, List.getElem?_eq_getElem hlt⟩
    have hget : (ms.map fun zs => [bytesD zs])[q]? = some [bytesD d] := by simp [hd]
    refine AW.skip ?_
    repeat (first | refine thenA_normal ?_ | refine inBlockA_normal ?_)
    refine AW.seq (AW.block (AW.seq ?_))
    apply AW.draw (hm := hmix) (cs := _)
    · apply Wk.mv (by conv => lhs; whnf) (lt_of_ble rfl)
      apply Wk.mv (by conv => lhs; whnf) (lt_of_ble rfl)
      apply Wk.iad 1 false un58 ty22 rfl rfl (by simpa using hlt) (one_msgsD ms) (lt_of_ble rfl)
      apply Wk.ldr 1 false ty22 rfl hget (by conv => lhs; whnf) (lt_of_ble rfl)
      apply Wk.mv (by conv => lhs; whnf) (lt_of_ble rfl)
      apply Wk.mv (by conv => lhs; whnf) (lt_of_ble rfl)
      apply Wk.iad 1 false un58 ty22 rfl rfl (by simpa using hlt) (one_msgsD ms) (lt_of_ble rfl)
      apply Wk.ldr 1 false ty22 rfl hget (by conv => lhs; whnf) (lt_of_ble rfl)
      apply Wk.dat (liBytesE d) Tryd.func35 rfl rfl rfl rfl rfl (lt_of_ble rfl)
      apply Wk.un rfl (fun w => by simp [go_sem] <;> rfl) (lt_of_ble rfl)
      refine Wk.nil ?_
      refine AW.cond rfl (fun hn => by cases hn) (fun hn => ?_)
      refine AW.skip ?_
      repeat (first | refine thenA_normal ?_ | refine inBlockA_normal ?_)
      apply AW.list
      apply Wk.mv (by conv => lhs; whnf) (lt_of_ble rfl)
      apply Wk.addi rfl rfl (by omega) (lt_of_ble rfl)
      apply Wk.asg (by conv => lhs; whnf) (lt_of_ble rfl)
      refine Wk.nil ?_
      exact ⟨q + 1, by omega, by omega, fun a w => Rel.keep ⟨rfl, .cons rfl rfl (.cons rfl rfl (.cons rfl rfl .nil)), .nil, hN⟩⟩
    · rfl
    · rfl
  · refine AW.exit ?_
    repeat (first | refine inBlockA_same ?_ | refine thenA_exit ?_)
    repeat (first | refine thenA_normal ?_ | refine inBlockA_normal ?_)
    refine AW.seq ?_
    apply AW.list
    apply Wk.asg (by conv => lhs; whnf) (lt_of_ble rfl)
    refine Wk.nil (AW.ret ?_)
    repeat (first | refine thenA_ret ?_ | refine inBlockA_ret ?_)
    exact RetQ.ret [] (.cons rfl .nil) ⟨rfl, rfl⟩ none_kept
end Go.Proofs.YtejafihfbncaoaaDoor
