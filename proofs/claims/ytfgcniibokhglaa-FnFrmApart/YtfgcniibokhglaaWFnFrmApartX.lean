/- The law FnFrmApart (promise 67: different frames have different bytes) returns true at every two codes. -/
import Derived.Test.YtfgcniibokhglaaMa
import Derived.Test.YtfgcniibokhglaaMb
import Derived.Test.YtfgcniibokhglaaMc
import Derived.Test.YtfgcniibokhglaaMd
import Derived.RowKit3
namespace Go.Proofs.Ytfgcniibokhglaa
open Go Go.RowKit
set_option maxHeartbeats 8000000 in
set_option maxRecDepth 100000 in
theorem lawFrmApart_ok (cs ms : List (Fin 256)) (hz : cs.length ≤ 1048576) (hz' : ms.length ≤ 1048576) : DataOk Try.prog 4 [.d (bytesD (cs.map (·.val))), .d (bytesD (ms.map (·.val)))] (.d (.v (.bool true))) := by
  refine Spec.intro (n := 53) (rv := [.tmp 4]) Try.func4 rfl rfl rfl (by simp) fun C hN hX => ?_
  refine AW.seq ?_
  apply AW.list
  apply Wk.asg (by conv => lhs; whnf) (lt_of_ble rfl)
  refine Wk.nil ?_
  refine AW.seq (AW.seq ?_)
  apply AW.list
  apply Wk.mv (by conv => lhs; whnf) (lt_of_ble rfl)
  apply Wk.len un22 rfl (lt_of_ble rfl)
  apply Wk.bin rfl rfl (r := .bool false) (fun w => by simp [go_sem] <;> omega) (lt_of_ble rfl)
  apply Wk.mv (by conv => lhs; whnf) (lt_of_ble rfl)
  apply Wk.gon 11 rfl rfl
  apply Wk.mv (by conv => lhs; whnf) (lt_of_ble rfl)
  apply Wk.gon 11 rfl rfl
  apply Wk.len un22 rfl (lt_of_ble rfl)
  apply Wk.gon 11 rfl rfl
  apply Wk.bin rfl rfl (r := .bool false) (fun w => by simp [go_sem] <;> omega) (lt_of_ble rfl)
  apply Wk.pckF rfl (by conv => lhs; whnf) (lt_of_ble rfl)
  refine Wk.nil ?_
  refine AW.cond rfl (fun hc => by cases hc) (fun _ => AW.skip (thenA_normal ?_))
  refine AW.seq ?_
  apply AW.list
  apply Wk.mv (by conv => lhs; whnf) (lt_of_ble rfl)
  apply Wk.datw (drawFrmBytes_ok cs) Try.func9 rfl rfl rfl rfl (lt_of_ble rfl)
  rintro _ ⟨k, s, c, p, f, y, g, l, bs, rfl, hk, hs, hc2, hy, hg, hl, hbl⟩
  apply Wk.alc 5 [.int .i64 0, .int .i64 0, .int .i64 0, .bool false, .bool false, .int .i64 0, .int .i64 0, .int .i64 0, .slice none 0 0] ze24 rfl rfl (lt_of_ble rfl)
  apply Wk.sto (i := 5) 9 true ty24 rfl rfl rfl rfl (Nat.le_of_ble_eq_true rfl) (lt_of_ble rfl)
  refine Wk.nil ?_
  refine AW.seq ?_
  apply AW.list
  apply Wk.mv (by conv => lhs; whnf) (lt_of_ble rfl)
  apply Wk.datw (drawFrmBytes_ok ms) Try.func9 rfl rfl rfl rfl (lt_of_ble rfl)
  rintro _ ⟨k', s', c', p', f', y', g', l', bs', rfl, hk', hs', hc2', hy', hg', hl', hbl'⟩
  apply Wk.alc 6 [.int .i64 0, .int .i64 0, .int .i64 0, .bool false, .bool false, .int .i64 0, .int .i64 0, .int .i64 0, .slice none 0 0] ze24 rfl rfl (lt_of_ble rfl)
  apply Wk.sto (i := 6) 9 true ty24 rfl rfl rfl rfl (Nat.le_of_ble_eq_true rfl) (lt_of_ble rfl)
  refine Wk.nil ?_
  have hb1 : bs.length ≤ 2000000 := by omega
  have hb2 : bs'.length ≤ 2000000 := by omega
  have hx : ∃ xs, frmL k s c p f y g l (bs.map (·.val)) = xs := ⟨_, rfl⟩
  obtain ⟨xs, hx⟩ := hx
  have hy2 : ∃ ys, frmL k' s' c' p' f' y' g' l' (bs'.map (·.val)) = ys := ⟨_, rfl⟩
  obtain ⟨ys, hy2⟩ := hy2
  have lm : (bs.map (·.val)).length = bs.length := List.length_map _
  have lm' : (bs'.map (·.val)).length = bs'.length := List.length_map _
  have E1 := liBytes_ok xs xs
  rw [decide_eq_true rfl] at E1
  cases hA : frmB k s c p f y g l bs.length
  · have hn : xs = [] := by rw [← hx]; exact frmL_no (by rw [lm]; exact hA)
    clear hx
    subst hn
    have hx := frmL_no (zs := bs.map (·.val)) (by rw [lm]; exact hA)
    refine AW.seq ?_
    apply AW.list
    apply Wk.ld (i := 5) 9 true ty24 rfl rfl (by conv => lhs; whnf) (lt_of_ble rfl)
    apply Wk.dat (ifbytes_ok k s c p f y g l bs hb1 hx) Try.func10 rfl rfl rfl rfl rfl (lt_of_ble rfl)
    apply Wk.asg (by conv => lhs; whnf) (lt_of_ble rfl)
    refine Wk.nil ?_
    refine AW.seq (AW.seq ?_)
    apply AW.list
    apply Wk.mv (by conv => lhs; whnf) (lt_of_ble rfl)
    apply Wk.ld (i := 5) 9 true ty24 rfl rfl (by conv => lhs; whnf) (lt_of_ble rfl)
    apply Wk.dat (sfbytes_ok k s c p f y g l bs hb1 hx) Try.func12 rfl rfl rfl rfl rfl (lt_of_ble rfl)
    apply Wk.dat E1 Try.func11 rfl rfl rfl rfl rfl (lt_of_ble rfl)
    apply Wk.un rfl (fun w => by simp [go_sem] <;> rfl) (lt_of_ble rfl)
    refine Wk.nil ?_
    refine AW.cond rfl (fun hc => by cases hc) (fun _ => AW.skip (thenA_normal ?_))
    refine AW.seq (AW.seq ?_)
    apply AW.list
    apply Wk.ld (i := 5) 9 true ty24 rfl rfl (by conv => lhs; whnf) (lt_of_ble rfl)
    apply Wk.dat (sfrmb k s c p f y g l bs hA) Try.func7 rfl rfl rfl rfl rfl (lt_of_ble rfl)
    apply Wk.un rfl (fun w => by simp [go_sem] <;> rfl) (lt_of_ble rfl)
    apply Wk.mv (by conv => lhs; whnf) (lt_of_ble rfl)
    apply Wk.goff 30 (ok_load 6 ty24) rfl rfl (by decide)
    apply Wk.goff 30 (ok_datw ((sfrmb k s c p f y g l bs hA).w rfl) Try.func7 rfl rfl) rfl rfl (by decide)
    apply Wk.goff 30 (ok_un _ _ _) rfl rfl (by decide)
    apply Wk.pckT rfl (by conv => lhs; whnf) (lt_of_ble rfl)
    refine Wk.nil ?_
    refine AW.cond rfl (fun _ => ?_) (fun hc => by cases hc)
    refine AW.seq ?_
    apply AW.list
    apply Wk.mv (by conv => lhs; whnf) (lt_of_ble rfl)
    apply Wk.len un22 rfl (lt_of_ble rfl)
    apply Wk.bin rfl rfl (r := .bool true) (fun w => by simp [go_sem]) (lt_of_ble rfl)
    apply Wk.ld (i := 5) 9 true ty24 rfl rfl (by conv => lhs; whnf) (lt_of_ble rfl)
    apply Wk.dat (sfrmb k s c p f y g l bs hA) Try.func7 rfl rfl rfl rfl rfl (lt_of_ble rfl)
    apply Wk.un rfl (fun w => by simp [go_sem] <;> rfl) (lt_of_ble rfl)
    apply Wk.bin rfl rfl (r := .bool true) (fun w => by simp [go_sem]) (lt_of_ble rfl)
    apply Wk.mv (by conv => lhs; whnf) (lt_of_ble rfl)
    apply Wk.gon 42 rfl rfl
    apply Wk.dat liok_ok Try.func8 rfl rfl rfl rfl rfl (lt_of_ble rfl)
    apply Wk.pckT rfl (by conv => lhs; whnf) (lt_of_ble rfl)
    apply Wk.asg (by conv => lhs; whnf) (lt_of_ble rfl)
    refine Wk.nil (AW.ret ?_)
    refine thenA_ret ?_
    exact RetQ.ret [] (.cons rfl .nil) ⟨rfl, rfl⟩ none_kept
  have hxl : xs.length ≠ 0 := by rw [← hx]; exact frmL_some (by rw [lm]; exact hA)
  have hxe : xs ≠ [] := fun e => hxl (by rw [e]; rfl)
  cases hB : frmB k' s' c' p' f' y' g' l' bs'.length
  · refine AW.seq ?_
    apply AW.list
    apply Wk.ld (i := 5) 9 true ty24 rfl rfl (by conv => lhs; whnf) (lt_of_ble rfl)
    apply Wk.dat (ifbytes_ok k s c p f y g l bs hb1 hx) Try.func10 rfl rfl rfl rfl rfl (lt_of_ble rfl)
    apply Wk.asg (by conv => lhs; whnf) (lt_of_ble rfl)
    refine Wk.nil ?_
    refine AW.seq (AW.seq ?_)
    apply AW.list
    apply Wk.mv (by conv => lhs; whnf) (lt_of_ble rfl)
    apply Wk.ld (i := 5) 9 true ty24 rfl rfl (by conv => lhs; whnf) (lt_of_ble rfl)
    apply Wk.dat (sfbytes_ok k s c p f y g l bs hb1 hx) Try.func12 rfl rfl rfl rfl rfl (lt_of_ble rfl)
    apply Wk.dat E1 Try.func11 rfl rfl rfl rfl rfl (lt_of_ble rfl)
    apply Wk.un rfl (fun w => by simp [go_sem] <;> rfl) (lt_of_ble rfl)
    refine Wk.nil ?_
    refine AW.cond rfl (fun hc => by cases hc) (fun _ => AW.skip (thenA_normal ?_))
    refine AW.seq (AW.seq ?_)
    apply AW.list
    apply Wk.ld (i := 5) 9 true ty24 rfl rfl (by conv => lhs; whnf) (lt_of_ble rfl)
    apply Wk.dat (sfrmb k s c p f y g l bs hA) Try.func7 rfl rfl rfl rfl rfl (lt_of_ble rfl)
    apply Wk.un rfl (fun w => by simp [go_sem] <;> rfl) (lt_of_ble rfl)
    apply Wk.mv (by conv => lhs; whnf) (lt_of_ble rfl)
    apply Wk.gon 30 rfl rfl
    apply Wk.ld (i := 6) 9 true ty24 rfl rfl (by conv => lhs; whnf) (lt_of_ble rfl)
    apply Wk.gon 30 rfl rfl
    apply Wk.dat (sfrmb k' s' c' p' f' y' g' l' bs' hB) Try.func7 rfl rfl rfl rfl rfl (lt_of_ble rfl)
    apply Wk.gon 30 rfl rfl
    apply Wk.un rfl (fun w => by simp [go_sem] <;> rfl) (lt_of_ble rfl)
    apply Wk.pckF rfl (by conv => lhs; whnf) (lt_of_ble rfl)
    refine Wk.nil ?_
    refine AW.cond rfl (fun _ => ?_) (fun hc => by cases hc)
    refine AW.seq ?_
    apply AW.list
    apply Wk.mv (by conv => lhs; whnf) (lt_of_ble rfl)
    apply Wk.len un22 rfl (lt_of_ble rfl)
    apply Wk.bin rfl rfl (r := .bool false) (fun w => by simp [go_sem, hxe]) (lt_of_ble rfl)
    apply Wk.ld (i := 5) 9 true ty24 rfl rfl (by conv => lhs; whnf) (lt_of_ble rfl)
    apply Wk.dat (sfrmb k s c p f y g l bs hA) Try.func7 rfl rfl rfl rfl rfl (lt_of_ble rfl)
    apply Wk.un rfl (fun w => by simp [go_sem] <;> rfl) (lt_of_ble rfl)
    apply Wk.bin rfl rfl (r := .bool true) (fun w => by simp [go_sem]) (lt_of_ble rfl)
    apply Wk.mv (by conv => lhs; whnf) (lt_of_ble rfl)
    apply Wk.gon 42 rfl rfl
    apply Wk.dat liok_ok Try.func8 rfl rfl rfl rfl rfl (lt_of_ble rfl)
    apply Wk.pckT rfl (by conv => lhs; whnf) (lt_of_ble rfl)
    apply Wk.asg (by conv => lhs; whnf) (lt_of_ble rfl)
    refine Wk.nil (AW.ret ?_)
    refine thenA_ret ?_
    exact RetQ.ret [] (.cons rfl .nil) ⟨rfl, rfl⟩ none_kept
  have E2 := liBytes_ok xs ys
  by_cases same : k = k' ∧ s = s' ∧ c = c' ∧ p = p' ∧ f = f' ∧ y = y' ∧ g = g' ∧ l = l' ∧ bs = bs'
  · have e : xs = ys := by obtain ⟨rfl, rfl, rfl, rfl, rfl, rfl, rfl, rfl, rfl⟩ := same; rw [← hx, ← hy2]
    rw [decide_eq_true e] at E2
    have L : DataOk Try.prog 13 [frmA k s c p f y g l bs, frmA k' s' c' p' f' y' g' l' bs'] (.d (.v (.bool true))) := by
      obtain ⟨rfl, rfl, rfl, rfl, rfl, rfl, rfl, rfl, rfl⟩ := same
      exact liFrame_is k s c p f y g l bs
    refine AW.seq ?_
    apply AW.list
    apply Wk.ld (i := 5) 9 true ty24 rfl rfl (by conv => lhs; whnf) (lt_of_ble rfl)
    apply Wk.dat (ifbytes_ok k s c p f y g l bs hb1 hx) Try.func10 rfl rfl rfl rfl rfl (lt_of_ble rfl)
    apply Wk.asg (by conv => lhs; whnf) (lt_of_ble rfl)
    refine Wk.nil ?_
    refine AW.seq (AW.seq ?_)
    apply AW.list
    apply Wk.mv (by conv => lhs; whnf) (lt_of_ble rfl)
    apply Wk.ld (i := 5) 9 true ty24 rfl rfl (by conv => lhs; whnf) (lt_of_ble rfl)
    apply Wk.dat (sfbytes_ok k s c p f y g l bs hb1 hx) Try.func12 rfl rfl rfl rfl rfl (lt_of_ble rfl)
    apply Wk.dat E1 Try.func11 rfl rfl rfl rfl rfl (lt_of_ble rfl)
    apply Wk.un rfl (fun w => by simp [go_sem] <;> rfl) (lt_of_ble rfl)
    refine Wk.nil ?_
    refine AW.cond rfl (fun hc => by cases hc) (fun _ => AW.skip (thenA_normal ?_))
    refine AW.seq (AW.seq ?_)
    apply AW.list
    apply Wk.ld (i := 5) 9 true ty24 rfl rfl (by conv => lhs; whnf) (lt_of_ble rfl)
    apply Wk.dat (sfrmb k s c p f y g l bs hA) Try.func7 rfl rfl rfl rfl rfl (lt_of_ble rfl)
    apply Wk.un rfl (fun w => by simp [go_sem] <;> rfl) (lt_of_ble rfl)
    apply Wk.mv (by conv => lhs; whnf) (lt_of_ble rfl)
    apply Wk.gon 30 rfl rfl
    apply Wk.ld (i := 6) 9 true ty24 rfl rfl (by conv => lhs; whnf) (lt_of_ble rfl)
    apply Wk.gon 30 rfl rfl
    apply Wk.dat (sfrmb k' s' c' p' f' y' g' l' bs' hB) Try.func7 rfl rfl rfl rfl rfl (lt_of_ble rfl)
    apply Wk.gon 30 rfl rfl
    apply Wk.un rfl (fun w => by simp [go_sem] <;> rfl) (lt_of_ble rfl)
    apply Wk.pckF rfl (by conv => lhs; whnf) (lt_of_ble rfl)
    refine Wk.nil ?_
    refine AW.cond rfl (fun hc => by cases hc) (fun _ => AW.skip (thenA_normal ?_))
    refine AW.seq ?_
    apply AW.draw (hm := hmix) (cs := _)
    · apply Wk.mv (by conv => lhs; whnf) (lt_of_ble rfl)
      apply Wk.ld (i := 6) 9 true ty24 rfl rfl (by conv => lhs; whnf) (lt_of_ble rfl)
      apply Wk.dat (ifbytes_ok k' s' c' p' f' y' g' l' bs' hb2 hy2) Try.func10 rfl rfl rfl rfl rfl (lt_of_ble rfl)
      apply Wk.dat E2 Try.func11 rfl rfl rfl rfl rfl (lt_of_ble rfl)
      apply Wk.ld (i := 5) 9 true ty24 rfl rfl (by conv => lhs; whnf) (lt_of_ble rfl)
      apply Wk.ld (i := 6) 9 true ty24 rfl rfl (by conv => lhs; whnf) (lt_of_ble rfl)
      apply Wk.dat L Try.func13 rfl rfl rfl rfl rfl (lt_of_ble rfl)
      apply Wk.bin rfl rfl (r := .bool true) (fun w => by simp [go_sem]) (lt_of_ble rfl)
      apply Wk.asg (by conv => lhs; whnf) (lt_of_ble rfl)
      refine Wk.nil (AW.ret ?_)
      exact RetQ.ret [] (.cons rfl .nil) ⟨rfl, rfl⟩ none_kept
    · rfl
    · rfl
  · have e : xs ≠ ys := fun e => same (by
      obtain ⟨q1, q2, q3, q4, q5, q6, q7, q8, q9⟩ := frmL_inj (by rw [lm]; exact hA) (by rw [lm']; exact hB) (hx.trans (e.trans hy2.symm))
      exact ⟨q1, q2, q3, q4, q5, q6, q7, q8, (List.map_inj_right (fun a b => Fin.eq_of_val_eq)).1 q9⟩)
    rw [decide_eq_false e] at E2
    have L := liFrame_not k s c p f y g l bs k' s' c' p' f' y' g' l' bs' same
    refine AW.seq ?_
    apply AW.list
    apply Wk.ld (i := 5) 9 true ty24 rfl rfl (by conv => lhs; whnf) (lt_of_ble rfl)
    apply Wk.dat (ifbytes_ok k s c p f y g l bs hb1 hx) Try.func10 rfl rfl rfl rfl rfl (lt_of_ble rfl)
    apply Wk.asg (by conv => lhs; whnf) (lt_of_ble rfl)
    refine Wk.nil ?_
    refine AW.seq (AW.seq ?_)
    apply AW.list
    apply Wk.mv (by conv => lhs; whnf) (lt_of_ble rfl)
    apply Wk.ld (i := 5) 9 true ty24 rfl rfl (by conv => lhs; whnf) (lt_of_ble rfl)
    apply Wk.dat (sfbytes_ok k s c p f y g l bs hb1 hx) Try.func12 rfl rfl rfl rfl rfl (lt_of_ble rfl)
    apply Wk.dat E1 Try.func11 rfl rfl rfl rfl rfl (lt_of_ble rfl)
    apply Wk.un rfl (fun w => by simp [go_sem] <;> rfl) (lt_of_ble rfl)
    refine Wk.nil ?_
    refine AW.cond rfl (fun hc => by cases hc) (fun _ => AW.skip (thenA_normal ?_))
    refine AW.seq (AW.seq ?_)
    apply AW.list
    apply Wk.ld (i := 5) 9 true ty24 rfl rfl (by conv => lhs; whnf) (lt_of_ble rfl)
    apply Wk.dat (sfrmb k s c p f y g l bs hA) Try.func7 rfl rfl rfl rfl rfl (lt_of_ble rfl)
    apply Wk.un rfl (fun w => by simp [go_sem] <;> rfl) (lt_of_ble rfl)
    apply Wk.mv (by conv => lhs; whnf) (lt_of_ble rfl)
    apply Wk.gon 30 rfl rfl
    apply Wk.ld (i := 6) 9 true ty24 rfl rfl (by conv => lhs; whnf) (lt_of_ble rfl)
    apply Wk.gon 30 rfl rfl
    apply Wk.dat (sfrmb k' s' c' p' f' y' g' l' bs' hB) Try.func7 rfl rfl rfl rfl rfl (lt_of_ble rfl)
    apply Wk.gon 30 rfl rfl
    apply Wk.un rfl (fun w => by simp [go_sem] <;> rfl) (lt_of_ble rfl)
    apply Wk.pckF rfl (by conv => lhs; whnf) (lt_of_ble rfl)
    refine Wk.nil ?_
    refine AW.cond rfl (fun hc => by cases hc) (fun _ => AW.skip (thenA_normal ?_))
    refine AW.seq ?_
    apply AW.draw (hm := hmix) (cs := _)
    · apply Wk.mv (by conv => lhs; whnf) (lt_of_ble rfl)
      apply Wk.ld (i := 6) 9 true ty24 rfl rfl (by conv => lhs; whnf) (lt_of_ble rfl)
      apply Wk.dat (ifbytes_ok k' s' c' p' f' y' g' l' bs' hb2 hy2) Try.func10 rfl rfl rfl rfl rfl (lt_of_ble rfl)
      apply Wk.dat E2 Try.func11 rfl rfl rfl rfl rfl (lt_of_ble rfl)
      apply Wk.ld (i := 5) 9 true ty24 rfl rfl (by conv => lhs; whnf) (lt_of_ble rfl)
      apply Wk.ld (i := 6) 9 true ty24 rfl rfl (by conv => lhs; whnf) (lt_of_ble rfl)
      apply Wk.dat L Try.func13 rfl rfl rfl rfl rfl (lt_of_ble rfl)
      apply Wk.bin rfl rfl (r := .bool true) (fun w => by simp [go_sem]) (lt_of_ble rfl)
      apply Wk.asg (by conv => lhs; whnf) (lt_of_ble rfl)
      refine Wk.nil (AW.ret ?_)
      exact RetQ.ret [] (.cons rfl .nil) ⟨rfl, rfl⟩ none_kept
    · rfl
    · rfl
namespace fnFrmApart
set_option maxRecDepth 100000 in
theorem walk (a0 : Option Addr) (len0 cap0 : Nat) (z0 : List Int) (a1 : Option Addr) (len1 cap1 : Nat) (z1 : List Int) (w : World) (w0 : IsRow .u8 w a0 len0 cap0 z0) (w1 : IsRow .u8 w a1 len1 cap1 z1) :
    Calls Try.prog 4 #[.slice a0 len0 cap0, .slice a1 len1 cap1] w fun e w' => e = .returned (.bool true) ∧ Below w.heap.size w w' := by
  by_cases hs0 : (1048576 : Int) < (len0 : Int)
  · go_enter Try.func4, Try.ntmps4
    go_wp2
    go_ret
    exact ⟨rfl, Below.refl _ _⟩
  · by_cases hs1 : (1048576 : Int) < (len1 : Int)
    · go_enter Try.func4, Try.ntmps4
      go_wp2
      go_ret
      exact ⟨rfl, Below.refl _ _⟩
    · obtain ⟨cz, hR0, e0⟩ := w0.rd (by omega)
      obtain ⟨mz, hR1, e1⟩ := w1.rd (by omega)
      obtain ⟨zs, rfl⟩ := byt_fin hR0.1
      obtain ⟨ys, rfl⟩ := byt_fin hR1.1
      refine (lawFrmApart_ok zs ys ?_ ?_).run2 hR0 hR1
      · simp at e0; omega
      · simp at e1; omega
end fnFrmApart
end Go.Proofs.Ytfgcniibokhglaa
