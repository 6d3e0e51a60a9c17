/- The law of CrdSend, promise 40, returns true at every code. Written by tools/mk_WFnCrdSend.py. -/
import Derived.Test.YtejafihfbncaoaaDoorMa
import Derived.Test.YtejafihfbncaoaaDoorMb
import Derived.Test.YtejafihfbncaoaaDoorMc
import Derived.Test.YtejafihfbncaoaaDoorMd
import Derived.Test.YtejafihfbncaoaaDoorMe
import Derived.Test.YtejafihfbncaoaaDoorMf
import Derived.RowKit3
namespace Go.Proofs.YtejafihfbncaoaaDoor
open Go Go.RowKit
theorem ifrmP {e : Dat} {m : Int} (hb : Byt e.2.2) (hp : partM m e = true) : DataOk Tryd.prog 17 [frmZ 3 0 0 false false 0 e.1 e.2.1 (bytesD e.2.2)] (.d (.v (.bool true))) := by
  obtain ⟨g, l, ys⟩ := e
  obtain ⟨fs, rfl⟩ := byt_fin hb
  simp only [partM, Bool.and_eq_true, decide_eq_true_eq] at hp
  have hl := hp.1
  simp only [List.length_map] at hl
  have h8 : fs.length ≤ 8 := by simp only [pieceB, decide_eq_true_eq] at hl; exact hl.1
  have hf : frmB 3 0 0 false false 0 g l fs.length = true := decide_eq_true (.inr (.inr (.inl ⟨rfl, rfl, rfl, rfl, rfl, rfl, hl⟩)))
  have h := ifrm_ok 3 0 0 false false 0 g l fs (by omega)
  rw [hf] at h
  exact h
theorem CX.wide.few {x : CX} (h : x.wide) : x.few := ⟨by have := h.2.1.1; omega, fun d hd => by have := (h.2.1.2 d hd).2; omega⟩
theorem crdOk_sent {o : Opt} {v : Int} {e : Dat} {qs : List Dat} {g s : Int} (h : crdOkB o ⟨v, e :: qs, g, s, false⟩ = true) (hv : ¬ v = 0) (hs : ¬ s = 9999) : crdOkB o ⟨v - 1, qs, g, s + 1, false⟩ = true := by
  simp only [crdOkB, Bool.and_eq_true, decide_eq_true_eq, List.all_eq_true, inB_iff, List.length_cons] at h ⊢
  obtain ⟨h1, h2, h3, h4, h5, h6, h7⟩ := h
  exact ⟨h1, by omega, by omega, by omega, by omega, by omega, fun d hd => h7 d (List.mem_cons_of_mem _ hd)⟩
def csendPostL (_ : List A) (r : A) : Prop := ∃ (m w p u y : Int) (x : CX), r = .tup [cfgA m w p u y, cxA x] ∧ x.wide
set_option maxHeartbeats 8000000 in
set_option maxRecDepth 100000 in
theorem drawCSendL_ok (zs : List (Fin 256)) : DataW Tryd.prog 7 [.d (bytesD (zs.map (·.val)))] (csendPostL []) := by
  refine ⟨?_, ⟨_, 0, 0, 0, 0, 0, cx0, rfl, cx0_good.wide⟩, ?_⟩
  · refine id ?_
    refine Spec.intro (n := 14) (rv := [.cell 2 24, .cell 3 27]) Tryd.func7 rfl rfl rfl (by simp) fun C hN hX => ?_
    refine AW.seq ?_
    apply AW.list
    apply Wk.alc 2 [.int .i64 0, .int .i64 0, .int .i64 0, .int .i64 0, .int .i64 0] ze24 rfl rfl (lt_of_ble rfl)
    apply Wk.alc 3 [.int .i64 0, .slice none 0 0, .int .i64 0, .int .i64 0, .bool false] ze27 rfl rfl (lt_of_ble rfl)
    refine Wk.nil ?_
    refine AW.seq ?_
    apply AW.list
    apply Wk.mv (by conv => lhs; whnf) (lt_of_ble rfl)
    apply Wk.opn open_ok Tryd.func36 rfl rfl rfl rfl (lt_of_ble rfl)
    rintro zs1
    apply Wk.asg (by conv => lhs; whnf) (lt_of_ble rfl)
    refine Wk.nil ?_
    refine AW.seq ?_
    apply AW.list
    apply Wk.mv (by conv => lhs; whnf) (lt_of_ble rfl)
    apply Wk.drw 0 cfg_ok Tryd.func37 rfl rfl rfl rfl ⟨20, rfl, by omega, by omega⟩ (by omega) rfl (lt_of_ble rfl)
    rintro r2 zs2 p2 ⟨m, w, s, t, y, rfl, hb, _⟩ hp2
    apply Wk.alc 70 [.int .i64 0, .int .i64 0, .int .i64 0, .int .i64 0, .int .i64 0] ze24 rfl rfl (lt_of_ble rfl)
    apply Wk.sto (i := 70) 5 true ty24 rfl rfl rfl rfl (Nat.le_of_ble_eq_true rfl) (lt_of_ble rfl)
    refine Wk.nil ?_
    refine AW.seq ?_
    apply AW.draw (hm := hmix) (cs := _)
    · apply Wk.ld (i := 70) 5 true ty24 rfl rfl (by conv => lhs; whnf) (lt_of_ble rfl)
      apply Wk.mv (by conv => lhs; whnf) (lt_of_ble rfl)
      apply Wk.ld (i := 70) 5 true ty24 rfl rfl (by conv => lhs; whnf) (lt_of_ble rfl)
      apply Wk.drw 0 l20Ctx_ok Tryd.func38 rfl rfl rfl rfl ⟨m, w, s, t, y, 9, rfl, hb, by omega, by omega⟩ (by omega) rfl (lt_of_ble rfl)
      rintro r3 zs3 p3 ⟨x, rfl, hx⟩ hp3
      apply Wk.sto (i := 2) 5 true ty24 rfl rfl rfl rfl (Nat.le_of_ble_eq_true rfl) (lt_of_ble rfl)
      apply Wk.sto (i := 3) 5 true ty27 rfl rfl rfl rfl (Nat.le_of_ble_eq_true rfl) (lt_of_ble rfl)
      refine Wk.nil (AW.ret ?_)
      exact RetQ.ret [] (.cons ⟨2, 0, _, _, _, rfl, rfl, ty24, rfl⟩ (.cons ⟨3, 0, _, _, _, rfl, rfl, ty27, rfl⟩ .nil)) ⟨⟨m, w, s, t, y, x, rfl, hx⟩, rfl⟩ none_kept
    · rfl
    · rfl
  · rintro r ⟨m, w, p, u, y, x, rfl, _⟩; rfl
set_option maxHeartbeats 8000000 in
set_option maxRecDepth 100000 in
theorem lawCrdSend_ok (zs : List (Fin 256)) {V : List (Nat × Value)} {a : Addr} (h0 : (0, errV a) ∈ V) : DataV Tryd.prog V 3 [.d (bytesD (zs.map (·.val)))] (.d (.v (.bool true))) := by
  refine DataV.intro (n := 137) (rv := [.tmp 2]) Tryd.func3 rfl rfl rfl (by simp) fun C hV hN hX => ?_
  refine AW.seq ?_
  apply AW.list
  apply Wk.asg (by conv => lhs; whnf) (lt_of_ble rfl)
  refine Wk.nil ?_
  refine AW.seq (AW.seq ?_)
  apply AW.list
  apply Wk.mv (by conv => lhs; whnf) (lt_of_ble rfl)
  apply Wk.len un22 rfl (lt_of_ble rfl)
  apply Wk.bin rfl rfl (fun w => by simp [go_sem] <;> rfl) (lt_of_ble rfl)
  refine Wk.nil ?_
  refine AW.cond rfl (fun hc => ?_) (fun hc => ?_)
  · refine AW.seq ?_
    apply AW.list
    apply Wk.asg (by conv => lhs; whnf) (lt_of_ble rfl)
    refine Wk.nil (AW.ret ?_)
    refine thenA_ret ?_
    exact RetQ.ret [] (.cons rfl .nil) ⟨rfl, rfl⟩ none_kept
  refine AW.skip (thenA_normal ?_)
  refine AW.seq ?_
  apply AW.list
  apply Wk.mv (by conv => lhs; whnf) (lt_of_ble rfl)
  apply Wk.datw (drawCSendL_ok zs) Tryd.func7 rfl rfl rfl rfl (lt_of_ble rfl)
  rintro _ ⟨m, w, p, u, y, x, rfl, hx⟩
  apply Wk.mv (by conv => lhs; whnf) (lt_of_ble rfl)
  apply Wk.ext rfl rfl (lt_of_ble rfl)
  apply Wk.ext rfl rfl (lt_of_ble rfl)
  apply Wk.alc 3 [.int .i64 0, .int .i64 0, .int .i64 0, .int .i64 0, .int .i64 0] ze24 rfl rfl (lt_of_ble rfl)
  apply Wk.alc 4 [.int .i64 0, .slice none 0 0, .int .i64 0, .int .i64 0, .bool false] ze27 rfl rfl (lt_of_ble rfl)
  apply Wk.sto (i := 3) 5 true ty24 rfl rfl rfl rfl (Nat.le_of_ble_eq_true rfl) (lt_of_ble rfl)
  apply Wk.sto (i := 4) 5 true ty27 rfl rfl rfl rfl (Nat.le_of_ble_eq_true rfl) (lt_of_ble rfl)
  refine Wk.nil ?_
  cases hok : crdOkB ⟨m, w, p, u, y⟩ x
  · have ci := icsendNo (V := V) m w p u y x hok
    have cs := scsendNo m w p u y x hok
    refine AW.seq ?_
    apply AW.list
    apply Wk.ld (i := 3) 5 true ty24 rfl rfl (by conv => lhs; whnf) (lt_of_ble rfl)
    apply Wk.ld (i := 4) 5 true ty27 rfl rfl (by conv => lhs; whnf) (lt_of_ble rfl)
    apply Wk.dav ci hX hV Tryd.func8 rfl rfl rfl rfl rfl (lt_of_ble rfl)
    apply Wk.mv (by conv => lhs; whnf) (lt_of_ble rfl)
    apply Wk.ext rfl rfl (lt_of_ble rfl)
    apply Wk.ext rfl rfl (lt_of_ble rfl)
    apply Wk.ext rfl rfl (lt_of_ble rfl)
    apply Wk.alc 5 [.int .i64 0, .slice none 0 0, .int .i64 0, .int .i64 0, .bool false] ze27 rfl rfl (lt_of_ble rfl)
    apply Wk.alc 6 [.int .i64 0, .int .i64 0, .int .i64 0, .bool false, .bool false, .int .i64 0, .int .i64 0, .int .i64 0, .slice none 0 0] ze31 rfl rfl (lt_of_ble rfl)
    apply Wk.sto (i := 5) 5 true ty27 rfl rfl rfl rfl (Nat.le_of_ble_eq_true rfl) (lt_of_ble rfl)
    apply Wk.sto (i := 6) 9 true ty31 rfl rfl rfl rfl (Nat.le_of_ble_eq_true rfl) (lt_of_ble rfl)
    apply Wk.asg (by conv => lhs; whnf) (lt_of_ble rfl)
    refine Wk.nil ?_
    refine AW.seq ?_
    apply AW.list
    apply Wk.ld (i := 3) 5 true ty24 rfl rfl (by conv => lhs; whnf) (lt_of_ble rfl)
    apply Wk.ld (i := 4) 5 true ty27 rfl rfl (by conv => lhs; whnf) (lt_of_ble rfl)
    apply Wk.dat cs Tryd.func9 rfl rfl rfl rfl rfl (lt_of_ble rfl)
    apply Wk.mv (by conv => lhs; whnf) (lt_of_ble rfl)
    apply Wk.ext rfl rfl (lt_of_ble rfl)
    apply Wk.ext rfl rfl (lt_of_ble rfl)
    apply Wk.ext rfl rfl (lt_of_ble rfl)
    apply Wk.alc 8 [.int .i64 0, .slice none 0 0, .int .i64 0, .int .i64 0, .bool false] ze27 rfl rfl (lt_of_ble rfl)
    apply Wk.alc 9 [.int .i64 0, .int .i64 0, .int .i64 0, .bool false, .bool false, .int .i64 0, .int .i64 0, .int .i64 0, .slice none 0 0] ze31 rfl rfl (lt_of_ble rfl)
    apply Wk.sto (i := 8) 5 true ty27 rfl rfl rfl rfl (Nat.le_of_ble_eq_true rfl) (lt_of_ble rfl)
    apply Wk.sto (i := 9) 9 true ty31 rfl rfl rfl rfl (Nat.le_of_ble_eq_true rfl) (lt_of_ble rfl)
    apply Wk.asg (by conv => lhs; whnf) (lt_of_ble rfl)
    refine Wk.nil ?_
    refine AW.seq (AW.seq ?_)
    apply AW.list
    apply Wk.ld (i := 5) 5 true ty27 rfl rfl (by conv => lhs; whnf) (lt_of_ble rfl)
    apply Wk.ld (i := 8) 5 true ty27 rfl rfl (by conv => lhs; whnf) (lt_of_ble rfl)
    apply Wk.dat (liCtxE cx0) Tryd.func10 rfl rfl rfl rfl rfl (lt_of_ble rfl)
    apply Wk.un rfl (fun w => by simp [go_sem] <;> rfl) (lt_of_ble rfl)
    apply Wk.mv (by conv => lhs; whnf) (lt_of_ble rfl)
    apply Wk.gon 37 rfl rfl
    apply Wk.ld (i := 6) 9 true ty31 rfl rfl (by conv => lhs; whnf) (lt_of_ble rfl)
    apply Wk.gon 37 rfl rfl
    apply Wk.ld (i := 9) 9 true ty31 rfl rfl (by conv => lhs; whnf) (lt_of_ble rfl)
    apply Wk.gon 37 rfl rfl
    apply Wk.dat (liFrmE 0 0 0 false false 0 0 0 []) Tryd.func11 rfl rfl rfl rfl rfl (lt_of_ble rfl)
    apply Wk.gon 37 rfl rfl
    apply Wk.un rfl (fun w => by simp [go_sem] <;> rfl) (lt_of_ble rfl)
    apply Wk.pckF rfl (by conv => lhs; whnf) (lt_of_ble rfl)
    apply Wk.mv (by conv => lhs; whnf) (lt_of_ble rfl)
    apply Wk.gon 43 rfl rfl
    apply Wk.mv (by conv => lhs; whnf) (lt_of_ble rfl)
    apply Wk.gon 43 rfl rfl
    apply Wk.mv (by conv => lhs; whnf) (lt_of_ble rfl)
    apply Wk.gon 43 rfl rfl
    apply Wk.bin rfl rfl (r := .bool false) (fun w => by simp [go_sem]) (lt_of_ble rfl)
    apply Wk.pckF rfl (by conv => lhs; whnf) (lt_of_ble rfl)
    refine Wk.nil ?_
    refine AW.cond rfl (fun hc => by cases hc) (fun _ => AW.skip (thenA_normal ?_))
    refine AW.seq (AW.seq ?_)
    apply AW.list
    apply Wk.ld (i := 3) 5 true ty24 rfl rfl (by conv => lhs; whnf) (lt_of_ble rfl)
    apply Wk.ld (i := 4) 5 true ty27 rfl rfl (by conv => lhs; whnf) (lt_of_ble rfl)
    apply Wk.dat (scxb hok) Tryd.func12 rfl rfl rfl rfl rfl (lt_of_ble rfl)
    apply Wk.un rfl (fun w => by simp [go_sem] <;> rfl) (lt_of_ble rfl)
    refine Wk.nil ?_
    refine AW.cond rfl (fun _ => ?_) (fun hc => by cases hc)
    refine AW.seq ?_
    apply AW.list
    apply Wk.mv (by conv => lhs; whnf) (lt_of_ble rfl)
    apply Wk.un rfl (fun w => by simp [go_sem] <;> rfl) (lt_of_ble rfl)
    apply Wk.mv (by conv => lhs; whnf) (lt_of_ble rfl)
    apply Wk.gon 54 rfl rfl
    apply Wk.ld (i := 5) 5 true ty27 rfl rfl (by conv => lhs; whnf) (lt_of_ble rfl)
    apply Wk.gon 54 rfl rfl
    apply Wk.bld [.int .i64 0, .slice none 0 0, .int .i64 0, .int .i64 0, .bool false] [(0, 1), (1, 1), (2, 1), (3, 1), (4, 1)] bl27 rfl (by conv => lhs; whnf) (lt_of_ble rfl)
    apply Wk.gon 54 rfl rfl
    apply Wk.dat (liCtxE cx0) Tryd.func10 rfl rfl rfl rfl rfl (lt_of_ble rfl)
    apply Wk.pckT rfl (by conv => lhs; whnf) (lt_of_ble rfl)
    apply Wk.mv (by conv => lhs; whnf) (lt_of_ble rfl)
    apply Wk.gon 59 rfl rfl
    apply Wk.dat liok_ok Tryd.func13 rfl rfl rfl rfl rfl (lt_of_ble rfl)
    apply Wk.pckT rfl (by conv => lhs; whnf) (lt_of_ble rfl)
    apply Wk.asg (by conv => lhs; whnf) (lt_of_ble rfl)
    refine Wk.nil (AW.ret ?_)
    repeat (first | refine thenA_ret ?_ | refine inBlockA_ret ?_)
    exact RetQ.ret [] (.cons rfl .nil) ⟨rfl, rfl⟩ none_kept
  have f := crdOk_facts hok
  have hxf := hx.few
  have hbq := hx.2.1.2
  by_cases hi : idleC x
  · have ci := icsendIdle m w p u y x hok hxf hi h0
    have cs := scsendIdleD m w p u y x hok hxf hi
    obtain ⟨v, qu, g, s, d⟩ := x
    simp only at f
    have e3 : (((qu.map datD).length : Nat) : Int) = (qu.length : Int) := by rw [List.length_map]
    simp only [idleC] at hi
    refine AW.seq ?_
    apply AW.list
    apply Wk.ld (i := 3) 5 true ty24 rfl rfl (by conv => lhs; whnf) (lt_of_ble rfl)
    apply Wk.ld (i := 4) 5 true ty27 rfl rfl (by conv => lhs; whnf) (lt_of_ble rfl)
    apply Wk.dav ci hX hV Tryd.func8 rfl rfl rfl rfl rfl (lt_of_ble rfl)
    apply Wk.mv (by conv => lhs; whnf) (lt_of_ble rfl)
    apply Wk.ext rfl rfl (lt_of_ble rfl)
    apply Wk.ext rfl rfl (lt_of_ble rfl)
    apply Wk.ext rfl rfl (lt_of_ble rfl)
    apply Wk.alc 5 [.int .i64 0, .slice none 0 0, .int .i64 0, .int .i64 0, .bool false] ze27 rfl rfl (lt_of_ble rfl)
    apply Wk.alc 6 [.int .i64 0, .int .i64 0, .int .i64 0, .bool false, .bool false, .int .i64 0, .int .i64 0, .int .i64 0, .slice none 0 0] ze31 rfl rfl (lt_of_ble rfl)
    apply Wk.sto (i := 5) 5 true ty27 rfl rfl rfl rfl (Nat.le_of_ble_eq_true rfl) (lt_of_ble rfl)
    apply Wk.sto (i := 6) 9 true ty31 rfl rfl rfl rfl (Nat.le_of_ble_eq_true rfl) (lt_of_ble rfl)
    apply Wk.asg (by conv => lhs; whnf) (lt_of_ble rfl)
    refine Wk.nil ?_
    refine AW.seq ?_
    apply AW.list
    apply Wk.ld (i := 3) 5 true ty24 rfl rfl (by conv => lhs; whnf) (lt_of_ble rfl)
    apply Wk.ld (i := 4) 5 true ty27 rfl rfl (by conv => lhs; whnf) (lt_of_ble rfl)
    apply Wk.dat cs Tryd.func9 rfl rfl rfl rfl rfl (lt_of_ble rfl)
    apply Wk.mv (by conv => lhs; whnf) (lt_of_ble rfl)
    apply Wk.ext rfl rfl (lt_of_ble rfl)
    apply Wk.ext rfl rfl (lt_of_ble rfl)
    apply Wk.ext rfl rfl (lt_of_ble rfl)
    apply Wk.alc 8 [.int .i64 0, .slice none 0 0, .int .i64 0, .int .i64 0, .bool false] ze27 rfl rfl (lt_of_ble rfl)
    apply Wk.alc 9 [.int .i64 0, .int .i64 0, .int .i64 0, .bool false, .bool false, .int .i64 0, .int .i64 0, .int .i64 0, .slice none 0 0] ze31 rfl rfl (lt_of_ble rfl)
    apply Wk.sto (i := 8) 5 true ty27 rfl rfl rfl rfl (Nat.le_of_ble_eq_true rfl) (lt_of_ble rfl)
    apply Wk.sto (i := 9) 9 true ty31 rfl rfl rfl rfl (Nat.le_of_ble_eq_true rfl) (lt_of_ble rfl)
    apply Wk.asg (by conv => lhs; whnf) (lt_of_ble rfl)
    refine Wk.nil ?_
    refine AW.seq (AW.seq ?_)
    apply AW.list
    apply Wk.ld (i := 5) 5 true ty27 rfl rfl (by conv => lhs; whnf) (lt_of_ble rfl)
    apply Wk.ld (i := 8) 5 true ty27 rfl rfl (by conv => lhs; whnf) (lt_of_ble rfl)
    apply Wk.dat (liCtxE _) Tryd.func10 rfl rfl rfl rfl rfl (lt_of_ble rfl)
    apply Wk.un rfl (fun w => by simp [go_sem] <;> rfl) (lt_of_ble rfl)
    apply Wk.mv (by conv => lhs; whnf) (lt_of_ble rfl)
    apply Wk.gon 37 rfl rfl
    apply Wk.ld (i := 6) 9 true ty31 rfl rfl (by conv => lhs; whnf) (lt_of_ble rfl)
    apply Wk.gon 37 rfl rfl
    apply Wk.ld (i := 9) 9 true ty31 rfl rfl (by conv => lhs; whnf) (lt_of_ble rfl)
    apply Wk.gon 37 rfl rfl
    apply Wk.dat (liFrmE 0 0 0 false false 0 0 0 []) Tryd.func11 rfl rfl rfl rfl rfl (lt_of_ble rfl)
    apply Wk.gon 37 rfl rfl
    apply Wk.un rfl (fun w => by simp [go_sem] <;> rfl) (lt_of_ble rfl)
    apply Wk.pckF rfl (by conv => lhs; whnf) (lt_of_ble rfl)
    apply Wk.mv (by conv => lhs; whnf) (lt_of_ble rfl)
    apply Wk.gon 43 rfl rfl
    apply Wk.mv (by conv => lhs; whnf) (lt_of_ble rfl)
    apply Wk.gon 43 rfl rfl
    apply Wk.mv (by conv => lhs; whnf) (lt_of_ble rfl)
    apply Wk.gon 43 rfl rfl
    apply Wk.bin rfl rfl (r := .bool false) (fun w => by simp [go_sem]) (lt_of_ble rfl)
    apply Wk.pckF rfl (by conv => lhs; whnf) (lt_of_ble rfl)
    refine Wk.nil ?_
    refine AW.cond rfl (fun hc => by cases hc) (fun _ => AW.skip (thenA_normal ?_))
    refine AW.seq (AW.seq ?_)
    apply AW.list
    apply Wk.ld (i := 3) 5 true ty24 rfl rfl (by conv => lhs; whnf) (lt_of_ble rfl)
    apply Wk.ld (i := 4) 5 true ty27 rfl rfl (by conv => lhs; whnf) (lt_of_ble rfl)
    apply Wk.dat (scxb hok) Tryd.func12 rfl rfl rfl rfl rfl (lt_of_ble rfl)
    apply Wk.un rfl (fun w => by simp [go_sem] <;> rfl) (lt_of_ble rfl)
    refine Wk.nil ?_
    refine AW.cond rfl (fun hc => by cases hc) (fun _ => AW.skip (thenA_normal ?_))
    refine AW.seq (AW.seq ?_)
    apply AW.list
    apply Wk.mv (by conv => lhs; whnf) (lt_of_ble rfl)
    apply Wk.un rfl (fun w => by simp [go_sem] <;> rfl) (lt_of_ble rfl)
    refine Wk.nil ?_
    refine AW.cond rfl (fun _ => ?_) (fun hc => by cases hc)
    cases d
    · by_cases c1 : v = 0
      · subst c1
        refine AW.seq ?_
        apply AW.list
        apply Wk.ld (i := 5) 5 true ty27 rfl rfl (by conv => lhs; whnf) (lt_of_ble rfl)
        apply Wk.ld (i := 4) 5 true ty27 rfl rfl (by conv => lhs; whnf) (lt_of_ble rfl)
        apply Wk.dat (liCtxE _) Tryd.func10 rfl rfl rfl rfl rfl (lt_of_ble rfl)
        apply Wk.mv (by conv => lhs; whnf) (lt_of_ble rfl)
        apply Wk.gon 67 rfl rfl
        apply Wk.fad 4 0 false fd27_4 rfl (lt_of_ble rfl)
        apply Wk.gon 67 rfl rfl
        apply Wk.ld (i := 4) 1 false ty4 rfl rfl (by conv => lhs; whnf) (lt_of_ble rfl)
        apply Wk.gon 67 rfl rfl
        apply Wk.mv (by conv => lhs; whnf) (lt_of_ble rfl)
        apply Wk.gon 70 rfl rfl
        apply Wk.fad 0 0 false fd27_0 rfl (lt_of_ble rfl)
        apply Wk.gon 70 rfl rfl
        apply Wk.ld (i := 4) 1 false ty3 rfl rfl (by conv => lhs; whnf) (lt_of_ble rfl)
        apply Wk.gon 70 rfl rfl
        apply Wk.bin rfl rfl (r := .bool true) (fun w => by simp [go_sem]) (lt_of_ble rfl)
        apply Wk.gon 67 rfl rfl
        apply Wk.pckF rfl (by conv => lhs; whnf) (lt_of_ble rfl)
        apply Wk.gon 67 rfl rfl
        apply Wk.mv (by conv => lhs; whnf) (lt_of_ble rfl)
        apply Wk.goff 75 (ok_faddr fd27_1) rfl rfl (by simp)
        apply Wk.goff 75 (ok_load 4 ty25) rfl rfl (by simp)
        apply Wk.goff 75 (ok_len un25) rfl rfl (by simp)
        apply Wk.goff 75 (ok_bin _ _ _ _ _) rfl rfl (by simp)
        apply Wk.gon 67 rfl rfl
        apply Wk.pckT rfl (by conv => lhs; whnf) (lt_of_ble rfl)
        apply Wk.gon 67 rfl rfl
        apply Wk.mv (by conv => lhs; whnf) (lt_of_ble rfl)
        apply Wk.goff 81 (ok_faddr fd27_3) rfl rfl (by simp)
        apply Wk.goff 81 (ok_load 4 ty3) rfl rfl (by simp)
        apply Wk.goff 81 (ok_bin _ _ _ _ _) rfl rfl (by simp)
        apply Wk.gon 67 rfl rfl
        apply Wk.pckT rfl (by conv => lhs; whnf) (lt_of_ble rfl)
        apply Wk.pckT rfl (by conv => lhs; whnf) (lt_of_ble rfl)
        apply Wk.asg (by conv => lhs; whnf) (lt_of_ble rfl)
        refine Wk.nil (AW.ret ?_)
        repeat (first | refine thenA_ret ?_ | refine inBlockA_ret ?_)
        exact RetQ.ret [] (.cons rfl .nil) ⟨rfl, rfl⟩ none_kept
      · by_cases hq : qu = []
        · subst hq
          refine AW.seq ?_
          apply AW.list
          apply Wk.ld (i := 5) 5 true ty27 rfl rfl (by conv => lhs; whnf) (lt_of_ble rfl)
          apply Wk.ld (i := 4) 5 true ty27 rfl rfl (by conv => lhs; whnf) (lt_of_ble rfl)
          apply Wk.dat (liCtxE _) Tryd.func10 rfl rfl rfl rfl rfl (lt_of_ble rfl)
          apply Wk.mv (by conv => lhs; whnf) (lt_of_ble rfl)
          apply Wk.gon 67 rfl rfl
          apply Wk.fad 4 0 false fd27_4 rfl (lt_of_ble rfl)
          apply Wk.gon 67 rfl rfl
          apply Wk.ld (i := 4) 1 false ty4 rfl rfl (by conv => lhs; whnf) (lt_of_ble rfl)
          apply Wk.gon 67 rfl rfl
          apply Wk.mv (by conv => lhs; whnf) (lt_of_ble rfl)
          apply Wk.gon 70 rfl rfl
          apply Wk.fad 0 0 false fd27_0 rfl (lt_of_ble rfl)
          apply Wk.gon 70 rfl rfl
          apply Wk.ld (i := 4) 1 false ty3 rfl rfl (by conv => lhs; whnf) (lt_of_ble rfl)
          apply Wk.gon 70 rfl rfl
          apply Wk.bin rfl rfl (r := .bool false) (fun w => by simp [go_sem, c1]) (lt_of_ble rfl)
          apply Wk.gon 67 rfl rfl
          apply Wk.pckF rfl (by conv => lhs; whnf) (lt_of_ble rfl)
          apply Wk.gon 67 rfl rfl
          apply Wk.mv (by conv => lhs; whnf) (lt_of_ble rfl)
          apply Wk.gon 75 rfl rfl
          apply Wk.fad 1 0 false fd27_1 rfl (lt_of_ble rfl)
          apply Wk.gon 75 rfl rfl
          apply Wk.ld (i := 4) 1 false ty25 rfl rfl (by conv => lhs; whnf) (lt_of_ble rfl)
          apply Wk.gon 75 rfl rfl
          apply Wk.len un25 rfl (lt_of_ble rfl)
          apply Wk.gon 75 rfl rfl
          apply Wk.bin rfl rfl (r := .bool true) (fun w => by rw [e3]; simp [go_sem]) (lt_of_ble rfl)
          apply Wk.gon 67 rfl rfl
          apply Wk.pckF rfl (by conv => lhs; whnf) (lt_of_ble rfl)
          apply Wk.gon 67 rfl rfl
          apply Wk.mv (by conv => lhs; whnf) (lt_of_ble rfl)
          apply Wk.goff 81 (ok_faddr fd27_3) rfl rfl (by simp)
          apply Wk.goff 81 (ok_load 4 ty3) rfl rfl (by simp)
          apply Wk.goff 81 (ok_bin _ _ _ _ _) rfl rfl (by simp)
          apply Wk.gon 67 rfl rfl
          apply Wk.pckT rfl (by conv => lhs; whnf) (lt_of_ble rfl)
          apply Wk.pckT rfl (by conv => lhs; whnf) (lt_of_ble rfl)
          apply Wk.asg (by conv => lhs; whnf) (lt_of_ble rfl)
          refine Wk.nil (AW.ret ?_)
          repeat (first | refine thenA_ret ?_ | refine inBlockA_ret ?_)
          exact RetQ.ret [] (.cons rfl .nil) ⟨rfl, rfl⟩ none_kept
        · obtain rfl : s = 9999 := by rcases hi with h | h | h | h <;> first | exact h | exact absurd h c1 | exact absurd h hq | cases h
          refine AW.seq ?_
          apply AW.list
          apply Wk.ld (i := 5) 5 true ty27 rfl rfl (by conv => lhs; whnf) (lt_of_ble rfl)
          apply Wk.ld (i := 4) 5 true ty27 rfl rfl (by conv => lhs; whnf) (lt_of_ble rfl)
          apply Wk.dat (liCtxE _) Tryd.func10 rfl rfl rfl rfl rfl (lt_of_ble rfl)
          apply Wk.mv (by conv => lhs; whnf) (lt_of_ble rfl)
          apply Wk.gon 67 rfl rfl
          apply Wk.fad 4 0 false fd27_4 rfl (lt_of_ble rfl)
          apply Wk.gon 67 rfl rfl
          apply Wk.ld (i := 4) 1 false ty4 rfl rfl (by conv => lhs; whnf) (lt_of_ble rfl)
          apply Wk.gon 67 rfl rfl
          apply Wk.mv (by conv => lhs; whnf) (lt_of_ble rfl)
          apply Wk.gon 70 rfl rfl
          apply Wk.fad 0 0 false fd27_0 rfl (lt_of_ble rfl)
          apply Wk.gon 70 rfl rfl
          apply Wk.ld (i := 4) 1 false ty3 rfl rfl (by conv => lhs; whnf) (lt_of_ble rfl)
          apply Wk.gon 70 rfl rfl
          apply Wk.bin rfl rfl (r := .bool false) (fun w => by simp [go_sem, c1]) (lt_of_ble rfl)
          apply Wk.gon 67 rfl rfl
          apply Wk.pckF rfl (by conv => lhs; whnf) (lt_of_ble rfl)
          apply Wk.gon 67 rfl rfl
          apply Wk.mv (by conv => lhs; whnf) (lt_of_ble rfl)
          apply Wk.gon 75 rfl rfl
          apply Wk.fad 1 0 false fd27_1 rfl (lt_of_ble rfl)
          apply Wk.gon 75 rfl rfl
          apply Wk.ld (i := 4) 1 false ty25 rfl rfl (by conv => lhs; whnf) (lt_of_ble rfl)
          apply Wk.gon 75 rfl rfl
          apply Wk.len un25 rfl (lt_of_ble rfl)
          apply Wk.gon 75 rfl rfl
          apply Wk.bin rfl rfl (r := .bool false) (fun w => by rw [e3]; simp [go_sem]; exact hq) (lt_of_ble rfl)
          apply Wk.gon 67 rfl rfl
          apply Wk.pckF rfl (by conv => lhs; whnf) (lt_of_ble rfl)
          apply Wk.gon 67 rfl rfl
          apply Wk.mv (by conv => lhs; whnf) (lt_of_ble rfl)
          apply Wk.gon 81 rfl rfl
          apply Wk.fad 3 0 false fd27_3 rfl (lt_of_ble rfl)
          apply Wk.gon 81 rfl rfl
          apply Wk.ld (i := 4) 1 false ty3 rfl rfl (by conv => lhs; whnf) (lt_of_ble rfl)
          apply Wk.gon 81 rfl rfl
          apply Wk.bin rfl rfl (r := .bool true) (fun w => by simp [go_sem]) (lt_of_ble rfl)
          apply Wk.gon 67 rfl rfl
          apply Wk.pckF rfl (by conv => lhs; whnf) (lt_of_ble rfl)
          apply Wk.pckT rfl (by conv => lhs; whnf) (lt_of_ble rfl)
          apply Wk.asg (by conv => lhs; whnf) (lt_of_ble rfl)
          refine Wk.nil (AW.ret ?_)
          repeat (first | refine thenA_ret ?_ | refine inBlockA_ret ?_)
          exact RetQ.ret [] (.cons rfl .nil) ⟨rfl, rfl⟩ none_kept
    · skip
      refine AW.seq ?_
      apply AW.list
      apply Wk.ld (i := 5) 5 true ty27 rfl rfl (by conv => lhs; whnf) (lt_of_ble rfl)
      apply Wk.ld (i := 4) 5 true ty27 rfl rfl (by conv => lhs; whnf) (lt_of_ble rfl)
      apply Wk.dat (liCtxE _) Tryd.func10 rfl rfl rfl rfl rfl (lt_of_ble rfl)
      apply Wk.mv (by conv => lhs; whnf) (lt_of_ble rfl)
      apply Wk.gon 67 rfl rfl
      apply Wk.fad 4 0 false fd27_4 rfl (lt_of_ble rfl)
      apply Wk.gon 67 rfl rfl
      apply Wk.ld (i := 4) 1 false ty4 rfl rfl (by conv => lhs; whnf) (lt_of_ble rfl)
      apply Wk.gon 67 rfl rfl
      apply Wk.mv (by conv => lhs; whnf) (lt_of_ble rfl)
      apply Wk.goff 70 (ok_faddr fd27_0) rfl rfl (by simp)
      apply Wk.goff 70 (ok_load 4 ty3) rfl rfl (by simp)
      apply Wk.goff 70 (ok_bin _ _ _ _ _) rfl rfl (by simp)
      apply Wk.gon 67 rfl rfl
      apply Wk.pckT rfl (by conv => lhs; whnf) (lt_of_ble rfl)
      apply Wk.gon 67 rfl rfl
      apply Wk.mv (by conv => lhs; whnf) (lt_of_ble rfl)
      apply Wk.goff 75 (ok_faddr fd27_1) rfl rfl (by simp)
      apply Wk.goff 75 (ok_load 4 ty25) rfl rfl (by simp)
      apply Wk.goff 75 (ok_len un25) rfl rfl (by simp)
      apply Wk.goff 75 (ok_bin _ _ _ _ _) rfl rfl (by simp)
      apply Wk.gon 67 rfl rfl
      apply Wk.pckT rfl (by conv => lhs; whnf) (lt_of_ble rfl)
      apply Wk.gon 67 rfl rfl
      apply Wk.mv (by conv => lhs; whnf) (lt_of_ble rfl)
      apply Wk.goff 81 (ok_faddr fd27_3) rfl rfl (by simp)
      apply Wk.goff 81 (ok_load 4 ty3) rfl rfl (by simp)
      apply Wk.goff 81 (ok_bin _ _ _ _ _) rfl rfl (by simp)
      apply Wk.gon 67 rfl rfl
      apply Wk.pckT rfl (by conv => lhs; whnf) (lt_of_ble rfl)
      apply Wk.pckT rfl (by conv => lhs; whnf) (lt_of_ble rfl)
      apply Wk.asg (by conv => lhs; whnf) (lt_of_ble rfl)
      refine Wk.nil (AW.ret ?_)
      repeat (first | refine thenA_ret ?_ | refine inBlockA_ret ?_)
      exact RetQ.ret [] (.cons rfl .nil) ⟨rfl, rfl⟩ none_kept
  obtain ⟨v, qu, g, s, d⟩ := x
  simp only [idleC, not_or, Bool.not_eq_true] at hi
  obtain ⟨rfl, c1, c2, c3⟩ := hi
  obtain ⟨e, qs, rfl⟩ : ∃ e qs, qu = e :: qs := by
    cases qu with
    | nil => exact absurd rfl c2
    | cons e qs => exact ⟨e, qs, rfl⟩
  simp only at f hbq
  have hv0 := f.2.1
  have hs0 := f.2.2.2.2.1
  have ci := icsendOn m w p u y v (e :: qs) g s e qs rfl hok hxf (by omega) h0
  have cs := scsendOnD m w p u y v (e :: qs) g s e qs rfl hok hxf c1 c3
  have g2 := crdOk_sent hok c1 c3
  have hfr := ifrmP (m := p) (hbq e List.mem_cons_self).1 (f.2.2.2.2.2.2 e List.mem_cons_self)
  have hdrop : (((e :: qs).map datD).drop 1).take (((e :: qs).map datD).length - 1) = qs.map datD := by simp [List.take_of_length_le]
  have h0lt : 0 < ((e :: qs).map datD).length := by simp
  have hget : ((e :: qs).map datD)[0]? = some (datD e) := rfl
  refine AW.seq ?_
  apply AW.list
  apply Wk.ld (i := 3) 5 true ty24 rfl rfl (by conv => lhs; whnf) (lt_of_ble rfl)
  apply Wk.ld (i := 4) 5 true ty27 rfl rfl (by conv => lhs; whnf) (lt_of_ble rfl)
  apply Wk.dav ci hX hV Tryd.func8 rfl rfl rfl rfl rfl (lt_of_ble rfl)
  apply Wk.mv (by conv => lhs; whnf) (lt_of_ble rfl)
  apply Wk.ext rfl rfl (lt_of_ble rfl)
  apply Wk.ext rfl rfl (lt_of_ble rfl)
  apply Wk.ext rfl rfl (lt_of_ble rfl)
  apply Wk.alc 5 [.int .i64 0, .slice none 0 0, .int .i64 0, .int .i64 0, .bool false] ze27 rfl rfl (lt_of_ble rfl)
  apply Wk.alc 6 [.int .i64 0, .int .i64 0, .int .i64 0, .bool false, .bool false, .int .i64 0, .int .i64 0, .int .i64 0, .slice none 0 0] ze31 rfl rfl (lt_of_ble rfl)
  apply Wk.sto (i := 5) 5 true ty27 rfl rfl rfl rfl (Nat.le_of_ble_eq_true rfl) (lt_of_ble rfl)
  apply Wk.sto (i := 6) 9 true ty31 rfl rfl rfl rfl (Nat.le_of_ble_eq_true rfl) (lt_of_ble rfl)
  apply Wk.asg (by conv => lhs; whnf) (lt_of_ble rfl)
  refine Wk.nil ?_
  refine AW.seq ?_
  apply AW.list
  apply Wk.ld (i := 3) 5 true ty24 rfl rfl (by conv => lhs; whnf) (lt_of_ble rfl)
  apply Wk.ld (i := 4) 5 true ty27 rfl rfl (by conv => lhs; whnf) (lt_of_ble rfl)
  apply Wk.dat cs Tryd.func9 rfl rfl rfl rfl rfl (lt_of_ble rfl)
  apply Wk.mv (by conv => lhs; whnf) (lt_of_ble rfl)
  apply Wk.ext rfl rfl (lt_of_ble rfl)
  apply Wk.ext rfl rfl (lt_of_ble rfl)
  apply Wk.ext rfl rfl (lt_of_ble rfl)
  apply Wk.alc 8 [.int .i64 0, .slice none 0 0, .int .i64 0, .int .i64 0, .bool false] ze27 rfl rfl (lt_of_ble rfl)
  apply Wk.alc 9 [.int .i64 0, .int .i64 0, .int .i64 0, .bool false, .bool false, .int .i64 0, .int .i64 0, .int .i64 0, .slice none 0 0] ze31 rfl rfl (lt_of_ble rfl)
  apply Wk.sto (i := 8) 5 true ty27 rfl rfl rfl rfl (Nat.le_of_ble_eq_true rfl) (lt_of_ble rfl)
  apply Wk.sto (i := 9) 9 true ty31 rfl rfl rfl rfl (Nat.le_of_ble_eq_true rfl) (lt_of_ble rfl)
  apply Wk.asg (by conv => lhs; whnf) (lt_of_ble rfl)
  refine Wk.nil ?_
  refine AW.seq (AW.seq ?_)
  apply AW.list
  apply Wk.ld (i := 5) 5 true ty27 rfl rfl (by conv => lhs; whnf) (lt_of_ble rfl)
  apply Wk.ld (i := 8) 5 true ty27 rfl rfl (by conv => lhs; whnf) (lt_of_ble rfl)
  apply Wk.dat (liCtxE _) Tryd.func10 rfl rfl rfl rfl rfl (lt_of_ble rfl)
  apply Wk.un rfl (fun w => by simp [go_sem] <;> rfl) (lt_of_ble rfl)
  apply Wk.mv (by conv => lhs; whnf) (lt_of_ble rfl)
  apply Wk.gon 37 rfl rfl
  apply Wk.ld (i := 6) 9 true ty31 rfl rfl (by conv => lhs; whnf) (lt_of_ble rfl)
  apply Wk.gon 37 rfl rfl
  apply Wk.ld (i := 9) 9 true ty31 rfl rfl (by conv => lhs; whnf) (lt_of_ble rfl)
  apply Wk.gon 37 rfl rfl
  apply Wk.dat (liFrmE 3 0 0 false false 0 e.1 e.2.1 e.2.2) Tryd.func11 rfl rfl rfl rfl rfl (lt_of_ble rfl)
  apply Wk.gon 37 rfl rfl
  apply Wk.un rfl (fun w => by simp [go_sem] <;> rfl) (lt_of_ble rfl)
  apply Wk.pckF rfl (by conv => lhs; whnf) (lt_of_ble rfl)
  apply Wk.mv (by conv => lhs; whnf) (lt_of_ble rfl)
  apply Wk.gon 43 rfl rfl
  apply Wk.mv (by conv => lhs; whnf) (lt_of_ble rfl)
  apply Wk.gon 43 rfl rfl
  apply Wk.mv (by conv => lhs; whnf) (lt_of_ble rfl)
  apply Wk.gon 43 rfl rfl
  apply Wk.bin rfl rfl (r := .bool false) (fun w => by simp [go_sem]) (lt_of_ble rfl)
  apply Wk.pckF rfl (by conv => lhs; whnf) (lt_of_ble rfl)
  refine Wk.nil ?_
  refine AW.cond rfl (fun hc => by cases hc) (fun _ => AW.skip (thenA_normal ?_))
  refine AW.seq (AW.seq ?_)
  apply AW.list
  apply Wk.ld (i := 3) 5 true ty24 rfl rfl (by conv => lhs; whnf) (lt_of_ble rfl)
  apply Wk.ld (i := 4) 5 true ty27 rfl rfl (by conv => lhs; whnf) (lt_of_ble rfl)
  apply Wk.dat (scxb hok) Tryd.func12 rfl rfl rfl rfl rfl (lt_of_ble rfl)
  apply Wk.un rfl (fun w => by simp [go_sem] <;> rfl) (lt_of_ble rfl)
  refine Wk.nil ?_
  refine AW.cond rfl (fun hc => by cases hc) (fun _ => AW.skip (thenA_normal ?_))
  refine AW.seq (AW.seq ?_)
  apply AW.list
  apply Wk.mv (by conv => lhs; whnf) (lt_of_ble rfl)
  apply Wk.un rfl (fun w => by simp [go_sem] <;> rfl) (lt_of_ble rfl)
  refine Wk.nil ?_
  refine AW.cond rfl (fun hc => by cases hc) (fun _ => AW.skip (thenA_normal ?_))
  refine AW.seq ?_
  apply AW.draw (hm := hmix) (cs := _)
  · apply Wk.ld (i := 3) 5 true ty24 rfl rfl (by conv => lhs; whnf) (lt_of_ble rfl)
    apply Wk.ld (i := 5) 5 true ty27 rfl rfl (by conv => lhs; whnf) (lt_of_ble rfl)
    apply Wk.dat (icxb g2) Tryd.func14 rfl rfl rfl rfl rfl (lt_of_ble rfl)
    apply Wk.mv (by conv => lhs; whnf) (lt_of_ble rfl)
    apply Wk.gon 90 rfl rfl
    apply Wk.fad 0 0 false fd27_0 rfl (lt_of_ble rfl)
    apply Wk.gon 90 rfl rfl
    apply Wk.ld (i := 5) 1 false ty3 rfl rfl (by conv => lhs; whnf) (lt_of_ble rfl)
    apply Wk.gon 90 rfl rfl
    apply Wk.fad 0 0 false fd27_0 rfl (lt_of_ble rfl)
    apply Wk.gon 90 rfl rfl
    apply Wk.ld (i := 4) 1 false ty3 rfl rfl (by conv => lhs; whnf) (lt_of_ble rfl)
    apply Wk.gon 90 rfl rfl
    apply Wk.subi rfl rfl (by dsimp only; omega) (lt_of_ble rfl)
    apply Wk.gon 90 rfl rfl
    apply Wk.bin rfl rfl (r := .bool true) (fun w => by simp [go_sem]) (lt_of_ble rfl)
    apply Wk.pckT rfl (by conv => lhs; whnf) (lt_of_ble rfl)
    apply Wk.mv (by conv => lhs; whnf) (lt_of_ble rfl)
    apply Wk.gon 98 rfl rfl
    apply Wk.fad 3 0 false fd27_3 rfl (lt_of_ble rfl)
    apply Wk.gon 98 rfl rfl
    apply Wk.ld (i := 5) 1 false ty3 rfl rfl (by conv => lhs; whnf) (lt_of_ble rfl)
    apply Wk.gon 98 rfl rfl
    apply Wk.fad 3 0 false fd27_3 rfl (lt_of_ble rfl)
    apply Wk.gon 98 rfl rfl
    apply Wk.ld (i := 4) 1 false ty3 rfl rfl (by conv => lhs; whnf) (lt_of_ble rfl)
    apply Wk.gon 98 rfl rfl
    apply Wk.addi rfl rfl (by dsimp only; omega) (lt_of_ble rfl)
    apply Wk.gon 98 rfl rfl
    apply Wk.bin rfl rfl (r := .bool true) (fun w => by simp [go_sem]) (lt_of_ble rfl)
    apply Wk.pckT rfl (by conv => lhs; whnf) (lt_of_ble rfl)
    apply Wk.mv (by conv => lhs; whnf) (lt_of_ble rfl)
    apply Wk.gon 106 rfl rfl
    apply Wk.fad 1 0 false fd27_1 rfl (lt_of_ble rfl)
    apply Wk.gon 106 rfl rfl
    apply Wk.ld (i := 5) 1 false ty25 rfl rfl (by conv => lhs; whnf) (lt_of_ble rfl)
    apply Wk.gon 106 rfl rfl
    apply Wk.fad 1 0 false fd27_1 rfl (lt_of_ble rfl)
    apply Wk.gon 106 rfl rfl
    apply Wk.ld (i := 4) 1 false ty25 rfl rfl (by conv => lhs; whnf) (lt_of_ble rfl)
    apply Wk.gon 106 rfl rfl
    apply Wk.slc (m := ((e :: qs).map datD).length) (l := 1) 3 true un25 ty41 rfl rfl (by exact if_pos ⟨by decide, by simp; omega⟩) (datD_len _) (lt_of_ble rfl)
    rw [hdrop]
    apply Wk.gon 106 rfl rfl
    apply Wk.dat (liPartsE qs) Tryd.func15 rfl rfl rfl rfl rfl (lt_of_ble rfl)
    apply Wk.pckT rfl (by conv => lhs; whnf) (lt_of_ble rfl)
    apply Wk.mv (by conv => lhs; whnf) (lt_of_ble rfl)
    apply Wk.gon 114 rfl rfl
    apply Wk.fad 0 0 false fd31_0 rfl (lt_of_ble rfl)
    apply Wk.gon 114 rfl rfl
    apply Wk.ld (i := 6) 1 false ty3 rfl rfl (by conv => lhs; whnf) (lt_of_ble rfl)
    apply Wk.gon 114 rfl rfl
    apply Wk.bin rfl rfl (r := .bool true) (fun w => by simp [go_sem]) (lt_of_ble rfl)
    apply Wk.pckT rfl (by conv => lhs; whnf) (lt_of_ble rfl)
    apply Wk.mv (by conv => lhs; whnf) (lt_of_ble rfl)
    apply Wk.gon 119 rfl rfl
    apply Wk.fad 6 0 false fd31_6 rfl (lt_of_ble rfl)
    apply Wk.gon 119 rfl rfl
    apply Wk.ld (i := 6) 1 false ty3 rfl rfl (by conv => lhs; whnf) (lt_of_ble rfl)
    apply Wk.gon 119 rfl rfl
    apply Wk.fad 7 0 false fd31_7 rfl (lt_of_ble rfl)
    apply Wk.gon 119 rfl rfl
    apply Wk.ld (i := 6) 1 false ty3 rfl rfl (by conv => lhs; whnf) (lt_of_ble rfl)
    apply Wk.gon 119 rfl rfl
    apply Wk.fad 8 0 false fd31_8 rfl (lt_of_ble rfl)
    apply Wk.gon 119 rfl rfl
    apply Wk.ld (i := 6) 1 false ty22 rfl rfl (by conv => lhs; whnf) (lt_of_ble rfl)
    apply Wk.gon 119 rfl rfl
    apply Wk.bld [.int .i64 0, .int .i64 0, .slice none 0 0] [(0, 1), (1, 1), (2, 1)] bl41 rfl (by conv => lhs; whnf) (lt_of_ble rfl)
    apply Wk.gon 119 rfl rfl
    apply Wk.fad 1 0 false fd27_1 rfl (lt_of_ble rfl)
    apply Wk.gon 119 rfl rfl
    apply Wk.ld (i := 4) 1 false ty25 rfl rfl (by conv => lhs; whnf) (lt_of_ble rfl)
    apply Wk.gon 119 rfl rfl
    apply Wk.iad 3 true un25 ty41 rfl rfl h0lt (datD_len _) (lt_of_ble rfl)
    apply Wk.gon 119 rfl rfl
    apply Wk.ldr 3 true ty41 rfl hget (by conv => lhs; whnf) (lt_of_ble rfl)
    apply Wk.gon 119 rfl rfl
    apply Wk.dat (liPartE e) Tryd.func16 rfl rfl rfl rfl rfl (lt_of_ble rfl)
    apply Wk.pckT rfl (by conv => lhs; whnf) (lt_of_ble rfl)
    apply Wk.mv (by conv => lhs; whnf) (lt_of_ble rfl)
    apply Wk.gon 133 rfl rfl
    apply Wk.ld (i := 6) 9 true ty31 rfl rfl (by conv => lhs; whnf) (lt_of_ble rfl)
    apply Wk.gon 133 rfl rfl
    apply Wk.dat hfr Tryd.func17 rfl rfl rfl rfl rfl (lt_of_ble rfl)
    apply Wk.pckT rfl (by conv => lhs; whnf) (lt_of_ble rfl)
    apply Wk.asg (by conv => lhs; whnf) (lt_of_ble rfl)
    refine Wk.nil (AW.ret ?_)
    repeat (first | refine thenA_ret ?_ | refine inBlockA_ret ?_)
    exact RetQ.ret [] (.cons rfl .nil) ⟨rfl, rfl⟩ none_kept
  · rfl
  · rfl
namespace fnCrdSend
set_option maxRecDepth 100000 in
theorem walk (a0 : Option Addr) (len0 cap0 : Nat) (z0 : List Int) (w : World) (w0 : IsRow .u8 w a0 len0 cap0 z0) (a10 : Addr) (hE : VarsIn [(0, errV a10)] w) :
    Calls Tryd.prog 3 #[.slice a0 len0 cap0] w fun e w' => e = .returned (.bool true) ∧ Below w.heap.size w w' := by
  by_cases hs0 : (1048576 : Int) < (len0 : Int)
  · go_enter Tryd.func3, Tryd.ntmps3
    go_wp2
    go_ret
    exact ⟨rfl, Below.refl _ _⟩
  obtain ⟨cz, hR0, _⟩ := w0.rd (by omega)
  obtain ⟨zs, rfl⟩ := byt_fin hR0.1
  exact (lawCrdSend_ok zs (V := [(0, errV a10)]) (show (0, errV a10) ∈ ([(0, errV a10)] : List (Nat × Value)) by simp)).run hE hR0
end fnCrdSend
end Go.Proofs.YtejafihfbncaoaaDoor
