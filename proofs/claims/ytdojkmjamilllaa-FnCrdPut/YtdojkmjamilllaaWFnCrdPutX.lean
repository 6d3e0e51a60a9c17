/- The law of CrdPut, promise 45, returns true at every code. Written by tools/mk_WFnCrdPut.py. -/
import Derived.Test.YtdojkmjamilllaaMa
import Derived.Test.YtdojkmjamilllaaMb
import Derived.Test.YtdojkmjamilllaaMc
import Derived.Test.YtdojkmjamilllaaMd
import Derived.Test.YtdojkmjamilllaaMe
import Derived.Test.YtdojkmjamilllaaMf
import Derived.Test.YtdojkmjamilllaaMg
import Derived.Test.YtdojkmjamilllaaMh
import Derived.RowKit3
namespace Go.Proofs.Ytdojkmjamilllaa
open Go Go.RowKit
theorem cput_still {o : Opt} {x : CX} {sdu : List Nat} (h : crdOkB o x = true) : crdOkB o (cputX o.mtu x sdu.length (cutD sdu o.mps)) = true := by
  unfold cputX
  split
  · exact h
  · rename_i hi
    simp only [crdOkB, Bool.and_eq_true, decide_eq_true_eq, List.all_eq_true] at h ⊢
    obtain ⟨h1, h2, h3, h4, h5, h6, h7⟩ := h
    refine ⟨h1, h2, by simp only [List.length_append]; omega, h4, h5, h6, fun d hd => ?_⟩
    rcases List.mem_append.1 hd with hd | hd
    · exact h7 d hd
    · exact cut_pieces d hd
def cputPostL (_ : List A) (r : A) : Prop := ∃ (m w p u y : Int) (x : CX) (bs : List (Fin 256)), r = .tup [cfgA m w p u y, cxA x, .d (fbytes bs)] ∧ x.wide ∧ bs.length ≤ 25
set_option maxHeartbeats 4000000 in
set_option maxRecDepth 100000 in
theorem drawCPutL_ok (zs : List (Fin 256)) : DataW Try.prog 41 [.d (bytesD (zs.map (·.val)))] (cputPostL []) := by
  refine ⟨?_, ⟨_, 0, 0, 0, 0, 0, cx0, [], rfl, cx0_good.wide, by simp⟩, ?_⟩
  · refine id ?_
    refine Spec.intro (n := 17) (rv := [.cell 2 24, .cell 3 62, .tmp 4]) Try.func41 rfl rfl rfl (by simp) fun C hN hX => ?_
    refine AW.seq ?_
    apply AW.list
    apply Wk.alc 2 [.int .i64 0, .int .i64 0, .int .i64 0, .int .i64 0, .int .i64 0] ze24 rfl rfl (lt_of_ble rfl)
    apply Wk.alc 3 [.int .i64 0, .slice none 0 0, .int .i64 0, .int .i64 0, .bool false] ze62 rfl rfl (lt_of_ble rfl)
    apply Wk.asg (by conv => lhs; whnf) (lt_of_ble rfl)
    refine Wk.nil ?_
    refine AW.seq ?_
    apply AW.list
    apply Wk.mv (by conv => lhs; whnf) (lt_of_ble rfl)
    apply Wk.opn open_ok Try.func47 rfl rfl rfl rfl (lt_of_ble rfl)
    rintro zs1
    apply Wk.asg (by conv => lhs; whnf) (lt_of_ble rfl)
    refine Wk.nil ?_
    refine AW.seq ?_
    apply AW.list
    apply Wk.mv (by conv => lhs; whnf) (lt_of_ble rfl)
    apply Wk.drw 0 cfg_ok Try.func48 rfl rfl rfl rfl ⟨20, rfl, by omega, by omega⟩ (by omega) rfl (lt_of_ble rfl)
    rintro r2 zs2 p2 ⟨m, w, s, t, y, rfl, hb, _⟩ hp2
    apply Wk.alc 60 [.int .i64 0, .int .i64 0, .int .i64 0, .int .i64 0, .int .i64 0] ze24 rfl rfl (lt_of_ble rfl)
    apply Wk.sto (i := 60) 5 true ty24 rfl rfl rfl rfl (Nat.le_of_ble_eq_true rfl) (lt_of_ble rfl)
    refine Wk.nil ?_
    refine AW.seq ?_
    apply AW.draw (hm := hmix) (cs := _)
    · apply Wk.ld (i := 60) 5 true ty24 rfl rfl (by conv => lhs; whnf) (lt_of_ble rfl)
      apply Wk.mv (by conv => lhs; whnf) (lt_of_ble rfl)
      apply Wk.ld (i := 60) 5 true ty24 rfl rfl (by conv => lhs; whnf) (lt_of_ble rfl)
      apply Wk.drw 0 l20Ctx_ok Try.func81 rfl rfl rfl rfl ⟨m, w, s, t, y, 9, rfl, hb, by omega, by omega⟩ (by omega) rfl (lt_of_ble rfl)
      rintro r3 zs3 p3 ⟨x, rfl, hx⟩ hp3
      apply Wk.mv (by conv => lhs; whnf) (lt_of_ble rfl)
      apply Wk.drw 0 bytes_ok Try.func50 rfl rfl rfl rfl ⟨25, rfl, by omega, by omega⟩ (by omega) rfl (lt_of_ble rfl)
      rintro r4 zs4 p4 ⟨bs4, rfl, hb4⟩ hp4
      apply Wk.sto (i := 2) 5 true ty24 rfl rfl rfl rfl (Nat.le_of_ble_eq_true rfl) (lt_of_ble rfl)
      apply Wk.sto (i := 3) 5 true ty62 rfl rfl rfl rfl (Nat.le_of_ble_eq_true rfl) (lt_of_ble rfl)
      apply Wk.asg (by conv => lhs; whnf) (lt_of_ble rfl)
      have hl4 : bs4.length ≤ 25 := by rcases hb4 25 rfl with h | h <;> first | omega | (rw [h]; simp)
      refine Wk.nil (AW.ret ?_)
      exact RetQ.ret [] (.cons ⟨2, 0, _, _, _, rfl, rfl, ty24, rfl⟩ (.cons ⟨3, 0, _, _, _, rfl, rfl, ty62, rfl⟩ (.cons rfl .nil))) ⟨⟨m, w, s, t, y, x, bs4, rfl, hx, hl4⟩, rfl⟩ none_kept
    · rfl
    · rfl
  · rintro r ⟨m, w, p, u, y, x, bs, rfl, _⟩; rfl
set_option maxHeartbeats 4000000 in
set_option maxRecDepth 100000 in
theorem lawCrdPut_ok (zs : List (Fin 256)) : DataOk Try.prog 12 [.d (bytesD (zs.map (·.val)))] (.d (.v (.bool true))) := by
  refine Spec.intro (n := 116) (rv := [.tmp 2]) Try.func12 rfl rfl rfl (by simp) fun C hN hX => ?_
  refine AW.seq ?_
  apply AW.list
  apply Wk.asg (by conv => lhs; whnf) (lt_of_ble rfl)
  refine Wk.nil ?_
  refine AW.seq (AW.seq ?_)
  apply AW.list
  apply Wk.mv (by conv => lhs; whnf) (lt_of_ble rfl)
  apply Wk.len un22 rfl (lt_of_ble rfl)
  apply Wk.bin rfl rfl (fun w => by simp [go_sem] <;> rfl) (lt_of_ble rfl)
  refine Wk.nil ?_
  refine AW.cond rfl (fun hc => ?_) (fun hc => ?_)
  · refine AW.seq ?_
    apply AW.list
    apply Wk.asg (by conv => lhs; whnf) (lt_of_ble rfl)
    refine Wk.nil (AW.ret ?_)
    refine thenA_ret ?_
    exact RetQ.ret [] (.cons rfl .nil) ⟨rfl, rfl⟩ none_kept
  refine AW.skip (thenA_normal ?_)
  refine AW.seq ?_
  apply AW.list
  apply Wk.mv (by conv => lhs; whnf) (lt_of_ble rfl)
  apply Wk.datw (drawCPutL_ok zs) Try.func41 rfl rfl rfl rfl (lt_of_ble rfl)
  rintro _ ⟨m, w, p, u, y, x, bs, rfl, hx, hl⟩
  apply Wk.mv (by conv => lhs; whnf) (lt_of_ble rfl)
  apply Wk.ext rfl rfl (lt_of_ble rfl)
  apply Wk.ext rfl rfl (lt_of_ble rfl)
  apply Wk.ext rfl rfl (lt_of_ble rfl)
  apply Wk.alc 3 [.int .i64 0, .int .i64 0, .int .i64 0, .int .i64 0, .int .i64 0] ze24 rfl rfl (lt_of_ble rfl)
  apply Wk.alc 4 [.int .i64 0, .slice none 0 0, .int .i64 0, .int .i64 0, .bool false] ze62 rfl rfl (lt_of_ble rfl)
  apply Wk.sto (i := 3) 5 true ty24 rfl rfl rfl rfl (Nat.le_of_ble_eq_true rfl) (lt_of_ble rfl)
  apply Wk.sto (i := 4) 5 true ty62 rfl rfl rfl rfl (Nat.le_of_ble_eq_true rfl) (lt_of_ble rfl)
  apply Wk.asg (by conv => lhs; whnf) (lt_of_ble rfl)
  refine Wk.nil ?_
  obtain ⟨sdu, hs⟩ : ∃ sdu, sdu = bs.map (·.val) := ⟨_, rfl⟩
  have hz : Byt sdu := hs ▸ fin_byt bs
  have hl' : sdu.length ≤ 25 := by rw [hs, List.length_map]; exact hl
  have hfb : fbytes bs = bytesD sdu := by rw [hs]; rfl
  rw [hfb]
  clear hfb hs hl
  cases hok : crdOkB ⟨m, w, p, u, y⟩ x
  · have ci := icputNo m w p u y x (bytesD sdu) hok
    have cs := scputNo m w p u y x (bytesD sdu) hok
    refine AW.seq ?_
    apply AW.list
    apply Wk.ld (i := 3) 5 true ty24 rfl rfl (by conv => lhs; whnf) (lt_of_ble rfl)
    apply Wk.ld (i := 4) 5 true ty62 rfl rfl (by conv => lhs; whnf) (lt_of_ble rfl)
    apply Wk.mv (by conv => lhs; whnf) (lt_of_ble rfl)
    apply Wk.dat ci Try.func42 rfl rfl rfl rfl rfl (lt_of_ble rfl)
    apply Wk.mv (by conv => lhs; whnf) (lt_of_ble rfl)
    apply Wk.ext rfl rfl (lt_of_ble rfl)
    apply Wk.ext rfl rfl (lt_of_ble rfl)
    apply Wk.alc 6 [.int .i64 0, .slice none 0 0, .int .i64 0, .int .i64 0, .bool false] ze62 rfl rfl (lt_of_ble rfl)
    apply Wk.sto (i := 6) 5 true ty62 rfl rfl rfl rfl (Nat.le_of_ble_eq_true rfl) (lt_of_ble rfl)
    apply Wk.asg (by conv => lhs; whnf) (lt_of_ble rfl)
    refine Wk.nil ?_
    refine AW.seq ?_
    apply AW.list
    apply Wk.ld (i := 3) 5 true ty24 rfl rfl (by conv => lhs; whnf) (lt_of_ble rfl)
    apply Wk.ld (i := 4) 5 true ty62 rfl rfl (by conv => lhs; whnf) (lt_of_ble rfl)
    apply Wk.mv (by conv => lhs; whnf) (lt_of_ble rfl)
    apply Wk.dat cs Try.func43 rfl rfl rfl rfl rfl (lt_of_ble rfl)
    apply Wk.mv (by conv => lhs; whnf) (lt_of_ble rfl)
    apply Wk.ext rfl rfl (lt_of_ble rfl)
    apply Wk.ext rfl rfl (lt_of_ble rfl)
    apply Wk.alc 8 [.int .i64 0, .slice none 0 0, .int .i64 0, .int .i64 0, .bool false] ze62 rfl rfl (lt_of_ble rfl)
    apply Wk.sto (i := 8) 5 true ty62 rfl rfl rfl rfl (Nat.le_of_ble_eq_true rfl) (lt_of_ble rfl)
    apply Wk.asg (by conv => lhs; whnf) (lt_of_ble rfl)
    refine Wk.nil ?_
    refine AW.seq (AW.seq ?_)
    apply AW.draw (hm := hmix) (cs := _)
    · apply Wk.ld (i := 6) 5 true ty62 rfl rfl (by conv => lhs; whnf) (lt_of_ble rfl)
      apply Wk.ld (i := 8) 5 true ty62 rfl rfl (by conv => lhs; whnf) (lt_of_ble rfl)
      apply Wk.dat (liCtxE cx0) Try.func44 rfl rfl rfl rfl rfl (lt_of_ble rfl)
      apply Wk.un rfl (fun w => by simp [go_sem] <;> rfl) (lt_of_ble rfl)
      apply Wk.mv (by conv => lhs; whnf) (lt_of_ble rfl)
      apply Wk.gon 38 rfl rfl
      apply Wk.mv (by conv => lhs; whnf) (lt_of_ble rfl)
      apply Wk.gon 38 rfl rfl
      apply Wk.mv (by conv => lhs; whnf) (lt_of_ble rfl)
      apply Wk.gon 38 rfl rfl
      apply Wk.bin rfl rfl (r := .bool false) (fun w => by simp [go_sem]) (lt_of_ble rfl)
      apply Wk.pckF rfl (by conv => lhs; whnf) (lt_of_ble rfl)
      apply Wk.mv (by conv => lhs; whnf) (lt_of_ble rfl)
      apply Wk.gon 43 rfl rfl
      apply Wk.ld (i := 3) 5 true ty24 rfl rfl (by conv => lhs; whnf) (lt_of_ble rfl)
      apply Wk.gon 43 rfl rfl
      apply Wk.ld (i := 4) 5 true ty62 rfl rfl (by conv => lhs; whnf) (lt_of_ble rfl)
      apply Wk.gon 43 rfl rfl
      apply Wk.dat (icxb hok) Try.func45 rfl rfl rfl rfl rfl (lt_of_ble rfl)
      apply Wk.gon 43 rfl rfl
      apply Wk.ld (i := 3) 5 true ty24 rfl rfl (by conv => lhs; whnf) (lt_of_ble rfl)
      apply Wk.gon 43 rfl rfl
      apply Wk.ld (i := 4) 5 true ty62 rfl rfl (by conv => lhs; whnf) (lt_of_ble rfl)
      apply Wk.gon 43 rfl rfl
      apply Wk.dat (scxb hok) Try.func46 rfl rfl rfl rfl rfl (lt_of_ble rfl)
      apply Wk.gon 43 rfl rfl
      apply Wk.bin rfl rfl (r := .bool false) (fun w => by simp [go_sem]) (lt_of_ble rfl)
      apply Wk.pckF rfl (by conv => lhs; whnf) (lt_of_ble rfl)
      refine Wk.nil ?_
      refine AW.cond rfl (fun hc => by cases hc) (fun _ => AW.skip (thenA_normal ?_))
      refine AW.seq (AW.seq ?_)
      apply AW.list
      apply Wk.ld (i := 3) 5 true ty24 rfl rfl (by conv => lhs; whnf) (lt_of_ble rfl)
      apply Wk.ld (i := 4) 5 true ty62 rfl rfl (by conv => lhs; whnf) (lt_of_ble rfl)
      apply Wk.dat (scxb hok) Try.func46 rfl rfl rfl rfl rfl (lt_of_ble rfl)
      apply Wk.un rfl (fun w => by simp [go_sem] <;> rfl) (lt_of_ble rfl)
      refine Wk.nil ?_
      refine AW.cond rfl (fun _ => ?_) (fun hc => by cases hc)
      refine AW.seq ?_
      apply AW.list
      apply Wk.mv (by conv => lhs; whnf) (lt_of_ble rfl)
      apply Wk.un rfl (fun w => by simp [go_sem] <;> rfl) (lt_of_ble rfl)
      apply Wk.mv (by conv => lhs; whnf) (lt_of_ble rfl)
      apply Wk.gon 58 rfl rfl
      apply Wk.ld (i := 6) 5 true ty62 rfl rfl (by conv => lhs; whnf) (lt_of_ble rfl)
      apply Wk.gon 58 rfl rfl
      apply Wk.bld [.int .i64 0, .slice none 0 0, .int .i64 0, .int .i64 0, .bool false] [(0, 1), (1, 1), (2, 1), (3, 1), (4, 1)] bl62 rfl (by conv => lhs; whnf) (lt_of_ble rfl)
      apply Wk.gon 58 rfl rfl
      apply Wk.dat (liCtxE cx0) Try.func44 rfl rfl rfl rfl rfl (lt_of_ble rfl)
      apply Wk.pckT rfl (by conv => lhs; whnf) (lt_of_ble rfl)
      apply Wk.mv (by conv => lhs; whnf) (lt_of_ble rfl)
      apply Wk.gon 63 rfl rfl
      apply Wk.dat liok_ok Try.func19 rfl rfl rfl rfl rfl (lt_of_ble rfl)
      apply Wk.pckT rfl (by conv => lhs; whnf) (lt_of_ble rfl)
      apply Wk.asg (by conv => lhs; whnf) (lt_of_ble rfl)
      refine Wk.nil (AW.ret ?_)
      refine thenA_ret ?_
      exact RetQ.ret [] (.cons rfl .nil) ⟨rfl, rfl⟩ none_kept
    · rfl
    · rfl
  · have ci := icput_ok m w p u y x sdu hz (by omega) hok
    have cs := scput_ok m w p u y x sdu hz (by omega) hok
    have ct := icut_ok sdu p hz (by omega)
    have f := crdOk_facts hok
    have hfq := f.2.2.1
    have hcl := cutD_length sdu p
    have g2 := cput_still (o := ⟨m, w, p, u, y⟩) (sdu := sdu) hok
    simp only at g2
    have e1 : (((sdu.map fun z : Nat => [D.v (.int .u8 (z : Int))]).length : Nat) : Int) = (sdu.length : Int) := by rw [List.length_map]
    have e2 : ((((cutD sdu p).map datD).length : Nat) : Int) = ((cutD sdu p).length : Int) := by rw [List.length_map]
    have e3 : (((x.qu.map datD).length : Nat) : Int) = (x.qu.length : Int) := by rw [List.length_map]
    by_cases hi : x.d = true ∨ u < (sdu.length : Int) ∨ 24 < x.qu.length + (cutD sdu p).length
    · have d1 : cputX u x sdu.length (cutD sdu p) = x := if_pos hi
      have d2 : cputB u x sdu.length (cutD sdu p) = false := decide_eq_false (fun h => h hi)
      rw [d1, d2] at ci cs
      refine AW.seq ?_
      apply AW.list
      apply Wk.ld (i := 3) 5 true ty24 rfl rfl (by conv => lhs; whnf) (lt_of_ble rfl)
      apply Wk.ld (i := 4) 5 true ty62 rfl rfl (by conv => lhs; whnf) (lt_of_ble rfl)
      apply Wk.mv (by conv => lhs; whnf) (lt_of_ble rfl)
      apply Wk.dat ci Try.func42 rfl rfl rfl rfl rfl (lt_of_ble rfl)
      apply Wk.mv (by conv => lhs; whnf) (lt_of_ble rfl)
      apply Wk.ext rfl rfl (lt_of_ble rfl)
      apply Wk.ext rfl rfl (lt_of_ble rfl)
      apply Wk.alc 6 [.int .i64 0, .slice none 0 0, .int .i64 0, .int .i64 0, .bool false] ze62 rfl rfl (lt_of_ble rfl)
      apply Wk.sto (i := 6) 5 true ty62 rfl rfl rfl rfl (Nat.le_of_ble_eq_true rfl) (lt_of_ble rfl)
      apply Wk.asg (by conv => lhs; whnf) (lt_of_ble rfl)
      refine Wk.nil ?_
      refine AW.seq ?_
      apply AW.list
      apply Wk.ld (i := 3) 5 true ty24 rfl rfl (by conv => lhs; whnf) (lt_of_ble rfl)
      apply Wk.ld (i := 4) 5 true ty62 rfl rfl (by conv => lhs; whnf) (lt_of_ble rfl)
      apply Wk.mv (by conv => lhs; whnf) (lt_of_ble rfl)
      apply Wk.dat cs Try.func43 rfl rfl rfl rfl rfl (lt_of_ble rfl)
      apply Wk.mv (by conv => lhs; whnf) (lt_of_ble rfl)
      apply Wk.ext rfl rfl (lt_of_ble rfl)
      apply Wk.ext rfl rfl (lt_of_ble rfl)
      apply Wk.alc 8 [.int .i64 0, .slice none 0 0, .int .i64 0, .int .i64 0, .bool false] ze62 rfl rfl (lt_of_ble rfl)
      apply Wk.sto (i := 8) 5 true ty62 rfl rfl rfl rfl (Nat.le_of_ble_eq_true rfl) (lt_of_ble rfl)
      apply Wk.asg (by conv => lhs; whnf) (lt_of_ble rfl)
      refine Wk.nil ?_
      refine AW.seq (AW.seq ?_)
      apply AW.draw (hm := hmix) (cs := _)
      · apply Wk.ld (i := 6) 5 true ty62 rfl rfl (by conv => lhs; whnf) (lt_of_ble rfl)
        apply Wk.ld (i := 8) 5 true ty62 rfl rfl (by conv => lhs; whnf) (lt_of_ble rfl)
        apply Wk.dat (liCtxE _) Try.func44 rfl rfl rfl rfl rfl (lt_of_ble rfl)
        apply Wk.un rfl (fun w => by simp [go_sem] <;> rfl) (lt_of_ble rfl)
        apply Wk.mv (by conv => lhs; whnf) (lt_of_ble rfl)
        apply Wk.gon 38 rfl rfl
        apply Wk.mv (by conv => lhs; whnf) (lt_of_ble rfl)
        apply Wk.gon 38 rfl rfl
        apply Wk.mv (by conv => lhs; whnf) (lt_of_ble rfl)
        apply Wk.gon 38 rfl rfl
        apply Wk.bin rfl rfl (r := .bool false) (fun w => by simp [go_sem]) (lt_of_ble rfl)
        apply Wk.pckF rfl (by conv => lhs; whnf) (lt_of_ble rfl)
        apply Wk.mv (by conv => lhs; whnf) (lt_of_ble rfl)
        apply Wk.gon 43 rfl rfl
        apply Wk.ld (i := 3) 5 true ty24 rfl rfl (by conv => lhs; whnf) (lt_of_ble rfl)
        apply Wk.gon 43 rfl rfl
        apply Wk.ld (i := 4) 5 true ty62 rfl rfl (by conv => lhs; whnf) (lt_of_ble rfl)
        apply Wk.gon 43 rfl rfl
        apply Wk.dat (icxb hok) Try.func45 rfl rfl rfl rfl rfl (lt_of_ble rfl)
        apply Wk.gon 43 rfl rfl
        apply Wk.ld (i := 3) 5 true ty24 rfl rfl (by conv => lhs; whnf) (lt_of_ble rfl)
        apply Wk.gon 43 rfl rfl
        apply Wk.ld (i := 4) 5 true ty62 rfl rfl (by conv => lhs; whnf) (lt_of_ble rfl)
        apply Wk.gon 43 rfl rfl
        apply Wk.dat (scxb hok) Try.func46 rfl rfl rfl rfl rfl (lt_of_ble rfl)
        apply Wk.gon 43 rfl rfl
        apply Wk.bin rfl rfl (r := .bool false) (fun w => by simp [go_sem]) (lt_of_ble rfl)
        apply Wk.pckF rfl (by conv => lhs; whnf) (lt_of_ble rfl)
        refine Wk.nil ?_
        refine AW.cond rfl (fun hc => by cases hc) (fun _ => AW.skip (thenA_normal ?_))
        refine AW.seq (AW.seq ?_)
        apply AW.list
        apply Wk.ld (i := 3) 5 true ty24 rfl rfl (by conv => lhs; whnf) (lt_of_ble rfl)
        apply Wk.ld (i := 4) 5 true ty62 rfl rfl (by conv => lhs; whnf) (lt_of_ble rfl)
        apply Wk.dat (scxb hok) Try.func46 rfl rfl rfl rfl rfl (lt_of_ble rfl)
        apply Wk.un rfl (fun w => by simp [go_sem] <;> rfl) (lt_of_ble rfl)
        refine Wk.nil ?_
        refine AW.cond rfl (fun hc => by cases hc) (fun _ => AW.skip (thenA_normal ?_))
        refine AW.seq ?_
        apply AW.list
        apply Wk.mv (by conv => lhs; whnf) (lt_of_ble rfl)
        apply Wk.fad 2 0 false fd24_2 rfl (lt_of_ble rfl)
        apply Wk.ld (i := 3) 1 false ty3 rfl rfl (by conv => lhs; whnf) (lt_of_ble rfl)
        apply Wk.dat ct Try.func20 rfl rfl rfl rfl rfl (lt_of_ble rfl)
        apply Wk.asg (by conv => lhs; whnf) (lt_of_ble rfl)
        refine Wk.nil ?_
        refine AW.seq (AW.seq ?_)
        apply AW.list
        apply Wk.mv (by conv => lhs; whnf) (lt_of_ble rfl)
        apply Wk.un rfl (fun w => by simp [go_sem] <;> rfl) (lt_of_ble rfl)
        refine Wk.nil ?_
        refine AW.cond rfl (fun _ => ?_) (fun hc => by cases hc)
        refine AW.seq ?_
        obtain ⟨v, qu, g, s, dd⟩ := x
        simp only at hi e3 hfq
        cases dd
        · by_cases c2 : u < (sdu.length : Int)
          · skip
            apply AW.list
            apply Wk.ld (i := 6) 5 true ty62 rfl rfl (by conv => lhs; whnf) (lt_of_ble rfl)
            apply Wk.ld (i := 4) 5 true ty62 rfl rfl (by conv => lhs; whnf) (lt_of_ble rfl)
            apply Wk.dat (liCtxE _) Try.func44 rfl rfl rfl rfl rfl (lt_of_ble rfl)
            apply Wk.mv (by conv => lhs; whnf) (lt_of_ble rfl)
            apply Wk.gon 75 rfl rfl
            apply Wk.fad 4 0 false fd62_4 rfl (lt_of_ble rfl)
            apply Wk.gon 75 rfl rfl
            apply Wk.ld (i := 4) 1 false ty4 rfl rfl (by conv => lhs; whnf) (lt_of_ble rfl)
            apply Wk.gon 75 rfl rfl
            apply Wk.mv (by conv => lhs; whnf) (lt_of_ble rfl)
            apply Wk.gon 78 rfl rfl
            apply Wk.mv (by conv => lhs; whnf) (lt_of_ble rfl)
            apply Wk.gon 78 rfl rfl
            apply Wk.len un22 rfl (lt_of_ble rfl)
            apply Wk.gon 78 rfl rfl
            apply Wk.fad 3 0 false fd24_3 rfl (lt_of_ble rfl)
            apply Wk.gon 78 rfl rfl
            apply Wk.ld (i := 3) 1 false ty3 rfl rfl (by conv => lhs; whnf) (lt_of_ble rfl)
            apply Wk.gon 78 rfl rfl
            apply Wk.bin rfl rfl (r := .bool true) (fun w => by rw [e1]; simp [go_sem] <;> omega) (lt_of_ble rfl)
            apply Wk.gon 75 rfl rfl
            apply Wk.pckF rfl (by conv => lhs; whnf) (lt_of_ble rfl)
            apply Wk.gon 75 rfl rfl
            apply Wk.mv (by conv => lhs; whnf) (lt_of_ble rfl)
            apply Wk.goff 85 (ok_faddr fd62_1) rfl rfl (by simp)
            apply Wk.goff 85 (ok_load 4 ty25) rfl rfl (by simp)
            apply Wk.goff 85 (ok_len un25) rfl rfl (by simp)
            apply Wk.goff 85 (ok_move _) rfl rfl (by simp)
            apply Wk.goff 85 (ok_len un25) rfl rfl (by simp)
            apply Wk.goff 85 (ok_bin _ _ _ _ _) rfl rfl (by simp)
            apply Wk.goff 85 (ok_bin _ _ _ _ _) rfl rfl (by simp)
            apply Wk.gon 75 rfl rfl
            apply Wk.pckT rfl (by conv => lhs; whnf) (lt_of_ble rfl)
            apply Wk.pckT rfl (by conv => lhs; whnf) (lt_of_ble rfl)
            apply Wk.asg (by conv => lhs; whnf) (lt_of_ble rfl)
            refine Wk.nil (AW.ret ?_)
            refine thenA_ret ?_
            exact RetQ.ret [] (.cons rfl .nil) ⟨rfl, rfl⟩ none_kept
          · have c3 : 24 < qu.length + (cutD sdu p).length := by rcases hi with h | h | h <;> first | exact absurd h c2 | exact h | cases h
            apply AW.list
            apply Wk.ld (i := 6) 5 true ty62 rfl rfl (by conv => lhs; whnf) (lt_of_ble rfl)
            apply Wk.ld (i := 4) 5 true ty62 rfl rfl (by conv => lhs; whnf) (lt_of_ble rfl)
            apply Wk.dat (liCtxE _) Try.func44 rfl rfl rfl rfl rfl (lt_of_ble rfl)
            apply Wk.mv (by conv => lhs; whnf) (lt_of_ble rfl)
            apply Wk.gon 75 rfl rfl
            apply Wk.fad 4 0 false fd62_4 rfl (lt_of_ble rfl)
            apply Wk.gon 75 rfl rfl
            apply Wk.ld (i := 4) 1 false ty4 rfl rfl (by conv => lhs; whnf) (lt_of_ble rfl)
            apply Wk.gon 75 rfl rfl
            apply Wk.mv (by conv => lhs; whnf) (lt_of_ble rfl)
            apply Wk.gon 78 rfl rfl
            apply Wk.mv (by conv => lhs; whnf) (lt_of_ble rfl)
            apply Wk.gon 78 rfl rfl
            apply Wk.len un22 rfl (lt_of_ble rfl)
            apply Wk.gon 78 rfl rfl
            apply Wk.fad 3 0 false fd24_3 rfl (lt_of_ble rfl)
            apply Wk.gon 78 rfl rfl
            apply Wk.ld (i := 3) 1 false ty3 rfl rfl (by conv => lhs; whnf) (lt_of_ble rfl)
            apply Wk.gon 78 rfl rfl
            apply Wk.bin rfl rfl (r := .bool false) (fun w => by rw [e1]; simp [go_sem] <;> omega) (lt_of_ble rfl)
            apply Wk.gon 75 rfl rfl
            apply Wk.pckF rfl (by conv => lhs; whnf) (lt_of_ble rfl)
            apply Wk.gon 75 rfl rfl
            apply Wk.mv (by conv => lhs; whnf) (lt_of_ble rfl)
            apply Wk.gon 85 rfl rfl
            apply Wk.fad 1 0 false fd62_1 rfl (lt_of_ble rfl)
            apply Wk.gon 85 rfl rfl
            apply Wk.ld (i := 4) 1 false ty25 rfl rfl (by conv => lhs; whnf) (lt_of_ble rfl)
            apply Wk.gon 85 rfl rfl
            apply Wk.len un25 rfl (lt_of_ble rfl)
            apply Wk.gon 85 rfl rfl
            apply Wk.mv (by conv => lhs; whnf) (lt_of_ble rfl)
            apply Wk.gon 85 rfl rfl
            apply Wk.len un25 rfl (lt_of_ble rfl)
            apply Wk.gon 85 rfl rfl
            apply Wk.addi rfl rfl (by rw [e2, e3]; omega) (lt_of_ble rfl)
            apply Wk.gon 85 rfl rfl
            apply Wk.bin rfl rfl (r := .bool true) (fun w => by rw [e2, e3]; simp [go_sem] <;> omega) (lt_of_ble rfl)
            apply Wk.gon 75 rfl rfl
            apply Wk.pckF rfl (by conv => lhs; whnf) (lt_of_ble rfl)
            apply Wk.pckT rfl (by conv => lhs; whnf) (lt_of_ble rfl)
            apply Wk.asg (by conv => lhs; whnf) (lt_of_ble rfl)
            refine Wk.nil (AW.ret ?_)
            refine thenA_ret ?_
            exact RetQ.ret [] (.cons rfl .nil) ⟨rfl, rfl⟩ none_kept
        · skip
          apply AW.list
          apply Wk.ld (i := 6) 5 true ty62 rfl rfl (by conv => lhs; whnf) (lt_of_ble rfl)
          apply Wk.ld (i := 4) 5 true ty62 rfl rfl (by conv => lhs; whnf) (lt_of_ble rfl)
          apply Wk.dat (liCtxE _) Try.func44 rfl rfl rfl rfl rfl (lt_of_ble rfl)
          apply Wk.mv (by conv => lhs; whnf) (lt_of_ble rfl)
          apply Wk.gon 75 rfl rfl
          apply Wk.fad 4 0 false fd62_4 rfl (lt_of_ble rfl)
          apply Wk.gon 75 rfl rfl
          apply Wk.ld (i := 4) 1 false ty4 rfl rfl (by conv => lhs; whnf) (lt_of_ble rfl)
          apply Wk.gon 75 rfl rfl
          apply Wk.mv (by conv => lhs; whnf) (lt_of_ble rfl)
          apply Wk.goff 78 (ok_move _) rfl rfl (by simp)
          apply Wk.goff 78 (ok_len un22) rfl rfl (by simp)
          apply Wk.goff 78 (ok_faddr fd24_3) rfl rfl (by simp)
          apply Wk.goff 78 (ok_load 3 ty3) rfl rfl (by simp)
          apply Wk.goff 78 (ok_bin _ _ _ _ _) rfl rfl (by simp)
          apply Wk.gon 75 rfl rfl
          apply Wk.pckT rfl (by conv => lhs; whnf) (lt_of_ble rfl)
          apply Wk.gon 75 rfl rfl
          apply Wk.mv (by conv => lhs; whnf) (lt_of_ble rfl)
          apply Wk.goff 85 (ok_faddr fd62_1) rfl rfl (by simp)
          apply Wk.goff 85 (ok_load 4 ty25) rfl rfl (by simp)
          apply Wk.goff 85 (ok_len un25) rfl rfl (by simp)
          apply Wk.goff 85 (ok_move _) rfl rfl (by simp)
          apply Wk.goff 85 (ok_len un25) rfl rfl (by simp)
          apply Wk.goff 85 (ok_bin _ _ _ _ _) rfl rfl (by simp)
          apply Wk.goff 85 (ok_bin _ _ _ _ _) rfl rfl (by simp)
          apply Wk.gon 75 rfl rfl
          apply Wk.pckT rfl (by conv => lhs; whnf) (lt_of_ble rfl)
          apply Wk.pckT rfl (by conv => lhs; whnf) (lt_of_ble rfl)
          apply Wk.asg (by conv => lhs; whnf) (lt_of_ble rfl)
          refine Wk.nil (AW.ret ?_)
          refine thenA_ret ?_
          exact RetQ.ret [] (.cons rfl .nil) ⟨rfl, rfl⟩ none_kept
      · rfl
      · rfl
    · have d1 : cputX u x sdu.length (cutD sdu p) = { x with qu := x.qu ++ cutD sdu p } := if_neg hi
      have d2 : cputB u x sdu.length (cutD sdu p) = true := decide_eq_true hi
      rw [d1, d2] at ci cs
      rw [d1] at g2
      simp only [not_or] at hi
      have hez : ∀ c ∈ [] ++ (x.qu.map datD).map (·.map A.d), c.length = 3 := by
        intro c hc
        simp only [List.nil_append] at hc
        obtain ⟨q, hq, rfl⟩ := List.mem_map.1 hc
        rw [List.length_map]
        exact datD_len _ q hq
      have has : asData ([] ++ (x.qu.map datD).map (·.map A.d) ++ ((cutD sdu p).map datD).map (·.map A.d)) ((x.qu ++ cutD sdu p).map datD) := by
        have h1 := asData_parts (x.qu ++ cutD sdu p)
        simp only [asData, piecesA, List.map_append, List.map_map, List.nil_append] at h1 ⊢
        exact h1
      refine AW.seq ?_
      apply AW.list
      apply Wk.ld (i := 3) 5 true ty24 rfl rfl (by conv => lhs; whnf) (lt_of_ble rfl)
      apply Wk.ld (i := 4) 5 true ty62 rfl rfl (by conv => lhs; whnf) (lt_of_ble rfl)
      apply Wk.mv (by conv => lhs; whnf) (lt_of_ble rfl)
      apply Wk.dat ci Try.func42 rfl rfl rfl rfl rfl (lt_of_ble rfl)
      apply Wk.mv (by conv => lhs; whnf) (lt_of_ble rfl)
      apply Wk.ext rfl rfl (lt_of_ble rfl)
      apply Wk.ext rfl rfl (lt_of_ble rfl)
      apply Wk.alc 6 [.int .i64 0, .slice none 0 0, .int .i64 0, .int .i64 0, .bool false] ze62 rfl rfl (lt_of_ble rfl)
      apply Wk.sto (i := 6) 5 true ty62 rfl rfl rfl rfl (Nat.le_of_ble_eq_true rfl) (lt_of_ble rfl)
      apply Wk.asg (by conv => lhs; whnf) (lt_of_ble rfl)
      refine Wk.nil ?_
      refine AW.seq ?_
      apply AW.list
      apply Wk.ld (i := 3) 5 true ty24 rfl rfl (by conv => lhs; whnf) (lt_of_ble rfl)
      apply Wk.ld (i := 4) 5 true ty62 rfl rfl (by conv => lhs; whnf) (lt_of_ble rfl)
      apply Wk.mv (by conv => lhs; whnf) (lt_of_ble rfl)
      apply Wk.dat cs Try.func43 rfl rfl rfl rfl rfl (lt_of_ble rfl)
      apply Wk.mv (by conv => lhs; whnf) (lt_of_ble rfl)
      apply Wk.ext rfl rfl (lt_of_ble rfl)
      apply Wk.ext rfl rfl (lt_of_ble rfl)
      apply Wk.alc 8 [.int .i64 0, .slice none 0 0, .int .i64 0, .int .i64 0, .bool false] ze62 rfl rfl (lt_of_ble rfl)
      apply Wk.sto (i := 8) 5 true ty62 rfl rfl rfl rfl (Nat.le_of_ble_eq_true rfl) (lt_of_ble rfl)
      apply Wk.asg (by conv => lhs; whnf) (lt_of_ble rfl)
      refine Wk.nil ?_
      refine AW.seq (AW.seq ?_)
      apply AW.draw (hm := hmix) (cs := _)
      · apply Wk.ld (i := 6) 5 true ty62 rfl rfl (by conv => lhs; whnf) (lt_of_ble rfl)
        apply Wk.ld (i := 8) 5 true ty62 rfl rfl (by conv => lhs; whnf) (lt_of_ble rfl)
        apply Wk.dat (liCtxE _) Try.func44 rfl rfl rfl rfl rfl (lt_of_ble rfl)
        apply Wk.un rfl (fun w => by simp [go_sem] <;> rfl) (lt_of_ble rfl)
        apply Wk.mv (by conv => lhs; whnf) (lt_of_ble rfl)
        apply Wk.gon 38 rfl rfl
        apply Wk.mv (by conv => lhs; whnf) (lt_of_ble rfl)
        apply Wk.gon 38 rfl rfl
        apply Wk.mv (by conv => lhs; whnf) (lt_of_ble rfl)
        apply Wk.gon 38 rfl rfl
        apply Wk.bin rfl rfl (r := .bool false) (fun w => by simp [go_sem]) (lt_of_ble rfl)
        apply Wk.pckF rfl (by conv => lhs; whnf) (lt_of_ble rfl)
        apply Wk.mv (by conv => lhs; whnf) (lt_of_ble rfl)
        apply Wk.gon 43 rfl rfl
        apply Wk.ld (i := 3) 5 true ty24 rfl rfl (by conv => lhs; whnf) (lt_of_ble rfl)
        apply Wk.gon 43 rfl rfl
        apply Wk.ld (i := 4) 5 true ty62 rfl rfl (by conv => lhs; whnf) (lt_of_ble rfl)
        apply Wk.gon 43 rfl rfl
        apply Wk.dat (icxb hok) Try.func45 rfl rfl rfl rfl rfl (lt_of_ble rfl)
        apply Wk.gon 43 rfl rfl
        apply Wk.ld (i := 3) 5 true ty24 rfl rfl (by conv => lhs; whnf) (lt_of_ble rfl)
        apply Wk.gon 43 rfl rfl
        apply Wk.ld (i := 4) 5 true ty62 rfl rfl (by conv => lhs; whnf) (lt_of_ble rfl)
        apply Wk.gon 43 rfl rfl
        apply Wk.dat (scxb hok) Try.func46 rfl rfl rfl rfl rfl (lt_of_ble rfl)
        apply Wk.gon 43 rfl rfl
        apply Wk.bin rfl rfl (r := .bool false) (fun w => by simp [go_sem]) (lt_of_ble rfl)
        apply Wk.pckF rfl (by conv => lhs; whnf) (lt_of_ble rfl)
        refine Wk.nil ?_
        refine AW.cond rfl (fun hc => by cases hc) (fun _ => AW.skip (thenA_normal ?_))
        refine AW.seq (AW.seq ?_)
        apply AW.list
        apply Wk.ld (i := 3) 5 true ty24 rfl rfl (by conv => lhs; whnf) (lt_of_ble rfl)
        apply Wk.ld (i := 4) 5 true ty62 rfl rfl (by conv => lhs; whnf) (lt_of_ble rfl)
        apply Wk.dat (scxb hok) Try.func46 rfl rfl rfl rfl rfl (lt_of_ble rfl)
        apply Wk.un rfl (fun w => by simp [go_sem] <;> rfl) (lt_of_ble rfl)
        refine Wk.nil ?_
        refine AW.cond rfl (fun hc => by cases hc) (fun _ => AW.skip (thenA_normal ?_))
        refine AW.seq ?_
        apply AW.list
        apply Wk.mv (by conv => lhs; whnf) (lt_of_ble rfl)
        apply Wk.fad 2 0 false fd24_2 rfl (lt_of_ble rfl)
        apply Wk.ld (i := 3) 1 false ty3 rfl rfl (by conv => lhs; whnf) (lt_of_ble rfl)
        apply Wk.dat ct Try.func20 rfl rfl rfl rfl rfl (lt_of_ble rfl)
        apply Wk.asg (by conv => lhs; whnf) (lt_of_ble rfl)
        refine Wk.nil ?_
        refine AW.seq (AW.seq ?_)
        apply AW.list
        apply Wk.mv (by conv => lhs; whnf) (lt_of_ble rfl)
        apply Wk.un rfl (fun w => by simp [go_sem] <;> rfl) (lt_of_ble rfl)
        refine Wk.nil ?_
        refine AW.cond rfl (fun hc => by cases hc) (fun _ => AW.skip (thenA_normal ?_))
        refine AW.seq ?_
        apply AW.draw (hm := hmix) (cs := _)
        · apply Wk.ld (i := 3) 5 true ty24 rfl rfl (by conv => lhs; whnf) (lt_of_ble rfl)
          apply Wk.ld (i := 6) 5 true ty62 rfl rfl (by conv => lhs; whnf) (lt_of_ble rfl)
          apply Wk.dat (icxb g2) Try.func45 rfl rfl rfl rfl rfl (lt_of_ble rfl)
          apply Wk.mv (by conv => lhs; whnf) (lt_of_ble rfl)
          apply Wk.gon 98 rfl rfl
          apply Wk.fad 0 0 false fd62_0 rfl (lt_of_ble rfl)
          apply Wk.gon 98 rfl rfl
          apply Wk.ld (i := 6) 1 false ty3 rfl rfl (by conv => lhs; whnf) (lt_of_ble rfl)
          apply Wk.gon 98 rfl rfl
          apply Wk.fad 0 0 false fd62_0 rfl (lt_of_ble rfl)
          apply Wk.gon 98 rfl rfl
          apply Wk.ld (i := 4) 1 false ty3 rfl rfl (by conv => lhs; whnf) (lt_of_ble rfl)
          apply Wk.gon 98 rfl rfl
          apply Wk.bin rfl rfl (r := .bool true) (fun w => by simp [go_sem]) (lt_of_ble rfl)
          apply Wk.pckT rfl (by conv => lhs; whnf) (lt_of_ble rfl)
          apply Wk.mv (by conv => lhs; whnf) (lt_of_ble rfl)
          apply Wk.gon 105 rfl rfl
          apply Wk.fad 1 0 false fd62_1 rfl (lt_of_ble rfl)
          apply Wk.gon 105 rfl rfl
          apply Wk.ld (i := 6) 1 false ty25 rfl rfl (by conv => lhs; whnf) (lt_of_ble rfl)
          apply Wk.gon 105 rfl rfl
          apply Wk.lst 108 3 true [.int .i64 0, .int .i64 0, .slice none 0 0] un25 ty47 ze47 rfl rfl (by rfl) (by rfl) (by decide) (by decide) rfl rfl (all_len rfl) (lt_of_ble rfl)
          apply Wk.gon 105 rfl rfl
          apply Wk.fad 1 0 false fd62_1 rfl (lt_of_ble rfl)
          apply Wk.gon 105 rfl rfl
          apply Wk.ld (i := 4) 1 false ty25 rfl rfl (by conv => lhs; whnf) (lt_of_ble rfl)
          apply Wk.gon 105 rfl rfl
          apply Wk.appOR 108 1000 3 un25 ap47 rfl rfl rfl (.inr rfl) (by decide) (datD_len _) (by simp) (by simp; omega) (lt_of_ble rfl)
          apply Wk.gon 105 rfl rfl
          apply Wk.mv (by conv => lhs; whnf) (lt_of_ble rfl)
          apply Wk.gon 105 rfl rfl
          apply Wk.appOR 108 1000 3 un25 ap47 rfl rfl rfl (.inr rfl) (by decide) (datD_len _) hez (by simp; omega) (lt_of_ble rfl)
          apply Wk.gon 105 rfl rfl
          apply Wk.thaw 113 108 _ hX rfl (by rfl) has
          apply Wk.dat (liPartsE (x.qu ++ cutD sdu p)) Try.func21 rfl rfl rfl rfl rfl (lt_of_ble rfl)
          apply Wk.pckT rfl (by conv => lhs; whnf) (lt_of_ble rfl)
          apply Wk.asg (by conv => lhs; whnf) (lt_of_ble rfl)
          refine Wk.nil (AW.ret ?_)
          exact RetQ.ret [] (.cons rfl .nil) ⟨rfl, rfl⟩ none_kept
        · rfl
        · rfl
      · rfl
      · rfl
namespace fnCrdPut
set_option maxRecDepth 100000 in
theorem walk (a0 : Option Addr) (len0 cap0 : Nat) (z0 : List Int) (w : World) (w0 : IsRow .u8 w a0 len0 cap0 z0) :
    Calls Try.prog 12 #[.slice a0 len0 cap0] w fun e w' => e = .returned (.bool true) ∧ Below w.heap.size w w' := by
  by_cases hs0 : (1048576 : Int) < (len0 : Int)
  · go_enter Try.func12, Try.ntmps12
    go_wp2
    go_ret
    exact ⟨rfl, Below.refl _ _⟩
  obtain ⟨cz, hR0, _⟩ := w0.rd (by omega)
  obtain ⟨zs, rfl⟩ := byt_fin hR0.1
  exact (lawCrdPut_ok zs).run hR0
end fnCrdPut
end Go.Proofs.Ytdojkmjamilllaa
