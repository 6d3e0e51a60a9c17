/- The law of TxOk, promise 32, returns true at every code. -/
import Derived.Test.YtpiihfogdjihdaaMa
import Derived.Test.YtpiihfogdjihdaaMb
import Derived.Test.YtpiihfogdjihdaaMc
import Derived.Test.YtpiihfogdjihdaaMd
import Derived.Test.YtpiihfogdjihdaaMe
import Derived.Test.YtpiihfogdjihdaaMf
import Derived.RowKit3
namespace Go.Proofs.Ytpiihfogdjihdaa
open Go Go.RowKit
theorem itxb {m w p u y : Int} {x : TX} {b : Bool} (h : txOkB ⟨m, w, p, u, y⟩ x = b) : DataOk Try.prog 12 [cfgA m w p u y, txA x] (.d (.v (.bool b))) := h ▸ itx_ok m w p u y x
def ctxPost (_ : List A) (r : A) : Prop := ∃ (m w p u y : Int) (x : TX), r = .tup [cfgA m w p u y, txA x] ∧ x.wide
set_option maxRecDepth 100000 in
theorem drawTxOk_ok (zs : List (Fin 256)) : DataW Try.prog 11 [.d (bytesD (zs.map (·.val)))] (ctxPost []) := by
  refine ⟨?_, ⟨_, 0, 0, 0, 0, 0, tx0, rfl, tx0_good.wide⟩, ?_⟩
  · refine id ?_
    refine Spec.intro (n := 14) (rv := [.cell 2 31, .cell 3 25]) Try.func11 rfl rfl rfl (by simp) fun C hN hX => ?_
    refine AW.seq ?_
    apply AW.list
    apply Wk.alc 2 [.int .i64 0, .int .i64 0, .int .i64 0, .int .i64 0, .int .i64 0] ze31 rfl rfl (lt_of_ble rfl)
    apply Wk.alc 3 [.int .i64 0, .int .i64 0, .slice none 0 0, .int .i64 0, .slice none 0 0, .bool false, .int .i64 0, .bool false, .int .i64 0, .bool false] ze25 rfl rfl (lt_of_ble rfl)
    refine Wk.nil ?_
    refine AW.seq ?_
    apply AW.list
    apply Wk.mv (by conv => lhs; whnf) (lt_of_ble rfl)
    apply Wk.opn open_ok Try.func23 rfl rfl rfl rfl (lt_of_ble rfl)
    rintro zs1
    apply Wk.asg (by conv => lhs; whnf) (lt_of_ble rfl)
    refine Wk.nil ?_
    refine AW.seq ?_
    apply AW.list
    apply Wk.mv (by conv => lhs; whnf) (lt_of_ble rfl)
    apply Wk.drw 0 cfg_ok Try.func25 rfl rfl rfl rfl ⟨12, rfl, by omega, by omega⟩ (by omega) rfl (lt_of_ble rfl)
    rintro r2 zs2 p2 ⟨m, w, s, t, y, rfl, hb, _⟩ hp2
    apply Wk.alc 50 [.int .i64 0, .int .i64 0, .int .i64 0, .int .i64 0, .int .i64 0] ze31 rfl rfl (lt_of_ble rfl)
    apply Wk.sto (i := 50) 5 true ty31 rfl rfl rfl rfl (Nat.le_of_ble_eq_true rfl) (lt_of_ble rfl)
    refine Wk.nil ?_
    refine AW.seq ?_
    apply AW.draw (hm := hmix) (cs := _)
    · apply Wk.ld (i := 50) 5 true ty31 rfl rfl (by conv => lhs; whnf) (lt_of_ble rfl)
      apply Wk.mv (by conv => lhs; whnf) (lt_of_ble rfl)
      apply Wk.ld (i := 50) 5 true ty31 rfl rfl (by conv => lhs; whnf) (lt_of_ble rfl)
      apply Wk.drw 0 l20Tx_ok Try.func24 rfl rfl rfl rfl ⟨m, w, s, t, y, 2, rfl, hb, by omega, by omega⟩ (by omega) rfl (lt_of_ble rfl)
      rintro r3 zs3 p3 ⟨x, rfl, hx⟩ hp3
      apply Wk.sto (i := 2) 5 true ty31 rfl rfl rfl rfl (Nat.le_of_ble_eq_true rfl) (lt_of_ble rfl)
      apply Wk.sto (i := 3) 10 true ty25 rfl rfl rfl rfl (Nat.le_of_ble_eq_true rfl) (lt_of_ble rfl)
      refine Wk.nil (AW.ret ?_)
      exact RetQ.ret [] (.cons ⟨2, 0, _, _, _, rfl, rfl, ty31, rfl⟩ (.cons ⟨3, 0, _, _, _, rfl, rfl, ty25, rfl⟩ .nil)) ⟨⟨m, w, s, t, y, x, rfl, hx⟩, rfl⟩ none_kept
    · rfl
    · rfl
  · rintro r ⟨m, w, p, u, y, x, rfl, _⟩; rfl
theorem tx_next {o : Opt} {x : TX} (h : txOkB o x = true) : txOkB o { x with n := (x.n + 1) % 8 } = false := by
  have f := txOk_facts h
  obtain ⟨-, hw, -, -, -, hn, ha, hl, hf, -⟩ := f
  have hn := (inB_iff _ _ _).1 hn
  have ha := (inB_iff _ _ _).1 ha
  rw [farF_in (by omega) (by omega)] at hf
  cases hc : txOkB o { x with n := (x.n + 1) % 8 } with
  | false => rfl
  | true =>
    have f' := (txOk_facts hc).2.2.2.2.2.2.2.2.1
    simp only at f'
    rw [farF_in (by omega) (by omega)] at f'
    omega
theorem tx_piece {o : Opt} {x : TX} (h : txOkB o x = true) (d : Dat) : txOkB o { x with fl := x.fl ++ [d] } = false := by
  have f := (txOk_facts h).2.2.2.2.2.2.2.2.1
  cases hc : txOkB o { x with fl := x.fl ++ [d] } with
  | false => rfl
  | true =>
    have f' := (txOk_facts hc).2.2.2.2.2.2.2.2.1
    simp only [List.length_append, List.length_singleton] at f'
    omega
theorem tx_count {o : Opt} {x : TX} (h : txOkB o x = true) : txOkB o { x with c := x.c + 1 } = false := by
  have f := (txOk_facts h).2.2.2.2.2.2.2.2.2.2.2.2
  cases hc : txOkB o { x with c := x.c + 1 } with
  | false => rfl
  | true =>
    have f' := (txOk_facts hc).2.2.2.2.2.2.2.2.2.2.2.2
    have h1 := f.2.1
    have h2 := f'.2.1
    simp only at h2
    omega
theorem inextb (n : Int) : DataOk Try.prog 14 [.d (.v (.int .i64 n))] (.d (.v (.int .i64 ((n + 1) % 8)))) := int1 (impl_next n)
set_option maxHeartbeats 2000000 in
set_option maxRecDepth 100000 in
theorem lawTxOk_ok (zs : List (Fin 256)) : DataOk Try.prog 4 [.d (bytesD (zs.map (·.val)))] (.d (.v (.bool true))) := by
  refine Spec.intro (n := 71) (rv := [.tmp 2]) Try.func4 rfl rfl rfl (by simp) fun C hN hX => ?_
  refine AW.seq ?_
  apply AW.list
  apply Wk.asg (by conv => lhs; whnf) (lt_of_ble rfl)
  refine Wk.nil ?_
  refine AW.seq (AW.seq ?_)
  apply AW.list
  apply Wk.mv (by conv => lhs; whnf) (lt_of_ble rfl)
  apply Wk.len un22 rfl (lt_of_ble rfl)
  apply Wk.bin rfl rfl (fun w => by simp [go_sem] <;> rfl) (lt_of_ble rfl)
  refine Wk.nil ?_
  refine AW.cond rfl (fun hc => ?_) (fun hc => ?_)
  · refine AW.seq ?_
    apply AW.list
    apply Wk.asg (by conv => lhs; whnf) (lt_of_ble rfl)
    refine Wk.nil (AW.ret ?_)
    refine thenA_ret ?_
    exact RetQ.ret [] (.cons rfl .nil) ⟨rfl, rfl⟩ none_kept
  refine AW.skip (thenA_normal ?_)
  refine AW.seq ?_
  apply AW.list
  apply Wk.mv (by conv => lhs; whnf) (lt_of_ble rfl)
  apply Wk.datw (drawTxOk_ok zs) Try.func11 rfl rfl rfl rfl (lt_of_ble rfl)
  rintro _ ⟨m, w, p, u, y, x, rfl, hx⟩
  apply Wk.mv (by conv => lhs; whnf) (lt_of_ble rfl)
  apply Wk.ext rfl rfl (lt_of_ble rfl)
  apply Wk.ext rfl rfl (lt_of_ble rfl)
  apply Wk.alc 3 [.int .i64 0, .int .i64 0, .int .i64 0, .int .i64 0, .int .i64 0] ze31 rfl rfl (lt_of_ble rfl)
  apply Wk.alc 4 [.int .i64 0, .int .i64 0, .slice none 0 0, .int .i64 0, .slice none 0 0, .bool false, .int .i64 0, .bool false, .int .i64 0, .bool false] ze25 rfl rfl (lt_of_ble rfl)
  apply Wk.sto (i := 3) 5 true ty31 rfl rfl rfl rfl (Nat.le_of_ble_eq_true rfl) (lt_of_ble rfl)
  apply Wk.sto (i := 4) 10 true ty25 rfl rfl rfl rfl (Nat.le_of_ble_eq_true rfl) (lt_of_ble rfl)
  refine Wk.nil ?_
  cases hok : txOkB ⟨m, w, p, u, y⟩ x
  · refine AW.seq ?_
    apply AW.list
    apply Wk.ld (i := 3) 5 true ty31 rfl rfl (by conv => lhs; whnf) (lt_of_ble rfl)
    apply Wk.ld (i := 4) 10 true ty25 rfl rfl (by conv => lhs; whnf) (lt_of_ble rfl)
    apply Wk.dat (itxb hok) Try.func12 rfl rfl rfl rfl rfl (lt_of_ble rfl)
    apply Wk.asg (by conv => lhs; whnf) (lt_of_ble rfl)
    refine Wk.nil ?_
    refine AW.seq (AW.seq ?_)
    apply AW.list
    apply Wk.mv (by conv => lhs; whnf) (lt_of_ble rfl)
    apply Wk.ld (i := 3) 5 true ty31 rfl rfl (by conv => lhs; whnf) (lt_of_ble rfl)
    apply Wk.ld (i := 4) 10 true ty25 rfl rfl (by conv => lhs; whnf) (lt_of_ble rfl)
    apply Wk.dat (stxb hok) Try.func13 rfl rfl rfl rfl rfl (lt_of_ble rfl)
    apply Wk.bin rfl rfl (r := .bool false) (fun w => by simp [go_sem]) (lt_of_ble rfl)
    refine Wk.nil ?_
    refine AW.cond rfl (fun hc => by cases hc) (fun _ => AW.skip (thenA_normal ?_))
    refine AW.seq (AW.seq ?_)
    apply AW.list
    apply Wk.mv (by conv => lhs; whnf) (lt_of_ble rfl)
    apply Wk.un rfl (fun w => by simp [go_sem] <;> rfl) (lt_of_ble rfl)
    refine Wk.nil ?_
    refine AW.cond rfl (fun _ => ?_) (fun hc => by cases hc)
    refine AW.seq ?_
    apply AW.list
    apply Wk.dat liok_ok Try.func10 rfl rfl rfl rfl rfl (lt_of_ble rfl)
    apply Wk.asg (by conv => lhs; whnf) (lt_of_ble rfl)
    refine Wk.nil (AW.ret ?_)
    refine thenA_ret ?_
    exact RetQ.ret [] (.cons rfl .nil) ⟨rfl, rfl⟩ none_kept
  · have g1 := tx_next hok
    have g2 := tx_piece hok (0, 0, [])
    have g3 := tx_count hok
    have f := txOk_facts hok
    have hlen := hx.2.2.1.1
    have hcc := hx.2.2.2.2.2.2
    have e1 : (((x.fl.map datD).length : Nat) : Int) = (x.fl.length : Int) := by rw [List.length_map]
    have has : asData ([] ++ (x.fl.map datD).map (·.map A.d) ++ [[A.d (.v (.int .i64 0)), A.d (.v (.int .i64 0)), A.d (.v (.slice none 0 0))]]) ((x.fl ++ [(0, 0, [])]).map datD) := by
      have := asData_parts x.fl
      simp only [asData, piecesA, List.map_append, List.map_map, List.nil_append] at this ⊢
      rw [show List.map (nrms ∘ (fun x => List.map A.d x) ∘ datD) x.fl = List.map ((fun x => List.map A.d x) ∘ datD) x.fl from this]
      rfl
    refine AW.seq ?_
    apply AW.list
    apply Wk.ld (i := 3) 5 true ty31 rfl rfl (by conv => lhs; whnf) (lt_of_ble rfl)
    apply Wk.ld (i := 4) 10 true ty25 rfl rfl (by conv => lhs; whnf) (lt_of_ble rfl)
    apply Wk.dat (itxb hok) Try.func12 rfl rfl rfl rfl rfl (lt_of_ble rfl)
    apply Wk.asg (by conv => lhs; whnf) (lt_of_ble rfl)
    refine Wk.nil ?_
    refine AW.seq (AW.seq ?_)
    apply AW.list
    apply Wk.mv (by conv => lhs; whnf) (lt_of_ble rfl)
    apply Wk.ld (i := 3) 5 true ty31 rfl rfl (by conv => lhs; whnf) (lt_of_ble rfl)
    apply Wk.ld (i := 4) 10 true ty25 rfl rfl (by conv => lhs; whnf) (lt_of_ble rfl)
    apply Wk.dat (stxb hok) Try.func13 rfl rfl rfl rfl rfl (lt_of_ble rfl)
    apply Wk.bin rfl rfl (r := .bool false) (fun w => by simp [go_sem]) (lt_of_ble rfl)
    refine Wk.nil ?_
    refine AW.cond rfl (fun hc => by cases hc) (fun _ => AW.skip (thenA_normal ?_))
    refine AW.seq (AW.seq ?_)
    apply AW.list
    apply Wk.mv (by conv => lhs; whnf) (lt_of_ble rfl)
    apply Wk.un rfl (fun w => by simp [go_sem] <;> rfl) (lt_of_ble rfl)
    refine Wk.nil ?_
    refine AW.cond rfl (fun hc => by cases hc) (fun _ => AW.skip (thenA_normal ?_))
    refine AW.seq ?_
    apply AW.list
    apply Wk.ld (i := 4) 10 true ty25 rfl rfl (by conv => lhs; whnf) (lt_of_ble rfl)
    apply Wk.alc 6 [.int .i64 0, .int .i64 0, .slice none 0 0, .int .i64 0, .slice none 0 0, .bool false, .int .i64 0, .bool false, .int .i64 0, .bool false] ze25 rfl rfl (lt_of_ble rfl)
    apply Wk.sto (i := 6) 10 true ty25 rfl rfl rfl rfl (Nat.le_of_ble_eq_true rfl) (lt_of_ble rfl)
    refine Wk.nil ?_
    refine AW.seq ?_
    apply AW.list
    apply Wk.fad 0 0 false fd25_0 rfl (lt_of_ble rfl)
    apply Wk.ld (i := 4) 1 false ty3 rfl rfl (by conv => lhs; whnf) (lt_of_ble rfl)
    apply Wk.dat (inextb x.n) Try.func14 rfl rfl rfl rfl rfl (lt_of_ble rfl)
    apply Wk.fad 0 0 false fd25_0 rfl (lt_of_ble rfl)
    apply Wk.sto (i := 6) 1 false ty3 rfl rfl rfl rfl (Nat.le_of_ble_eq_true rfl) (lt_of_ble rfl)
    refine Wk.nil ?_
    refine AW.seq ?_
    apply AW.list
    apply Wk.ld (i := 4) 10 true ty25 rfl rfl (by conv => lhs; whnf) (lt_of_ble rfl)
    apply Wk.alc 7 [.int .i64 0, .int .i64 0, .slice none 0 0, .int .i64 0, .slice none 0 0, .bool false, .int .i64 0, .bool false, .int .i64 0, .bool false] ze25 rfl rfl (lt_of_ble rfl)
    apply Wk.sto (i := 7) 10 true ty25 rfl rfl rfl rfl (Nat.le_of_ble_eq_true rfl) (lt_of_ble rfl)
    refine Wk.nil ?_
    refine AW.seq ?_
    apply AW.list
    apply Wk.lst 34 3 true [.int .i64 0, .int .i64 0, .slice none 0 0] un23 ty37 ze37 rfl rfl (by rfl) (by rfl) (by decide) (by decide) rfl rfl (all_len rfl) (lt_of_ble rfl)
    apply Wk.fad 2 0 false fd25_2 rfl (lt_of_ble rfl)
    apply Wk.ld (i := 4) 1 false ty23 rfl rfl (by conv => lhs; whnf) (lt_of_ble rfl)
    apply Wk.appOR 34 1000 3 un23 ap37 rfl rfl rfl (.inr rfl) (by decide) (datD_len _) (by simp) (by simp; omega) (lt_of_ble rfl)
    apply Wk.bld [.int .i64 0, .int .i64 0, .slice none 0 0] [(0, 1), (1, 1), (2, 1)] bl37 rfl (by conv => lhs; whnf) (lt_of_ble rfl)
    apply Wk.lst 39 3 true [.int .i64 0, .int .i64 0, .slice none 0 0] un23 ty37 ze37 rfl rfl (by rfl) (by rfl) (by decide) (by decide) rfl rfl (all_len rfl) (lt_of_ble rfl)
    apply Wk.appOO 34 39 3 un23 ap37 rfl rfl rfl rfl (by decide) (all_len rfl) (by intro c hc; simp only [List.nil_append] at hc; obtain ⟨q, hq, rfl⟩ := List.mem_map.1 hc; rw [List.length_map]; exact datD_len _ q hq) (by simp; omega) (lt_of_ble rfl)
    apply Wk.fad 2 0 false fd25_2 rfl (lt_of_ble rfl)
    apply Wk.sto (i := 7) 1 false ty23 rfl rfl rfl rfl (Nat.le_of_ble_eq_true rfl) (lt_of_ble rfl)
    refine Wk.nil ?_
    refine AW.thawc (j := 7) (c := 2) (i := 34) _ rfl rfl rfl has hX.none ?_
    refine AW.seq ?_
    apply AW.list
    apply Wk.ld (i := 4) 10 true ty25 rfl rfl (by conv => lhs; whnf) (lt_of_ble rfl)
    apply Wk.alc 8 [.int .i64 0, .int .i64 0, .slice none 0 0, .int .i64 0, .slice none 0 0, .bool false, .int .i64 0, .bool false, .int .i64 0, .bool false] ze25 rfl rfl (lt_of_ble rfl)
    apply Wk.sto (i := 8) 10 true ty25 rfl rfl rfl rfl (Nat.le_of_ble_eq_true rfl) (lt_of_ble rfl)
    refine Wk.nil ?_
    refine AW.seq ?_
    apply AW.list
    apply Wk.fad 8 0 false fd25_8 rfl (lt_of_ble rfl)
    apply Wk.ld (i := 4) 1 false ty3 rfl rfl (by conv => lhs; whnf) (lt_of_ble rfl)
    apply Wk.addi rfl rfl (by omega) (lt_of_ble rfl)
    apply Wk.fad 8 0 false fd25_8 rfl (lt_of_ble rfl)
    apply Wk.sto (i := 8) 1 false ty3 rfl rfl rfl rfl (Nat.le_of_ble_eq_true rfl) (lt_of_ble rfl)
    refine Wk.nil ?_
    refine AW.seq ?_
    apply AW.list
    apply Wk.ld (i := 3) 5 true ty31 rfl rfl (by conv => lhs; whnf) (lt_of_ble rfl)
    apply Wk.ld (i := 6) 10 true ty25 rfl rfl (by conv => lhs; whnf) (lt_of_ble rfl)
    apply Wk.dat (itxb g1) Try.func12 rfl rfl rfl rfl rfl (lt_of_ble rfl)
    apply Wk.un rfl (fun w => by simp [go_sem] <;> rfl) (lt_of_ble rfl)
    apply Wk.mv (by conv => lhs; whnf) (lt_of_ble rfl)
    apply Wk.gon 51 rfl rfl
    apply Wk.ld (i := 3) 5 true ty31 rfl rfl (by conv => lhs; whnf) (lt_of_ble rfl)
    apply Wk.gon 51 rfl rfl
    apply Wk.ld (i := 7) 10 true ty25 rfl rfl (by conv => lhs; whnf) (lt_of_ble rfl)
    apply Wk.gon 51 rfl rfl
    apply Wk.dat (itxb g2) Try.func12 rfl rfl rfl rfl rfl (lt_of_ble rfl)
    apply Wk.gon 51 rfl rfl
    apply Wk.un rfl (fun w => by simp [go_sem] <;> rfl) (lt_of_ble rfl)
    apply Wk.pckT rfl (by conv => lhs; whnf) (lt_of_ble rfl)
    apply Wk.mv (by conv => lhs; whnf) (lt_of_ble rfl)
    apply Wk.gon 57 rfl rfl
    apply Wk.ld (i := 3) 5 true ty31 rfl rfl (by conv => lhs; whnf) (lt_of_ble rfl)
    apply Wk.gon 57 rfl rfl
    apply Wk.ld (i := 8) 10 true ty25 rfl rfl (by conv => lhs; whnf) (lt_of_ble rfl)
    apply Wk.gon 57 rfl rfl
    apply Wk.dat (itxb g3) Try.func12 rfl rfl rfl rfl rfl (lt_of_ble rfl)
    apply Wk.gon 57 rfl rfl
    apply Wk.un rfl (fun w => by simp [go_sem] <;> rfl) (lt_of_ble rfl)
    apply Wk.pckT rfl (by conv => lhs; whnf) (lt_of_ble rfl)
    apply Wk.mv (by conv => lhs; whnf) (lt_of_ble rfl)
    apply Wk.gon 63 rfl rfl
    apply Wk.fad 2 0 false fd25_2 rfl (lt_of_ble rfl)
    apply Wk.gon 63 rfl rfl
    apply Wk.ld (i := 4) 1 false ty23 rfl rfl (by conv => lhs; whnf) (lt_of_ble rfl)
    apply Wk.gon 63 rfl rfl
    apply Wk.len un23 rfl (lt_of_ble rfl)
    apply Wk.gon 63 rfl rfl
    apply Wk.fad 1 0 false fd31_1 rfl (lt_of_ble rfl)
    apply Wk.gon 63 rfl rfl
    apply Wk.ld (i := 3) 1 false ty3 rfl rfl (by conv => lhs; whnf) (lt_of_ble rfl)
    apply Wk.gon 63 rfl rfl
    apply Wk.bin rfl rfl (r := .bool true) (fun w => by rw [e1]; simp [go_sem]; exact f.2.2.2.2.2.2.2.1) (lt_of_ble rfl)
    apply Wk.pckT rfl (by conv => lhs; whnf) (lt_of_ble rfl)
    apply Wk.asg (by conv => lhs; whnf) (lt_of_ble rfl)
    refine Wk.nil (AW.ret ?_)
    exact RetQ.ret [] (.cons rfl .nil) ⟨rfl, rfl⟩ none_kept
namespace fnTxOk
set_option maxRecDepth 100000 in
theorem walk (a0 : Option Addr) (len0 cap0 : Nat) (z0 : List Int) (w : World) (w0 : IsRow .u8 w a0 len0 cap0 z0) :
    Calls Try.prog 4 #[.slice a0 len0 cap0] w fun e w' => e = .returned (.bool true) ∧ Below w.heap.size w w' := by
  by_cases hs0 : (1048576 : Int) < (len0 : Int)
  · go_enter Try.func4, Try.ntmps4
    go_wp2
    go_ret
    exact ⟨rfl, Below.refl _ _⟩
  obtain ⟨cz, hR0, _⟩ := w0.rd (by omega)
  obtain ⟨zs, rfl⟩ := byt_fin hR0.1
  exact (lawTxOk_ok zs).run hR0
end fnTxOk
end Go.Proofs.Ytpiihfogdjihdaa
