/- Laws and contracts that the proof stands on: AbsCrdPutI, LiParts, AbsLiCtx, CutOk. -/
import Derived.Test.YtdojkmjamilllaaMa
import Derived.Test.YtdojkmjamilllaaMb
import Derived.Test.YtdojkmjamilllaaMc
import Derived.Test.YtdojkmjamilllaaMd
import Derived.Test.YtdojkmjamilllaaMe
import Derived.Test.YtdojkmjamilllaaMf
import Derived.Test.YtdojkmjamilllaaMg
/- CrdPut of the specification with answers of data, and of the program. Written by tools/mk_AbsCrdPutI.py. -/
namespace Go.Proofs.Ytdojkmjamilllaa
open Go Go.RowKit
set_option maxHeartbeats 4000000 in
set_option maxRecDepth 100000 in
theorem scputFullD (m0 w0 p0 u0 y0 : Int) (x : CX) (sdu : List Nat) (cut : List Dat) (hok : crdOkB ⟨m0, w0, p0, u0, y0⟩ x = true) (hcut : DataOk Try.prog 83 [.d (bytesD sdu), .d (.v (.int .i64 p0))] (.d (partsD cut))) (hq : x.qu.length ≤ 1000) (hc : cut.length ≤ 1000) (hx : x.few) (hf : fullC u0 x sdu.length cut.length) :
    DataOk Try.prog 43 [cfgA m0 w0 p0 u0 y0, cxA x, .d (bytesD sdu)] (.tup [cxA x, .d (.v (.bool false))]) := by
  have c1 := sl8_ok x hx
  obtain ⟨v, qu, g, s, d⟩ := x
  simp only [fullC] at hf hq
  have e1 : (((sdu.map fun z : Nat => [D.v (.int .u8 (z : Int))]).length : Nat) : Int) = (sdu.length : Int) := by rw [List.length_map]
  have e2 : (((cut.map datD).length : Nat) : Int) = (cut.length : Int) := by rw [List.length_map]
  have e3 : (((qu.map datD).length : Nat) : Int) = (qu.length : Int) := by rw [List.length_map]
  refine Spec.intro (n := 47) (rv := [.cell 6 62, .tmp 7]) Try.func43 rfl rfl rfl (by simp) fun C hN hX => ?_
  refine AW.seq ?_
  apply AW.list
  apply Wk.bx 3 rfl rfl (lt_of_ble rfl)
  apply Wk.bx 4 rfl rfl (lt_of_ble rfl)
  apply Wk.alc 6 [.int .i64 0, .slice none 0 0, .int .i64 0, .int .i64 0, .bool false] ze62 rfl rfl (lt_of_ble rfl)
  apply Wk.asg (by conv => lhs; whnf) (lt_of_ble rfl)
  refine Wk.nil ?_
  refine AW.seq (AW.seq ?_)
  apply AW.list
  apply Wk.ld (i := 3) 5 true ty24 rfl rfl (by conv => lhs; whnf) (lt_of_ble rfl)
  apply Wk.ld (i := 4) 5 true ty62 rfl rfl (by conv => lhs; whnf) (lt_of_ble rfl)
  apply Wk.dat (scxb hok) Try.func46 rfl rfl rfl rfl rfl (lt_of_ble rfl)
  apply Wk.un rfl (fun w => by simp [go_sem] <;> rfl) (lt_of_ble rfl)
  refine Wk.nil ?_
  refine AW.cond rfl (fun hc => by cases hc) (fun _ => AW.skip (thenA_normal ?_))
  refine AW.seq ?_
  apply AW.list
  apply Wk.ld (i := 4) 5 true ty62 rfl rfl (by conv => lhs; whnf) (lt_of_ble rfl)
  apply Wk.dat c1 Try.func82 rfl rfl rfl rfl rfl (lt_of_ble rfl)
  apply Wk.alc 8 [.int .i64 0, .slice none 0 0, .int .i64 0, .int .i64 0, .bool false] ze62 rfl rfl (lt_of_ble rfl)
  apply Wk.sto (i := 8) 5 true ty62 rfl rfl rfl rfl (Nat.le_of_ble_eq_true rfl) (lt_of_ble rfl)
  refine Wk.nil ?_
  refine AW.seq ?_
  apply AW.list
  apply Wk.mv (by conv => lhs; whnf) (lt_of_ble rfl)
  apply Wk.fad 2 0 false fd24_2 rfl (lt_of_ble rfl)
  apply Wk.ld (i := 3) 1 false ty3 rfl rfl (by conv => lhs; whnf) (lt_of_ble rfl)
  apply Wk.dat hcut Try.func83 rfl rfl rfl rfl rfl (lt_of_ble rfl)
  apply Wk.asg (by conv => lhs; whnf) (lt_of_ble rfl)
  refine Wk.nil ?_
  refine AW.seq (AW.seq ?_)
  cases d
  · by_cases c2 : u0 < (sdu.length : Int)
    · skip
      apply AW.list
      apply Wk.fad 4 0 false fd62_4 rfl (lt_of_ble rfl)
      apply Wk.ld (i := 4) 1 false ty4 rfl rfl (by conv => lhs; whnf) (lt_of_ble rfl)
      apply Wk.mv (by conv => lhs; whnf) (lt_of_ble rfl)
      apply Wk.gon 23 rfl rfl
      apply Wk.mv (by conv => lhs; whnf) (lt_of_ble rfl)
      apply Wk.gon 23 rfl rfl
      apply Wk.len un22 rfl (lt_of_ble rfl)
      apply Wk.gon 23 rfl rfl
      apply Wk.fad 3 0 false fd24_3 rfl (lt_of_ble rfl)
      apply Wk.gon 23 rfl rfl
      apply Wk.ld (i := 3) 1 false ty3 rfl rfl (by conv => lhs; whnf) (lt_of_ble rfl)
      apply Wk.gon 23 rfl rfl
      apply Wk.bin rfl rfl (r := .bool true) (fun w => by rw [e1]; simp [go_sem] <;> omega) (lt_of_ble rfl)
      apply Wk.pckF rfl (by conv => lhs; whnf) (lt_of_ble rfl)
      apply Wk.mv (by conv => lhs; whnf) (lt_of_ble rfl)
      apply Wk.goff 30 (ok_faddr fd62_1) rfl rfl (by simp)
      apply Wk.goff 30 (ok_load 4 ty25) rfl rfl (by simp)
      apply Wk.goff 30 (ok_len un25) rfl rfl (by simp)
      apply Wk.goff 30 (ok_move _) rfl rfl (by simp)
      apply Wk.goff 30 (ok_len un25) rfl rfl (by simp)
      apply Wk.goff 30 (ok_bin _ _ _ _ _) rfl rfl (by simp)
      apply Wk.goff 30 (ok_bin _ _ _ _ _) rfl rfl (by simp)
      apply Wk.pckT rfl (by conv => lhs; whnf) (lt_of_ble rfl)
      refine Wk.nil ?_
      refine AW.cond rfl (fun _ => ?_) (fun hc => by cases hc)
      refine AW.seq ?_
      apply AW.list
      apply Wk.ld (i := 8) 5 true ty62 rfl rfl (by conv => lhs; whnf) (lt_of_ble rfl)
      apply Wk.sto (i := 6) 5 true ty62 rfl rfl rfl rfl (Nat.le_of_ble_eq_true rfl) (lt_of_ble rfl)
      apply Wk.asg (by conv => lhs; whnf) (lt_of_ble rfl)
      refine Wk.nil (AW.ret ?_)
      repeat (first | refine thenA_ret ?_ | refine inBlockA_ret ?_)
      exact RetQ.ret [] (.cons ⟨6, 0, _, _, _, rfl, rfl, ty62, rfl⟩ (.cons rfl .nil)) ⟨rfl, rfl⟩ none_kept
    · have c3 : 24 < qu.length + cut.length := by rcases hf with h | h | h <;> first | exact absurd h c2 | exact h | cases h
      apply AW.list
      apply Wk.fad 4 0 false fd62_4 rfl (lt_of_ble rfl)
      apply Wk.ld (i := 4) 1 false ty4 rfl rfl (by conv => lhs; whnf) (lt_of_ble rfl)
      apply Wk.mv (by conv => lhs; whnf) (lt_of_ble rfl)
      apply Wk.gon 23 rfl rfl
      apply Wk.mv (by conv => lhs; whnf) (lt_of_ble rfl)
      apply Wk.gon 23 rfl rfl
      apply Wk.len un22 rfl (lt_of_ble rfl)
      apply Wk.gon 23 rfl rfl
      apply Wk.fad 3 0 false fd24_3 rfl (lt_of_ble rfl)
      apply Wk.gon 23 rfl rfl
      apply Wk.ld (i := 3) 1 false ty3 rfl rfl (by conv => lhs; whnf) (lt_of_ble rfl)
      apply Wk.gon 23 rfl rfl
      apply Wk.bin rfl rfl (r := .bool false) (fun w => by rw [e1]; simp [go_sem] <;> omega) (lt_of_ble rfl)
      apply Wk.pckF rfl (by conv => lhs; whnf) (lt_of_ble rfl)
      apply Wk.mv (by conv => lhs; whnf) (lt_of_ble rfl)
      apply Wk.gon 30 rfl rfl
      apply Wk.fad 1 0 false fd62_1 rfl (lt_of_ble rfl)
      apply Wk.gon 30 rfl rfl
      apply Wk.ld (i := 4) 1 false ty25 rfl rfl (by conv => lhs; whnf) (lt_of_ble rfl)
      apply Wk.gon 30 rfl rfl
      apply Wk.len un25 rfl (lt_of_ble rfl)
      apply Wk.gon 30 rfl rfl
      apply Wk.mv (by conv => lhs; whnf) (lt_of_ble rfl)
      apply Wk.gon 30 rfl rfl
      apply Wk.len un25 rfl (lt_of_ble rfl)
      apply Wk.gon 30 rfl rfl
      apply Wk.addi rfl rfl (by rw [e2, e3]; omega) (lt_of_ble rfl)
      apply Wk.gon 30 rfl rfl
      apply Wk.bin rfl rfl (r := .bool true) (fun w => by rw [e2, e3]; simp [go_sem] <;> omega) (lt_of_ble rfl)
      apply Wk.pckF rfl (by conv => lhs; whnf) (lt_of_ble rfl)
      refine Wk.nil ?_
      refine AW.cond rfl (fun _ => ?_) (fun hc => by cases hc)
      refine AW.seq ?_
      apply AW.list
      apply Wk.ld (i := 8) 5 true ty62 rfl rfl (by conv => lhs; whnf) (lt_of_ble rfl)
      apply Wk.sto (i := 6) 5 true ty62 rfl rfl rfl rfl (Nat.le_of_ble_eq_true rfl) (lt_of_ble rfl)
      apply Wk.asg (by conv => lhs; whnf) (lt_of_ble rfl)
      refine Wk.nil (AW.ret ?_)
      repeat (first | refine thenA_ret ?_ | refine inBlockA_ret ?_)
      exact RetQ.ret [] (.cons ⟨6, 0, _, _, _, rfl, rfl, ty62, rfl⟩ (.cons rfl .nil)) ⟨rfl, rfl⟩ none_kept
  · skip
    apply AW.list
    apply Wk.fad 4 0 false fd62_4 rfl (lt_of_ble rfl)
    apply Wk.ld (i := 4) 1 false ty4 rfl rfl (by conv => lhs; whnf) (lt_of_ble rfl)
    apply Wk.mv (by conv => lhs; whnf) (lt_of_ble rfl)
    apply Wk.goff 23 (ok_move _) rfl rfl (by simp)
    apply Wk.goff 23 (ok_len un22) rfl rfl (by simp)
    apply Wk.goff 23 (ok_faddr fd24_3) rfl rfl (by simp)
    apply Wk.goff 23 (ok_load 3 ty3) rfl rfl (by simp)
    apply Wk.goff 23 (ok_bin _ _ _ _ _) rfl rfl (by simp)
    apply Wk.pckT rfl (by conv => lhs; whnf) (lt_of_ble rfl)
    apply Wk.mv (by conv => lhs; whnf) (lt_of_ble rfl)
    apply Wk.goff 30 (ok_faddr fd62_1) rfl rfl (by simp)
    apply Wk.goff 30 (ok_load 4 ty25) rfl rfl (by simp)
    apply Wk.goff 30 (ok_len un25) rfl rfl (by simp)
    apply Wk.goff 30 (ok_move _) rfl rfl (by simp)
    apply Wk.goff 30 (ok_len un25) rfl rfl (by simp)
    apply Wk.goff 30 (ok_bin _ _ _ _ _) rfl rfl (by simp)
    apply Wk.goff 30 (ok_bin _ _ _ _ _) rfl rfl (by simp)
    apply Wk.pckT rfl (by conv => lhs; whnf) (lt_of_ble rfl)
    refine Wk.nil ?_
    refine AW.cond rfl (fun _ => ?_) (fun hc => by cases hc)
    refine AW.seq ?_
    apply AW.list
    apply Wk.ld (i := 8) 5 true ty62 rfl rfl (by conv => lhs; whnf) (lt_of_ble rfl)
    apply Wk.sto (i := 6) 5 true ty62 rfl rfl rfl rfl (Nat.le_of_ble_eq_true rfl) (lt_of_ble rfl)
    apply Wk.asg (by conv => lhs; whnf) (lt_of_ble rfl)
    refine Wk.nil (AW.ret ?_)
    repeat (first | refine thenA_ret ?_ | refine inBlockA_ret ?_)
    exact RetQ.ret [] (.cons ⟨6, 0, _, _, _, rfl, rfl, ty62, rfl⟩ (.cons rfl .nil)) ⟨rfl, rfl⟩ none_kept
set_option maxHeartbeats 4000000 in
set_option maxRecDepth 100000 in
theorem scputYesD (m0 w0 p0 u0 y0 : Int) (x : CX) (sdu : List Nat) (cut : List Dat) (hok : crdOkB ⟨m0, w0, p0, u0, y0⟩ x = true) (hcut : DataOk Try.prog 83 [.d (bytesD sdu), .d (.v (.int .i64 p0))] (.d (partsD cut))) (hx : x.few) (hx' : CX.few { x with qu := x.qu ++ cut }) (hf : ¬ fullC u0 x sdu.length cut.length) :
    DataOk Try.prog 43 [cfgA m0 w0 p0 u0 y0, cxA x, .d (bytesD sdu)] (.tup [cxA { x with qu := x.qu ++ cut }, .d (.v (.bool true))]) := by
  have c2 := sl8_ok { x with qu := x.qu ++ cut } hx'
  have hq := hx.1
  have c1 := sl8O x hx
  obtain ⟨v, qu, g, s, d⟩ := x
  simp only [fullC, not_or] at hf hq
  have e1 : (((sdu.map fun z : Nat => [D.v (.int .u8 (z : Int))]).length : Nat) : Int) = (sdu.length : Int) := by rw [List.length_map]
  have e2 : (((cut.map datD).length : Nat) : Int) = (cut.length : Int) := by rw [List.length_map]
  have e3 : (((qu.map datD).length : Nat) : Int) = (qu.length : Int) := by rw [List.length_map]
  obtain ⟨hd, hu, hl⟩ := hf
  obtain rfl : d = false := by simpa using hd
  have e4 : piecesA qu ++ (cut.map datD).map (·.map A.d) = piecesA (qu ++ cut) := by simp [piecesA]
  have e5 : (piecesA qu).length + (cut.map datD).length ≤ 1000000 := by rw [piecesA, List.length_map, List.length_map]; omega
  refine Spec.intro (n := 47) (rv := [.cell 6 62, .tmp 7]) Try.func43 rfl rfl rfl (by simp) fun C hN hX => ?_
  refine AW.seq ?_
  apply AW.list
  apply Wk.bx 3 rfl rfl (lt_of_ble rfl)
  apply Wk.bx 4 rfl rfl (lt_of_ble rfl)
  apply Wk.alc 6 [.int .i64 0, .slice none 0 0, .int .i64 0, .int .i64 0, .bool false] ze62 rfl rfl (lt_of_ble rfl)
  apply Wk.asg (by conv => lhs; whnf) (lt_of_ble rfl)
  refine Wk.nil ?_
  refine AW.seq (AW.seq ?_)
  apply AW.list
  apply Wk.ld (i := 3) 5 true ty24 rfl rfl (by conv => lhs; whnf) (lt_of_ble rfl)
  apply Wk.ld (i := 4) 5 true ty62 rfl rfl (by conv => lhs; whnf) (lt_of_ble rfl)
  apply Wk.dat (scxb hok) Try.func46 rfl rfl rfl rfl rfl (lt_of_ble rfl)
  apply Wk.un rfl (fun w => by simp [go_sem] <;> rfl) (lt_of_ble rfl)
  refine Wk.nil ?_
  refine AW.cond rfl (fun hc => by cases hc) (fun _ => AW.skip (thenA_normal ?_))
  refine AW.seq ?_
  apply AW.list
  apply Wk.ld (i := 4) 5 true ty62 rfl rfl (by conv => lhs; whnf) (lt_of_ble rfl)
  apply Wk.cal [] [66] c1 (in_cx _ _) ⟨_, _, rfl, rfl⟩ Try.func82 rfl rfl rfl rfl (by simp; rfl) rfl (fun i hi => by cases hi) (lt_of_ble rfl)
  rintro r bs' ⟨rfl, rfl⟩
  apply Wk.alc 8 [.int .i64 0, .slice none 0 0, .int .i64 0, .int .i64 0, .bool false] ze62 rfl rfl (lt_of_ble rfl)
  apply Wk.sto (i := 8) 5 true ty62 rfl rfl rfl rfl (Nat.le_of_ble_eq_true rfl) (lt_of_ble rfl)
  refine Wk.nil ?_
  refine AW.seq ?_
  apply AW.list
  apply Wk.mv (by conv => lhs; whnf) (lt_of_ble rfl)
  apply Wk.fad 2 0 false fd24_2 rfl (lt_of_ble rfl)
  apply Wk.ld (i := 3) 1 false ty3 rfl rfl (by conv => lhs; whnf) (lt_of_ble rfl)
  apply Wk.dat hcut Try.func83 rfl rfl rfl rfl rfl (lt_of_ble rfl)
  apply Wk.asg (by conv => lhs; whnf) (lt_of_ble rfl)
  refine Wk.nil ?_
  refine AW.seq (AW.seq ?_)
  apply AW.list
  apply Wk.fad 4 0 false fd62_4 rfl (lt_of_ble rfl)
  apply Wk.ld (i := 4) 1 false ty4 rfl rfl (by conv => lhs; whnf) (lt_of_ble rfl)
  apply Wk.mv (by conv => lhs; whnf) (lt_of_ble rfl)
  apply Wk.gon 23 rfl rfl
  apply Wk.mv (by conv => lhs; whnf) (lt_of_ble rfl)
  apply Wk.gon 23 rfl rfl
  apply Wk.len un22 rfl (lt_of_ble rfl)
  apply Wk.gon 23 rfl rfl
  apply Wk.fad 3 0 false fd24_3 rfl (lt_of_ble rfl)
  apply Wk.gon 23 rfl rfl
  apply Wk.ld (i := 3) 1 false ty3 rfl rfl (by conv => lhs; whnf) (lt_of_ble rfl)
  apply Wk.gon 23 rfl rfl
  apply Wk.bin rfl rfl (r := .bool false) (fun w => by rw [e1]; simp [go_sem] <;> omega) (lt_of_ble rfl)
  apply Wk.pckF rfl (by conv => lhs; whnf) (lt_of_ble rfl)
  apply Wk.mv (by conv => lhs; whnf) (lt_of_ble rfl)
  apply Wk.gon 30 rfl rfl
  apply Wk.fad 1 0 false fd62_1 rfl (lt_of_ble rfl)
  apply Wk.gon 30 rfl rfl
  apply Wk.ld (i := 4) 1 false ty25 rfl rfl (by conv => lhs; whnf) (lt_of_ble rfl)
  apply Wk.gon 30 rfl rfl
  apply Wk.len un25 rfl (lt_of_ble rfl)
  apply Wk.gon 30 rfl rfl
  apply Wk.mv (by conv => lhs; whnf) (lt_of_ble rfl)
  apply Wk.gon 30 rfl rfl
  apply Wk.len un25 rfl (lt_of_ble rfl)
  apply Wk.gon 30 rfl rfl
  apply Wk.addi rfl rfl (by rw [e2, e3]; omega) (lt_of_ble rfl)
  apply Wk.gon 30 rfl rfl
  apply Wk.bin rfl rfl (r := .bool false) (fun w => by rw [e2, e3]; simp [go_sem] <;> omega) (lt_of_ble rfl)
  apply Wk.pckF rfl (by conv => lhs; whnf) (lt_of_ble rfl)
  refine Wk.nil ?_
  refine AW.cond rfl (fun hc => by cases hc) (fun _ => AW.skip (thenA_normal ?_))
  refine AW.seq ?_
  apply AW.list
  apply Wk.fad 1 0 false fd62_1 rfl (lt_of_ble rfl)
  apply Wk.ld (i := 8) 1 false ty25 rfl rfl (by conv => lhs; whnf) (lt_of_ble rfl)
  apply Wk.mv (by conv => lhs; whnf) (lt_of_ble rfl)
  apply Wk.appOR 66 1000 3 un25 ap47 rfl rfl rfl (.inr rfl) (by decide) (datD_len _) (three_parts _) e5 (lt_of_ble rfl)
  rw [e4]
  apply Wk.fad 1 0 false fd62_1 rfl (lt_of_ble rfl)
  apply Wk.sto (i := 8) 1 false ty25 rfl rfl rfl rfl (Nat.le_of_ble_eq_true rfl) (lt_of_ble rfl)
  refine Wk.nil ?_
  refine AW.thawc (j := 8) (c := 1) (i := 66) _ rfl rfl rfl (asData_parts (qu ++ cut)) hX.none ?_
  refine AW.keep (n := 47) (ts := [(6, .ptr 6 0), (8, .ptr 8 0)]) (bs := [(6, .var cxN), (8, .var (cxC ⟨v, qu ++ cut, g, s, false⟩))]) ⟨rfl, .cons rfl rfl (.cons rfl rfl .nil), .cons rfl rfl (.cons rfl rfl .nil), hN.mono (by simp [keys])⟩ ?_
  refine AW.seq ?_
  apply AW.list
  apply Wk.ld (i := 8) 5 true ty62 rfl rfl (by conv => lhs; whnf) (lt_of_ble rfl)
  apply Wk.dat c2 Try.func82 rfl rfl rfl rfl rfl (lt_of_ble rfl)
  apply Wk.sto (i := 6) 5 true ty62 rfl rfl rfl rfl (Nat.le_of_ble_eq_true rfl) (lt_of_ble rfl)
  apply Wk.asg (by conv => lhs; whnf) (lt_of_ble rfl)
  refine Wk.nil (AW.ret ?_)
  exact RetQ.ret [] (.cons ⟨6, 0, _, _, _, rfl, rfl, ty62, rfl⟩ (.cons rfl .nil)) ⟨rfl, rfl⟩ none_kept
def cputX (u : Int) (x : CX) (n : Nat) (cut : List Dat) : CX := if x.d = true ∨ u < (n : Int) ∨ 24 < x.qu.length + cut.length then x else { x with qu := x.qu ++ cut }
def cputB (u : Int) (x : CX) (n : Nat) (cut : List Dat) : Bool := decide (¬ (x.d = true ∨ u < (n : Int) ∨ 24 < x.qu.length + cut.length))
theorem CX.okfew {o : Opt} {x : CX} (h : crdOkB o x = true) : x.few := by
  have f := crdOk_facts h
  refine ⟨by omega, fun d hd => ?_⟩
  have := partM_len (f.2.2.2.2.2.2 d hd)
  omega
theorem scput_ok (m0 w0 p0 u0 y0 : Int) (x : CX) (sdu : List Nat) (hz : Byt sdu) (hl : sdu.length ≤ 2000000) (hok : crdOkB ⟨m0, w0, p0, u0, y0⟩ x = true) :
    DataOk Try.prog 43 [cfgA m0 w0 p0 u0 y0, cxA x, .d (bytesD sdu)] (.tup [cxA (cputX u0 x sdu.length (cutD sdu p0)), .d (.v (.bool (cputB u0 x sdu.length (cutD sdu p0))))]) := by
  have f := crdOk_facts hok
  have hx := CX.okfew hok
  have hcut := scut_ok sdu p0 hz hl
  have hcl := cutD_length sdu p0
  have hcs := cutD_small sdu p0 hz
  by_cases hi : x.d = true ∨ u0 < (sdu.length : Int) ∨ 24 < x.qu.length + (cutD sdu p0).length
  · have e1 : cputX u0 x sdu.length (cutD sdu p0) = x := if_pos hi
    have e2 : cputB u0 x sdu.length (cutD sdu p0) = false := decide_eq_false (fun h => h hi)
    rw [e1, e2]
    exact scputFullD m0 w0 p0 u0 y0 x sdu _ hok hcut (by omega) (by omega) hx hi
  · have e1 : cputX u0 x sdu.length (cutD sdu p0) = { x with qu := x.qu ++ cutD sdu p0 } := if_neg hi
    have e2 : cputB u0 x sdu.length (cutD sdu p0) = true := decide_eq_true hi
    rw [e1, e2]
    have hx' : CX.few { x with qu := x.qu ++ cutD sdu p0 } := by
      refine ⟨by simp only [List.length_append]; omega, fun d hd => ?_⟩
      rcases List.mem_append.1 hd with hd | hd
      · exact hx.2 d hd
      · have := (hcs d hd).2; omega
    exact scputYesD m0 w0 p0 u0 y0 x sdu _ hok hcut hx hx' hi
set_option maxHeartbeats 4000000 in
set_option maxRecDepth 100000 in
theorem icputNo (m0 w0 p0 u0 y0 : Int) (x : CX) (sdu : D) (hok : crdOkB ⟨m0, w0, p0, u0, y0⟩ x = false) : DataOk Try.prog 42 [cfgA m0 w0 p0 u0 y0, cxA x, .d sdu] (.tup [cxNil, .d (.v (.bool false))]) := by
  refine Spec.intro (n := 31) (rv := [.cell 6 62, .tmp 7]) Try.func42 rfl rfl rfl (by simp) fun C hN hX => ?_
  refine AW.seq ?_
  apply AW.list
  apply Wk.bx 3 rfl rfl (lt_of_ble rfl)
  apply Wk.bx 4 rfl rfl (lt_of_ble rfl)
  apply Wk.alc 6 [.int .i64 0, .slice none 0 0, .int .i64 0, .int .i64 0, .bool false] ze62 rfl rfl (lt_of_ble rfl)
  apply Wk.asg (by conv => lhs; whnf) (lt_of_ble rfl)
  refine Wk.nil ?_
  refine AW.seq (AW.seq ?_)
  apply AW.list
  apply Wk.ld (i := 3) 5 true ty24 rfl rfl (by conv => lhs; whnf) (lt_of_ble rfl)
  apply Wk.ld (i := 4) 5 true ty62 rfl rfl (by conv => lhs; whnf) (lt_of_ble rfl)
  apply Wk.dat (icxb hok) Try.func45 rfl rfl rfl rfl rfl (lt_of_ble rfl)
  apply Wk.un rfl (fun w => by simp [go_sem] <;> rfl) (lt_of_ble rfl)
  refine Wk.nil ?_
  refine AW.cond rfl (fun _ => ?_) (fun hc => by cases hc)
  refine AW.seq ?_
  apply AW.list
  apply Wk.bld [.int .i64 0, .slice none 0 0, .int .i64 0, .int .i64 0, .bool false] [(0, 1), (1, 1), (2, 1), (3, 1), (4, 1)] bl62 rfl (by conv => lhs; whnf) (lt_of_ble rfl)
  apply Wk.sto (i := 6) 5 true ty62 rfl rfl rfl rfl (Nat.le_of_ble_eq_true rfl) (lt_of_ble rfl)
  apply Wk.asg (by conv => lhs; whnf) (lt_of_ble rfl)
  refine Wk.nil (AW.ret ?_)
  repeat (first | refine thenA_ret ?_ | refine inBlockA_ret ?_)
  exact RetQ.ret [] (.cons ⟨6, 0, _, _, _, rfl, rfl, ty62, rfl⟩ (.cons rfl .nil)) ⟨rfl, rfl⟩ none_kept
theorem cxTx_ok {o : Opt} {x : CX} (h : crdOkB o x = true) : txOkB o ⟨0, 0, [], 0, x.qu, false, 0, false, 0, x.d⟩ = true := by
  have f := crdOk_facts h
  have f1 := f.1
  simp only [Opt.ok, Bool.and_eq_true, inB_iff] at f1
  simp only [txOkB, Bool.and_eq_true, decide_eq_true_eq, List.all_eq_true, inB_iff]
  refine ⟨f.1, by omega, by omega, ?_, rfl, ?_, f.2.2.1, by omega, by omega, rfl, (fun d hd => by cases hd), f.2.2.2.2.2.2⟩
  · simp only [List.length_nil]; omega
  · simp
set_option maxHeartbeats 4000000 in
set_option maxRecDepth 100000 in
theorem icput_ok (m0 w0 p0 u0 y0 : Int) (x : CX) (sdu : List Nat) (hz : Byt sdu) (hl : sdu.length ≤ 2000000) (hok : crdOkB ⟨m0, w0, p0, u0, y0⟩ x = true) :
    DataOk Try.prog 42 [cfgA m0 w0 p0 u0 y0, cxA x, .d (bytesD sdu)] (.tup [cxA (cputX u0 x sdu.length (cutD sdu p0)), .d (.v (.bool (cputB u0 x sdu.length (cutD sdu p0))))]) := by
  have hp := itput_ok m0 w0 p0 u0 y0 ⟨0, 0, [], 0, x.qu, false, 0, false, 0, x.d⟩ sdu hz hl (cxTx_ok hok)
  obtain ⟨Q, hQ, hP⟩ : ∃ Q, putX u0 ⟨0, 0, [], 0, x.qu, false, 0, false, 0, x.d⟩ sdu.length (cutD sdu p0) = ⟨0, 0, [], 0, Q, false, 0, false, 0, x.d⟩ ∧ cputX u0 x sdu.length (cutD sdu p0) = { x with qu := Q } := by
    by_cases hi : x.d = true ∨ u0 < (sdu.length : Int) ∨ 24 < x.qu.length + (cutD sdu p0).length
    · exact ⟨x.qu, if_pos hi, if_pos hi⟩
    · exact ⟨x.qu ++ cutD sdu p0, if_neg hi, if_neg hi⟩
  have hB : putB u0 ⟨0, 0, [], 0, x.qu, false, 0, false, 0, x.d⟩ sdu.length (cutD sdu p0) = cputB u0 x sdu.length (cutD sdu p0) := rfl
  rw [hQ, hB] at hp
  rw [hP]
  generalize cputB u0 x sdu.length (cutD sdu p0) = B at hp ⊢
  clear hQ hP hB hz hl
  obtain ⟨v, qu, g, s, d⟩ := x
  refine Spec.intro (n := 31) (rv := [.cell 6 62, .tmp 7]) Try.func42 rfl rfl rfl (by simp) fun C hN hX => ?_
  refine AW.seq ?_
  apply AW.list
  apply Wk.bx 3 rfl rfl (lt_of_ble rfl)
  apply Wk.bx 4 rfl rfl (lt_of_ble rfl)
  apply Wk.alc 6 [.int .i64 0, .slice none 0 0, .int .i64 0, .int .i64 0, .bool false] ze62 rfl rfl (lt_of_ble rfl)
  apply Wk.asg (by conv => lhs; whnf) (lt_of_ble rfl)
  refine Wk.nil ?_
  refine AW.seq (AW.seq ?_)
  apply AW.list
  apply Wk.ld (i := 3) 5 true ty24 rfl rfl (by conv => lhs; whnf) (lt_of_ble rfl)
  apply Wk.ld (i := 4) 5 true ty62 rfl rfl (by conv => lhs; whnf) (lt_of_ble rfl)
  apply Wk.dat (icxb hok) Try.func45 rfl rfl rfl rfl rfl (lt_of_ble rfl)
  apply Wk.un rfl (fun w => by simp [go_sem] <;> rfl) (lt_of_ble rfl)
  refine Wk.nil ?_
  refine AW.cond rfl (fun hc => by cases hc) (fun _ => AW.skip (thenA_normal ?_))
  refine AW.seq ?_
  apply AW.list
  apply Wk.ld (i := 3) 5 true ty24 rfl rfl (by conv => lhs; whnf) (lt_of_ble rfl)
  apply Wk.fad 1 0 false fd62_1 rfl (lt_of_ble rfl)
  apply Wk.ld (i := 4) 1 false ty25 rfl rfl (by conv => lhs; whnf) (lt_of_ble rfl)
  apply Wk.fad 4 0 false fd62_4 rfl (lt_of_ble rfl)
  apply Wk.ld (i := 4) 1 false ty4 rfl rfl (by conv => lhs; whnf) (lt_of_ble rfl)
  apply Wk.bld [.int .i64 0, .int .i64 0, .slice none 0 0, .int .i64 0, .slice none 0 0, .bool false, .int .i64 0, .bool false, .int .i64 0, .bool false] [(0, 1), (1, 1), (2, 1), (3, 1), (4, 1), (5, 1), (6, 1), (7, 1), (8, 1), (9, 1)] bl27 rfl (by conv => lhs; whnf) (lt_of_ble rfl)
  apply Wk.mv (by conv => lhs; whnf) (lt_of_ble rfl)
  apply Wk.dat hp Try.func14 rfl rfl rfl rfl rfl (lt_of_ble rfl)
  apply Wk.mv (by conv => lhs; whnf) (lt_of_ble rfl)
  apply Wk.ext rfl rfl (lt_of_ble rfl)
  apply Wk.ext rfl rfl (lt_of_ble rfl)
  apply Wk.alc 8 [.int .i64 0, .int .i64 0, .slice none 0 0, .int .i64 0, .slice none 0 0, .bool false, .int .i64 0, .bool false, .int .i64 0, .bool false] ze27 rfl rfl (lt_of_ble rfl)
  apply Wk.sto (i := 8) 10 true ty27 rfl rfl rfl rfl (Nat.le_of_ble_eq_true rfl) (lt_of_ble rfl)
  apply Wk.asg (by conv => lhs; whnf) (lt_of_ble rfl)
  refine Wk.nil ?_
  refine AW.seq ?_
  apply AW.list
  apply Wk.fad 4 0 false fd27_4 rfl (lt_of_ble rfl)
  apply Wk.ld (i := 8) 1 false ty25 rfl rfl (by conv => lhs; whnf) (lt_of_ble rfl)
  apply Wk.fad 1 0 false fd62_1 rfl (lt_of_ble rfl)
  apply Wk.sto (i := 4) 1 false ty25 rfl rfl rfl rfl (Nat.le_of_ble_eq_true rfl) (lt_of_ble rfl)
  refine Wk.nil ?_
  refine AW.seq ?_
  apply AW.list
  apply Wk.ld (i := 4) 5 true ty62 rfl rfl (by conv => lhs; whnf) (lt_of_ble rfl)
  apply Wk.mv (by conv => lhs; whnf) (lt_of_ble rfl)
  apply Wk.sto (i := 6) 5 true ty62 rfl rfl rfl rfl (Nat.le_of_ble_eq_true rfl) (lt_of_ble rfl)
  apply Wk.asg (by conv => lhs; whnf) (lt_of_ble rfl)
  refine Wk.nil (AW.ret ?_)
  exact RetQ.ret [] (.cons ⟨6, 0, _, _, _, rfl, rfl, ty62, rfl⟩ (.cons rfl .nil)) ⟨rfl, rfl⟩ none_kept
end Go.Proofs.Ytdojkmjamilllaa

/- Pieces that are the same, by the laws' own words. -/
namespace Go.Proofs.Ytdojkmjamilllaa
open Go Go.RowKit
theorem liBytesE (zs : List Nat) : DataOk Try.prog 39 [.d (bytesD zs), .d (bytesD zs)] (.d (.v (.bool true))) := by
  have h := liBytes_ok zs zs
  simpa using h
theorem liPartE (d : Dat) : DataOk Try.prog 29 [partN d, partN d] (.d (.v (.bool true))) := by
  obtain ⟨g, l, ys⟩ := d
  refine Spec.intro (n := 24) (rv := [.tmp 4]) Try.func29 rfl rfl rfl (by simp) fun C hN hX => ?_
  refine AW.seq ?_
  apply AW.list
  apply Wk.bx 2 rfl rfl (lt_of_ble rfl)
  apply Wk.bx 3 rfl rfl (lt_of_ble rfl)
  apply Wk.asg (by conv => lhs; whnf) (lt_of_ble rfl)
  refine Wk.nil ?_
  refine AW.seq ?_
  apply AW.list
  apply Wk.fad 0 0 false fd47_0 rfl (lt_of_ble rfl)
  apply Wk.ld (i := 2) 1 false ty3 rfl rfl (by conv => lhs; whnf) (lt_of_ble rfl)
  apply Wk.fad 0 0 false fd47_0 rfl (lt_of_ble rfl)
  apply Wk.ld (i := 3) 1 false ty3 rfl rfl (by conv => lhs; whnf) (lt_of_ble rfl)
  apply Wk.bin rfl rfl (r := .bool true) (fun w => by simp [go_sem]) (lt_of_ble rfl)
  apply Wk.mv (by conv => lhs; whnf) (lt_of_ble rfl)
  apply Wk.gon 10 rfl rfl
  apply Wk.fad 1 0 false fd47_1 rfl (lt_of_ble rfl)
  apply Wk.gon 10 rfl rfl
  apply Wk.ld (i := 2) 1 false ty3 rfl rfl (by conv => lhs; whnf) (lt_of_ble rfl)
  apply Wk.gon 10 rfl rfl
  apply Wk.fad 1 0 false fd47_1 rfl (lt_of_ble rfl)
  apply Wk.gon 10 rfl rfl
  apply Wk.ld (i := 3) 1 false ty3 rfl rfl (by conv => lhs; whnf) (lt_of_ble rfl)
  apply Wk.gon 10 rfl rfl
  apply Wk.bin rfl rfl (r := .bool true) (fun w => by simp [go_sem]) (lt_of_ble rfl)
  apply Wk.pckT rfl (by conv => lhs; whnf) (lt_of_ble rfl)
  apply Wk.mv (by conv => lhs; whnf) (lt_of_ble rfl)
  apply Wk.gon 17 rfl rfl
  apply Wk.fad 2 0 false fd47_2 rfl (lt_of_ble rfl)
  apply Wk.gon 17 rfl rfl
  apply Wk.ld (i := 2) 1 false ty22 rfl rfl (by conv => lhs; whnf) (lt_of_ble rfl)
  apply Wk.gon 17 rfl rfl
  apply Wk.fad 2 0 false fd47_2 rfl (lt_of_ble rfl)
  apply Wk.gon 17 rfl rfl
  apply Wk.ld (i := 3) 1 false ty22 rfl rfl (by conv => lhs; whnf) (lt_of_ble rfl)
  apply Wk.gon 17 rfl rfl
  apply Wk.dat (liBytesE ys) Try.func39 rfl rfl rfl rfl rfl (lt_of_ble rfl)
  apply Wk.pckT rfl (by conv => lhs; whnf) (lt_of_ble rfl)
  apply Wk.asg (by conv => lhs; whnf) (lt_of_ble rfl)
  refine Wk.nil (AW.ret ?_)
  exact RetQ.ret [] (.cons rfl .nil) ⟨rfl, rfl⟩ none_kept
theorem liPartsE (ds : List Dat) : DataOk Try.prog 21 [.d (partsD ds), .d (partsD ds)] (.d (.v (.bool true))) := by
  refine Spec.intro (n := 27) (rv := [.tmp 4]) Try.func21 rfl rfl rfl (by simp) fun C hN hX => ?_
  refine AW.bound (x := .tmp 0) rfl fun hb => ?_
  simp only [List.length_map] at hb
  refine AW.seq ?_
  apply AW.list
  apply Wk.asg (by conv => lhs; whnf) (lt_of_ble rfl)
  refine Wk.nil ?_
  refine AW.seq (AW.seq ?_)
  apply AW.list
  apply Wk.mv (by conv => lhs; whnf) (lt_of_ble rfl)
  apply Wk.len un25 rfl (lt_of_ble rfl)
  apply Wk.mv (by conv => lhs; whnf) (lt_of_ble rfl)
  apply Wk.len un25 rfl (lt_of_ble rfl)
  apply Wk.bin rfl rfl (fun w => by simp [go_sem] <;> rfl) (lt_of_ble rfl)
  refine Wk.nil ?_
  refine AW.cond rfl (fun hc => by simp at hc) (fun _ => AW.skip (thenA_normal ?_))
  refine AW.seq (AW.seq ?_)
  apply AW.list
  apply Wk.asg (by conv => lhs; whnf) (lt_of_ble rfl)
  refine Wk.nil (AW.block ?_)
  refine AW.loop (fun q : Nat => St.of 27 [(0, .d (partsD ds)), (1, .d (partsD ds)), (5, .d (.v (.int .i64 (q : Int))))] []) (fun q => q ≤ ds.length) (fun q => ds.length - q) 0 (Nat.zero_le _) ?_ (fun q hq => ?_)
  · exact fun a w => Rel.keep ⟨rfl, .cons rfl rfl (.cons rfl rfl (.cons rfl rfl .nil)), .nil, hN⟩
  refine AW.seq (AW.seq ?_)
  apply AW.list
  apply Wk.mv (by conv => lhs; whnf) (lt_of_ble rfl)
  apply Wk.mv (by conv => lhs; whnf) (lt_of_ble rfl)
  apply Wk.len un25 rfl (lt_of_ble rfl)
  apply Wk.bin rfl rfl (fun w => by simp [go_sem] <;> rfl) (lt_of_ble rfl)
  refine Wk.nil ?_
  refine AW.cond rfl (fun hc => ?_) (fun hc => ?_)
  · have hlt : q < ds.length := by simpa using hc
    obtain ⟨d, hd⟩ : ∃ d, ds[q]? = some d := ⟨_, List.getElem?_eq_getElem hlt⟩
    have hget : (ds.map datD)[q]? = some (datD d) := by simp [hd]
    refine AW.skip ?_
    repeat (first | refine thenA_normal ?_ | refine inBlockA_normal ?_)
    refine AW.seq (AW.block (AW.seq ?_))
    apply AW.draw (hm := hmix) (cs := _)
    · apply Wk.mv (by conv => lhs; whnf) (lt_of_ble rfl)
      apply Wk.mv (by conv => lhs; whnf) (lt_of_ble rfl)
      apply Wk.iad 3 true un25 ty47 rfl rfl (by simpa using hlt) (datD_len ds) (lt_of_ble rfl)
      apply Wk.ldr 3 true ty47 rfl hget (by conv => lhs; whnf) (lt_of_ble rfl)
      apply Wk.mv (by conv => lhs; whnf) (lt_of_ble rfl)
      apply Wk.mv (by conv => lhs; whnf) (lt_of_ble rfl)
      apply Wk.iad 3 true un25 ty47 rfl rfl (by simpa using hlt) (datD_len ds) (lt_of_ble rfl)
      apply Wk.ldr 3 true ty47 rfl hget (by conv => lhs; whnf) (lt_of_ble rfl)
      apply Wk.dat (liPartE d) Try.func29 rfl rfl rfl rfl rfl (lt_of_ble rfl)
      apply Wk.un rfl (fun w => by simp [go_sem] <;> rfl) (lt_of_ble rfl)
      refine Wk.nil ?_
      refine AW.cond rfl (fun hn => by cases hn) (fun hn => ?_)
      refine AW.skip ?_
      repeat (first | refine thenA_normal ?_ | refine inBlockA_normal ?_)
      apply AW.list
      apply Wk.mv (by conv => lhs; whnf) (lt_of_ble rfl)
      apply Wk.addi rfl rfl (by omega) (lt_of_ble rfl)
      apply Wk.asg (by conv => lhs; whnf) (lt_of_ble rfl)
      refine Wk.nil ?_
      exact ⟨q + 1, by omega, by omega, fun a w => Rel.keep ⟨rfl, .cons rfl rfl (.cons rfl rfl (.cons rfl rfl .nil)), .nil, hN⟩⟩
    · rfl
    · rfl
  · refine AW.exit ?_
    repeat (first | refine inBlockA_same ?_ | refine thenA_exit ?_)
    repeat (first | refine thenA_normal ?_ | refine inBlockA_normal ?_)
    refine AW.seq ?_
    apply AW.list
    apply Wk.asg (by conv => lhs; whnf) (lt_of_ble rfl)
    refine Wk.nil (AW.ret ?_)
    repeat (first | refine thenA_ret ?_ | refine inBlockA_ret ?_)
    exact RetQ.ret [] (.cons rfl .nil) ⟨rfl, rfl⟩ none_kept
end Go.Proofs.Ytdojkmjamilllaa

/- Two of who sends for credits that are the same, by the laws' own words. Written by tools/mk_AbsCrdPutI.py. -/
namespace Go.Proofs.Ytdojkmjamilllaa
open Go Go.RowKit
set_option maxHeartbeats 4000000 in
set_option maxRecDepth 100000 in
theorem liCtxE (x : CX) : DataOk Try.prog 44 [cxA x, cxA x] (.d (.v (.bool true))) := by
  obtain ⟨v, qu, g, s, d⟩ := x
  refine Spec.intro (n := 38) (rv := [.tmp 4]) Try.func44 rfl rfl rfl (by simp) fun C hN hX => ?_
  refine AW.seq ?_
  apply AW.list
  apply Wk.bx 2 rfl rfl (lt_of_ble rfl)
  apply Wk.bx 3 rfl rfl (lt_of_ble rfl)
  apply Wk.asg (by conv => lhs; whnf) (lt_of_ble rfl)
  refine Wk.nil ?_
  refine AW.seq ?_
  apply AW.list
  apply Wk.fad 0 0 false fd62_0 rfl (lt_of_ble rfl)
  apply Wk.ld (i := 2) 1 false ty3 rfl rfl (by conv => lhs; whnf) (lt_of_ble rfl)
  apply Wk.fad 0 0 false fd62_0 rfl (lt_of_ble rfl)
  apply Wk.ld (i := 3) 1 false ty3 rfl rfl (by conv => lhs; whnf) (lt_of_ble rfl)
  apply Wk.bin rfl rfl (r := .bool true) (fun w => by simp [go_sem]) (lt_of_ble rfl)
  apply Wk.mv (by conv => lhs; whnf) (lt_of_ble rfl)
  apply Wk.gon 10 rfl rfl
  apply Wk.fad 1 0 false fd62_1 rfl (lt_of_ble rfl)
  apply Wk.gon 10 rfl rfl
  apply Wk.ld (i := 2) 1 false ty25 rfl rfl (by conv => lhs; whnf) (lt_of_ble rfl)
  apply Wk.gon 10 rfl rfl
  apply Wk.fad 1 0 false fd62_1 rfl (lt_of_ble rfl)
  apply Wk.gon 10 rfl rfl
  apply Wk.ld (i := 3) 1 false ty25 rfl rfl (by conv => lhs; whnf) (lt_of_ble rfl)
  apply Wk.gon 10 rfl rfl
  apply Wk.dat (liPartsE qu) Try.func21 rfl rfl rfl rfl rfl (lt_of_ble rfl)
  apply Wk.pckT rfl (by conv => lhs; whnf) (lt_of_ble rfl)
  apply Wk.mv (by conv => lhs; whnf) (lt_of_ble rfl)
  apply Wk.gon 17 rfl rfl
  apply Wk.fad 2 0 false fd62_2 rfl (lt_of_ble rfl)
  apply Wk.gon 17 rfl rfl
  apply Wk.ld (i := 2) 1 false ty3 rfl rfl (by conv => lhs; whnf) (lt_of_ble rfl)
  apply Wk.gon 17 rfl rfl
  apply Wk.fad 2 0 false fd62_2 rfl (lt_of_ble rfl)
  apply Wk.gon 17 rfl rfl
  apply Wk.ld (i := 3) 1 false ty3 rfl rfl (by conv => lhs; whnf) (lt_of_ble rfl)
  apply Wk.gon 17 rfl rfl
  apply Wk.bin rfl rfl (r := .bool true) (fun w => by simp [go_sem]) (lt_of_ble rfl)
  apply Wk.pckT rfl (by conv => lhs; whnf) (lt_of_ble rfl)
  apply Wk.mv (by conv => lhs; whnf) (lt_of_ble rfl)
  apply Wk.gon 24 rfl rfl
  apply Wk.fad 3 0 false fd62_3 rfl (lt_of_ble rfl)
  apply Wk.gon 24 rfl rfl
  apply Wk.ld (i := 2) 1 false ty3 rfl rfl (by conv => lhs; whnf) (lt_of_ble rfl)
  apply Wk.gon 24 rfl rfl
  apply Wk.fad 3 0 false fd62_3 rfl (lt_of_ble rfl)
  apply Wk.gon 24 rfl rfl
  apply Wk.ld (i := 3) 1 false ty3 rfl rfl (by conv => lhs; whnf) (lt_of_ble rfl)
  apply Wk.gon 24 rfl rfl
  apply Wk.bin rfl rfl (r := .bool true) (fun w => by simp [go_sem]) (lt_of_ble rfl)
  apply Wk.pckT rfl (by conv => lhs; whnf) (lt_of_ble rfl)
  apply Wk.mv (by conv => lhs; whnf) (lt_of_ble rfl)
  apply Wk.gon 31 rfl rfl
  apply Wk.fad 4 0 false fd62_4 rfl (lt_of_ble rfl)
  apply Wk.gon 31 rfl rfl
  apply Wk.ld (i := 2) 1 false ty4 rfl rfl (by conv => lhs; whnf) (lt_of_ble rfl)
  apply Wk.gon 31 rfl rfl
  apply Wk.fad 4 0 false fd62_4 rfl (lt_of_ble rfl)
  apply Wk.gon 31 rfl rfl
  apply Wk.ld (i := 3) 1 false ty4 rfl rfl (by conv => lhs; whnf) (lt_of_ble rfl)
  apply Wk.gon 31 rfl rfl
  apply Wk.bin rfl rfl (r := .bool true) (fun w => by simp [go_sem]) (lt_of_ble rfl)
  apply Wk.pckT rfl (by conv => lhs; whnf) (lt_of_ble rfl)
  apply Wk.asg (by conv => lhs; whnf) (lt_of_ble rfl)
  refine Wk.nil (AW.ret ?_)
  exact RetQ.ret [] (.cons rfl .nil) ⟨rfl, rfl⟩ none_kept
end Go.Proofs.Ytdojkmjamilllaa

/- The pieces of a message are ok, of so many bytes at most. -/
namespace Go.Proofs.Ytdojkmjamilllaa
open Go Go.RowKit
theorem more_pieces {m : Nat} (h1 : 1 ≤ m) (h8 : m ≤ 8) (rest : List Nat) (hr : rest ≠ []) : ∀ d ∈ moreD m rest, partM (m : Int) d = true := by
  induction rest using moreD.induct (m := m) with
  | case1 rest h =>
    intro d hd
    rw [moreD, dif_pos h] at hd
    obtain rfl := List.mem_singleton.1 hd
    have hp := List.length_pos_iff.2 hr
    have hl : rest.length ≤ m := by rcases h with h | h <;> omega
    simp only [partM, pieceB, Bool.and_eq_true, decide_eq_true_eq, true_and, and_true, or_true]
    omega
  | case2 rest h ih =>
    intro d hd
    rw [moreD, dif_neg h] at hd
    rcases List.mem_cons.1 hd with rfl | hd
    · simp only [partM, pieceB, Bool.and_eq_true, decide_eq_true_eq, true_and, and_true, true_or]
      rw [List.length_take]
      omega
    · exact ih (by intro e; have := congrArg List.length e; simp at this; omega) d hd
theorem cut_pieces {zs : List Nat} {m : Int} : ∀ d ∈ cutD zs m, partM m d = true := by
  intro d hd
  unfold cutD at hd
  split at hd
  · rename_i h
    obtain ⟨h0, h1, h2⟩ := h
    split at hd
    · rename_i hl
      obtain rfl := List.mem_singleton.1 hd
      simp only [partM, pieceB, Bool.and_eq_true, decide_eq_true_eq, and_true, true_or]
      omega
    · rename_i hl
      have e : ((m.toNat : Nat) : Int) = m := by omega
      rcases List.mem_cons.1 hd with rfl | hd
      · simp only [partM, pieceB, Bool.and_eq_true, decide_eq_true_eq, true_and]
        rw [List.length_take]
        omega
      · have := more_pieces (m := m.toNat) (by omega) (by omega) (zs.drop m.toNat) (by intro e2; have := congrArg List.length e2; simp at this; omega) d hd
        rwa [e] at this
  · cases hd
end Go.Proofs.Ytdojkmjamilllaa
