/- Laws and contracts that the proof stands on: AbsTxTick2, AbsTxPut, AbsCut, AbsTxS, AbsTxS2, AbsTxSend, AbsTxSend2, AbsTxAcked, AbsTxHearS, AbsTxHearT, TxFacts, AbsTxW, AbsPart, PartA3, AbsMk8, AbsPartOr1, AbsPartD. -/
import Derived.Test.YtdojkmjamilllaaMa
import Derived.Test.YtdojkmjamilllaaMb
import Derived.Test.YtdojkmjamilllaaMc
import Derived.Test.YtdojkmjamilllaaMd
import Derived.Laws.OwnMore
/- TxTick of the specification, over what values read as. -/
namespace Go.Proofs.Ytdojkmjamilllaa
open Go Go.RowKit
def frmG (k s c : Int) (p f : Bool) (y g l : Int) : A := .agg [.d (.v (.int .i64 k)), .d (.v (.int .i64 s)), .d (.v (.int .i64 c)), .d (.v (.bool p)), .d (.v (.bool f)), .d (.v (.int .i64 y)), .d (.v (.int .i64 g)), .d (.v (.int .i64 l)), .d (.v (.slice none 0 0))]
def txNil : A := .agg [.d (.v (.int .i64 0)), .d (.v (.int .i64 0)), .d (.v (.slice none 0 0)), .d (.v (.int .i64 0)), .d (.v (.slice none 0 0)), .d (.v (.bool false)), .d (.v (.int .i64 0)), .d (.v (.bool false)), .d (.v (.int .i64 0)), .d (.v (.bool false))]
theorem stxb {m0 w0 p0 u0 y0 : Int} {x : TX} {b : Bool} (h : txOkB ⟨m0, w0, p0, u0, y0⟩ x = b) : DataOk Try.prog 18 [cfgA m0 w0 p0 u0 y0, txA x] (.d (.v (.bool b))) := h ▸ stx_ok m0 w0 p0 u0 y0 x
set_option maxHeartbeats 4000000 in
set_option maxRecDepth 100000 in
theorem stickNo (m0 w0 p0 u0 y0 : Int) (x : TX) (ack : Int) (bu : Bool) (hno : txOkB ⟨m0, w0, p0, u0, y0⟩ x = false ∨ inB ack 0 7 = false) :
    DataOk Try.prog 37 [cfgA m0 w0 p0 u0 y0, txA x, .d (.v (.int .i64 ack)), .d (.v (.bool bu))] (.tup [txNil, frmNo, .d (.v (.bool false))]) := by
  cases hok : txOkB ⟨m0, w0, p0, u0, y0⟩ x
  · skip
    refine Spec.intro (n := 39) (rv := [.cell 8 27, .cell 9 42, .tmp 10]) Try.func37 rfl rfl rfl (by simp) fun C hN hX => ?_
    refine AW.seq ?_
    apply AW.list
    apply Wk.bx 4 rfl rfl (lt_of_ble rfl)
    apply Wk.bx 5 rfl rfl (lt_of_ble rfl)
    apply Wk.alc 8 [.int .i64 0, .int .i64 0, .slice none 0 0, .int .i64 0, .slice none 0 0, .bool false, .int .i64 0, .bool false, .int .i64 0, .bool false] ze27 rfl rfl (lt_of_ble rfl)
    apply Wk.alc 9 [.int .i64 0, .int .i64 0, .int .i64 0, .bool false, .bool false, .int .i64 0, .int .i64 0, .int .i64 0, .slice none 0 0] ze42 rfl rfl (lt_of_ble rfl)
    apply Wk.asg (by conv => lhs; whnf) (lt_of_ble rfl)
    refine Wk.nil ?_
    refine AW.seq (AW.seq ?_)
    apply AW.list
    apply Wk.ld (i := 4) 5 true ty24 rfl rfl (by conv => lhs; whnf) (lt_of_ble rfl)
    apply Wk.ld (i := 5) 10 true ty27 rfl rfl (by conv => lhs; whnf) (lt_of_ble rfl)
    apply Wk.dat (stxb hok) Try.func18 rfl rfl rfl rfl rfl (lt_of_ble rfl)
    apply Wk.un rfl (fun w => by simp [go_sem] <;> rfl) (lt_of_ble rfl)
    apply Wk.mv (by conv => lhs; whnf) (lt_of_ble rfl)
    apply Wk.goff 18 (ok_move _) rfl rfl (by decide)
    apply Wk.goff 18 (ok_datw ((sinb (n := 0) (lo := 0) (hi := 7) rfl).w rfl) Try.func60 rfl rfl) rfl rfl (by decide)
    apply Wk.goff 18 (ok_un _ _ _) rfl rfl (by decide)
    apply Wk.pckT rfl (by conv => lhs; whnf) (lt_of_ble rfl)
    refine Wk.nil ?_
    refine AW.cond rfl (fun _ => ?_) (fun hc => by cases hc)
    refine AW.seq ?_
    apply AW.list
    apply Wk.bld [.int .i64 0, .int .i64 0, .slice none 0 0, .int .i64 0, .slice none 0 0, .bool false, .int .i64 0, .bool false, .int .i64 0, .bool false] [(0, 1), (1, 1), (2, 1), (3, 1), (4, 1), (5, 1), (6, 1), (7, 1), (8, 1), (9, 1)] bl27 rfl (by conv => lhs; whnf) (lt_of_ble rfl)
    apply Wk.bld [.int .i64 0, .int .i64 0, .int .i64 0, .bool false, .bool false, .int .i64 0, .int .i64 0, .int .i64 0, .slice none 0 0] [(0, 1), (1, 1), (2, 1), (3, 1), (4, 1), (5, 1), (6, 1), (7, 1), (8, 1)] bl42 rfl (by conv => lhs; whnf) (lt_of_ble rfl)
    apply Wk.sto (i := 8) 10 true ty27 rfl rfl rfl rfl (Nat.le_of_ble_eq_true rfl) (lt_of_ble rfl)
    apply Wk.sto (i := 9) 9 true ty42 rfl rfl rfl rfl (Nat.le_of_ble_eq_true rfl) (lt_of_ble rfl)
    apply Wk.asg (by conv => lhs; whnf) (lt_of_ble rfl)
    refine Wk.nil (AW.ret ?_)
    repeat (first | refine thenA_ret ?_ | refine inBlockA_ret ?_)
    exact RetQ.ret [] (.cons ⟨8, 0, _, _, _, rfl, rfl, ty27, rfl⟩ (.cons ⟨9, 0, _, _, _, rfl, rfl, ty42, rfl⟩ (.cons rfl .nil))) ⟨rfl, rfl⟩ none_kept
  · have hack : inB ack 0 7 = false := by rcases hno with h | h
                                          · rw [hok] at h; cases h
                                          · exact h
    refine Spec.intro (n := 39) (rv := [.cell 8 27, .cell 9 42, .tmp 10]) Try.func37 rfl rfl rfl (by simp) fun C hN hX => ?_
    refine AW.seq ?_
    apply AW.list
    apply Wk.bx 4 rfl rfl (lt_of_ble rfl)
    apply Wk.bx 5 rfl rfl (lt_of_ble rfl)
    apply Wk.alc 8 [.int .i64 0, .int .i64 0, .slice none 0 0, .int .i64 0, .slice none 0 0, .bool false, .int .i64 0, .bool false, .int .i64 0, .bool false] ze27 rfl rfl (lt_of_ble rfl)
    apply Wk.alc 9 [.int .i64 0, .int .i64 0, .int .i64 0, .bool false, .bool false, .int .i64 0, .int .i64 0, .int .i64 0, .slice none 0 0] ze42 rfl rfl (lt_of_ble rfl)
    apply Wk.asg (by conv => lhs; whnf) (lt_of_ble rfl)
    refine Wk.nil ?_
    refine AW.seq (AW.seq ?_)
    apply AW.list
    apply Wk.ld (i := 4) 5 true ty24 rfl rfl (by conv => lhs; whnf) (lt_of_ble rfl)
    apply Wk.ld (i := 5) 10 true ty27 rfl rfl (by conv => lhs; whnf) (lt_of_ble rfl)
    apply Wk.dat (stxb hok) Try.func18 rfl rfl rfl rfl rfl (lt_of_ble rfl)
    apply Wk.un rfl (fun w => by simp [go_sem] <;> rfl) (lt_of_ble rfl)
    apply Wk.mv (by conv => lhs; whnf) (lt_of_ble rfl)
    apply Wk.gon 18 rfl rfl
    apply Wk.mv (by conv => lhs; whnf) (lt_of_ble rfl)
    apply Wk.gon 18 rfl rfl
    apply Wk.dat (sinb hack) Try.func60 rfl rfl rfl rfl rfl (lt_of_ble rfl)
    apply Wk.gon 18 rfl rfl
    apply Wk.un rfl (fun w => by simp [go_sem] <;> rfl) (lt_of_ble rfl)
    apply Wk.pckF rfl (by conv => lhs; whnf) (lt_of_ble rfl)
    refine Wk.nil ?_
    refine AW.cond rfl (fun _ => ?_) (fun hc => by cases hc)
    refine AW.seq ?_
    apply AW.list
    apply Wk.bld [.int .i64 0, .int .i64 0, .slice none 0 0, .int .i64 0, .slice none 0 0, .bool false, .int .i64 0, .bool false, .int .i64 0, .bool false] [(0, 1), (1, 1), (2, 1), (3, 1), (4, 1), (5, 1), (6, 1), (7, 1), (8, 1), (9, 1)] bl27 rfl (by conv => lhs; whnf) (lt_of_ble rfl)
    apply Wk.bld [.int .i64 0, .int .i64 0, .int .i64 0, .bool false, .bool false, .int .i64 0, .int .i64 0, .int .i64 0, .slice none 0 0] [(0, 1), (1, 1), (2, 1), (3, 1), (4, 1), (5, 1), (6, 1), (7, 1), (8, 1)] bl42 rfl (by conv => lhs; whnf) (lt_of_ble rfl)
    apply Wk.sto (i := 8) 10 true ty27 rfl rfl rfl rfl (Nat.le_of_ble_eq_true rfl) (lt_of_ble rfl)
    apply Wk.sto (i := 9) 9 true ty42 rfl rfl rfl rfl (Nat.le_of_ble_eq_true rfl) (lt_of_ble rfl)
    apply Wk.asg (by conv => lhs; whnf) (lt_of_ble rfl)
    refine Wk.nil (AW.ret ?_)
    repeat (first | refine thenA_ret ?_ | refine inBlockA_ret ?_)
    exact RetQ.ret [] (.cons ⟨8, 0, _, _, _, rfl, rfl, ty27, rfl⟩ (.cons ⟨9, 0, _, _, _, rfl, rfl, ty42, rfl⟩ (.cons rfl .nil))) ⟨rfl, rfl⟩ none_kept
set_option maxHeartbeats 4000000 in
set_option maxRecDepth 100000 in
theorem stickYes (m0 w0 p0 u0 y0 : Int) (x x' : TX) (ack : Int) (bu : Bool) (k s c : Int) (p f : Bool) (y g l : Int) (b : Bool) (hok : txOkB ⟨m0, w0, p0, u0, y0⟩ x = true) (hack : inB ack 0 7 = true) (hx : x.few) (hx' : x'.few)
    (ht : DataOk Try.prog 79 [cfgA m0 w0 p0 u0 y0, txA x, .d (.v (.int .i64 ack)), .d (.v (.bool bu))] (.tup [txA x', frmG k s c p f y g l, .d (.v (.bool b))])) :
    DataOk Try.prog 37 [cfgA m0 w0 p0 u0 y0, txA x, .d (.v (.int .i64 ack)), .d (.v (.bool bu))] (.tup [txA x', frmG k s c p f y g l, .d (.v (.bool b))]) := by
  have c1 := scopy_ok x hx
  have c2 := scopy_ok x' hx'
  refine Spec.intro (n := 39) (rv := [.cell 8 27, .cell 9 42, .tmp 10]) Try.func37 rfl rfl rfl (by simp) fun C hN hX => ?_
  refine AW.seq ?_
  apply AW.list
  apply Wk.bx 4 rfl rfl (lt_of_ble rfl)
  apply Wk.bx 5 rfl rfl (lt_of_ble rfl)
  apply Wk.alc 8 [.int .i64 0, .int .i64 0, .slice none 0 0, .int .i64 0, .slice none 0 0, .bool false, .int .i64 0, .bool false, .int .i64 0, .bool false] ze27 rfl rfl (lt_of_ble rfl)
  apply Wk.alc 9 [.int .i64 0, .int .i64 0, .int .i64 0, .bool false, .bool false, .int .i64 0, .int .i64 0, .int .i64 0, .slice none 0 0] ze42 rfl rfl (lt_of_ble rfl)
  apply Wk.asg (by conv => lhs; whnf) (lt_of_ble rfl)
  refine Wk.nil ?_
  refine AW.seq (AW.seq ?_)
  apply AW.list
  apply Wk.ld (i := 4) 5 true ty24 rfl rfl (by conv => lhs; whnf) (lt_of_ble rfl)
  apply Wk.ld (i := 5) 10 true ty27 rfl rfl (by conv => lhs; whnf) (lt_of_ble rfl)
  apply Wk.dat (stxb hok) Try.func18 rfl rfl rfl rfl rfl (lt_of_ble rfl)
  apply Wk.un rfl (fun w => by simp [go_sem] <;> rfl) (lt_of_ble rfl)
  apply Wk.mv (by conv => lhs; whnf) (lt_of_ble rfl)
  apply Wk.gon 18 rfl rfl
  apply Wk.mv (by conv => lhs; whnf) (lt_of_ble rfl)
  apply Wk.gon 18 rfl rfl
  apply Wk.dat (sinb hack) Try.func60 rfl rfl rfl rfl rfl (lt_of_ble rfl)
  apply Wk.gon 18 rfl rfl
  apply Wk.un rfl (fun w => by simp [go_sem] <;> rfl) (lt_of_ble rfl)
  apply Wk.pckF rfl (by conv => lhs; whnf) (lt_of_ble rfl)
  refine Wk.nil ?_
  refine AW.cond rfl (fun hc => by cases hc) (fun _ => AW.skip (thenA_normal ?_))
  refine AW.seq ?_
  apply AW.draw (hm := hmix) (cs := _)
  · apply Wk.ld (i := 4) 5 true ty24 rfl rfl (by conv => lhs; whnf) (lt_of_ble rfl)
    apply Wk.ld (i := 5) 10 true ty27 rfl rfl (by conv => lhs; whnf) (lt_of_ble rfl)
    apply Wk.dat c1 Try.func55 rfl rfl rfl rfl rfl (lt_of_ble rfl)
    apply Wk.mv (by conv => lhs; whnf) (lt_of_ble rfl)
    apply Wk.mv (by conv => lhs; whnf) (lt_of_ble rfl)
    apply Wk.dat ht Try.func79 rfl rfl rfl rfl rfl (lt_of_ble rfl)
    apply Wk.mv (by conv => lhs; whnf) (lt_of_ble rfl)
    apply Wk.ext rfl rfl (lt_of_ble rfl)
    apply Wk.ext rfl rfl (lt_of_ble rfl)
    apply Wk.ext rfl rfl (lt_of_ble rfl)
    apply Wk.alc 11 [.int .i64 0, .int .i64 0, .slice none 0 0, .int .i64 0, .slice none 0 0, .bool false, .int .i64 0, .bool false, .int .i64 0, .bool false] ze27 rfl rfl (lt_of_ble rfl)
    apply Wk.alc 12 [.int .i64 0, .int .i64 0, .int .i64 0, .bool false, .bool false, .int .i64 0, .int .i64 0, .int .i64 0, .slice none 0 0] ze42 rfl rfl (lt_of_ble rfl)
    apply Wk.sto (i := 11) 10 true ty27 rfl rfl rfl rfl (Nat.le_of_ble_eq_true rfl) (lt_of_ble rfl)
    apply Wk.sto (i := 12) 9 true ty42 rfl rfl rfl rfl (Nat.le_of_ble_eq_true rfl) (lt_of_ble rfl)
    apply Wk.asg (by conv => lhs; whnf) (lt_of_ble rfl)
    refine Wk.nil ?_
    refine AW.seq ?_
    apply AW.draw (hm := hmix) (cs := _)
    · apply Wk.ld (i := 11) 10 true ty27 rfl rfl (by conv => lhs; whnf) (lt_of_ble rfl)
      apply Wk.dat c2 Try.func55 rfl rfl rfl rfl rfl (lt_of_ble rfl)
      apply Wk.ld (i := 12) 9 true ty42 rfl rfl (by conv => lhs; whnf) (lt_of_ble rfl)
      apply Wk.mv (by conv => lhs; whnf) (lt_of_ble rfl)
      apply Wk.sto (i := 8) 10 true ty27 rfl rfl rfl rfl (Nat.le_of_ble_eq_true rfl) (lt_of_ble rfl)
      apply Wk.sto (i := 9) 9 true ty42 rfl rfl rfl rfl (Nat.le_of_ble_eq_true rfl) (lt_of_ble rfl)
      apply Wk.asg (by conv => lhs; whnf) (lt_of_ble rfl)
      refine Wk.nil (AW.ret ?_)
      exact RetQ.ret [] (.cons ⟨8, 0, _, _, _, rfl, rfl, ty27, rfl⟩ (.cons ⟨9, 0, _, _, _, rfl, rfl, ty42, rfl⟩ (.cons rfl .nil))) ⟨rfl, rfl⟩ none_kept
    · rfl
    · rfl
  · rfl
  · rfl
end Go.Proofs.Ytdojkmjamilllaa

/- TxLeft, both sides'; what TxPut does to a copy. -/
namespace Go.Proofs.Ytdojkmjamilllaa
open Go Go.RowKit
set_option maxRecDepth 100000 in
theorem ileft_ok (x : TX) (h1 : x.fl.length ≤ 1000000) (h2 : x.qu.length ≤ 1000000) : DataOk Try.prog 22 [txA x] (.d (.v (.int .i64 ((x.fl.length : Int) + (x.qu.length : Int))))) := by
  obtain ⟨n, a, fl, s, qu, q, t, h, c, d⟩ := x
  simp only at h1 h2 ⊢
  have e1 : (((fl.map datD).length : Nat) : Int) = (fl.length : Int) := by rw [List.length_map]
  have e2 : (((qu.map datD).length : Nat) : Int) = (qu.length : Int) := by rw [List.length_map]
  refine Spec.intro (n := 10) (rv := [.tmp 2]) Try.func22 rfl rfl rfl (by simp) fun C hN hX => ?_
  refine AW.seq ?_
  apply AW.list
  apply Wk.bx 1 rfl rfl (lt_of_ble rfl)
  apply Wk.asg (by conv => lhs; whnf) (lt_of_ble rfl)
  refine Wk.nil ?_
  refine AW.seq ?_
  apply AW.list
  apply Wk.fad 2 0 false fd27_2 rfl (lt_of_ble rfl)
  apply Wk.ld (i := 1) 1 false ty25 rfl rfl (by conv => lhs; whnf) (lt_of_ble rfl)
  apply Wk.len un25 rfl (lt_of_ble rfl)
  apply Wk.fad 4 0 false fd27_4 rfl (lt_of_ble rfl)
  apply Wk.ld (i := 1) 1 false ty25 rfl rfl (by conv => lhs; whnf) (lt_of_ble rfl)
  apply Wk.len un25 rfl (lt_of_ble rfl)
  apply Wk.addi rfl rfl (by rw [e1, e2]; omega) (lt_of_ble rfl)
  apply Wk.asg (by conv => lhs; whnf) (lt_of_ble rfl)
  refine Wk.nil (AW.ret ?_)
  exact RetQ.ret [] (.cons rfl .nil) ⟨by rw [e1, e2]; rfl, rfl⟩ none_kept
/-- Boxes of the two lists. -/
def txB (fl qu : List Dat) (k l : Nat) : List (Nat × Bx) := [(5, .own k 47 3 (piecesA fl)), (66, .own l 47 3 (piecesA qu))]
/-- A message does not fit. -/
def full (u : Int) (x : TX) (n k : Nat) : Prop := x.d = true ∨ u < (n : Int) ∨ 24 < x.qu.length + k
set_option maxHeartbeats 4000000 in
set_option maxRecDepth 100000 in
theorem sputNo (m w p u y : Int) (x : TX) (k l : Nat) (sdu : List Nat) (cut : List Dat) (hcut : DataOk Try.prog 83 [.d (bytesD sdu), .d (.v (.int .i64 p))] (.d (partsD cut))) (hq : x.qu.length ≤ 1000) (hc : cut.length ≤ 1000) (hf : full u x sdu.length cut.length) :
    Spec Try.prog 54 [cfgA m w p u y, txO x 5 k 66 l, .d (bytesD sdu)] (txB x.fl x.qu k l) (fun r bs => r = .tup [txO x 5 k 66 l, .d (.v (.bool false))] ∧ bs = txB x.fl x.qu k l) := by
  obtain ⟨n, a, fl, s, qu, q, t, h, c, d⟩ := x
  simp only [full] at hq hf ⊢
  have e1 : (((sdu.map fun z : Nat => [D.v (.int .u8 (z : Int))]).length : Nat) : Int) = (sdu.length : Int) := by rw [List.length_map]
  have e2 : (((cut.map datD).length : Nat) : Int) = (cut.length : Int) := by rw [List.length_map]
  have e3 : (((piecesA qu).length : Nat) : Int) = (qu.length : Int) := by rw [piecesA, List.length_map]
  refine Spec.intro (n := 38) (rv := [.cell 6 27, .tmp 7]) Try.func54 rfl rfl rfl (by simp) fun C hN hX => ?_
  refine AW.seq ?_
  apply AW.list
  apply Wk.bx 3 rfl rfl (lt_of_ble rfl)
  apply Wk.bx 4 rfl rfl (lt_of_ble rfl)
  apply Wk.alc 6 [.int .i64 0, .int .i64 0, .slice none 0 0, .int .i64 0, .slice none 0 0, .bool false, .int .i64 0, .bool false, .int .i64 0, .bool false] ze27 rfl rfl (lt_of_ble rfl)
  apply Wk.asg (by conv => lhs; whnf) (lt_of_ble rfl)
  refine Wk.nil ?_
  refine AW.seq ?_
  apply AW.list
  apply Wk.mv (by conv => lhs; whnf) (lt_of_ble rfl)
  apply Wk.fad 2 0 false fd24_2 rfl (lt_of_ble rfl)
  apply Wk.ld (i := 3) 1 false ty3 rfl rfl (by conv => lhs; whnf) (lt_of_ble rfl)
  apply Wk.dat hcut Try.func83 rfl rfl rfl rfl rfl (lt_of_ble rfl)
  apply Wk.asg (by conv => lhs; whnf) (lt_of_ble rfl)
  refine Wk.nil ?_
  refine AW.seq (AW.seq ?_)
  cases d
  · by_cases c2 : u < (sdu.length : Int)
    · apply AW.list
      apply Wk.fad 9 0 false fd27_9 rfl (lt_of_ble rfl)
      apply Wk.ld (i := 4) 1 false ty4 rfl rfl (by conv => lhs; whnf) (lt_of_ble rfl)
      apply Wk.mv (by conv => lhs; whnf) (lt_of_ble rfl)
      apply Wk.gon 15 rfl rfl
      apply Wk.mv (by conv => lhs; whnf) (lt_of_ble rfl)
      apply Wk.gon 15 rfl rfl
      apply Wk.len un22 rfl (lt_of_ble rfl)
      apply Wk.gon 15 rfl rfl
      apply Wk.fad 3 0 false fd24_3 rfl (lt_of_ble rfl)
      apply Wk.gon 15 rfl rfl
      apply Wk.ld (i := 3) 1 false ty3 rfl rfl (by conv => lhs; whnf) (lt_of_ble rfl)
      apply Wk.gon 15 rfl rfl
      apply Wk.bin rfl rfl (r := .bool true) (fun w => by rw [e1]; simp [go_sem] <;> omega) (lt_of_ble rfl)
      apply Wk.pckF rfl (by conv => lhs; whnf) (lt_of_ble rfl)
      apply Wk.mv (by conv => lhs; whnf) (lt_of_ble rfl)
      apply Wk.goff 22 (ok_faddr fd27_4) rfl rfl (by decide)
      apply Wk.goff 22 (ok_load 4 ty25) rfl rfl (by decide)
      apply Wk.goff 22 (ok_len un25) rfl rfl (by decide)
      apply Wk.goff 22 (ok_move _) rfl rfl (by decide)
      apply Wk.goff 22 (ok_len un25) rfl rfl (by decide)
      apply Wk.goff 22 (ok_bin _ _ _ _ _) rfl rfl (by decide)
      apply Wk.goff 22 (ok_bin _ _ _ _ _) rfl rfl (by decide)
      apply Wk.pckT rfl (by conv => lhs; whnf) (lt_of_ble rfl)
      refine Wk.nil ?_
      refine AW.cond rfl (fun _ => ?_) (fun hc => by cases hc)
      refine AW.seq ?_
      apply AW.list
      apply Wk.ld (i := 4) 10 true ty27 rfl rfl (by conv => lhs; whnf) (lt_of_ble rfl)
      apply Wk.sto (i := 6) 10 true ty27 rfl rfl rfl rfl (Nat.le_of_ble_eq_true rfl) (lt_of_ble rfl)
      apply Wk.asg (by conv => lhs; whnf) (lt_of_ble rfl)
      refine Wk.nil (AW.ret ?_)
      repeat (first | refine thenA_ret ?_ | refine inBlockA_ret ?_)
      exact RetQ.ret _ (.cons ⟨6, 0, _, _, _, rfl, rfl, ty27, rfl⟩ (.cons rfl .nil)) ⟨rfl, rfl⟩ (kept2 rfl rfl)
    · have c3 : 24 < qu.length + cut.length := by rcases hf with h | h | h; · cases h
                                                  · exact absurd h c2
                                                  · exact h
      apply AW.list
      apply Wk.fad 9 0 false fd27_9 rfl (lt_of_ble rfl)
      apply Wk.ld (i := 4) 1 false ty4 rfl rfl (by conv => lhs; whnf) (lt_of_ble rfl)
      apply Wk.mv (by conv => lhs; whnf) (lt_of_ble rfl)
      apply Wk.gon 15 rfl rfl
      apply Wk.mv (by conv => lhs; whnf) (lt_of_ble rfl)
      apply Wk.gon 15 rfl rfl
      apply Wk.len un22 rfl (lt_of_ble rfl)
      apply Wk.gon 15 rfl rfl
      apply Wk.fad 3 0 false fd24_3 rfl (lt_of_ble rfl)
      apply Wk.gon 15 rfl rfl
      apply Wk.ld (i := 3) 1 false ty3 rfl rfl (by conv => lhs; whnf) (lt_of_ble rfl)
      apply Wk.gon 15 rfl rfl
      apply Wk.bin rfl rfl (r := .bool false) (fun w => by rw [e1]; simp [go_sem] <;> omega) (lt_of_ble rfl)
      apply Wk.pckF rfl (by conv => lhs; whnf) (lt_of_ble rfl)
      apply Wk.mv (by conv => lhs; whnf) (lt_of_ble rfl)
      apply Wk.gon 22 rfl rfl
      apply Wk.fad 4 0 false fd27_4 rfl (lt_of_ble rfl)
      apply Wk.gon 22 rfl rfl
      apply Wk.ld (i := 4) 1 false ty25 rfl rfl (by conv => lhs; whnf) (lt_of_ble rfl)
      apply Wk.gon 22 rfl rfl
      apply Wk.leno (i := 66) un25 rfl rfl (lt_of_ble rfl)
      apply Wk.gon 22 rfl rfl
      apply Wk.mv (by conv => lhs; whnf) (lt_of_ble rfl)
      apply Wk.gon 22 rfl rfl
      apply Wk.len un25 rfl (lt_of_ble rfl)
      apply Wk.gon 22 rfl rfl
      apply Wk.addi rfl rfl (by rw [e2, e3]; omega) (lt_of_ble rfl)
      apply Wk.gon 22 rfl rfl
      apply Wk.bin rfl rfl (r := .bool true) (fun w => by rw [e2, e3]; simp [go_sem] <;> omega) (lt_of_ble rfl)
      apply Wk.pckF rfl (by conv => lhs; whnf) (lt_of_ble rfl)
      refine Wk.nil ?_
      refine AW.cond rfl (fun _ => ?_) (fun hc => by cases hc)
      refine AW.seq ?_
      apply AW.list
      apply Wk.ld (i := 4) 10 true ty27 rfl rfl (by conv => lhs; whnf) (lt_of_ble rfl)
      apply Wk.sto (i := 6) 10 true ty27 rfl rfl rfl rfl (Nat.le_of_ble_eq_true rfl) (lt_of_ble rfl)
      apply Wk.asg (by conv => lhs; whnf) (lt_of_ble rfl)
      refine Wk.nil (AW.ret ?_)
      repeat (first | refine thenA_ret ?_ | refine inBlockA_ret ?_)
      exact RetQ.ret _ (.cons ⟨6, 0, _, _, _, rfl, rfl, ty27, rfl⟩ (.cons rfl .nil)) ⟨rfl, rfl⟩ (kept2 rfl rfl)
  · apply AW.list
    apply Wk.fad 9 0 false fd27_9 rfl (lt_of_ble rfl)
    apply Wk.ld (i := 4) 1 false ty4 rfl rfl (by conv => lhs; whnf) (lt_of_ble rfl)
    apply Wk.mv (by conv => lhs; whnf) (lt_of_ble rfl)
    apply Wk.goff 15 (ok_move _) rfl rfl (by simp)
    apply Wk.goff 15 (ok_len un22) rfl rfl (by simp)
    apply Wk.goff 15 (ok_faddr fd24_3) rfl rfl (by simp)
    apply Wk.goff 15 (ok_load 3 ty3) rfl rfl (by simp)
    apply Wk.goff 15 (ok_bin _ _ _ _ _) rfl rfl (by simp)
    apply Wk.pckT rfl (by conv => lhs; whnf) (lt_of_ble rfl)
    apply Wk.mv (by conv => lhs; whnf) (lt_of_ble rfl)
    apply Wk.goff 22 (ok_faddr fd27_4) rfl rfl (by simp)
    apply Wk.goff 22 (ok_load 4 ty25) rfl rfl (by simp)
    apply Wk.goff 22 (ok_leno 66 un25) rfl rfl (by simp)
    apply Wk.goff 22 (ok_move _) rfl rfl (by simp)
    apply Wk.goff 22 (ok_len un25) rfl rfl (by simp)
    apply Wk.goff 22 (ok_bin _ _ _ _ _) rfl rfl (by simp)
    apply Wk.goff 22 (ok_bin _ _ _ _ _) rfl rfl (by simp)
    apply Wk.pckT rfl (by conv => lhs; whnf) (lt_of_ble rfl)
    refine Wk.nil ?_
    refine AW.cond rfl (fun _ => ?_) (fun hc => by cases hc)
    refine AW.seq ?_
    apply AW.list
    apply Wk.ld (i := 4) 10 true ty27 rfl rfl (by conv => lhs; whnf) (lt_of_ble rfl)
    apply Wk.sto (i := 6) 10 true ty27 rfl rfl rfl rfl (Nat.le_of_ble_eq_true rfl) (lt_of_ble rfl)
    apply Wk.asg (by conv => lhs; whnf) (lt_of_ble rfl)
    refine Wk.nil (AW.ret ?_)
    repeat (first | refine thenA_ret ?_ | refine inBlockA_ret ?_)
    exact RetQ.ret _ (.cons ⟨6, 0, _, _, _, rfl, rfl, ty27, rfl⟩ (.cons rfl .nil)) ⟨rfl, rfl⟩ (kept2 rfl rfl)
set_option maxHeartbeats 4000000 in
set_option maxRecDepth 100000 in
theorem sputYes (m w p u y : Int) (x : TX) (k l : Nat) (sdu : List Nat) (cut : List Dat) (hcut : DataOk Try.prog 83 [.d (bytesD sdu), .d (.v (.int .i64 p))] (.d (partsD cut))) (hf : ¬ full u x sdu.length cut.length) :
    Spec Try.prog 54 [cfgA m w p u y, txO x 5 k 66 l, .d (bytesD sdu)] (txB x.fl x.qu k l) (fun r bs => r = .tup [txO x 5 k 66 (l + 1), .d (.v (.bool true))] ∧ bs = txB x.fl (x.qu ++ cut) k (l + 1)) := by
  obtain ⟨n, a, fl, s, qu, q, t, h, c, d⟩ := x
  simp only [full, not_or] at hf ⊢
  obtain ⟨hd, hu, hl⟩ := hf
  obtain rfl : d = false := by simpa using hd
  have e1 : (((sdu.map fun z : Nat => [D.v (.int .u8 (z : Int))]).length : Nat) : Int) = (sdu.length : Int) := by rw [List.length_map]
  have e2 : (((cut.map datD).length : Nat) : Int) = (cut.length : Int) := by rw [List.length_map]
  have e3 : (((piecesA qu).length : Nat) : Int) = (qu.length : Int) := by rw [piecesA, List.length_map]
  have e4 : piecesA qu ++ (cut.map datD).map (·.map A.d) = piecesA (qu ++ cut) := by simp [piecesA]
  have e5 : (piecesA qu).length + (cut.map datD).length ≤ 1000000 := by rw [piecesA, List.length_map, List.length_map]; omega
  refine Spec.intro (n := 38) (rv := [.cell 6 27, .tmp 7]) Try.func54 rfl rfl rfl (by simp) fun C hN hX => ?_
  refine AW.seq ?_
  apply AW.list
  apply Wk.bx 3 rfl rfl (lt_of_ble rfl)
  apply Wk.bx 4 rfl rfl (lt_of_ble rfl)
  apply Wk.alc 6 [.int .i64 0, .int .i64 0, .slice none 0 0, .int .i64 0, .slice none 0 0, .bool false, .int .i64 0, .bool false, .int .i64 0, .bool false] ze27 rfl rfl (lt_of_ble rfl)
  apply Wk.asg (by conv => lhs; whnf) (lt_of_ble rfl)
  refine Wk.nil ?_
  refine AW.seq ?_
  apply AW.list
  apply Wk.mv (by conv => lhs; whnf) (lt_of_ble rfl)
  apply Wk.fad 2 0 false fd24_2 rfl (lt_of_ble rfl)
  apply Wk.ld (i := 3) 1 false ty3 rfl rfl (by conv => lhs; whnf) (lt_of_ble rfl)
  apply Wk.dat hcut Try.func83 rfl rfl rfl rfl rfl (lt_of_ble rfl)
  apply Wk.asg (by conv => lhs; whnf) (lt_of_ble rfl)
  refine Wk.nil ?_
  refine AW.seq (AW.seq ?_)
  apply AW.list
  apply Wk.fad 9 0 false fd27_9 rfl (lt_of_ble rfl)
  apply Wk.ld (i := 4) 1 false ty4 rfl rfl (by conv => lhs; whnf) (lt_of_ble rfl)
  apply Wk.mv (by conv => lhs; whnf) (lt_of_ble rfl)
  apply Wk.gon 15 rfl rfl
  apply Wk.mv (by conv => lhs; whnf) (lt_of_ble rfl)
  apply Wk.gon 15 rfl rfl
  apply Wk.len un22 rfl (lt_of_ble rfl)
  apply Wk.gon 15 rfl rfl
  apply Wk.fad 3 0 false fd24_3 rfl (lt_of_ble rfl)
  apply Wk.gon 15 rfl rfl
  apply Wk.ld (i := 3) 1 false ty3 rfl rfl (by conv => lhs; whnf) (lt_of_ble rfl)
  apply Wk.gon 15 rfl rfl
  apply Wk.bin rfl rfl (r := .bool false) (fun w => by rw [e1]; simp [go_sem] <;> omega) (lt_of_ble rfl)
  apply Wk.pckF rfl (by conv => lhs; whnf) (lt_of_ble rfl)
  apply Wk.mv (by conv => lhs; whnf) (lt_of_ble rfl)
  apply Wk.gon 22 rfl rfl
  apply Wk.fad 4 0 false fd27_4 rfl (lt_of_ble rfl)
  apply Wk.gon 22 rfl rfl
  apply Wk.ld (i := 4) 1 false ty25 rfl rfl (by conv => lhs; whnf) (lt_of_ble rfl)
  apply Wk.gon 22 rfl rfl
  apply Wk.leno (i := 66) un25 rfl rfl (lt_of_ble rfl)
  apply Wk.gon 22 rfl rfl
  apply Wk.mv (by conv => lhs; whnf) (lt_of_ble rfl)
  apply Wk.gon 22 rfl rfl
  apply Wk.len un25 rfl (lt_of_ble rfl)
  apply Wk.gon 22 rfl rfl
  apply Wk.addi rfl rfl (by rw [e2, e3]; omega) (lt_of_ble rfl)
  apply Wk.gon 22 rfl rfl
  apply Wk.bin rfl rfl (r := .bool false) (fun w => by rw [e2, e3]; simp [go_sem] <;> omega) (lt_of_ble rfl)
  apply Wk.pckF rfl (by conv => lhs; whnf) (lt_of_ble rfl)
  refine Wk.nil ?_
  refine AW.cond rfl (fun hc => by cases hc) (fun _ => AW.skip (thenA_normal ?_))
  refine AW.seq ?_
  apply AW.list
  apply Wk.fad 4 0 false fd27_4 rfl (lt_of_ble rfl)
  apply Wk.ld (i := 4) 1 false ty25 rfl rfl (by conv => lhs; whnf) (lt_of_ble rfl)
  apply Wk.mv (by conv => lhs; whnf) (lt_of_ble rfl)
  apply Wk.appOR 66 1000 3 un25 ap47 rfl rfl rfl (.inr rfl) (by decide) (datD_len _) (three_parts _) e5 (lt_of_ble rfl)
  rw [e4]
  apply Wk.fad 4 0 false fd27_4 rfl (lt_of_ble rfl)
  apply Wk.sto (i := 4) 1 false ty25 rfl rfl rfl rfl (Nat.le_of_ble_eq_true rfl) (lt_of_ble rfl)
  refine Wk.nil ?_
  refine AW.seq ?_
  apply AW.list
  apply Wk.ld (i := 4) 10 true ty27 rfl rfl (by conv => lhs; whnf) (lt_of_ble rfl)
  apply Wk.sto (i := 6) 10 true ty27 rfl rfl rfl rfl (Nat.le_of_ble_eq_true rfl) (lt_of_ble rfl)
  apply Wk.asg (by conv => lhs; whnf) (lt_of_ble rfl)
  refine Wk.nil (AW.ret ?_)
  repeat (first | refine thenA_ret ?_ | refine inBlockA_ret ?_)
  exact RetQ.ret _ (.cons ⟨6, 0, _, _, _, rfl, rfl, ty27, rfl⟩ (.cons rfl .nil)) ⟨rfl, rfl⟩ (kept2 rfl rfl)
end Go.Proofs.Ytdojkmjamilllaa

/- SegCut over what values read as: lists of pieces. -/
namespace Go.Proofs.Ytdojkmjamilllaa
open Go Go.RowKit
theorem ownP_den {w : World} {B : Nat} {v : Value} {qs : List Pc} (h : OwnP w B v qs) : FDen w (fun b => B ≤ b ∧ b < w.heap.size) (partsD (qs.map Pc.dat)) v := by
  let f : Pc → List A := fun q => [.d (.v (.int .i64 q.seg)), .d (.v (.int .i64 q.len)), .d (bytesD q.bs)]
  have h0 : w.ownsRow 0 47 3 v (qs.map f).length (pcells qs) := by
    have h' := h.1
    rw [List.length_map]
    refine ⟨h'.1, ?_⟩
    rcases h'.2 with h1 | ⟨g, cap, cur, h1, h2, h3⟩
    · exact .inl h1
    · exact .inr ⟨g, cap, cur, h1, Nat.zero_le _, h3⟩
  have hp : Pw (CellOk w (fun b => B ≤ b ∧ b < w.heap.size) (fun _ => none) (fun _ _ => none)) (qs.map f).flatten (pcells qs) := by
    have key : ∀ qs : List Pc, (∀ q ∈ qs, Own w B q.u q.bs) → Pw (CellOk w (fun b => B ≤ b ∧ b < w.heap.size) (fun _ => none) (fun _ _ => none)) (qs.map f).flatten (pcells qs) := by
      intro qs hq
      induction qs with
      | nil => exact Pw.nil
      | cons q qs ih =>
        rw [List.map_cons, List.flatten_cons, pcells_cons]
        refine Pw.append ⟨rfl, fun j a u ha hu => ?_⟩ (ih fun x hx => hq x (List.mem_cons_of_mem _ hx))
        have ho := hq q List.mem_cons_self
        have h1 : q.u.oneCell' = true := by
          rcases (show w.ownsRow B 5 1 q.u _ _ from ho).2 with h | ⟨_, _, _, h, _⟩
          · rw [h.1]; rfl
          · rw [h]; rfl
        match j with
        | 0 => obtain rfl := Option.some.inj ha; obtain rfl := Option.some.inj hu; exact ⟨rfl, .d _ _ (.v _)⟩
        | 1 => obtain rfl := Option.some.inj ha; obtain rfl := Option.some.inj hu; exact ⟨rfl, .d _ _ (.v _)⟩
        | 2 => obtain rfl := Option.some.inj ha; obtain rfl := Option.some.inj hu; exact ⟨h1, .d _ _ (own_den ho)⟩
        | _ + 3 => simp [f] at ha
    exact key qs h.2.1
  have := own_rowA h0 (by intro c hc; obtain ⟨q, _, rfl⟩ := List.mem_map.1 hc; rfl) hp (ds := (qs.map Pc.dat).map datD) (by
    simp only [asData, List.map_map]
    refine List.map_congr_left fun q _ => ?_
    simp [f, nrms, nrm, datD, Pc.dat, bytesD])
  refine this.mono (fun b hb => ?_) (fun _ _ => rfl)
  rcases hb with hb | hb
  · exact hb
  · exact World.ownsRow.lt h.1 b hb
theorem cut_den {B : Nat} {zs : List Nat} {m : Int} {e : Ending} {w : World} {E : Nat → Option Nat} {H : Nat → Nat → Option Value} (h : CutAns B zs m e w) : ∃ v, e = .returned v ∧ Den w (fun b => B ≤ b ∧ b < w.heap.size) E H (.d (partsD (cutD zs m))) v := by
  obtain ⟨v, qs, rfl, ho, hd⟩ := h
  exact ⟨v, rfl, .d _ _ (hd ▸ ownP_den ho)⟩
theorem icut_ok (zs : List Nat) (m : Int) (hz : Byt zs) (hl : zs.length ≤ 2000000) : DataOk Try.prog 20 [.d (bytesD zs), .d (.v (.int .i64 m))] (.d (partsD (cutD zs m))) := by
  refine DataOk.liftN fun w F E H args hF hs hd => ?_
  obtain ⟨v, u, rfl, hv, hu⟩ := args2 hs hd
  obtain rfl := den_v hu
  refine (impl_segcut _ _ m w (den_rd (den_d hv) hF hz hl)).mono ?_
  rintro e w' ⟨hp, hb⟩
  obtain ⟨v, rfl, hden⟩ := cut_den (E := E) (H := H) hp
  exact ⟨v, rfl, hb, hden⟩
theorem scut_ok (zs : List Nat) (m : Int) (hz : Byt zs) (hl : zs.length ≤ 2000000) : DataOk Try.prog 83 [.d (bytesD zs), .d (.v (.int .i64 m))] (.d (partsD (cutD zs m))) := by
  refine DataOk.liftN fun w F E H args hF hs hd => ?_
  obtain ⟨v, u, rfl, hv, hu⟩ := args2 hs hd
  obtain rfl := den_v hu
  refine (spec_segcut _ _ m w (den_rd (den_d hv) hF hz hl)).mono ?_
  rintro e w' ⟨hp, hb⟩
  obtain ⟨v, rfl, hden⟩ := cut_den (E := E) (H := H) hp
  exact ⟨v, rfl, hb, hden⟩
end Go.Proofs.Ytdojkmjamilllaa

/- TxPut of the specification, over what values read as: what it answers are lists of the call's own. -/
namespace Go.Proofs.Ytdojkmjamilllaa
open Go Go.RowKit
theorem lookup2 {i j : Nat} {x y : Bx} {q : Nat} {z : Bx} (h : [(i, x), (j, y)].lookup q = some z) : (q = i ∧ z = x) ∨ (q = j ∧ z = y) := by
  rw [List.lookup_cons] at h
  split at h
  · rename_i e; exact .inl ⟨eq_of_beq e, (Option.some.inj h).symm⟩
  · rw [List.lookup_cons] at h
    split at h
    · rename_i e; exact .inr ⟨eq_of_beq e, (Option.some.inj h).symm⟩
    · cases h
theorem in_txB {fl qu : List Dat} {k l q : Nat} {z : Bx} (h : (txB fl qu k l).lookup q = some z) : q ∈ [5, 66] ∧ z.within [5, 66] = true := by
  rcases lookup2 h with ⟨rfl, rfl⟩ | ⟨rfl, rfl⟩
  · exact ⟨by simp, by simp [Bx.within, within_parts]⟩
  · exact ⟨by simp, by simp [Bx.within, within_parts]⟩
theorem in_txO (x : TX) (k l : Nat) : (txO x 5 k 66 l).within [5, 66] = true := by simp [txO, A.within, A.withins]
theorem in_copy (x : TX) (k l : Nat) : PostIn [5, 66] (fun r bs => r = txO x 5 k 66 l ∧ bs = txB x.fl x.qu k l) := by
  rintro r bs ⟨rfl, rfl⟩
  exact ⟨in_txO x k l, fun i z h => in_txB h⟩
theorem in_put (x : TX) (k l : Nat) (b : Bool) : PostIn [5, 66] (fun r bs => r = .tup [txO x 5 k 66 l, .d (.v (.bool b))] ∧ bs = txB x.fl x.qu k l) := by
  rintro r bs ⟨rfl, rfl⟩
  exact ⟨by simp [A.within, A.withins, in_txO], fun i z h => in_txB h⟩
theorem two_in {σ : St} {i j : Nat} {K : List Nat} (h1 : (σ.b i).within K = true) (h2 : (σ.b j).within K = true) : ∀ q ∈ [i, j], (σ.b q).within K = true := by
  intro q hq
  rcases List.mem_cons.1 hq with rfl | hq
  · exact h1
  · obtain rfl := List.mem_singleton.1 hq; exact h2
def txN : List A := [.d (.v (.int .i64 0)), .d (.v (.int .i64 0)), .d (.v (.slice none 0 0)), .d (.v (.int .i64 0)), .d (.v (.slice none 0 0)), .d (.v (.bool false)), .d (.v (.int .i64 0)), .d (.v (.bool false)), .d (.v (.int .i64 0)), .d (.v (.bool false))]
def txC (x : TX) : List A := [.d (.v (.int .i64 x.n)), .d (.v (.int .i64 x.a)), .d (partsD x.fl), .d (.v (.int .i64 x.s)), .d (partsD x.qu), .d (.v (.bool x.q)), .d (.v (.int .i64 x.t)), .d (.v (.bool x.h)), .d (.v (.int .i64 x.c)), .d (.v (.bool x.d))]
set_option maxHeartbeats 4000000 in
set_option maxRecDepth 100000 in
theorem sputT (m0 w0 p0 u0 y0 : Int) (x x' : TX) (k l : Nat) (b : Bool) (sdu : List Nat) (hok : txOkB ⟨m0, w0, p0, u0, y0⟩ x = true) (hx : x.few) (hx' : x'.few)
    (ht : Spec Try.prog 54 [cfgA m0 w0 p0 u0 y0, txO x 5 x.fl.length 66 x.qu.length, .d (bytesD sdu)] (txB x.fl x.qu x.fl.length x.qu.length) (fun r bs => r = .tup [txO x' 5 k 66 l, .d (.v (.bool b))] ∧ bs = txB x'.fl x'.qu k l)) :
    Spec Try.prog 15 [cfgA m0 w0 p0 u0 y0, txA x, .d (bytesD sdu)] [] (fun r bs => r = .tup [txO x' 5 x'.fl.length 66 x'.qu.length, .d (.v (.bool b))] ∧ bs = txB x'.fl x'.qu x'.fl.length x'.qu.length) := by
  have c1 := scopyO x hx
  have c2 := scopyO x' hx'
  refine Spec.intro (n := 26) (rv := [.cell 6 27, .tmp 7]) Try.func15 rfl rfl rfl (by simp) fun C hN hX => ?_
  refine AW.seq ?_
  apply AW.list
  apply Wk.bx 3 rfl rfl (lt_of_ble rfl)
  apply Wk.bx 4 rfl rfl (lt_of_ble rfl)
  apply Wk.alc 6 [.int .i64 0, .int .i64 0, .slice none 0 0, .int .i64 0, .slice none 0 0, .bool false, .int .i64 0, .bool false, .int .i64 0, .bool false] ze27 rfl rfl (lt_of_ble rfl)
  apply Wk.asg (by conv => lhs; whnf) (lt_of_ble rfl)
  refine Wk.nil ?_
  refine AW.seq (AW.seq ?_)
  apply AW.list
  apply Wk.ld (i := 3) 5 true ty24 rfl rfl (by conv => lhs; whnf) (lt_of_ble rfl)
  apply Wk.ld (i := 4) 10 true ty27 rfl rfl (by conv => lhs; whnf) (lt_of_ble rfl)
  apply Wk.dat (stxb hok) Try.func18 rfl rfl rfl rfl rfl (lt_of_ble rfl)
  apply Wk.un rfl (fun w => by simp [go_sem] <;> rfl) (lt_of_ble rfl)
  refine Wk.nil ?_
  refine AW.cond rfl (fun hc => by cases hc) (fun _ => AW.skip (thenA_normal ?_))
  refine AW.seq ?_
  apply AW.draw (hm := hmix) (cs := _)
  · apply Wk.ld (i := 3) 5 true ty24 rfl rfl (by conv => lhs; whnf) (lt_of_ble rfl)
    apply Wk.ld (i := 4) 10 true ty27 rfl rfl (by conv => lhs; whnf) (lt_of_ble rfl)
    apply Wk.cal [] [5, 66] c1 (in_copy x _ _) ⟨_, _, rfl, rfl⟩ Try.func55 rfl rfl rfl rfl (by simp; exact ⟨rfl, rfl⟩) rfl (fun i hi => by cases hi) (lt_of_ble rfl)
    rintro r bs' ⟨rfl, rfl⟩
    apply Wk.mv (by conv => lhs; whnf) (lt_of_ble rfl)
    apply Wk.cal [5, 66] [] ht (in_put x' _ _ b) ⟨_, _, rfl, rfl⟩ Try.func54 rfl rfl rfl rfl (fun i hi => by cases hi) rfl (two_in (by exact within_parts x.fl) (by exact within_parts x.qu)) (lt_of_ble rfl)
    rintro r bs' ⟨rfl, rfl⟩
    apply Wk.mv (by conv => lhs; whnf) (lt_of_ble rfl)
    apply Wk.ext rfl rfl (lt_of_ble rfl)
    apply Wk.ext rfl rfl (lt_of_ble rfl)
    apply Wk.alc 8 [.int .i64 0, .int .i64 0, .slice none 0 0, .int .i64 0, .slice none 0 0, .bool false, .int .i64 0, .bool false, .int .i64 0, .bool false] ze27 rfl rfl (lt_of_ble rfl)
    apply Wk.sto (i := 8) 10 true ty27 rfl rfl rfl rfl (Nat.le_of_ble_eq_true rfl) (lt_of_ble rfl)
    apply Wk.asg (by conv => lhs; whnf) (lt_of_ble rfl)
    refine Wk.nil ?_
    refine AW.thawc (j := 8) (c := 2) (i := 5) _ rfl rfl rfl (asData_parts x'.fl) hX.none ?_
    refine AW.thawc (j := 8) (c := 4) (i := 66) _ rfl rfl rfl (asData_parts x'.qu) hX.none ?_
    refine AW.keep (n := 26) (ts := [(6, .ptr 6 0), (8, .ptr 8 0), (9, .d (.v (.bool b)))]) (bs := [(6, .var txN), (8, .var (txC x'))]) ⟨rfl, .cons rfl rfl (.cons rfl rfl (.cons rfl rfl .nil)), .cons rfl rfl (.cons rfl rfl .nil), hN.mono (by simp [keys])⟩ ?_
    refine AW.seq ?_
    apply AW.list
    apply Wk.ld (i := 8) 10 true ty27 rfl rfl (by conv => lhs; whnf) (lt_of_ble rfl)
    apply Wk.cal [] [5, 66] c2 (in_copy x' _ _) ⟨_, _, rfl, rfl⟩ Try.func55 rfl rfl rfl rfl (by simp; exact ⟨rfl, rfl⟩) rfl (fun i hi => by cases hi) (lt_of_ble rfl)
    rintro r bs' ⟨rfl, rfl⟩
    apply Wk.mv (by conv => lhs; whnf) (lt_of_ble rfl)
    apply Wk.sto (i := 6) 10 true ty27 rfl rfl rfl rfl (Nat.le_of_ble_eq_true rfl) (lt_of_ble rfl)
    apply Wk.asg (by conv => lhs; whnf) (lt_of_ble rfl)
    refine Wk.nil (AW.ret ?_)
    exact RetQ.ret (txB x'.fl x'.qu x'.fl.length x'.qu.length) (.cons ⟨6, 0, _, _, _, rfl, rfl, ty27, rfl⟩ (.cons rfl .nil)) ⟨rfl, rfl⟩ (kept2 rfl rfl)
  · rfl
  · rfl
set_option maxHeartbeats 4000000 in
set_option maxRecDepth 100000 in
theorem sputTNo (m0 w0 p0 u0 y0 : Int) (x : TX) (sdu : D) (hok : txOkB ⟨m0, w0, p0, u0, y0⟩ x = false) :
    DataOk Try.prog 15 [cfgA m0 w0 p0 u0 y0, txA x, .d sdu] (.tup [txNil, .d (.v (.bool false))]) := by
  refine Spec.intro (n := 26) (rv := [.cell 6 27, .tmp 7]) Try.func15 rfl rfl rfl (by simp) fun C hN hX => ?_
  refine AW.seq ?_
  apply AW.list
  apply Wk.bx 3 rfl rfl (lt_of_ble rfl)
  apply Wk.bx 4 rfl rfl (lt_of_ble rfl)
  apply Wk.alc 6 [.int .i64 0, .int .i64 0, .slice none 0 0, .int .i64 0, .slice none 0 0, .bool false, .int .i64 0, .bool false, .int .i64 0, .bool false] ze27 rfl rfl (lt_of_ble rfl)
  apply Wk.asg (by conv => lhs; whnf) (lt_of_ble rfl)
  refine Wk.nil ?_
  refine AW.seq (AW.seq ?_)
  apply AW.list
  apply Wk.ld (i := 3) 5 true ty24 rfl rfl (by conv => lhs; whnf) (lt_of_ble rfl)
  apply Wk.ld (i := 4) 10 true ty27 rfl rfl (by conv => lhs; whnf) (lt_of_ble rfl)
  apply Wk.dat (stxb hok) Try.func18 rfl rfl rfl rfl rfl (lt_of_ble rfl)
  apply Wk.un rfl (fun w => by simp [go_sem] <;> rfl) (lt_of_ble rfl)
  refine Wk.nil ?_
  refine AW.cond rfl (fun _ => ?_) (fun hc => by cases hc)
  refine AW.seq ?_
  apply AW.list
  apply Wk.bld [.int .i64 0, .int .i64 0, .slice none 0 0, .int .i64 0, .slice none 0 0, .bool false, .int .i64 0, .bool false, .int .i64 0, .bool false] [(0, 1), (1, 1), (2, 1), (3, 1), (4, 1), (5, 1), (6, 1), (7, 1), (8, 1), (9, 1)] bl27 rfl (by conv => lhs; whnf) (lt_of_ble rfl)
  apply Wk.sto (i := 6) 10 true ty27 rfl rfl rfl rfl (Nat.le_of_ble_eq_true rfl) (lt_of_ble rfl)
  apply Wk.asg (by conv => lhs; whnf) (lt_of_ble rfl)
  refine Wk.nil (AW.ret ?_)
  repeat (first | refine thenA_ret ?_ | refine inBlockA_ret ?_)
  exact RetQ.ret [] (.cons ⟨6, 0, _, _, _, rfl, rfl, ty27, rfl⟩ (.cons rfl .nil)) ⟨rfl, rfl⟩ none_kept
end Go.Proofs.Ytdojkmjamilllaa

/- TxTick of the specification with lists of the call's own; a copy of which one list is the call's own; a piece's frame. -/
namespace Go.Proofs.Ytdojkmjamilllaa
open Go Go.RowKit
theorem lookup1 {i : Nat} {x : Bx} {q : Nat} {z : Bx} (h : [(i, x)].lookup q = some z) : q = i ∧ z = x := by
  rw [List.lookup_cons] at h
  split at h
  · rename_i e; exact ⟨eq_of_beq e, (Option.some.inj h).symm⟩
  · cases h
/-- Who sends, with what is on its way as the call's own list. -/
def txF (x : TX) (i k : Nat) : A := .agg [.d (.v (.int .i64 x.n)), .d (.v (.int .i64 x.a)), .own i k, .d (.v (.int .i64 x.s)), .d (partsD x.qu), .d (.v (.bool x.q)), .d (.v (.int .i64 x.t)), .d (.v (.bool x.h)), .d (.v (.int .i64 x.c)), .d (.v (.bool x.d))]
def flB (fl : List Dat) (k : Nat) : List (Nat × Bx) := [(5, .own k 47 3 (piecesA fl))]
theorem in_flB {fl : List Dat} {k q : Nat} {z : Bx} (h : (flB fl k).lookup q = some z) : q ∈ [5] ∧ z.within [5] = true := by
  obtain ⟨rfl, rfl⟩ := lookup1 h
  exact ⟨by simp, by simp [Bx.within, within_parts]⟩
theorem in_copyF (x : TX) (k : Nat) : PostIn [5] (fun r bs => r = txF x 5 k ∧ bs = flB x.fl k) := by
  rintro r bs ⟨rfl, rfl⟩
  exact ⟨by simp [txF, A.within, A.withins], fun i z h => in_flB h⟩
set_option maxRecDepth 100000 in
theorem scopyF (x : TX) (hx : x.few) : Spec Try.prog 55 [txA x] [] (fun r bs => r = txF x 5 x.fl.length ∧ bs = flB x.fl x.fl.length) := by
  have h1 := slistO x.fl hx.1.1 hx.1.2
  have h2 := slist_ok x.qu hx.2.1 hx.2.2
  have i1 := in_slist (L := [] ++ [5]) (i := 5) (k := x.fl.length) (e := 47) (sz := 3) (by simp) (within_parts x.fl)
  obtain ⟨n, a, fl, s, qu, q, t, h, c, d⟩ := x
  simp only at h1 h2 i1
  refine Spec.intro (n := 14) (rv := [.cell 2 27]) Try.func55 rfl rfl rfl (by simp) fun C hN hX => ?_
  refine AW.seq ?_
  apply AW.list
  apply Wk.bx 1 rfl rfl (lt_of_ble rfl)
  apply Wk.alc 2 [.int .i64 0, .int .i64 0, .slice none 0 0, .int .i64 0, .slice none 0 0, .bool false, .int .i64 0, .bool false, .int .i64 0, .bool false] ze27 rfl rfl (lt_of_ble rfl)
  refine Wk.nil ?_
  refine AW.seq ?_
  apply AW.list
  apply Wk.ld (i := 1) 10 true ty27 rfl rfl (by conv => lhs; whnf) (lt_of_ble rfl)
  apply Wk.alc 3 [.int .i64 0, .int .i64 0, .slice none 0 0, .int .i64 0, .slice none 0 0, .bool false, .int .i64 0, .bool false, .int .i64 0, .bool false] ze27 rfl rfl (lt_of_ble rfl)
  apply Wk.sto (i := 3) 10 true ty27 rfl rfl rfl rfl (Nat.le_of_ble_eq_true rfl) (lt_of_ble rfl)
  refine Wk.nil ?_
  refine AW.seq ?_
  apply AW.list
  apply Wk.fad 2 0 false fd27_2 rfl (lt_of_ble rfl)
  apply Wk.ld (i := 1) 1 false ty25 rfl rfl (by conv => lhs; whnf) (lt_of_ble rfl)
  apply Wk.cal [] [5] h1 i1 ⟨_, _, rfl, rfl⟩ Try.func92 rfl rfl rfl rfl (by simp; rfl) rfl (fun i hi => by cases hi) (lt_of_ble rfl)
  rintro r bs' ⟨rfl, rfl⟩
  apply Wk.fad 2 0 false fd27_2 rfl (lt_of_ble rfl)
  apply Wk.sto (i := 3) 1 false ty25 rfl rfl rfl rfl (Nat.le_of_ble_eq_true rfl) (lt_of_ble rfl)
  refine Wk.nil ?_
  refine AW.seq ?_
  apply AW.list
  apply Wk.fad 4 0 false fd27_4 rfl (lt_of_ble rfl)
  apply Wk.ld (i := 1) 1 false ty25 rfl rfl (by conv => lhs; whnf) (lt_of_ble rfl)
  apply Wk.dat h2 Try.func92 rfl rfl rfl rfl rfl (lt_of_ble rfl)
  apply Wk.fad 4 0 false fd27_4 rfl (lt_of_ble rfl)
  apply Wk.sto (i := 3) 1 false ty25 rfl rfl rfl rfl (Nat.le_of_ble_eq_true rfl) (lt_of_ble rfl)
  refine Wk.nil ?_
  refine AW.seq ?_
  apply AW.list
  apply Wk.ld (i := 3) 10 true ty27 rfl rfl (by conv => lhs; whnf) (lt_of_ble rfl)
  apply Wk.sto (i := 2) 10 true ty27 rfl rfl rfl rfl (Nat.le_of_ble_eq_true rfl) (lt_of_ble rfl)
  refine Wk.nil (AW.ret ?_)
  exact RetQ.ret (flB fl fl.length) (.cons ⟨2, 0, _, _, _, rfl, rfl, ty27, rfl⟩ .nil) ⟨rfl, rfl⟩ (kept1 rfl)
theorem in_tick (x : TX) (k l : Nat) (f : A) (b : Bool) (hf : f.within [5, 66] = true) : PostIn [5, 66] (fun r bs => r = .tup [txO x 5 k 66 l, f, .d (.v (.bool b))] ∧ bs = txB x.fl x.qu k l) := by
  rintro r bs ⟨rfl, rfl⟩
  exact ⟨by simp [A.within, A.withins, in_txO, hf], fun i z h => in_txB h⟩
def frmNC : List A := [.d (.v (.int .i64 0)), .d (.v (.int .i64 0)), .d (.v (.int .i64 0)), .d (.v (.bool false)), .d (.v (.bool false)), .d (.v (.int .i64 0)), .d (.v (.int .i64 0)), .d (.v (.int .i64 0)), .d (.v (.slice none 0 0))]
def frmGC (k s c : Int) (p f : Bool) (y g l : Int) : List A := [.d (.v (.int .i64 k)), .d (.v (.int .i64 s)), .d (.v (.int .i64 c)), .d (.v (.bool p)), .d (.v (.bool f)), .d (.v (.int .i64 y)), .d (.v (.int .i64 g)), .d (.v (.int .i64 l)), .d (.v (.slice none 0 0))]
set_option maxHeartbeats 4000000 in
set_option maxRecDepth 100000 in
theorem stickT (m0 w0 p0 u0 y0 : Int) (x x' : TX) (ack : Int) (bu : Bool) (k s c : Int) (p f : Bool) (y g l : Int) (b : Bool) (hok : txOkB ⟨m0, w0, p0, u0, y0⟩ x = true) (hack : inB ack 0 7 = true) (hx : x.few) (hx' : x'.few)
    (ht : DataOk Try.prog 79 [cfgA m0 w0 p0 u0 y0, txA x, .d (.v (.int .i64 ack)), .d (.v (.bool bu))] (.tup [txA x', frmG k s c p f y g l, .d (.v (.bool b))])) :
    Spec Try.prog 37 [cfgA m0 w0 p0 u0 y0, txA x, .d (.v (.int .i64 ack)), .d (.v (.bool bu))] [] (fun r bs => r = .tup [txO x' 5 x'.fl.length 66 x'.qu.length, frmG k s c p f y g l, .d (.v (.bool b))] ∧ bs = txB x'.fl x'.qu x'.fl.length x'.qu.length) := by
  have c1 := scopy_ok x hx
  have c2 := scopyO x' hx'
  refine Spec.intro (n := 39) (rv := [.cell 8 27, .cell 9 42, .tmp 10]) Try.func37 rfl rfl rfl (by simp) fun C hN hX => ?_
  refine AW.seq ?_
  apply AW.list
  apply Wk.bx 4 rfl rfl (lt_of_ble rfl)
  apply Wk.bx 50 rfl rfl (lt_of_ble rfl)
  apply Wk.alc 8 [.int .i64 0, .int .i64 0, .slice none 0 0, .int .i64 0, .slice none 0 0, .bool false, .int .i64 0, .bool false, .int .i64 0, .bool false] ze27 rfl rfl (lt_of_ble rfl)
  apply Wk.alc 9 [.int .i64 0, .int .i64 0, .int .i64 0, .bool false, .bool false, .int .i64 0, .int .i64 0, .int .i64 0, .slice none 0 0] ze42 rfl rfl (lt_of_ble rfl)
  apply Wk.asg (by conv => lhs; whnf) (lt_of_ble rfl)
  refine Wk.nil ?_
  refine AW.seq (AW.seq ?_)
  apply AW.list
  apply Wk.ld (i := 4) 5 true ty24 rfl rfl (by conv => lhs; whnf) (lt_of_ble rfl)
  apply Wk.ld (i := 50) 10 true ty27 rfl rfl (by conv => lhs; whnf) (lt_of_ble rfl)
  apply Wk.dat (stxb hok) Try.func18 rfl rfl rfl rfl rfl (lt_of_ble rfl)
  apply Wk.un rfl (fun w => by simp [go_sem] <;> rfl) (lt_of_ble rfl)
  apply Wk.mv (by conv => lhs; whnf) (lt_of_ble rfl)
  apply Wk.gon 18 rfl rfl
  apply Wk.mv (by conv => lhs; whnf) (lt_of_ble rfl)
  apply Wk.gon 18 rfl rfl
  apply Wk.dat (sinb hack) Try.func60 rfl rfl rfl rfl rfl (lt_of_ble rfl)
  apply Wk.gon 18 rfl rfl
  apply Wk.un rfl (fun w => by simp [go_sem] <;> rfl) (lt_of_ble rfl)
  apply Wk.pckF rfl (by conv => lhs; whnf) (lt_of_ble rfl)
  refine Wk.nil ?_
  refine AW.cond rfl (fun hc => by cases hc) (fun _ => AW.skip (thenA_normal ?_))
  refine AW.seq ?_
  apply AW.draw (hm := hmix) (cs := _)
  · apply Wk.ld (i := 4) 5 true ty24 rfl rfl (by conv => lhs; whnf) (lt_of_ble rfl)
    apply Wk.ld (i := 50) 10 true ty27 rfl rfl (by conv => lhs; whnf) (lt_of_ble rfl)
    apply Wk.dat c1 Try.func55 rfl rfl rfl rfl rfl (lt_of_ble rfl)
    apply Wk.mv (by conv => lhs; whnf) (lt_of_ble rfl)
    apply Wk.mv (by conv => lhs; whnf) (lt_of_ble rfl)
    apply Wk.dat ht Try.func79 rfl rfl rfl rfl rfl (lt_of_ble rfl)
    apply Wk.mv (by conv => lhs; whnf) (lt_of_ble rfl)
    apply Wk.ext rfl rfl (lt_of_ble rfl)
    apply Wk.ext rfl rfl (lt_of_ble rfl)
    apply Wk.ext rfl rfl (lt_of_ble rfl)
    apply Wk.alc 11 [.int .i64 0, .int .i64 0, .slice none 0 0, .int .i64 0, .slice none 0 0, .bool false, .int .i64 0, .bool false, .int .i64 0, .bool false] ze27 rfl rfl (lt_of_ble rfl)
    apply Wk.alc 12 [.int .i64 0, .int .i64 0, .int .i64 0, .bool false, .bool false, .int .i64 0, .int .i64 0, .int .i64 0, .slice none 0 0] ze42 rfl rfl (lt_of_ble rfl)
    apply Wk.sto (i := 11) 10 true ty27 rfl rfl rfl rfl (Nat.le_of_ble_eq_true rfl) (lt_of_ble rfl)
    apply Wk.sto (i := 12) 9 true ty42 rfl rfl rfl rfl (Nat.le_of_ble_eq_true rfl) (lt_of_ble rfl)
    apply Wk.asg (by conv => lhs; whnf) (lt_of_ble rfl)
    refine Wk.nil ?_
    refine AW.seq ?_
    apply AW.draw (hm := hmix) (cs := _)
    · apply Wk.ld (i := 11) 10 true ty27 rfl rfl (by conv => lhs; whnf) (lt_of_ble rfl)
      apply Wk.cal [] [5, 66] c2 (in_copy x' _ _) ⟨_, _, rfl, rfl⟩ Try.func55 rfl rfl rfl rfl (by simp; exact ⟨rfl, rfl⟩) rfl (fun i hi => by cases hi) (lt_of_ble rfl)
      rintro r bs' ⟨rfl, rfl⟩
      apply Wk.ld (i := 12) 9 true ty42 rfl rfl (by conv => lhs; whnf) (lt_of_ble rfl)
      apply Wk.mv (by conv => lhs; whnf) (lt_of_ble rfl)
      apply Wk.sto (i := 8) 10 true ty27 rfl rfl rfl rfl (Nat.le_of_ble_eq_true rfl) (lt_of_ble rfl)
      apply Wk.sto (i := 9) 9 true ty42 rfl rfl rfl rfl (Nat.le_of_ble_eq_true rfl) (lt_of_ble rfl)
      apply Wk.asg (by conv => lhs; whnf) (lt_of_ble rfl)
      refine Wk.nil (AW.ret ?_)
      exact RetQ.ret (txB x'.fl x'.qu x'.fl.length x'.qu.length) (.cons ⟨8, 0, _, _, _, rfl, rfl, ty27, rfl⟩ (.cons ⟨9, 0, _, _, _, rfl, rfl, ty42, rfl⟩ (.cons rfl .nil))) ⟨rfl, rfl⟩ (kept2 rfl rfl)
    · rfl
    · rfl
  · rfl
  · rfl
def frmD (k s c : Int) (p f : Bool) (y g l : Int) (zs : List Nat) : A := .agg [.d (.v (.int .i64 k)), .d (.v (.int .i64 s)), .d (.v (.int .i64 c)), .d (.v (.bool p)), .d (.v (.bool f)), .d (.v (.int .i64 y)), .d (.v (.int .i64 g)), .d (.v (.int .i64 l)), .d (bytesD zs)]
set_option maxHeartbeats 2000000 in
set_option maxRecDepth 100000 in
theorem sframe_ok (d : Dat) (q a : Int) (hd : d.2.2.length ≤ 1000) : DataOk Try.prog 99 [partN d, .d (.v (.int .i64 q)), .d (.v (.int .i64 a))] (frmD 1 q a false false 0 d.1 d.2.1 d.2.2) := by
  obtain ⟨g, l, ys⟩ := d
  have as9 := asData_rows ys
  simp only at hd
  refine Spec.intro (n := 18) (rv := [.cell 6 42]) Try.func99 rfl rfl rfl (by simp) fun C hN hX => ?_
  refine AW.seq ?_
  apply AW.list
  apply Wk.bx 3 rfl rfl (lt_of_ble rfl)
  apply Wk.alc 6 [.int .i64 0, .int .i64 0, .int .i64 0, .bool false, .bool false, .int .i64 0, .int .i64 0, .int .i64 0, .slice none 0 0] ze42 rfl rfl (lt_of_ble rfl)
  refine Wk.nil ?_
  refine AW.seq ?_
  apply AW.draw (hm := hmix) (cs := _)
  · apply Wk.mv (by conv => lhs; whnf) (lt_of_ble rfl)
    apply Wk.mv (by conv => lhs; whnf) (lt_of_ble rfl)
    apply Wk.fad 0 0 false fd47_0 rfl (lt_of_ble rfl)
    apply Wk.ld (i := 3) 1 false ty3 rfl rfl (by conv => lhs; whnf) (lt_of_ble rfl)
    apply Wk.fad 1 0 false fd47_1 rfl (lt_of_ble rfl)
    apply Wk.ld (i := 3) 1 false ty3 rfl rfl (by conv => lhs; whnf) (lt_of_ble rfl)
    apply Wk.lst 13 1 false [.int .u8 0] un22 ty5 ze5 rfl rfl (by rfl) (by rfl) (by decide) (by decide) rfl rfl (all_len rfl) (lt_of_ble rfl)
    apply Wk.fad 2 0 false fd47_2 rfl (lt_of_ble rfl)
    apply Wk.ld (i := 3) 1 false ty22 rfl rfl (by conv => lhs; whnf) (lt_of_ble rfl)
    apply Wk.appOR 13 1000 1 un22 ap5 rfl rfl rfl (.inr rfl) (by decide) (one_bytes _) (by simp) (by simp; omega) (lt_of_ble rfl)
    apply Wk.thaw 16 13 _ hX rfl (by rfl) as9
    apply Wk.bld [.int .i64 0, .int .i64 0, .int .i64 0, .bool false, .bool false, .int .i64 0, .int .i64 0, .int .i64 0, .slice none 0 0] [(0, 1), (1, 1), (2, 1), (3, 1), (4, 1), (5, 1), (6, 1), (7, 1), (8, 1)] bl42 rfl (by conv => lhs; whnf) (lt_of_ble rfl)
    apply Wk.sto (i := 6) 9 true ty42 rfl rfl rfl rfl (Nat.le_of_ble_eq_true rfl) (lt_of_ble rfl)
    refine Wk.nil (AW.ret ?_)
    exact RetQ.ret [] (.cons ⟨6, 0, _, _, _, rfl, rfl, ty42, rfl⟩ .nil) ⟨rfl, rfl⟩ none_kept
  · rfl
  · rfl
end Go.Proofs.Ytdojkmjamilllaa

/- l6Send of the specification, over what values read as. Written by tools/mk_AbsTxSend.py. -/
namespace Go.Proofs.Ytdojkmjamilllaa
open Go Go.RowKit
theorem pieces_at {fl : List Dat} {i : Nat} {d : Dat} (h : fl[i]? = some d) : partA (piecesA fl).flatten (i * 3) 3 true = some (partN d) := by
  have key : ∀ (fl : List Dat) (i : Nat) (d : Dat), fl[i]? = some d → (piecesA fl).flatten.length = fl.length * 3 ∧ ((piecesA fl).flatten.drop (i * 3)).take 3 = (datD d).map A.d := by
    intro fl
    induction fl with
    | nil => intro i d h; simp at h
    | cons e fl ih =>
      intro i d h
      have hl : ∀ fl : List Dat, (piecesA fl).flatten.length = fl.length * 3 := by
        intro fl
        induction fl with
        | nil => rfl
        | cons e fl ih => simp only [piecesA, List.map_cons, List.flatten_cons, List.length_append, List.length_cons]; rw [show ((List.map (fun d => (datD d).map A.d) fl).flatten).length = fl.length * 3 from ih]; simp [datD]; omega
      refine ⟨hl _, ?_⟩
      cases i with
      | zero => obtain rfl : e = d := by simpa using h
                simp [piecesA, datD]
      | succ i =>
        have h' : fl[i]? = some d := by simpa using h
        have := (ih i d h').2
        simp only [piecesA, List.map_cons, List.flatten_cons]
        rw [show (i + 1) * 3 = ((datD e).map A.d).length + i * 3 by simp [datD]; omega, ← List.drop_drop, List.drop_left]
        exact this
  obtain ⟨h1, h2⟩ := key fl i d h
  have hi := (List.getElem?_eq_some_iff.1 h).1
  rw [partA, if_pos rfl, if_pos (by rw [h1]; omega), h2]
  rfl
def cfgC (m w p u y : Int) : List A := [.d (.v (.int .i64 m)), .d (.v (.int .i64 w)), .d (.v (.int .i64 p)), .d (.v (.int .i64 u)), .d (.v (.int .i64 y))]
def txOC (x : TX) (i k j l : Nat) : List A := [.d (.v (.int .i64 x.n)), .d (.v (.int .i64 x.a)), .own i k, .d (.v (.int .i64 x.s)), .own j l, .d (.v (.bool x.q)), .d (.v (.int .i64 x.t)), .d (.v (.bool x.h)), .d (.v (.int .i64 x.c)), .d (.v (.bool x.d))]
/-- Nothing is sent. -/
def idleB (w : Int) (x : TX) : Prop := x.d = true ∨ x.q = true ∨ x.h = true ∨ (x.s = (x.fl.length : Int) ∧ ((x.fl.length : Int) = w ∨ x.qu = [] ∨ 9999 ≤ x.c + (x.fl.length : Int)))
theorem in_send (x : TX) (k : Nat) (f : A) (b : Bool) (hf : f.within [5] = true) : PostIn [5] (fun r bs => r = .tup [txF x 5 k, f, .d (.v (.bool b))] ∧ bs = flB x.fl k) := by
  rintro r bs ⟨rfl, rfl⟩
  exact ⟨by simp [A.within, A.withins, txF, hf], fun i z h => in_flB h⟩
theorem slistP_cut (ds : List Dat) (k : Nat) (hn : ds.length ≤ 1000) (hs : ∀ d ∈ ds, d.2.2.length ≤ 1000) : Spec Try.prog 92 [.d (.row (((ds.map datD).drop k).take ((ds.map datD).length - k)))] [] (fun r bs => r = .own 66 (ds.drop k).length ∧ bs = [(66, .own (ds.drop k).length 47 3 (piecesA (ds.drop k)))]) := by
  have h := slistP (ds.drop k) (by rw [List.length_drop]; omega) (fun d hd => hs d (List.mem_of_mem_drop hd))
  have e : partsD (ds.drop k) = .row (((ds.map datD).drop k).take ((ds.map datD).length - k)) := by
    rw [partsD, List.map_drop, List.take_of_length_le (by rw [List.length_drop]; exact Nat.le_refl _)]
  rw [e] at h
  exact h
set_option maxHeartbeats 4000000 in
set_option maxRecDepth 100000 in
theorem ssendNo (m0 w0 p0 u0 y0 : Int) (n a : Int) (fl : List Dat) (s : Int) (qu : List Dat) (q : Bool) (t : Int) (h : Bool) (c : Int) (d : Bool) (k : Nat) (ack : Int) (hi : idleB w0 ⟨n, a, fl, s, qu, q, t, h, c, d⟩) (hc : -1 ≤ c ∧ c ≤ 1000000) (hl : fl.length ≤ 1000) : Spec Try.prog 68 [cfgA m0 w0 p0 u0 y0, txF ⟨n, a, fl, s, qu, q, t, h, c, d⟩ 5 k, .d (.v (.int .i64 ack))] (flB fl k) (fun r bs => r = .tup [txF ⟨n, a, fl, s, qu, q, t, h, c, d⟩ 5 k, frmNo, .d (.v (.bool false))] ∧ bs = flB fl k) := by
  have e3 : (((piecesA fl).length : Nat) : Int) = (fl.length : Int) := by rw [piecesA, List.length_map]
  have e2 : (((qu.map datD).length : Nat) : Int) = (qu.length : Int) := by rw [List.length_map]
  simp only [idleB] at hi
  refine Spec.intro (n := 89) (rv := [.cell 6 27, .cell 7 42, .tmp 8]) Try.func68 rfl rfl rfl (by simp) fun C hN hX => ?_
  refine AW.seq ?_
  apply AW.list
  apply Wk.bx 3 rfl rfl (lt_of_ble rfl)
  apply Wk.bx 4 rfl rfl (lt_of_ble rfl)
  apply Wk.alc 6 [.int .i64 0, .int .i64 0, .slice none 0 0, .int .i64 0, .slice none 0 0, .bool false, .int .i64 0, .bool false, .int .i64 0, .bool false] ze27 rfl rfl (lt_of_ble rfl)
  apply Wk.alc 7 [.int .i64 0, .int .i64 0, .int .i64 0, .bool false, .bool false, .int .i64 0, .int .i64 0, .int .i64 0, .slice none 0 0] ze42 rfl rfl (lt_of_ble rfl)
  apply Wk.asg (by conv => lhs; whnf) (lt_of_ble rfl)
  refine Wk.nil ?_
  refine AW.seq (AW.seq ?_)
  cases d
  · cases q
    · cases h
      · have hi' : s = (fl.length : Int) ∧ ((fl.length : Int) = w0 ∨ qu = [] ∨ 9999 ≤ c + (fl.length : Int)) := by simpa using hi
        obtain ⟨hs1, hi2⟩ := hi'
        apply AW.list
        apply Wk.fad 9 0 false fd27_9 rfl (lt_of_ble rfl)
        apply Wk.ld (i := 4) 1 false ty4 rfl rfl (by conv => lhs; whnf) (lt_of_ble rfl)
        apply Wk.mv (by conv => lhs; whnf) (lt_of_ble rfl)
        apply Wk.gon 12 rfl rfl
        apply Wk.fad 5 0 false fd27_5 rfl (lt_of_ble rfl)
        apply Wk.gon 12 rfl rfl
        apply Wk.ld (i := 4) 1 false ty4 rfl rfl (by conv => lhs; whnf) (lt_of_ble rfl)
        apply Wk.pckF rfl (by conv => lhs; whnf) (lt_of_ble rfl)
        apply Wk.mv (by conv => lhs; whnf) (lt_of_ble rfl)
        apply Wk.gon 16 rfl rfl
        apply Wk.fad 7 0 false fd27_7 rfl (lt_of_ble rfl)
        apply Wk.gon 16 rfl rfl
        apply Wk.ld (i := 4) 1 false ty4 rfl rfl (by conv => lhs; whnf) (lt_of_ble rfl)
        apply Wk.pckF rfl (by conv => lhs; whnf) (lt_of_ble rfl)
        refine Wk.nil ?_
        refine AW.cond rfl (fun hc => by cases hc) (fun _ => AW.skip (thenA_normal ?_))
        refine AW.seq (AW.seq ?_)
        apply AW.list
        apply Wk.fad 3 0 false fd27_3 rfl (lt_of_ble rfl)
        apply Wk.ld (i := 4) 1 false ty3 rfl rfl (by conv => lhs; whnf) (lt_of_ble rfl)
        apply Wk.fad 2 0 false fd27_2 rfl (lt_of_ble rfl)
        apply Wk.ld (i := 4) 1 false ty25 rfl rfl (by conv => lhs; whnf) (lt_of_ble rfl)
        apply Wk.leno (i := 5) un25 rfl rfl (lt_of_ble rfl)
        apply Wk.bin rfl rfl (r := .bool true) (fun w => by rw [e3]; simp [go_sem] <;> omega) (lt_of_ble rfl)
        refine Wk.nil ?_
        refine AW.cond rfl (fun _ => ?_) (fun hc => by cases hc)
        refine AW.seq (AW.seq ?_)
        by_cases c1 : (fl.length : Int) = w0
        · skip
          apply AW.list
          apply Wk.fad 2 0 false fd27_2 rfl (lt_of_ble rfl)
          apply Wk.ld (i := 4) 1 false ty25 rfl rfl (by conv => lhs; whnf) (lt_of_ble rfl)
          apply Wk.leno (i := 5) un25 rfl rfl (lt_of_ble rfl)
          apply Wk.fad 1 0 false fd24_1 rfl (lt_of_ble rfl)
          apply Wk.ld (i := 3) 1 false ty3 rfl rfl (by conv => lhs; whnf) (lt_of_ble rfl)
          apply Wk.bin rfl rfl (r := .bool true) (fun w => by rw [e3]; simp [go_sem] <;> omega) (lt_of_ble rfl)
          apply Wk.mv (by conv => lhs; whnf) (lt_of_ble rfl)
          apply Wk.goff 34 (ok_faddr fd27_4) rfl rfl (by simp)
          apply Wk.goff 34 (ok_load 4 ty25) rfl rfl (by simp)
          apply Wk.goff 34 (ok_len un25) rfl rfl (by simp)
          apply Wk.goff 34 (ok_bin _ _ _ _ _) rfl rfl (by simp)
          apply Wk.pckT rfl (by conv => lhs; whnf) (lt_of_ble rfl)
          apply Wk.mv (by conv => lhs; whnf) (lt_of_ble rfl)
          apply Wk.goff 40 (ok_faddr fd27_8) rfl rfl (by simp)
          apply Wk.goff 40 (ok_load 4 ty3) rfl rfl (by simp)
          apply Wk.goff 40 (ok_faddr fd27_2) rfl rfl (by simp)
          apply Wk.goff 40 (ok_load 4 ty25) rfl rfl (by simp)
          apply Wk.goff 40 (ok_leno 5 un25) rfl rfl (by simp)
          apply Wk.goff 40 (ok_bin _ _ _ _ _) rfl rfl (by simp)
          apply Wk.goff 40 (ok_bin _ _ _ _ _) rfl rfl (by simp)
          apply Wk.pckT rfl (by conv => lhs; whnf) (lt_of_ble rfl)
          refine Wk.nil ?_
          refine AW.cond rfl (fun _ => ?_) (fun hc => by cases hc)
          refine AW.seq ?_
          apply AW.list
          apply Wk.ld (i := 4) 10 true ty27 rfl rfl (by conv => lhs; whnf) (lt_of_ble rfl)
          apply Wk.bld [.int .i64 0, .int .i64 0, .int .i64 0, .bool false, .bool false, .int .i64 0, .int .i64 0, .int .i64 0, .slice none 0 0] [(0, 1), (1, 1), (2, 1), (3, 1), (4, 1), (5, 1), (6, 1), (7, 1), (8, 1)] bl42 rfl (by conv => lhs; whnf) (lt_of_ble rfl)
          apply Wk.sto (i := 6) 10 true ty27 rfl rfl rfl rfl (Nat.le_of_ble_eq_true rfl) (lt_of_ble rfl)
          apply Wk.sto (i := 7) 9 true ty42 rfl rfl rfl rfl (Nat.le_of_ble_eq_true rfl) (lt_of_ble rfl)
          apply Wk.asg (by conv => lhs; whnf) (lt_of_ble rfl)
          refine Wk.nil (AW.ret ?_)
          repeat (first | refine thenA_ret ?_ | refine inBlockA_ret ?_)
          exact RetQ.ret _ (.cons ⟨6, 0, _, _, _, rfl, rfl, ty27, rfl⟩ (.cons ⟨7, 0, _, _, _, rfl, rfl, ty42, rfl⟩ (.cons rfl .nil))) ⟨rfl, rfl⟩ (kept1 rfl)
        · by_cases c2 : qu = []
          · have hq0 : (qu.length : Int) = 0 := by rw [c2]; rfl
            apply AW.list
            apply Wk.fad 2 0 false fd27_2 rfl (lt_of_ble rfl)
            apply Wk.ld (i := 4) 1 false ty25 rfl rfl (by conv => lhs; whnf) (lt_of_ble rfl)
            apply Wk.leno (i := 5) un25 rfl rfl (lt_of_ble rfl)
            apply Wk.fad 1 0 false fd24_1 rfl (lt_of_ble rfl)
            apply Wk.ld (i := 3) 1 false ty3 rfl rfl (by conv => lhs; whnf) (lt_of_ble rfl)
            apply Wk.bin rfl rfl (r := .bool false) (fun w => by rw [e3]; simp [go_sem] <;> omega) (lt_of_ble rfl)
            apply Wk.mv (by conv => lhs; whnf) (lt_of_ble rfl)
            apply Wk.gon 34 rfl rfl
            apply Wk.fad 4 0 false fd27_4 rfl (lt_of_ble rfl)
            apply Wk.gon 34 rfl rfl
            apply Wk.ld (i := 4) 1 false ty25 rfl rfl (by conv => lhs; whnf) (lt_of_ble rfl)
            apply Wk.gon 34 rfl rfl
            apply Wk.len un25 rfl (lt_of_ble rfl)
            apply Wk.gon 34 rfl rfl
            apply Wk.bin rfl rfl (r := .bool true) (fun w => by rw [e2]; simp [go_sem] <;> omega) (lt_of_ble rfl)
            apply Wk.pckF rfl (by conv => lhs; whnf) (lt_of_ble rfl)
            apply Wk.mv (by conv => lhs; whnf) (lt_of_ble rfl)
            apply Wk.goff 40 (ok_faddr fd27_8) rfl rfl (by simp)
            apply Wk.goff 40 (ok_load 4 ty3) rfl rfl (by simp)
            apply Wk.goff 40 (ok_faddr fd27_2) rfl rfl (by simp)
            apply Wk.goff 40 (ok_load 4 ty25) rfl rfl (by simp)
            apply Wk.goff 40 (ok_leno 5 un25) rfl rfl (by simp)
            apply Wk.goff 40 (ok_bin _ _ _ _ _) rfl rfl (by simp)
            apply Wk.goff 40 (ok_bin _ _ _ _ _) rfl rfl (by simp)
            apply Wk.pckT rfl (by conv => lhs; whnf) (lt_of_ble rfl)
            refine Wk.nil ?_
            refine AW.cond rfl (fun _ => ?_) (fun hc => by cases hc)
            refine AW.seq ?_
            apply AW.list
            apply Wk.ld (i := 4) 10 true ty27 rfl rfl (by conv => lhs; whnf) (lt_of_ble rfl)
            apply Wk.bld [.int .i64 0, .int .i64 0, .int .i64 0, .bool false, .bool false, .int .i64 0, .int .i64 0, .int .i64 0, .slice none 0 0] [(0, 1), (1, 1), (2, 1), (3, 1), (4, 1), (5, 1), (6, 1), (7, 1), (8, 1)] bl42 rfl (by conv => lhs; whnf) (lt_of_ble rfl)
            apply Wk.sto (i := 6) 10 true ty27 rfl rfl rfl rfl (Nat.le_of_ble_eq_true rfl) (lt_of_ble rfl)
            apply Wk.sto (i := 7) 9 true ty42 rfl rfl rfl rfl (Nat.le_of_ble_eq_true rfl) (lt_of_ble rfl)
            apply Wk.asg (by conv => lhs; whnf) (lt_of_ble rfl)
            refine Wk.nil (AW.ret ?_)
            repeat (first | refine thenA_ret ?_ | refine inBlockA_ret ?_)
            exact RetQ.ret _ (.cons ⟨6, 0, _, _, _, rfl, rfl, ty27, rfl⟩ (.cons ⟨7, 0, _, _, _, rfl, rfl, ty42, rfl⟩ (.cons rfl .nil))) ⟨rfl, rfl⟩ (kept1 rfl)
          · have c3 : 9999 ≤ c + (fl.length : Int) := by rcases hi2 with h | h | h <;> first | exact absurd h c1 | exact absurd h c2 | exact h
            have hq0 : (qu.length : Int) ≠ 0 := by have := List.length_pos_iff.2 c2; omega
            apply AW.list
            apply Wk.fad 2 0 false fd27_2 rfl (lt_of_ble rfl)
            apply Wk.ld (i := 4) 1 false ty25 rfl rfl (by conv => lhs; whnf) (lt_of_ble rfl)
            apply Wk.leno (i := 5) un25 rfl rfl (lt_of_ble rfl)
            apply Wk.fad 1 0 false fd24_1 rfl (lt_of_ble rfl)
            apply Wk.ld (i := 3) 1 false ty3 rfl rfl (by conv => lhs; whnf) (lt_of_ble rfl)
            apply Wk.bin rfl rfl (r := .bool false) (fun w => by rw [e3]; simp [go_sem] <;> omega) (lt_of_ble rfl)
            apply Wk.mv (by conv => lhs; whnf) (lt_of_ble rfl)
            apply Wk.gon 34 rfl rfl
            apply Wk.fad 4 0 false fd27_4 rfl (lt_of_ble rfl)
            apply Wk.gon 34 rfl rfl
            apply Wk.ld (i := 4) 1 false ty25 rfl rfl (by conv => lhs; whnf) (lt_of_ble rfl)
            apply Wk.gon 34 rfl rfl
            apply Wk.len un25 rfl (lt_of_ble rfl)
            apply Wk.gon 34 rfl rfl
            apply Wk.bin rfl rfl (r := .bool false) (fun w => by rw [e2]; simp [go_sem] <;> omega) (lt_of_ble rfl)
            apply Wk.pckF rfl (by conv => lhs; whnf) (lt_of_ble rfl)
            apply Wk.mv (by conv => lhs; whnf) (lt_of_ble rfl)
            apply Wk.gon 40 rfl rfl
            apply Wk.fad 8 0 false fd27_8 rfl (lt_of_ble rfl)
            apply Wk.gon 40 rfl rfl
            apply Wk.ld (i := 4) 1 false ty3 rfl rfl (by conv => lhs; whnf) (lt_of_ble rfl)
            apply Wk.gon 40 rfl rfl
            apply Wk.fad 2 0 false fd27_2 rfl (lt_of_ble rfl)
            apply Wk.gon 40 rfl rfl
            apply Wk.ld (i := 4) 1 false ty25 rfl rfl (by conv => lhs; whnf) (lt_of_ble rfl)
            apply Wk.gon 40 rfl rfl
            apply Wk.leno (i := 5) un25 rfl rfl (lt_of_ble rfl)
            apply Wk.gon 40 rfl rfl
            apply Wk.addi rfl rfl (by dsimp only; rw [e3]; omega) (lt_of_ble rfl)
            apply Wk.gon 40 rfl rfl
            apply Wk.bin rfl rfl (r := .bool true) (fun w => by rw [e3]; simp [go_sem] <;> omega) (lt_of_ble rfl)
            apply Wk.pckF rfl (by conv => lhs; whnf) (lt_of_ble rfl)
            refine Wk.nil ?_
            refine AW.cond rfl (fun _ => ?_) (fun hc => by cases hc)
            refine AW.seq ?_
            apply AW.list
            apply Wk.ld (i := 4) 10 true ty27 rfl rfl (by conv => lhs; whnf) (lt_of_ble rfl)
            apply Wk.bld [.int .i64 0, .int .i64 0, .int .i64 0, .bool false, .bool false, .int .i64 0, .int .i64 0, .int .i64 0, .slice none 0 0] [(0, 1), (1, 1), (2, 1), (3, 1), (4, 1), (5, 1), (6, 1), (7, 1), (8, 1)] bl42 rfl (by conv => lhs; whnf) (lt_of_ble rfl)
            apply Wk.sto (i := 6) 10 true ty27 rfl rfl rfl rfl (Nat.le_of_ble_eq_true rfl) (lt_of_ble rfl)
            apply Wk.sto (i := 7) 9 true ty42 rfl rfl rfl rfl (Nat.le_of_ble_eq_true rfl) (lt_of_ble rfl)
            apply Wk.asg (by conv => lhs; whnf) (lt_of_ble rfl)
            refine Wk.nil (AW.ret ?_)
            repeat (first | refine thenA_ret ?_ | refine inBlockA_ret ?_)
            exact RetQ.ret _ (.cons ⟨6, 0, _, _, _, rfl, rfl, ty27, rfl⟩ (.cons ⟨7, 0, _, _, _, rfl, rfl, ty42, rfl⟩ (.cons rfl .nil))) ⟨rfl, rfl⟩ (kept1 rfl)
      · skip
        apply AW.list
        apply Wk.fad 9 0 false fd27_9 rfl (lt_of_ble rfl)
        apply Wk.ld (i := 4) 1 false ty4 rfl rfl (by conv => lhs; whnf) (lt_of_ble rfl)
        apply Wk.mv (by conv => lhs; whnf) (lt_of_ble rfl)
        apply Wk.gon 12 rfl rfl
        apply Wk.fad 5 0 false fd27_5 rfl (lt_of_ble rfl)
        apply Wk.gon 12 rfl rfl
        apply Wk.ld (i := 4) 1 false ty4 rfl rfl (by conv => lhs; whnf) (lt_of_ble rfl)
        apply Wk.pckF rfl (by conv => lhs; whnf) (lt_of_ble rfl)
        apply Wk.mv (by conv => lhs; whnf) (lt_of_ble rfl)
        apply Wk.gon 16 rfl rfl
        apply Wk.fad 7 0 false fd27_7 rfl (lt_of_ble rfl)
        apply Wk.gon 16 rfl rfl
        apply Wk.ld (i := 4) 1 false ty4 rfl rfl (by conv => lhs; whnf) (lt_of_ble rfl)
        apply Wk.pckF rfl (by conv => lhs; whnf) (lt_of_ble rfl)
        refine Wk.nil ?_
        refine AW.cond rfl (fun _ => ?_) (fun hc => by cases hc)
        refine AW.seq ?_
        apply AW.list
        apply Wk.ld (i := 4) 10 true ty27 rfl rfl (by conv => lhs; whnf) (lt_of_ble rfl)
        apply Wk.bld [.int .i64 0, .int .i64 0, .int .i64 0, .bool false, .bool false, .int .i64 0, .int .i64 0, .int .i64 0, .slice none 0 0] [(0, 1), (1, 1), (2, 1), (3, 1), (4, 1), (5, 1), (6, 1), (7, 1), (8, 1)] bl42 rfl (by conv => lhs; whnf) (lt_of_ble rfl)
        apply Wk.sto (i := 6) 10 true ty27 rfl rfl rfl rfl (Nat.le_of_ble_eq_true rfl) (lt_of_ble rfl)
        apply Wk.sto (i := 7) 9 true ty42 rfl rfl rfl rfl (Nat.le_of_ble_eq_true rfl) (lt_of_ble rfl)
        apply Wk.asg (by conv => lhs; whnf) (lt_of_ble rfl)
        refine Wk.nil (AW.ret ?_)
        repeat (first | refine thenA_ret ?_ | refine inBlockA_ret ?_)
        exact RetQ.ret _ (.cons ⟨6, 0, _, _, _, rfl, rfl, ty27, rfl⟩ (.cons ⟨7, 0, _, _, _, rfl, rfl, ty42, rfl⟩ (.cons rfl .nil))) ⟨rfl, rfl⟩ (kept1 rfl)
    · skip
      apply AW.list
      apply Wk.fad 9 0 false fd27_9 rfl (lt_of_ble rfl)
      apply Wk.ld (i := 4) 1 false ty4 rfl rfl (by conv => lhs; whnf) (lt_of_ble rfl)
      apply Wk.mv (by conv => lhs; whnf) (lt_of_ble rfl)
      apply Wk.gon 12 rfl rfl
      apply Wk.fad 5 0 false fd27_5 rfl (lt_of_ble rfl)
      apply Wk.gon 12 rfl rfl
      apply Wk.ld (i := 4) 1 false ty4 rfl rfl (by conv => lhs; whnf) (lt_of_ble rfl)
      apply Wk.pckF rfl (by conv => lhs; whnf) (lt_of_ble rfl)
      apply Wk.mv (by conv => lhs; whnf) (lt_of_ble rfl)
      apply Wk.goff 16 (ok_faddr fd27_7) rfl rfl (by simp)
      apply Wk.goff 16 (ok_load 4 ty4) rfl rfl (by simp)
      apply Wk.pckT rfl (by conv => lhs; whnf) (lt_of_ble rfl)
      refine Wk.nil ?_
      refine AW.cond rfl (fun _ => ?_) (fun hc => by cases hc)
      refine AW.seq ?_
      apply AW.list
      apply Wk.ld (i := 4) 10 true ty27 rfl rfl (by conv => lhs; whnf) (lt_of_ble rfl)
      apply Wk.bld [.int .i64 0, .int .i64 0, .int .i64 0, .bool false, .bool false, .int .i64 0, .int .i64 0, .int .i64 0, .slice none 0 0] [(0, 1), (1, 1), (2, 1), (3, 1), (4, 1), (5, 1), (6, 1), (7, 1), (8, 1)] bl42 rfl (by conv => lhs; whnf) (lt_of_ble rfl)
      apply Wk.sto (i := 6) 10 true ty27 rfl rfl rfl rfl (Nat.le_of_ble_eq_true rfl) (lt_of_ble rfl)
      apply Wk.sto (i := 7) 9 true ty42 rfl rfl rfl rfl (Nat.le_of_ble_eq_true rfl) (lt_of_ble rfl)
      apply Wk.asg (by conv => lhs; whnf) (lt_of_ble rfl)
      refine Wk.nil (AW.ret ?_)
      repeat (first | refine thenA_ret ?_ | refine inBlockA_ret ?_)
      exact RetQ.ret _ (.cons ⟨6, 0, _, _, _, rfl, rfl, ty27, rfl⟩ (.cons ⟨7, 0, _, _, _, rfl, rfl, ty42, rfl⟩ (.cons rfl .nil))) ⟨rfl, rfl⟩ (kept1 rfl)
  · skip
    apply AW.list
    apply Wk.fad 9 0 false fd27_9 rfl (lt_of_ble rfl)
    apply Wk.ld (i := 4) 1 false ty4 rfl rfl (by conv => lhs; whnf) (lt_of_ble rfl)
    apply Wk.mv (by conv => lhs; whnf) (lt_of_ble rfl)
    apply Wk.goff 12 (ok_faddr fd27_5) rfl rfl (by simp)
    apply Wk.goff 12 (ok_load 4 ty4) rfl rfl (by simp)
    apply Wk.pckT rfl (by conv => lhs; whnf) (lt_of_ble rfl)
    apply Wk.mv (by conv => lhs; whnf) (lt_of_ble rfl)
    apply Wk.goff 16 (ok_faddr fd27_7) rfl rfl (by simp)
    apply Wk.goff 16 (ok_load 4 ty4) rfl rfl (by simp)
    apply Wk.pckT rfl (by conv => lhs; whnf) (lt_of_ble rfl)
    refine Wk.nil ?_
    refine AW.cond rfl (fun _ => ?_) (fun hc => by cases hc)
    refine AW.seq ?_
    apply AW.list
    apply Wk.ld (i := 4) 10 true ty27 rfl rfl (by conv => lhs; whnf) (lt_of_ble rfl)
    apply Wk.bld [.int .i64 0, .int .i64 0, .int .i64 0, .bool false, .bool false, .int .i64 0, .int .i64 0, .int .i64 0, .slice none 0 0] [(0, 1), (1, 1), (2, 1), (3, 1), (4, 1), (5, 1), (6, 1), (7, 1), (8, 1)] bl42 rfl (by conv => lhs; whnf) (lt_of_ble rfl)
    apply Wk.sto (i := 6) 10 true ty27 rfl rfl rfl rfl (Nat.le_of_ble_eq_true rfl) (lt_of_ble rfl)
    apply Wk.sto (i := 7) 9 true ty42 rfl rfl rfl rfl (Nat.le_of_ble_eq_true rfl) (lt_of_ble rfl)
    apply Wk.asg (by conv => lhs; whnf) (lt_of_ble rfl)
    refine Wk.nil (AW.ret ?_)
    repeat (first | refine thenA_ret ?_ | refine inBlockA_ret ?_)
    exact RetQ.ret _ (.cons ⟨6, 0, _, _, _, rfl, rfl, ty27, rfl⟩ (.cons ⟨7, 0, _, _, _, rfl, rfl, ty42, rfl⟩ (.cons rfl .nil))) ⟨rfl, rfl⟩ (kept1 rfl)
set_option maxHeartbeats 4000000 in
set_option maxRecDepth 100000 in
theorem ssendOn (m0 w0 p0 u0 y0 : Int) (n a : Int) (fl : List Dat) (i : Nat) (qu : List Dat) (t : Int) (c : Int) (k : Nat) (ack : Int) (e : Dat) (hi : fl[i]? = some e) (ha : 0 ≤ a ∧ a ≤ 1000) (hl : fl.length ≤ 1000) (he : e.2.2.length ≤ 1000) : Spec Try.prog 68 [cfgA m0 w0 p0 u0 y0, txF ⟨n, a, fl, (i : Int), qu, false, t, false, c, false⟩ 5 k, .d (.v (.int .i64 ack))] (flB fl k) (fun r bs => r = .tup [txF ⟨n, a, fl, (i : Int) + 1, qu, false, t, false, c, false⟩ 5 k, frmD 1 ((a + (i : Int)) % 8) ack false false 0 e.1 e.2.1 e.2.2, .d (.v (.bool true))] ∧ bs = flB fl k) := by
  have e3 : (((piecesA fl).length : Nat) : Int) = (fl.length : Int) := by rw [piecesA, List.length_map]
  have hlt : i < fl.length := (List.getElem?_eq_some_iff.1 hi).1
  have hklt : i < (piecesA fl).length := by rw [piecesA, List.length_map]; exact hlt
  have hpart := pieces_at hi
  have cf := sframe_ok e ((a + (i : Int)) % 8) ack he
  refine Spec.intro (n := 89) (rv := [.cell 6 27, .cell 7 42, .tmp 8]) Try.func68 rfl rfl rfl (by simp) fun C hN hX => ?_
  refine AW.seq ?_
  apply AW.list
  apply Wk.bx 3 rfl rfl (lt_of_ble rfl)
  apply Wk.bx 4 rfl rfl (lt_of_ble rfl)
  apply Wk.alc 6 [.int .i64 0, .int .i64 0, .slice none 0 0, .int .i64 0, .slice none 0 0, .bool false, .int .i64 0, .bool false, .int .i64 0, .bool false] ze27 rfl rfl (lt_of_ble rfl)
  apply Wk.alc 7 [.int .i64 0, .int .i64 0, .int .i64 0, .bool false, .bool false, .int .i64 0, .int .i64 0, .int .i64 0, .slice none 0 0] ze42 rfl rfl (lt_of_ble rfl)
  apply Wk.asg (by conv => lhs; whnf) (lt_of_ble rfl)
  refine Wk.nil ?_
  refine AW.seq (AW.seq ?_)
  apply AW.list
  apply Wk.fad 9 0 false fd27_9 rfl (lt_of_ble rfl)
  apply Wk.ld (i := 4) 1 false ty4 rfl rfl (by conv => lhs; whnf) (lt_of_ble rfl)
  apply Wk.mv (by conv => lhs; whnf) (lt_of_ble rfl)
  apply Wk.gon 12 rfl rfl
  apply Wk.fad 5 0 false fd27_5 rfl (lt_of_ble rfl)
  apply Wk.gon 12 rfl rfl
  apply Wk.ld (i := 4) 1 false ty4 rfl rfl (by conv => lhs; whnf) (lt_of_ble rfl)
  apply Wk.pckF rfl (by conv => lhs; whnf) (lt_of_ble rfl)
  apply Wk.mv (by conv => lhs; whnf) (lt_of_ble rfl)
  apply Wk.gon 16 rfl rfl
  apply Wk.fad 7 0 false fd27_7 rfl (lt_of_ble rfl)
  apply Wk.gon 16 rfl rfl
  apply Wk.ld (i := 4) 1 false ty4 rfl rfl (by conv => lhs; whnf) (lt_of_ble rfl)
  apply Wk.pckF rfl (by conv => lhs; whnf) (lt_of_ble rfl)
  refine Wk.nil ?_
  refine AW.cond rfl (fun hc => by cases hc) (fun _ => AW.skip (thenA_normal ?_))
  refine AW.seq (AW.seq ?_)
  apply AW.list
  apply Wk.fad 3 0 false fd27_3 rfl (lt_of_ble rfl)
  apply Wk.ld (i := 4) 1 false ty3 rfl rfl (by conv => lhs; whnf) (lt_of_ble rfl)
  apply Wk.fad 2 0 false fd27_2 rfl (lt_of_ble rfl)
  apply Wk.ld (i := 4) 1 false ty25 rfl rfl (by conv => lhs; whnf) (lt_of_ble rfl)
  apply Wk.leno (i := 5) un25 rfl rfl (lt_of_ble rfl)
  apply Wk.bin rfl rfl (r := .bool false) (fun w => by rw [e3]; simp [go_sem] <;> omega) (lt_of_ble rfl)
  refine Wk.nil ?_
  refine AW.cond rfl (fun hc => by cases hc) (fun _ => AW.skip (thenA_normal ?_))
  refine AW.seq ?_
  apply AW.draw (hm := hmix) (cs := _)
  · apply Wk.fad 2 0 false fd27_2 rfl (lt_of_ble rfl)
    apply Wk.ld (i := 4) 1 false ty25 rfl rfl (by conv => lhs; whnf) (lt_of_ble rfl)
    apply Wk.fad 3 0 false fd27_3 rfl (lt_of_ble rfl)
    apply Wk.ld (i := 4) 1 false ty3 rfl rfl (by conv => lhs; whnf) (lt_of_ble rfl)
    apply Wk.iado 5 3 true un25 ty47 rfl rfl rfl hklt (lt_of_ble rfl)
    apply Wk.ldo (i := 5) 3 true ty47 rfl rfl (by exact hpart) (lt_of_ble rfl)
    apply Wk.fad 1 0 false fd27_1 rfl (lt_of_ble rfl)
    apply Wk.ld (i := 4) 1 false ty3 rfl rfl (by conv => lhs; whnf) (lt_of_ble rfl)
    apply Wk.fad 3 0 false fd27_3 rfl (lt_of_ble rfl)
    apply Wk.ld (i := 4) 1 false ty3 rfl rfl (by conv => lhs; whnf) (lt_of_ble rfl)
    apply Wk.addi rfl rfl (by dsimp only; omega) (lt_of_ble rfl)
    apply Wk.bin rfl rfl (r := .int .i64 ((a + (i : Int)) % 8)) (fun w => by simp [go_sem]; exact Int.tmod_eq_emod_of_nonneg (by omega)) (lt_of_ble rfl)
    apply Wk.mv (by conv => lhs; whnf) (lt_of_ble rfl)
    apply Wk.dat cf Try.func99 rfl rfl rfl rfl rfl (lt_of_ble rfl)
    apply Wk.alc 9 [.int .i64 0, .int .i64 0, .int .i64 0, .bool false, .bool false, .int .i64 0, .int .i64 0, .int .i64 0, .slice none 0 0] ze42 rfl rfl (lt_of_ble rfl)
    apply Wk.sto (i := 9) 9 true ty42 rfl rfl rfl rfl (Nat.le_of_ble_eq_true rfl) (lt_of_ble rfl)
    refine Wk.nil ?_
    refine AW.seq ?_
    apply AW.list
    apply Wk.fad 3 0 false fd27_3 rfl (lt_of_ble rfl)
    apply Wk.ld (i := 4) 1 false ty3 rfl rfl (by conv => lhs; whnf) (lt_of_ble rfl)
    apply Wk.addi rfl rfl (by dsimp only; omega) (lt_of_ble rfl)
    apply Wk.fad 3 0 false fd27_3 rfl (lt_of_ble rfl)
    apply Wk.sto (i := 4) 1 false ty3 rfl rfl rfl rfl (Nat.le_of_ble_eq_true rfl) (lt_of_ble rfl)
    refine Wk.nil ?_
    refine AW.seq ?_
    apply AW.draw (hm := hmix) (cs := _)
    · apply Wk.ld (i := 4) 10 true ty27 rfl rfl (by conv => lhs; whnf) (lt_of_ble rfl)
      apply Wk.ld (i := 9) 9 true ty42 rfl rfl (by conv => lhs; whnf) (lt_of_ble rfl)
      apply Wk.sto (i := 6) 10 true ty27 rfl rfl rfl rfl (Nat.le_of_ble_eq_true rfl) (lt_of_ble rfl)
      apply Wk.sto (i := 7) 9 true ty42 rfl rfl rfl rfl (Nat.le_of_ble_eq_true rfl) (lt_of_ble rfl)
      apply Wk.asg (by conv => lhs; whnf) (lt_of_ble rfl)
      refine Wk.nil (AW.ret ?_)
      exact RetQ.ret _ (.cons ⟨6, 0, _, _, _, rfl, rfl, ty27, rfl⟩ (.cons ⟨7, 0, _, _, _, rfl, rfl, ty42, rfl⟩ (.cons rfl .nil))) ⟨rfl, rfl⟩ (kept1 rfl)
    · rfl
    · rfl
  · rfl
  · rfl
set_option maxHeartbeats 4000000 in
set_option maxRecDepth 100000 in
theorem ssendNew (m0 w0 p0 u0 y0 : Int) (n a : Int) (fl : List Dat) (qu : List Dat) (t : Int) (c : Int) (k : Nat) (ack : Int) (e : Dat) (qs : List Dat) (hqu : qu = e :: qs) (hw : (fl.length : Int) ≠ w0) (hc : -1 ≤ c ∧ c + (fl.length : Int) < 9999) (ha : 0 ≤ a ∧ a ≤ 1000) (hn : 0 ≤ n ∧ n ≤ 1000) (hl : fl.length ≤ 100) (hq : qu.length ≤ 1000) (hs : ∀ d ∈ qu, d.2.2.length ≤ 1000) : Spec Try.prog 68 [cfgA m0 w0 p0 u0 y0, txF ⟨n, a, fl, (fl.length : Int), qu, false, t, false, c, false⟩ 5 k, .d (.v (.int .i64 ack))] (flB fl k) (fun r bs => r = .tup [txO ⟨(n + 1) % 8, a, fl ++ [e], (fl.length : Int) + 1, qs, false, t, false, c, false⟩ 5 (k + 1) 66 qs.length, frmD 1 ((a + (fl.length : Int)) % 8) ack false false 0 e.1 e.2.1 e.2.2, .d (.v (.bool true))] ∧ bs = txB (fl ++ [e]) qs (k + 1) qs.length) := by
  have e3 : (((piecesA fl).length : Nat) : Int) = (fl.length : Int) := by rw [piecesA, List.length_map]
  have e2 : (((qu.map datD).length : Nat) : Int) = (qu.length : Int) := by rw [List.length_map]
  have hpos : 0 < qu.length := by rw [hqu]; simp
  have hq0 : (qu.length : Int) ≠ 0 := by omega
  have hget : (qu.map datD)[0]? = some (datD e) := by rw [hqu]; rfl
  have h0lt : 0 < (qu.map datD).length := by rw [List.length_map]; exact hpos
  have cl := slistP_cut qu 1 hq hs
  have ed : qu.drop 1 = qs := by rw [hqu]; rfl
  rw [ed] at cl
  have i6 := in_slist (L := [] ++ [66]) (i := 66) (k := qs.length) (e := 47) (sz := 3) (by simp) (within_parts qs)
  have hlt : (fl ++ [e])[fl.length]? = some e := by simp
  have hklt : fl.length < (piecesA (fl ++ [e])).length := by simp [piecesA]
  have hpart := pieces_at hlt
  have ea : piecesA fl ++ [(datD e).map A.d] = piecesA (fl ++ [e]) := by simp [piecesA]
  have cn : DataOk Try.prog 85 [.d (.v (.int .i64 n))] (.d (.v (.int .i64 ((n + 1) % 8)))) := int1 (spec_next n (by omega))
  have cf := sframe_ok e ((a + (fl.length : Int)) % 8) ack (hs e (by rw [hqu]; simp))
  refine Spec.intro (n := 89) (rv := [.cell 6 27, .cell 7 42, .tmp 8]) Try.func68 rfl rfl rfl (by simp) fun C hN hX => ?_
  refine AW.seq ?_
  apply AW.list
  apply Wk.bx 3 rfl rfl (lt_of_ble rfl)
  apply Wk.bx 4 rfl rfl (lt_of_ble rfl)
  apply Wk.alc 6 [.int .i64 0, .int .i64 0, .slice none 0 0, .int .i64 0, .slice none 0 0, .bool false, .int .i64 0, .bool false, .int .i64 0, .bool false] ze27 rfl rfl (lt_of_ble rfl)
  apply Wk.alc 7 [.int .i64 0, .int .i64 0, .int .i64 0, .bool false, .bool false, .int .i64 0, .int .i64 0, .int .i64 0, .slice none 0 0] ze42 rfl rfl (lt_of_ble rfl)
  apply Wk.asg (by conv => lhs; whnf) (lt_of_ble rfl)
  refine Wk.nil ?_
  refine AW.seq (AW.seq ?_)
  apply AW.list
  apply Wk.fad 9 0 false fd27_9 rfl (lt_of_ble rfl)
  apply Wk.ld (i := 4) 1 false ty4 rfl rfl (by conv => lhs; whnf) (lt_of_ble rfl)
  apply Wk.mv (by conv => lhs; whnf) (lt_of_ble rfl)
  apply Wk.gon 12 rfl rfl
  apply Wk.fad 5 0 false fd27_5 rfl (lt_of_ble rfl)
  apply Wk.gon 12 rfl rfl
  apply Wk.ld (i := 4) 1 false ty4 rfl rfl (by conv => lhs; whnf) (lt_of_ble rfl)
  apply Wk.pckF rfl (by conv => lhs; whnf) (lt_of_ble rfl)
  apply Wk.mv (by conv => lhs; whnf) (lt_of_ble rfl)
  apply Wk.gon 16 rfl rfl
  apply Wk.fad 7 0 false fd27_7 rfl (lt_of_ble rfl)
  apply Wk.gon 16 rfl rfl
  apply Wk.ld (i := 4) 1 false ty4 rfl rfl (by conv => lhs; whnf) (lt_of_ble rfl)
  apply Wk.pckF rfl (by conv => lhs; whnf) (lt_of_ble rfl)
  refine Wk.nil ?_
  refine AW.cond rfl (fun hc => by cases hc) (fun _ => AW.skip (thenA_normal ?_))
  refine AW.seq (AW.seq ?_)
  apply AW.list
  apply Wk.fad 3 0 false fd27_3 rfl (lt_of_ble rfl)
  apply Wk.ld (i := 4) 1 false ty3 rfl rfl (by conv => lhs; whnf) (lt_of_ble rfl)
  apply Wk.fad 2 0 false fd27_2 rfl (lt_of_ble rfl)
  apply Wk.ld (i := 4) 1 false ty25 rfl rfl (by conv => lhs; whnf) (lt_of_ble rfl)
  apply Wk.leno (i := 5) un25 rfl rfl (lt_of_ble rfl)
  apply Wk.bin rfl rfl (r := .bool true) (fun w => by rw [e3]; simp [go_sem] <;> omega) (lt_of_ble rfl)
  refine Wk.nil ?_
  refine AW.cond rfl (fun _ => ?_) (fun hc => by cases hc)
  refine AW.seq (AW.seq ?_)
  apply AW.list
  apply Wk.fad 2 0 false fd27_2 rfl (lt_of_ble rfl)
  apply Wk.ld (i := 4) 1 false ty25 rfl rfl (by conv => lhs; whnf) (lt_of_ble rfl)
  apply Wk.leno (i := 5) un25 rfl rfl (lt_of_ble rfl)
  apply Wk.fad 1 0 false fd24_1 rfl (lt_of_ble rfl)
  apply Wk.ld (i := 3) 1 false ty3 rfl rfl (by conv => lhs; whnf) (lt_of_ble rfl)
  apply Wk.bin rfl rfl (r := .bool false) (fun w => by rw [e3]; simp [go_sem] <;> omega) (lt_of_ble rfl)
  apply Wk.mv (by conv => lhs; whnf) (lt_of_ble rfl)
  apply Wk.gon 34 rfl rfl
  apply Wk.fad 4 0 false fd27_4 rfl (lt_of_ble rfl)
  apply Wk.gon 34 rfl rfl
  apply Wk.ld (i := 4) 1 false ty25 rfl rfl (by conv => lhs; whnf) (lt_of_ble rfl)
  apply Wk.gon 34 rfl rfl
  apply Wk.len un25 rfl (lt_of_ble rfl)
  apply Wk.gon 34 rfl rfl
  apply Wk.bin rfl rfl (r := .bool false) (fun w => by rw [e2]; simp [go_sem, hqu]; omega) (lt_of_ble rfl)
  apply Wk.pckF rfl (by conv => lhs; whnf) (lt_of_ble rfl)
  apply Wk.mv (by conv => lhs; whnf) (lt_of_ble rfl)
  apply Wk.gon 40 rfl rfl
  apply Wk.fad 8 0 false fd27_8 rfl (lt_of_ble rfl)
  apply Wk.gon 40 rfl rfl
  apply Wk.ld (i := 4) 1 false ty3 rfl rfl (by conv => lhs; whnf) (lt_of_ble rfl)
  apply Wk.gon 40 rfl rfl
  apply Wk.fad 2 0 false fd27_2 rfl (lt_of_ble rfl)
  apply Wk.gon 40 rfl rfl
  apply Wk.ld (i := 4) 1 false ty25 rfl rfl (by conv => lhs; whnf) (lt_of_ble rfl)
  apply Wk.gon 40 rfl rfl
  apply Wk.leno (i := 5) un25 rfl rfl (lt_of_ble rfl)
  apply Wk.gon 40 rfl rfl
  apply Wk.addi rfl rfl (by dsimp only; rw [e3]; omega) (lt_of_ble rfl)
  apply Wk.gon 40 rfl rfl
  apply Wk.bin rfl rfl (r := .bool false) (fun w => by rw [e3]; simp [go_sem] <;> omega) (lt_of_ble rfl)
  apply Wk.pckF rfl (by conv => lhs; whnf) (lt_of_ble rfl)
  refine Wk.nil ?_
  refine AW.cond rfl (fun hc => by cases hc) (fun _ => AW.skip (thenA_normal ?_))
  refine AW.seq ?_
  apply AW.draw (hm := hmix) (cs := _)
  · apply Wk.fad 2 0 false fd27_2 rfl (lt_of_ble rfl)
    apply Wk.ld (i := 4) 1 false ty25 rfl rfl (by conv => lhs; whnf) (lt_of_ble rfl)
    apply Wk.fad 4 0 false fd27_4 rfl (lt_of_ble rfl)
    apply Wk.ld (i := 4) 1 false ty25 rfl rfl (by conv => lhs; whnf) (lt_of_ble rfl)
    apply Wk.iad 3 true un25 ty47 rfl rfl h0lt (datD_len _) (lt_of_ble rfl)
    apply Wk.ldr 3 true ty47 rfl hget (by conv => lhs; whnf) (lt_of_ble rfl)
    apply Wk.lst 57 3 true [.int .i64 0, .int .i64 0, .slice none 0 0] un25 ty47 ze47 rfl rfl (by rfl) (by rfl) (by decide) (by decide) rfl rfl (all_len rfl) (lt_of_ble rfl)
    apply Wk.appOO 5 57 3 un25 ap47 rfl rfl rfl rfl (by decide) (all_len rfl) (three_parts _) (by simp [piecesA]; omega) (lt_of_ble rfl)
    apply Wk.fad 2 0 false fd27_2 rfl (lt_of_ble rfl)
    apply Wk.sto (i := 4) 1 false ty25 rfl rfl rfl rfl (Nat.le_of_ble_eq_true rfl) (lt_of_ble rfl)
    refine Wk.nil ?_
    refine AW.seq ?_
    apply AW.list
    apply Wk.fad 4 0 false fd27_4 rfl (lt_of_ble rfl)
    apply Wk.ld (i := 4) 1 false ty25 rfl rfl (by conv => lhs; whnf) (lt_of_ble rfl)
    apply Wk.slc (m := (qu.map datD).length) (l := 1) 3 true un25 ty47 rfl rfl (by exact if_pos ⟨by decide, by simp; omega⟩) (datD_len _) (lt_of_ble rfl)
    apply Wk.cal [] [66] cl i6 ⟨_, _, rfl, rfl⟩ Try.func92 rfl rfl rfl rfl (by simp; rfl) rfl (fun i hi => by cases hi) (lt_of_ble rfl)
    rintro r bs' ⟨rfl, rfl⟩
    apply Wk.fad 4 0 false fd27_4 rfl (lt_of_ble rfl)
    apply Wk.sto (i := 4) 1 false ty25 rfl rfl rfl rfl (Nat.le_of_ble_eq_true rfl) (lt_of_ble rfl)
    refine Wk.nil ?_
    apply AW.list
    apply Wk.fad 0 0 false fd27_0 rfl (lt_of_ble rfl)
    apply Wk.ld (i := 4) 1 false ty3 rfl rfl (by conv => lhs; whnf) (lt_of_ble rfl)
    apply Wk.dat cn Try.func85 rfl rfl rfl rfl rfl (lt_of_ble rfl)
    apply Wk.fad 0 0 false fd27_0 rfl (lt_of_ble rfl)
    apply Wk.sto (i := 4) 1 false ty3 rfl rfl rfl rfl (Nat.le_of_ble_eq_true rfl) (lt_of_ble rfl)
    refine Wk.nil ?_
    repeat (first | refine thenA_normal ?_ | refine inBlockA_normal ?_)
    obtain ⟨i, hi⟩ : ∃ i, i = fl.length := ⟨_, rfl⟩
    rw [← hi] at hklt hpart cf
    have e5 : piecesA fl ++ List.map (List.map A.d) [datD e] = piecesA (fl ++ [e]) := ea
    refine AW.keep (n := 89) (ts := [(2, .d (.v (.int .i64 ack))), (3, .ptr 3 0), (4, .ptr 4 0), (6, .ptr 6 0), (7, .ptr 7 0)]) (bs := [(3, .var (cfgC m0 w0 p0 u0 y0)), (4, .var (txOC ⟨(n + 1) % 8, a, fl ++ [e], (i : Int), qs, false, t, false, c, false⟩ 5 (k + 1) 66 qs.length)), (5, .own (k + 1) 47 3 (piecesA (fl ++ [e]))), (6, .var txN), (7, .var frmNC), (66, .own qs.length 47 3 (piecesA qs))]) ⟨rfl, .cons rfl rfl (.cons rfl rfl (.cons rfl rfl (.cons rfl rfl (.cons rfl rfl .nil)))), .cons rfl rfl (.cons (by rw [hi]; rfl) rfl (.cons (by rw [← e5]; rfl) (by exact within_parts _) (.cons rfl rfl (.cons rfl rfl (.cons rfl (by exact within_parts _) .nil))))), hN.mono (by simp [keys, flB])⟩ ?_
    rw [← hi]
    refine AW.seq ?_
    apply AW.draw (hm := hmix) (cs := _)
    · apply Wk.fad 2 0 false fd27_2 rfl (lt_of_ble rfl)
      apply Wk.ld (i := 4) 1 false ty25 rfl rfl (by conv => lhs; whnf) (lt_of_ble rfl)
      apply Wk.fad 3 0 false fd27_3 rfl (lt_of_ble rfl)
      apply Wk.ld (i := 4) 1 false ty3 rfl rfl (by conv => lhs; whnf) (lt_of_ble rfl)
      apply Wk.iado 5 3 true un25 ty47 rfl rfl rfl hklt (lt_of_ble rfl)
      apply Wk.ldo (i := 5) 3 true ty47 rfl rfl (by exact hpart) (lt_of_ble rfl)
      apply Wk.fad 1 0 false fd27_1 rfl (lt_of_ble rfl)
      apply Wk.ld (i := 4) 1 false ty3 rfl rfl (by conv => lhs; whnf) (lt_of_ble rfl)
      apply Wk.fad 3 0 false fd27_3 rfl (lt_of_ble rfl)
      apply Wk.ld (i := 4) 1 false ty3 rfl rfl (by conv => lhs; whnf) (lt_of_ble rfl)
      apply Wk.addi rfl rfl (by dsimp only; omega) (lt_of_ble rfl)
      apply Wk.bin rfl rfl (r := .int .i64 ((a + (i : Int)) % 8)) (fun w => by simp [go_sem]; exact Int.tmod_eq_emod_of_nonneg (by omega)) (lt_of_ble rfl)
      apply Wk.mv (by conv => lhs; whnf) (lt_of_ble rfl)
      apply Wk.dat cf Try.func99 rfl rfl rfl rfl rfl (lt_of_ble rfl)
      apply Wk.alc 9 [.int .i64 0, .int .i64 0, .int .i64 0, .bool false, .bool false, .int .i64 0, .int .i64 0, .int .i64 0, .slice none 0 0] ze42 rfl rfl (lt_of_ble rfl)
      apply Wk.sto (i := 9) 9 true ty42 rfl rfl rfl rfl (Nat.le_of_ble_eq_true rfl) (lt_of_ble rfl)
      refine Wk.nil ?_
      refine AW.seq ?_
      apply AW.list
      apply Wk.fad 3 0 false fd27_3 rfl (lt_of_ble rfl)
      apply Wk.ld (i := 4) 1 false ty3 rfl rfl (by conv => lhs; whnf) (lt_of_ble rfl)
      apply Wk.addi rfl rfl (by dsimp only; omega) (lt_of_ble rfl)
      apply Wk.fad 3 0 false fd27_3 rfl (lt_of_ble rfl)
      apply Wk.sto (i := 4) 1 false ty3 rfl rfl rfl rfl (Nat.le_of_ble_eq_true rfl) (lt_of_ble rfl)
      refine Wk.nil ?_
      refine AW.seq ?_
      apply AW.draw (hm := hmix) (cs := _)
      · apply Wk.ld (i := 4) 10 true ty27 rfl rfl (by conv => lhs; whnf) (lt_of_ble rfl)
        apply Wk.ld (i := 9) 9 true ty42 rfl rfl (by conv => lhs; whnf) (lt_of_ble rfl)
        apply Wk.sto (i := 6) 10 true ty27 rfl rfl rfl rfl (Nat.le_of_ble_eq_true rfl) (lt_of_ble rfl)
        apply Wk.sto (i := 7) 9 true ty42 rfl rfl rfl rfl (Nat.le_of_ble_eq_true rfl) (lt_of_ble rfl)
        apply Wk.asg (by conv => lhs; whnf) (lt_of_ble rfl)
        refine Wk.nil (AW.ret ?_)
        exact RetQ.ret (txB (fl ++ [e]) qs (k + 1) qs.length) (.cons ⟨6, 0, _, _, _, rfl, rfl, ty27, rfl⟩ (.cons ⟨7, 0, _, _, _, rfl, rfl, ty42, rfl⟩ (.cons rfl .nil))) ⟨rfl, rfl⟩ (kept2 rfl rfl)
      · rfl
      · rfl
    · rfl
    · rfl
  · rfl
  · rfl
end Go.Proofs.Ytdojkmjamilllaa

/- TxSend of the specification, over what values read as. Written by tools/mk_AbsTxSend2.py. -/
namespace Go.Proofs.Ytdojkmjamilllaa
open Go Go.RowKit
theorem one_in {σ : St} {i : Nat} {K : List Nat} (h1 : (σ.b i).within K = true) : ∀ q ∈ [i], (σ.b q).within K = true := by
  intro q hq
  obtain rfl := List.mem_singleton.1 hq
  exact h1
/-- A frame's cells, its bytes whatever they read as. -/
def frmZC (k s c : Int) (p f : Bool) (y g l : Int) (z : D) : List A := [.d (.v (.int .i64 k)), .d (.v (.int .i64 s)), .d (.v (.int .i64 c)), .d (.v (.bool p)), .d (.v (.bool f)), .d (.v (.int .i64 y)), .d (.v (.int .i64 g)), .d (.v (.int .i64 l)), .d z]
def frmZ (k s c : Int) (p f : Bool) (y g l : Int) (z : D) : A := .agg (frmZC k s c p f y g l z)
theorem in_send2 (x : TX) (k l : Nat) (k0 s c : Int) (p f : Bool) (y g l0 : Int) (z : D) (b : Bool) : PostIn [5, 66] (fun r bs => r = .tup [txO x 5 k 66 l, frmZ k0 s c p f y g l0 z, .d (.v (.bool b))] ∧ bs = txB x.fl x.qu k l) := by
  rintro r bs ⟨rfl, rfl⟩
  exact ⟨by simp [A.within, A.withins, txO, frmZ, frmZC], fun i z h => in_txB h⟩
set_option maxHeartbeats 4000000 in
set_option maxRecDepth 100000 in
theorem ssendF (m0 w0 p0 u0 y0 : Int) (x x' : TX) (ack : Int) (k : Nat) (k1 s c : Int) (p f : Bool) (y g l1 : Int) (z : D) (b : Bool) (hok : txOkB ⟨m0, w0, p0, u0, y0⟩ x = true) (hack : inB ack 0 7 = true) (hx : x.few) (hx' : x'.few)
    (ht : Spec Try.prog 68 [cfgA m0 w0 p0 u0 y0, txF x 5 x.fl.length, .d (.v (.int .i64 ack))] (flB x.fl x.fl.length) (fun r bs => r = .tup [txF x' 5 k, frmZ k1 s c p f y g l1 z, .d (.v (.bool b))] ∧ bs = flB x'.fl k)) :
    Spec Try.prog 25 [cfgA m0 w0 p0 u0 y0, txA x, .d (.v (.int .i64 ack))] [] (fun r bs => r = .tup [txO x' 5 x'.fl.length 66 x'.qu.length, frmZ k1 s c p f y g l1 z, .d (.v (.bool b))] ∧ bs = txB x'.fl x'.qu x'.fl.length x'.qu.length) := by
  have c1 := scopyF x hx
  have c2 := scopyO x' hx'
  refine Spec.intro (n := 36) (rv := [.cell 6 27, .cell 7 42, .tmp 8]) Try.func25 rfl rfl rfl (by simp) fun C hN hX => ?_
  refine AW.seq ?_
  apply AW.list
  apply Wk.bx 3 rfl rfl (lt_of_ble rfl)
  apply Wk.bx 4 rfl rfl (lt_of_ble rfl)
  apply Wk.alc 6 [.int .i64 0, .int .i64 0, .slice none 0 0, .int .i64 0, .slice none 0 0, .bool false, .int .i64 0, .bool false, .int .i64 0, .bool false] ze27 rfl rfl (lt_of_ble rfl)
  apply Wk.alc 7 [.int .i64 0, .int .i64 0, .int .i64 0, .bool false, .bool false, .int .i64 0, .int .i64 0, .int .i64 0, .slice none 0 0] ze42 rfl rfl (lt_of_ble rfl)
  apply Wk.asg (by conv => lhs; whnf) (lt_of_ble rfl)
  refine Wk.nil ?_
  refine AW.seq (AW.seq ?_)
  apply AW.list
  apply Wk.ld (i := 3) 5 true ty24 rfl rfl (by conv => lhs; whnf) (lt_of_ble rfl)
  apply Wk.ld (i := 4) 10 true ty27 rfl rfl (by conv => lhs; whnf) (lt_of_ble rfl)
  apply Wk.dat (stxb hok) Try.func18 rfl rfl rfl rfl rfl (lt_of_ble rfl)
  apply Wk.un rfl (fun w => by simp [go_sem] <;> rfl) (lt_of_ble rfl)
  apply Wk.mv (by conv => lhs; whnf) (lt_of_ble rfl)
  apply Wk.gon 16 rfl rfl
  apply Wk.mv (by conv => lhs; whnf) (lt_of_ble rfl)
  apply Wk.gon 16 rfl rfl
  apply Wk.dat (sinb hack) Try.func60 rfl rfl rfl rfl rfl (lt_of_ble rfl)
  apply Wk.gon 16 rfl rfl
  apply Wk.un rfl (fun w => by simp [go_sem] <;> rfl) (lt_of_ble rfl)
  apply Wk.pckF rfl (by conv => lhs; whnf) (lt_of_ble rfl)
  refine Wk.nil ?_
  refine AW.cond rfl (fun hc => by cases hc) (fun _ => AW.skip (thenA_normal ?_))
  refine AW.seq ?_
  apply AW.draw (hm := hmix) (cs := _)
  · apply Wk.ld (i := 3) 5 true ty24 rfl rfl (by conv => lhs; whnf) (lt_of_ble rfl)
    apply Wk.ld (i := 4) 10 true ty27 rfl rfl (by conv => lhs; whnf) (lt_of_ble rfl)
    apply Wk.cal [] [5] c1 (in_copyF x _) ⟨_, _, rfl, rfl⟩ Try.func55 rfl rfl rfl rfl (by simp; rfl) rfl (fun i hi => by cases hi) (lt_of_ble rfl)
    rintro r bs' ⟨rfl, rfl⟩
    apply Wk.mv (by conv => lhs; whnf) (lt_of_ble rfl)
    apply Wk.cal [5] [] ht (in_send x' _ _ b rfl) ⟨_, _, rfl, rfl⟩ Try.func68 rfl rfl rfl rfl (fun i hi => by cases hi) rfl (one_in (by exact within_parts x.fl)) (lt_of_ble rfl)
    rintro r bs' ⟨rfl, rfl⟩
    apply Wk.mv (by conv => lhs; whnf) (lt_of_ble rfl)
    apply Wk.ext rfl rfl (lt_of_ble rfl)
    apply Wk.ext rfl rfl (lt_of_ble rfl)
    apply Wk.ext rfl rfl (lt_of_ble rfl)
    apply Wk.alc 9 [.int .i64 0, .int .i64 0, .slice none 0 0, .int .i64 0, .slice none 0 0, .bool false, .int .i64 0, .bool false, .int .i64 0, .bool false] ze27 rfl rfl (lt_of_ble rfl)
    apply Wk.alc 10 [.int .i64 0, .int .i64 0, .int .i64 0, .bool false, .bool false, .int .i64 0, .int .i64 0, .int .i64 0, .slice none 0 0] ze42 rfl rfl (lt_of_ble rfl)
    apply Wk.sto (i := 9) 10 true ty27 rfl rfl rfl rfl (Nat.le_of_ble_eq_true rfl) (lt_of_ble rfl)
    apply Wk.sto (i := 10) 9 true ty42 rfl rfl rfl rfl (Nat.le_of_ble_eq_true rfl) (lt_of_ble rfl)
    apply Wk.asg (by conv => lhs; whnf) (lt_of_ble rfl)
    refine Wk.nil ?_
    refine AW.thawc (j := 9) (c := 2) (i := 5) _ rfl rfl rfl (asData_parts x'.fl) hX.none ?_
    refine AW.keep (n := 36) (ts := [(6, .ptr 6 0), (7, .ptr 7 0), (9, .ptr 9 0), (10, .ptr 10 0), (11, .d (.v (.bool b)))]) (bs := [(6, .var txN), (7, .var frmNC), (9, .var (txC x')), (10, .var (frmZC k1 s c p f y g l1 z))]) ⟨rfl, .cons rfl rfl (.cons rfl rfl (.cons rfl rfl (.cons rfl rfl (.cons rfl rfl .nil)))), .cons rfl rfl (.cons rfl rfl (.cons rfl rfl (.cons rfl rfl .nil))), hN.mono (by simp [keys])⟩ ?_
    refine AW.seq ?_
    apply AW.draw (hm := hmix) (cs := _)
    · apply Wk.ld (i := 9) 10 true ty27 rfl rfl (by conv => lhs; whnf) (lt_of_ble rfl)
      apply Wk.cal [] [5, 66] c2 (in_copy x' _ _) ⟨_, _, rfl, rfl⟩ Try.func55 rfl rfl rfl rfl (by simp; exact ⟨rfl, rfl⟩) rfl (fun i hi => by cases hi) (lt_of_ble rfl)
      rintro r bs' ⟨rfl, rfl⟩
      apply Wk.ld (i := 10) 9 true ty42 rfl rfl (by conv => lhs; whnf) (lt_of_ble rfl)
      apply Wk.mv (by conv => lhs; whnf) (lt_of_ble rfl)
      apply Wk.sto (i := 6) 10 true ty27 rfl rfl rfl rfl (Nat.le_of_ble_eq_true rfl) (lt_of_ble rfl)
      apply Wk.sto (i := 7) 9 true ty42 rfl rfl rfl rfl (Nat.le_of_ble_eq_true rfl) (lt_of_ble rfl)
      apply Wk.asg (by conv => lhs; whnf) (lt_of_ble rfl)
      refine Wk.nil (AW.ret ?_)
      exact RetQ.ret (txB x'.fl x'.qu x'.fl.length x'.qu.length) (.cons ⟨6, 0, _, _, _, rfl, rfl, ty27, rfl⟩ (.cons ⟨7, 0, _, _, _, rfl, rfl, ty42, rfl⟩ (.cons rfl .nil))) ⟨rfl, rfl⟩ (kept2 rfl rfl)
    · rfl
    · rfl
  · rfl
  · rfl
set_option maxHeartbeats 4000000 in
set_option maxRecDepth 100000 in
theorem ssendO (m0 w0 p0 u0 y0 : Int) (x x' : TX) (ack : Int) (k l : Nat) (k1 s c : Int) (p f : Bool) (y g l1 : Int) (z : D) (b : Bool) (hok : txOkB ⟨m0, w0, p0, u0, y0⟩ x = true) (hack : inB ack 0 7 = true) (hx : x.few) (hx' : x'.few)
    (ht : Spec Try.prog 68 [cfgA m0 w0 p0 u0 y0, txF x 5 x.fl.length, .d (.v (.int .i64 ack))] (flB x.fl x.fl.length) (fun r bs => r = .tup [txO x' 5 k 66 l, frmZ k1 s c p f y g l1 z, .d (.v (.bool b))] ∧ bs = txB x'.fl x'.qu k l)) :
    Spec Try.prog 25 [cfgA m0 w0 p0 u0 y0, txA x, .d (.v (.int .i64 ack))] [] (fun r bs => r = .tup [txO x' 5 x'.fl.length 66 x'.qu.length, frmZ k1 s c p f y g l1 z, .d (.v (.bool b))] ∧ bs = txB x'.fl x'.qu x'.fl.length x'.qu.length) := by
  have c1 := scopyF x hx
  have c2 := scopyO x' hx'
  refine Spec.intro (n := 36) (rv := [.cell 6 27, .cell 7 42, .tmp 8]) Try.func25 rfl rfl rfl (by simp) fun C hN hX => ?_
  refine AW.seq ?_
  apply AW.list
  apply Wk.bx 3 rfl rfl (lt_of_ble rfl)
  apply Wk.bx 4 rfl rfl (lt_of_ble rfl)
  apply Wk.alc 6 [.int .i64 0, .int .i64 0, .slice none 0 0, .int .i64 0, .slice none 0 0, .bool false, .int .i64 0, .bool false, .int .i64 0, .bool false] ze27 rfl rfl (lt_of_ble rfl)
  apply Wk.alc 7 [.int .i64 0, .int .i64 0, .int .i64 0, .bool false, .bool false, .int .i64 0, .int .i64 0, .int .i64 0, .slice none 0 0] ze42 rfl rfl (lt_of_ble rfl)
  apply Wk.asg (by conv => lhs; whnf) (lt_of_ble rfl)
  refine Wk.nil ?_
  refine AW.seq (AW.seq ?_)
  apply AW.list
  apply Wk.ld (i := 3) 5 true ty24 rfl rfl (by conv => lhs; whnf) (lt_of_ble rfl)
  apply Wk.ld (i := 4) 10 true ty27 rfl rfl (by conv => lhs; whnf) (lt_of_ble rfl)
  apply Wk.dat (stxb hok) Try.func18 rfl rfl rfl rfl rfl (lt_of_ble rfl)
  apply Wk.un rfl (fun w => by simp [go_sem] <;> rfl) (lt_of_ble rfl)
  apply Wk.mv (by conv => lhs; whnf) (lt_of_ble rfl)
  apply Wk.gon 16 rfl rfl
  apply Wk.mv (by conv => lhs; whnf) (lt_of_ble rfl)
  apply Wk.gon 16 rfl rfl
  apply Wk.dat (sinb hack) Try.func60 rfl rfl rfl rfl rfl (lt_of_ble rfl)
  apply Wk.gon 16 rfl rfl
  apply Wk.un rfl (fun w => by simp [go_sem] <;> rfl) (lt_of_ble rfl)
  apply Wk.pckF rfl (by conv => lhs; whnf) (lt_of_ble rfl)
  refine Wk.nil ?_
  refine AW.cond rfl (fun hc => by cases hc) (fun _ => AW.skip (thenA_normal ?_))
  refine AW.seq ?_
  apply AW.draw (hm := hmix) (cs := _)
  · apply Wk.ld (i := 3) 5 true ty24 rfl rfl (by conv => lhs; whnf) (lt_of_ble rfl)
    apply Wk.ld (i := 4) 10 true ty27 rfl rfl (by conv => lhs; whnf) (lt_of_ble rfl)
    apply Wk.cal [] [5] c1 (in_copyF x _) ⟨_, _, rfl, rfl⟩ Try.func55 rfl rfl rfl rfl (by simp; rfl) rfl (fun i hi => by cases hi) (lt_of_ble rfl)
    rintro r bs' ⟨rfl, rfl⟩
    apply Wk.mv (by conv => lhs; whnf) (lt_of_ble rfl)
    apply Wk.cal [5] [66] ht (in_send2 x' _ _ _ _ _ _ _ _ _ _ _ b) ⟨_, _, rfl, rfl⟩ Try.func68 rfl rfl rfl rfl (by simp; rfl) rfl (one_in (by exact within_parts x.fl)) (lt_of_ble rfl)
    rintro r bs' ⟨rfl, rfl⟩
    apply Wk.mv (by conv => lhs; whnf) (lt_of_ble rfl)
    apply Wk.ext rfl rfl (lt_of_ble rfl)
    apply Wk.ext rfl rfl (lt_of_ble rfl)
    apply Wk.ext rfl rfl (lt_of_ble rfl)
    apply Wk.alc 9 [.int .i64 0, .int .i64 0, .slice none 0 0, .int .i64 0, .slice none 0 0, .bool false, .int .i64 0, .bool false, .int .i64 0, .bool false] ze27 rfl rfl (lt_of_ble rfl)
    apply Wk.alc 10 [.int .i64 0, .int .i64 0, .int .i64 0, .bool false, .bool false, .int .i64 0, .int .i64 0, .int .i64 0, .slice none 0 0] ze42 rfl rfl (lt_of_ble rfl)
    apply Wk.sto (i := 9) 10 true ty27 rfl rfl rfl rfl (Nat.le_of_ble_eq_true rfl) (lt_of_ble rfl)
    apply Wk.sto (i := 10) 9 true ty42 rfl rfl rfl rfl (Nat.le_of_ble_eq_true rfl) (lt_of_ble rfl)
    apply Wk.asg (by conv => lhs; whnf) (lt_of_ble rfl)
    refine Wk.nil ?_
    refine AW.thawc (j := 9) (c := 2) (i := 5) _ rfl rfl rfl (asData_parts x'.fl) hX.none ?_
    refine AW.thawc (j := 9) (c := 4) (i := 66) _ rfl rfl rfl (asData_parts x'.qu) hX.none ?_
    refine AW.keep (n := 36) (ts := [(6, .ptr 6 0), (7, .ptr 7 0), (9, .ptr 9 0), (10, .ptr 10 0), (11, .d (.v (.bool b)))]) (bs := [(6, .var txN), (7, .var frmNC), (9, .var (txC x')), (10, .var (frmZC k1 s c p f y g l1 z))]) ⟨rfl, .cons rfl rfl (.cons rfl rfl (.cons rfl rfl (.cons rfl rfl (.cons rfl rfl .nil)))), .cons rfl rfl (.cons rfl rfl (.cons rfl rfl (.cons rfl rfl .nil))), hN.mono (by simp [keys])⟩ ?_
    refine AW.seq ?_
    apply AW.draw (hm := hmix) (cs := _)
    · apply Wk.ld (i := 9) 10 true ty27 rfl rfl (by conv => lhs; whnf) (lt_of_ble rfl)
      apply Wk.cal [] [5, 66] c2 (in_copy x' _ _) ⟨_, _, rfl, rfl⟩ Try.func55 rfl rfl rfl rfl (by simp; exact ⟨rfl, rfl⟩) rfl (fun i hi => by cases hi) (lt_of_ble rfl)
      rintro r bs' ⟨rfl, rfl⟩
      apply Wk.ld (i := 10) 9 true ty42 rfl rfl (by conv => lhs; whnf) (lt_of_ble rfl)
      apply Wk.mv (by conv => lhs; whnf) (lt_of_ble rfl)
      apply Wk.sto (i := 6) 10 true ty27 rfl rfl rfl rfl (Nat.le_of_ble_eq_true rfl) (lt_of_ble rfl)
      apply Wk.sto (i := 7) 9 true ty42 rfl rfl rfl rfl (Nat.le_of_ble_eq_true rfl) (lt_of_ble rfl)
      apply Wk.asg (by conv => lhs; whnf) (lt_of_ble rfl)
      refine Wk.nil (AW.ret ?_)
      exact RetQ.ret (txB x'.fl x'.qu x'.fl.length x'.qu.length) (.cons ⟨6, 0, _, _, _, rfl, rfl, ty27, rfl⟩ (.cons ⟨7, 0, _, _, _, rfl, rfl, ty42, rfl⟩ (.cons rfl .nil))) ⟨rfl, rfl⟩ (kept2 rfl rfl)
    · rfl
    · rfl
  · rfl
  · rfl
set_option maxHeartbeats 4000000 in
set_option maxRecDepth 100000 in
theorem ssendTNo (m0 w0 p0 u0 y0 : Int) (x : TX) (ack : Int) (hno : txOkB ⟨m0, w0, p0, u0, y0⟩ x = false ∨ inB ack 0 7 = false) :
    DataOk Try.prog 25 [cfgA m0 w0 p0 u0 y0, txA x, .d (.v (.int .i64 ack))] (.tup [txNil, frmNo, .d (.v (.bool false))]) := by
  cases hok : txOkB ⟨m0, w0, p0, u0, y0⟩ x
  · skip
    refine Spec.intro (n := 36) (rv := [.cell 6 27, .cell 7 42, .tmp 8]) Try.func25 rfl rfl rfl (by simp) fun C hN hX => ?_
    refine AW.seq ?_
    apply AW.list
    apply Wk.bx 3 rfl rfl (lt_of_ble rfl)
    apply Wk.bx 4 rfl rfl (lt_of_ble rfl)
    apply Wk.alc 6 [.int .i64 0, .int .i64 0, .slice none 0 0, .int .i64 0, .slice none 0 0, .bool false, .int .i64 0, .bool false, .int .i64 0, .bool false] ze27 rfl rfl (lt_of_ble rfl)
    apply Wk.alc 7 [.int .i64 0, .int .i64 0, .int .i64 0, .bool false, .bool false, .int .i64 0, .int .i64 0, .int .i64 0, .slice none 0 0] ze42 rfl rfl (lt_of_ble rfl)
    apply Wk.asg (by conv => lhs; whnf) (lt_of_ble rfl)
    refine Wk.nil ?_
    refine AW.seq (AW.seq ?_)
    apply AW.list
    apply Wk.ld (i := 3) 5 true ty24 rfl rfl (by conv => lhs; whnf) (lt_of_ble rfl)
    apply Wk.ld (i := 4) 10 true ty27 rfl rfl (by conv => lhs; whnf) (lt_of_ble rfl)
    apply Wk.dat (stxb hok) Try.func18 rfl rfl rfl rfl rfl (lt_of_ble rfl)
    apply Wk.un rfl (fun w => by simp [go_sem] <;> rfl) (lt_of_ble rfl)
    apply Wk.mv (by conv => lhs; whnf) (lt_of_ble rfl)
    apply Wk.goff 16 (ok_move _) rfl rfl (by decide)
    apply Wk.goff 16 (ok_datw ((sinb (n := 0) (lo := 0) (hi := 7) rfl).w rfl) Try.func60 rfl rfl) rfl rfl (by decide)
    apply Wk.goff 16 (ok_un _ _ _) rfl rfl (by decide)
    apply Wk.pckT rfl (by conv => lhs; whnf) (lt_of_ble rfl)
    refine Wk.nil ?_
    refine AW.cond rfl (fun _ => ?_) (fun hc => by cases hc)
    refine AW.seq ?_
    apply AW.list
    apply Wk.bld [.int .i64 0, .int .i64 0, .slice none 0 0, .int .i64 0, .slice none 0 0, .bool false, .int .i64 0, .bool false, .int .i64 0, .bool false] [(0, 1), (1, 1), (2, 1), (3, 1), (4, 1), (5, 1), (6, 1), (7, 1), (8, 1), (9, 1)] bl27 rfl (by conv => lhs; whnf) (lt_of_ble rfl)
    apply Wk.bld [.int .i64 0, .int .i64 0, .int .i64 0, .bool false, .bool false, .int .i64 0, .int .i64 0, .int .i64 0, .slice none 0 0] [(0, 1), (1, 1), (2, 1), (3, 1), (4, 1), (5, 1), (6, 1), (7, 1), (8, 1)] bl42 rfl (by conv => lhs; whnf) (lt_of_ble rfl)
    apply Wk.sto (i := 6) 10 true ty27 rfl rfl rfl rfl (Nat.le_of_ble_eq_true rfl) (lt_of_ble rfl)
    apply Wk.sto (i := 7) 9 true ty42 rfl rfl rfl rfl (Nat.le_of_ble_eq_true rfl) (lt_of_ble rfl)
    apply Wk.asg (by conv => lhs; whnf) (lt_of_ble rfl)
    refine Wk.nil (AW.ret ?_)
    repeat (first | refine thenA_ret ?_ | refine inBlockA_ret ?_)
    exact RetQ.ret [] (.cons ⟨6, 0, _, _, _, rfl, rfl, ty27, rfl⟩ (.cons ⟨7, 0, _, _, _, rfl, rfl, ty42, rfl⟩ (.cons rfl .nil))) ⟨rfl, rfl⟩ none_kept
  · have hack : inB ack 0 7 = false := by rcases hno with h | h <;> first | exact h | (rw [hok] at h; cases h)
    refine Spec.intro (n := 36) (rv := [.cell 6 27, .cell 7 42, .tmp 8]) Try.func25 rfl rfl rfl (by simp) fun C hN hX => ?_
    refine AW.seq ?_
    apply AW.list
    apply Wk.bx 3 rfl rfl (lt_of_ble rfl)
    apply Wk.bx 4 rfl rfl (lt_of_ble rfl)
    apply Wk.alc 6 [.int .i64 0, .int .i64 0, .slice none 0 0, .int .i64 0, .slice none 0 0, .bool false, .int .i64 0, .bool false, .int .i64 0, .bool false] ze27 rfl rfl (lt_of_ble rfl)
    apply Wk.alc 7 [.int .i64 0, .int .i64 0, .int .i64 0, .bool false, .bool false, .int .i64 0, .int .i64 0, .int .i64 0, .slice none 0 0] ze42 rfl rfl (lt_of_ble rfl)
    apply Wk.asg (by conv => lhs; whnf) (lt_of_ble rfl)
    refine Wk.nil ?_
    refine AW.seq (AW.seq ?_)
    apply AW.list
    apply Wk.ld (i := 3) 5 true ty24 rfl rfl (by conv => lhs; whnf) (lt_of_ble rfl)
    apply Wk.ld (i := 4) 10 true ty27 rfl rfl (by conv => lhs; whnf) (lt_of_ble rfl)
    apply Wk.dat (stxb hok) Try.func18 rfl rfl rfl rfl rfl (lt_of_ble rfl)
    apply Wk.un rfl (fun w => by simp [go_sem] <;> rfl) (lt_of_ble rfl)
    apply Wk.mv (by conv => lhs; whnf) (lt_of_ble rfl)
    apply Wk.gon 16 rfl rfl
    apply Wk.mv (by conv => lhs; whnf) (lt_of_ble rfl)
    apply Wk.gon 16 rfl rfl
    apply Wk.dat (sinb hack) Try.func60 rfl rfl rfl rfl rfl (lt_of_ble rfl)
    apply Wk.gon 16 rfl rfl
    apply Wk.un rfl (fun w => by simp [go_sem] <;> rfl) (lt_of_ble rfl)
    apply Wk.pckF rfl (by conv => lhs; whnf) (lt_of_ble rfl)
    refine Wk.nil ?_
    refine AW.cond rfl (fun _ => ?_) (fun hc => by cases hc)
    refine AW.seq ?_
    apply AW.list
    apply Wk.bld [.int .i64 0, .int .i64 0, .slice none 0 0, .int .i64 0, .slice none 0 0, .bool false, .int .i64 0, .bool false, .int .i64 0, .bool false] [(0, 1), (1, 1), (2, 1), (3, 1), (4, 1), (5, 1), (6, 1), (7, 1), (8, 1), (9, 1)] bl27 rfl (by conv => lhs; whnf) (lt_of_ble rfl)
    apply Wk.bld [.int .i64 0, .int .i64 0, .int .i64 0, .bool false, .bool false, .int .i64 0, .int .i64 0, .int .i64 0, .slice none 0 0] [(0, 1), (1, 1), (2, 1), (3, 1), (4, 1), (5, 1), (6, 1), (7, 1), (8, 1)] bl42 rfl (by conv => lhs; whnf) (lt_of_ble rfl)
    apply Wk.sto (i := 6) 10 true ty27 rfl rfl rfl rfl (Nat.le_of_ble_eq_true rfl) (lt_of_ble rfl)
    apply Wk.sto (i := 7) 9 true ty42 rfl rfl rfl rfl (Nat.le_of_ble_eq_true rfl) (lt_of_ble rfl)
    apply Wk.asg (by conv => lhs; whnf) (lt_of_ble rfl)
    refine Wk.nil (AW.ret ?_)
    repeat (first | refine thenA_ret ?_ | refine inBlockA_ret ?_)
    exact RetQ.ret [] (.cons ⟨6, 0, _, _, _, rfl, rfl, ty27, rfl⟩ (.cons ⟨7, 0, _, _, _, rfl, rfl, ty42, rfl⟩ (.cons rfl .nil))) ⟨rfl, rfl⟩ none_kept
end Go.Proofs.Ytdojkmjamilllaa

/- What comes of pieces that have come: l6Acked of the specification, over what values read as. -/
namespace Go.Proofs.Ytdojkmjamilllaa
open Go Go.RowKit
theorem slist_cut (ds : List Dat) (k : Nat) (hn : ds.length ≤ 1000) (hs : ∀ d ∈ ds, d.2.2.length ≤ 1000) : DataOk Try.prog 92 [.d (.row (((ds.map datD).drop k).take ((ds.map datD).length - k)))] (.d (partsD (ds.drop k))) := by
  have h := slist_ok (ds.drop k) (by rw [List.length_drop]; omega) (fun d hd => hs d (List.mem_of_mem_drop hd))
  have e : partsD (ds.drop k) = .row (((ds.map datD).drop k).take ((ds.map datD).length - k)) := by
    rw [partsD, List.map_drop, List.take_of_length_le (by rw [List.length_drop]; exact Nat.le_refl _)]
  rw [e] at h
  rw [e]
  exact h
set_option maxHeartbeats 4000000 in
set_option maxRecDepth 100000 in
theorem sackDead (n a : Int) (fl : List Dat) (s : Int) (qu : List Dat) (q : Bool) (t : Int) (h : Bool) (c : Int) (d : Bool) (ack : Int) (hd : (fl.length : Int) < farF a ack) :
    DataOk Try.prog 103 [txA ⟨n, a, fl, s, qu, q, t, h, c, d⟩, .d (.v (.int .i64 ack))] (txA ⟨n, a, fl, s, qu, q, t, h, c, true⟩) := by
  have e1 : (((fl.map datD).length : Nat) : Int) = (fl.length : Int) := by rw [List.length_map]
  refine Spec.intro (n := 37) (rv := [.cell 4 27]) Try.func103 rfl rfl rfl (by simp) fun C hN hX => ?_
  refine AW.seq ?_
  apply AW.list
  apply Wk.bx 2 rfl rfl (lt_of_ble rfl)
  apply Wk.alc 4 [.int .i64 0, .int .i64 0, .slice none 0 0, .int .i64 0, .slice none 0 0, .bool false, .int .i64 0, .bool false, .int .i64 0, .bool false] ze27 rfl rfl (lt_of_ble rfl)
  refine Wk.nil ?_
  refine AW.seq ?_
  apply AW.list
  apply Wk.fad 1 0 false fd27_1 rfl (lt_of_ble rfl)
  apply Wk.ld (i := 2) 1 false ty3 rfl rfl (by conv => lhs; whnf) (lt_of_ble rfl)
  apply Wk.mv (by conv => lhs; whnf) (lt_of_ble rfl)
  apply Wk.dat (sfar_ok a ack) Try.func61 rfl rfl rfl rfl rfl (lt_of_ble rfl)
  apply Wk.asg (by conv => lhs; whnf) (lt_of_ble rfl)
  refine Wk.nil ?_
  refine AW.seq (AW.seq ?_)
  apply AW.list
  apply Wk.mv (by conv => lhs; whnf) (lt_of_ble rfl)
  apply Wk.fad 2 0 false fd27_2 rfl (lt_of_ble rfl)
  apply Wk.ld (i := 2) 1 false ty25 rfl rfl (by conv => lhs; whnf) (lt_of_ble rfl)
  apply Wk.len un25 rfl (lt_of_ble rfl)
  apply Wk.bin rfl rfl (r := .bool true) (fun w => by rw [e1]; simp [go_sem] <;> omega) (lt_of_ble rfl)
  refine Wk.nil ?_
  refine AW.cond rfl (fun _ => ?_) (fun hc => by cases hc)
  refine AW.seq ?_
  apply AW.list
  apply Wk.fad 9 0 false fd27_9 rfl (lt_of_ble rfl)
  apply Wk.sto (i := 2) 1 false ty4 rfl rfl rfl rfl (Nat.le_of_ble_eq_true rfl) (lt_of_ble rfl)
  refine Wk.nil ?_
  refine AW.seq ?_
  apply AW.list
  apply Wk.ld (i := 2) 10 true ty27 rfl rfl (by conv => lhs; whnf) (lt_of_ble rfl)
  apply Wk.sto (i := 4) 10 true ty27 rfl rfl rfl rfl (Nat.le_of_ble_eq_true rfl) (lt_of_ble rfl)
  refine Wk.nil (AW.ret ?_)
  repeat (first | refine thenA_ret ?_ | refine inBlockA_ret ?_)
  exact RetQ.ret [] (.cons ⟨4, 0, _, _, _, rfl, rfl, ty27, rfl⟩ .nil) ⟨rfl, rfl⟩ none_kept
set_option maxHeartbeats 4000000 in
set_option maxRecDepth 100000 in
theorem sackOn (n a : Int) (fl : List Dat) (s : Int) (qu : List Dat) (q : Bool) (t : Int) (h : Bool) (c : Int) (d : Bool) (ack : Int) (k : Nat) (hk : farF a ack = (k : Int)) (hle : k ≤ fl.length) (hn : fl.length ≤ 1000) (hs : ∀ d ∈ fl, d.2.2.length ≤ 1000) (hb : 0 ≤ s ∧ s ≤ 1000000) (hc : 0 ≤ c ∧ c ≤ 1000000) :
    DataOk Try.prog 103 [txA ⟨n, a, fl, s, qu, q, t, h, c, d⟩, .d (.v (.int .i64 ack))] (txA ⟨n, ack, fl.drop k, max 0 (s - k), qu, q, t, h, c + k, d⟩) := by
  have e1 : (((fl.map datD).length : Nat) : Int) = (fl.length : Int) := by rw [List.length_map]
  have e2 : k ≤ (fl.map datD).length := by rw [List.length_map]; exact hle
  have cf := sfar_ok a ack
  have cl := slist_cut fl k hn hs
  have em : (if s - (k : Int) > 0 then s - (k : Int) else 0) = max 0 (s - k) := by split <;> omega
  rw [hk] at cf
  refine Spec.intro (n := 37) (rv := [.cell 4 27]) Try.func103 rfl rfl rfl (by simp) fun C hN hX => ?_
  refine AW.seq ?_
  apply AW.list
  apply Wk.bx 2 rfl rfl (lt_of_ble rfl)
  apply Wk.alc 4 [.int .i64 0, .int .i64 0, .slice none 0 0, .int .i64 0, .slice none 0 0, .bool false, .int .i64 0, .bool false, .int .i64 0, .bool false] ze27 rfl rfl (lt_of_ble rfl)
  refine Wk.nil ?_
  refine AW.seq ?_
  apply AW.list
  apply Wk.fad 1 0 false fd27_1 rfl (lt_of_ble rfl)
  apply Wk.ld (i := 2) 1 false ty3 rfl rfl (by conv => lhs; whnf) (lt_of_ble rfl)
  apply Wk.mv (by conv => lhs; whnf) (lt_of_ble rfl)
  apply Wk.dat cf Try.func61 rfl rfl rfl rfl rfl (lt_of_ble rfl)
  apply Wk.asg (by conv => lhs; whnf) (lt_of_ble rfl)
  refine Wk.nil ?_
  refine AW.seq (AW.seq ?_)
  apply AW.list
  apply Wk.mv (by conv => lhs; whnf) (lt_of_ble rfl)
  apply Wk.fad 2 0 false fd27_2 rfl (lt_of_ble rfl)
  apply Wk.ld (i := 2) 1 false ty25 rfl rfl (by conv => lhs; whnf) (lt_of_ble rfl)
  apply Wk.len un25 rfl (lt_of_ble rfl)
  apply Wk.bin rfl rfl (r := .bool false) (fun w => by rw [e1]; simp [go_sem] <;> omega) (lt_of_ble rfl)
  refine Wk.nil ?_
  refine AW.cond rfl (fun hc => by cases hc) (fun _ => AW.skip (thenA_normal ?_))
  refine AW.seq ?_
  apply AW.list
  apply Wk.fad 2 0 false fd27_2 rfl (lt_of_ble rfl)
  apply Wk.ld (i := 2) 1 false ty25 rfl rfl (by conv => lhs; whnf) (lt_of_ble rfl)
  apply Wk.mv (by conv => lhs; whnf) (lt_of_ble rfl)
  apply Wk.slc (m := (fl.map datD).length) (l := k) 3 true un25 ty47 rfl rfl (by exact if_pos ⟨by omega, by omega⟩) (datD_len _) (lt_of_ble rfl)
  apply Wk.dat cl Try.func92 rfl rfl rfl rfl rfl (lt_of_ble rfl)
  apply Wk.fad 2 0 false fd27_2 rfl (lt_of_ble rfl)
  apply Wk.sto (i := 2) 1 false ty25 rfl rfl rfl rfl (Nat.le_of_ble_eq_true rfl) (lt_of_ble rfl)
  refine Wk.nil ?_
  refine AW.seq ?_
  apply AW.list
  apply Wk.fad 3 0 false fd27_3 rfl (lt_of_ble rfl)
  apply Wk.ld (i := 2) 1 false ty3 rfl rfl (by conv => lhs; whnf) (lt_of_ble rfl)
  apply Wk.mv (by conv => lhs; whnf) (lt_of_ble rfl)
  apply Wk.subi rfl rfl (by dsimp only; omega) (lt_of_ble rfl)
  apply Wk.max2 rfl rfl em (lt_of_ble rfl)
  apply Wk.fad 3 0 false fd27_3 rfl (lt_of_ble rfl)
  apply Wk.sto (i := 2) 1 false ty3 rfl rfl rfl rfl (Nat.le_of_ble_eq_true rfl) (lt_of_ble rfl)
  refine Wk.nil ?_
  refine AW.seq ?_
  apply AW.list
  apply Wk.mv (by conv => lhs; whnf) (lt_of_ble rfl)
  apply Wk.fad 1 0 false fd27_1 rfl (lt_of_ble rfl)
  apply Wk.sto (i := 2) 1 false ty3 rfl rfl rfl rfl (Nat.le_of_ble_eq_true rfl) (lt_of_ble rfl)
  refine Wk.nil ?_
  refine AW.seq ?_
  apply AW.list
  apply Wk.fad 8 0 false fd27_8 rfl (lt_of_ble rfl)
  apply Wk.ld (i := 2) 1 false ty3 rfl rfl (by conv => lhs; whnf) (lt_of_ble rfl)
  apply Wk.mv (by conv => lhs; whnf) (lt_of_ble rfl)
  apply Wk.addi rfl rfl (by dsimp only; omega) (lt_of_ble rfl)
  apply Wk.fad 8 0 false fd27_8 rfl (lt_of_ble rfl)
  apply Wk.sto (i := 2) 1 false ty3 rfl rfl rfl rfl (Nat.le_of_ble_eq_true rfl) (lt_of_ble rfl)
  refine Wk.nil ?_
  refine AW.seq ?_
  apply AW.list
  apply Wk.ld (i := 2) 10 true ty27 rfl rfl (by conv => lhs; whnf) (lt_of_ble rfl)
  apply Wk.sto (i := 4) 10 true ty27 rfl rfl rfl rfl (Nat.le_of_ble_eq_true rfl) (lt_of_ble rfl)
  refine Wk.nil (AW.ret ?_)
  exact RetQ.ret [] (.cons ⟨4, 0, _, _, _, rfl, rfl, ty27, rfl⟩ .nil) ⟨rfl, rfl⟩ none_kept
end Go.Proofs.Ytdojkmjamilllaa

/- l6Hear and TxHear of the specification, over what values read as. Written by tools/mk_AbsTxHearS.py. -/
namespace Go.Proofs.Ytdojkmjamilllaa
open Go Go.RowKit
/-- Who sends behind: pieces have come; what is said. -/
def ackX (x : TX) (ack : Int) : TX := if (x.fl.length : Int) < farF x.a ack then { x with d := true } else { x with a := ack, fl := x.fl.drop (farF x.a ack).toNat, s := max 0 (x.s - farF x.a ack), c := x.c + farF x.a ack }
def said1 (k y : Int) (z : TX) : TX := if k = 2 then { z with h := decide (y = 2) } else z
def said2 (f : Bool) (z : TX) : TX := if f = true ∧ z.q = true then { z with q := false, t := 0, s := 0 } else z
def said3 (k y : Int) (z : TX) : TX := if k = 2 ∧ y = 1 ∧ z.q = false then { z with s := 0 } else z
def hearX (x : TX) (k ack : Int) (f : Bool) (y : Int) : TX :=
  if x.d = true then x else if (ackX x ack).d = true ∨ (k ≠ 2 ∧ f = false) then ackX x ack else said3 k y (said2 f (said1 k y (ackX x ack)))
theorem far_nonneg {a b : Int} (ha : inB a 0 7 = true) (hb : inB b 0 7 = true) : 0 ≤ farF a b ∧ farF a b < 8 := by
  have h1 := (inB_iff _ _ _).1 ha
  have h2 := (inB_iff _ _ _).1 hb
  rw [farF_in (by omega) (by omega)]
  omega
theorem sack_x (x : TX) (ack : Int) (ha : inB x.a 0 7 = true) (hk : inB ack 0 7 = true) (hn : x.few) (hb : 0 ≤ x.s ∧ x.s ≤ 1000000) (hc : 0 ≤ x.c ∧ x.c ≤ 1000000) :
    DataOk Try.prog 103 [txA x, .d (.v (.int .i64 ack))] (txA (ackX x ack)) := by
  obtain ⟨n, a, fl, s, qu, q, t, h, c, d⟩ := x
  have hf := far_nonneg ha hk
  simp only at ha hb hc hf
  by_cases hd : (fl.length : Int) < farF a ack
  · rw [ackX, if_pos hd]
    exact sackDead n a fl s qu q t h c d ack hd
  · rw [ackX, if_neg hd]
    have e : ((farF a ack).toNat : Int) = farF a ack := by omega
    have := sackOn n a fl s qu q t h c d ack (farF a ack).toNat e.symm (by omega) hn.1.1 hn.1.2 hb hc
    rw [e] at this
    exact this
set_option maxHeartbeats 4000000 in
set_option maxRecDepth 100000 in
theorem shear_x (x : TX) (k sq ack : Int) (p f : Bool) (y g l : Int) (zd : D) (ha : inB x.a 0 7 = true) (hk0 : inB ack 0 7 = true) (hn : x.few) (hb : 0 ≤ x.s ∧ x.s ≤ 1000000) (hc : 0 ≤ x.c ∧ x.c ≤ 1000000) :
    DataOk Try.prog 75 [txA x, frmZ k sq ack p f y g l zd] (txA (hearX x k ack f y)) := by
  have ca := sack_x x ack ha hk0 hn hb hc
  obtain ⟨x1, hx1⟩ : ∃ x1, x1 = ackX x ack := ⟨_, rfl⟩
  rw [← hx1] at ca
  have hD : x.d = true → hearX x k ack f y = x := fun h => by rw [hearX, if_pos h]
  have hR : x.d = false → (x1.d = true ∨ (k ≠ 2 ∧ f = false)) → hearX x k ack f y = x1 := fun h h1 => by rw [hearX, if_neg (by rw [h]; simp), ← hx1, if_pos h1]
  have hG : x.d = false → ¬ (x1.d = true ∨ (k ≠ 2 ∧ f = false)) → hearX x k ack f y = said3 k y (said2 f (said1 k y x1)) := fun h h1 => by rw [hearX, if_neg (by rw [h]; simp), ← hx1, if_neg h1]
  generalize hearX x k ack f y = out at hD hR hG
  obtain ⟨n, a, fl, s, qu, q, t, h, c, d⟩ := x
  simp only at hD hR hG
  refine Spec.intro (n := 56) (rv := [.cell 4 27]) Try.func75 rfl rfl rfl (by simp) fun C hN hX => ?_
  refine AW.seq ?_
  apply AW.list
  apply Wk.bx 2 rfl rfl (lt_of_ble rfl)
  apply Wk.bx 3 rfl rfl (lt_of_ble rfl)
  apply Wk.alc 4 [.int .i64 0, .int .i64 0, .slice none 0 0, .int .i64 0, .slice none 0 0, .bool false, .int .i64 0, .bool false, .int .i64 0, .bool false] ze27 rfl rfl (lt_of_ble rfl)
  refine Wk.nil ?_
  refine AW.seq (AW.seq ?_)
  apply AW.list
  apply Wk.fad 9 0 false fd27_9 rfl (lt_of_ble rfl)
  apply Wk.ld (i := 2) 1 false ty4 rfl rfl (by conv => lhs; whnf) (lt_of_ble rfl)
  refine Wk.nil ?_
  cases d
  · refine AW.cond rfl (fun hc => by cases hc) (fun _ => AW.skip (thenA_normal ?_))
    refine AW.seq ?_
    apply AW.list
    apply Wk.ld (i := 2) 10 true ty27 rfl rfl (by conv => lhs; whnf) (lt_of_ble rfl)
    apply Wk.fad 2 0 false fd42_2 rfl (lt_of_ble rfl)
    apply Wk.ld (i := 3) 1 false ty3 rfl rfl (by conv => lhs; whnf) (lt_of_ble rfl)
    apply Wk.dat ca Try.func103 rfl rfl rfl rfl rfl (lt_of_ble rfl)
    apply Wk.sto (i := 2) 10 true ty27 rfl rfl rfl rfl (Nat.le_of_ble_eq_true rfl) (lt_of_ble rfl)
    refine Wk.nil ?_
    replace hR := hR rfl
    replace hG := hG rfl
    clear hD ca hb hc ha hn
    obtain ⟨n1, a1, fl1, s1, qu1, q1, t1, h1, c1, d1⟩ := x1
    by_cases hret : d1 = true ∨ (k ≠ 2 ∧ f = false)
    · have e := hR hret
      subst e
      refine AW.seq (AW.seq ?_)
      cases d1
      · have hk : k ≠ 2 := by rcases hret with h | h <;> first | exact h.1 | cases h
        have hf : f = false := by rcases hret with h | h <;> first | exact h.2 | cases h
        subst hf
        apply AW.list
        apply Wk.fad 9 0 false fd27_9 rfl (lt_of_ble rfl)
        apply Wk.ld (i := 2) 1 false ty4 rfl rfl (by conv => lhs; whnf) (lt_of_ble rfl)
        apply Wk.mv (by conv => lhs; whnf) (lt_of_ble rfl)
        apply Wk.gon 14 rfl rfl
        apply Wk.fad 0 0 false fd42_0 rfl (lt_of_ble rfl)
        apply Wk.gon 14 rfl rfl
        apply Wk.ld (i := 3) 1 false ty3 rfl rfl (by conv => lhs; whnf) (lt_of_ble rfl)
        apply Wk.gon 14 rfl rfl
        apply Wk.bin rfl rfl (r := .bool true) (fun w => by simp [go_sem, hk]) (lt_of_ble rfl)
        apply Wk.gon 14 rfl rfl
        apply Wk.mv (by conv => lhs; whnf) (lt_of_ble rfl)
        apply Wk.gon 18 rfl rfl
        apply Wk.fad 4 0 false fd42_4 rfl (lt_of_ble rfl)
        apply Wk.gon 18 rfl rfl
        apply Wk.ld (i := 3) 1 false ty4 rfl rfl (by conv => lhs; whnf) (lt_of_ble rfl)
        apply Wk.gon 18 rfl rfl
        apply Wk.un rfl (fun w => by simp [go_sem] <;> rfl) (lt_of_ble rfl)
        apply Wk.gon 14 rfl rfl
        apply Wk.pckT rfl (by conv => lhs; whnf) (lt_of_ble rfl)
        apply Wk.pckF rfl (by conv => lhs; whnf) (lt_of_ble rfl)
        refine Wk.nil ?_
        refine AW.cond rfl (fun _ => ?_) (fun hc => by cases hc)
        refine AW.seq ?_
        apply AW.list
        apply Wk.ld (i := 2) 10 true ty27 rfl rfl (by conv => lhs; whnf) (lt_of_ble rfl)
        apply Wk.sto (i := 4) 10 true ty27 rfl rfl rfl rfl (Nat.le_of_ble_eq_true rfl) (lt_of_ble rfl)
        refine Wk.nil (AW.ret ?_)
        repeat (first | refine thenA_ret ?_ | refine inBlockA_ret ?_)
        exact RetQ.ret [] (.cons ⟨4, 0, _, _, _, rfl, rfl, ty27, rfl⟩ .nil) ⟨rfl, rfl⟩ none_kept
      · apply AW.list
        apply Wk.fad 9 0 false fd27_9 rfl (lt_of_ble rfl)
        apply Wk.ld (i := 2) 1 false ty4 rfl rfl (by conv => lhs; whnf) (lt_of_ble rfl)
        apply Wk.mv (by conv => lhs; whnf) (lt_of_ble rfl)
        apply Wk.goff 14 (ok_faddr fd42_0) rfl rfl (by simp)
        apply Wk.goff 14 (ok_load 3 ty3) rfl rfl (by simp)
        apply Wk.goff 14 (ok_bin _ _ _ _ _) rfl rfl (by simp)
        apply Wk.goff 14 (ok_move _) rfl rfl (by simp)
        apply Wk.goffu 18 (ok_faddr fd42_4) rfl rfl
        apply Wk.goffu 18 (ok_load 3 ty4) rfl rfl
        apply Wk.goffu 18 (ok_un _ _ _) rfl rfl
        apply Wk.goff 14 (ok_pick _ _ _) rfl rfl (by simp)
        apply Wk.pckT rfl (by conv => lhs; whnf) (lt_of_ble rfl)
        refine Wk.nil ?_
        refine AW.cond rfl (fun _ => ?_) (fun hc => by cases hc)
        refine AW.seq ?_
        apply AW.list
        apply Wk.ld (i := 2) 10 true ty27 rfl rfl (by conv => lhs; whnf) (lt_of_ble rfl)
        apply Wk.sto (i := 4) 10 true ty27 rfl rfl rfl rfl (Nat.le_of_ble_eq_true rfl) (lt_of_ble rfl)
        refine Wk.nil (AW.ret ?_)
        repeat (first | refine thenA_ret ?_ | refine inBlockA_ret ?_)
        exact RetQ.ret [] (.cons ⟨4, 0, _, _, _, rfl, rfl, ty27, rfl⟩ .nil) ⟨rfl, rfl⟩ none_kept
    · have e := hG hret
      subst e
      obtain rfl : d1 = false := by cases d1 <;> simp_all
      refine AW.via (fun z : TX => St.of 56 [(2, .ptr 2 0), (3, .ptr 3 0), (4, .ptr 4 0)] [(2, .var (txC z)), (3, .var (frmZC k sq ack p f y g l zd)), (4, .var txN)]) (fun z => z = ⟨n1, a1, fl1, s1, qu1, q1, t1, h1, c1, false⟩) ?_ ?_
      · refine AW.seq ?_
        by_cases hk : k = 2
        · subst hk
          apply AW.list
          apply Wk.fad 9 0 false fd27_9 rfl (lt_of_ble rfl)
          apply Wk.ld (i := 2) 1 false ty4 rfl rfl (by conv => lhs; whnf) (lt_of_ble rfl)
          apply Wk.mv (by conv => lhs; whnf) (lt_of_ble rfl)
          apply Wk.gon 14 rfl rfl
          apply Wk.fad 0 0 false fd42_0 rfl (lt_of_ble rfl)
          apply Wk.gon 14 rfl rfl
          apply Wk.ld (i := 3) 1 false ty3 rfl rfl (by conv => lhs; whnf) (lt_of_ble rfl)
          apply Wk.gon 14 rfl rfl
          apply Wk.bin rfl rfl (r := .bool false) (fun w => by simp [go_sem]) (lt_of_ble rfl)
          apply Wk.gon 14 rfl rfl
          apply Wk.mv (by conv => lhs; whnf) (lt_of_ble rfl)
          apply Wk.goff 18 (ok_faddr fd42_4) rfl rfl (by simp)
          apply Wk.goff 18 (ok_load 3 ty4) rfl rfl (by simp)
          apply Wk.goff 18 (ok_un _ _ _) rfl rfl (by simp)
          apply Wk.gon 14 rfl rfl
          apply Wk.pckF rfl (by conv => lhs; whnf) (lt_of_ble rfl)
          apply Wk.pckF rfl (by conv => lhs; whnf) (lt_of_ble rfl)
          refine Wk.nil ?_
          refine AW.cond rfl (fun hc => by cases hc) (fun _ => AW.skip (thenA_normal ?_))
          exact ⟨_, rfl, fun a w => Rel.keep ⟨rfl, .cons rfl rfl (.cons rfl rfl (.cons rfl rfl .nil)), .cons rfl rfl (.cons rfl rfl (.cons rfl rfl .nil)), hN.mono (by simp [keys])⟩⟩
        · obtain rfl : f = true := by cases f <;> simp_all
          apply AW.list
          apply Wk.fad 9 0 false fd27_9 rfl (lt_of_ble rfl)
          apply Wk.ld (i := 2) 1 false ty4 rfl rfl (by conv => lhs; whnf) (lt_of_ble rfl)
          apply Wk.mv (by conv => lhs; whnf) (lt_of_ble rfl)
          apply Wk.gon 14 rfl rfl
          apply Wk.fad 0 0 false fd42_0 rfl (lt_of_ble rfl)
          apply Wk.gon 14 rfl rfl
          apply Wk.ld (i := 3) 1 false ty3 rfl rfl (by conv => lhs; whnf) (lt_of_ble rfl)
          apply Wk.gon 14 rfl rfl
          apply Wk.bin rfl rfl (r := .bool true) (fun w => by simp [go_sem, hk]) (lt_of_ble rfl)
          apply Wk.gon 14 rfl rfl
          apply Wk.mv (by conv => lhs; whnf) (lt_of_ble rfl)
          apply Wk.gon 18 rfl rfl
          apply Wk.fad 4 0 false fd42_4 rfl (lt_of_ble rfl)
          apply Wk.gon 18 rfl rfl
          apply Wk.ld (i := 3) 1 false ty4 rfl rfl (by conv => lhs; whnf) (lt_of_ble rfl)
          apply Wk.gon 18 rfl rfl
          apply Wk.un rfl (fun w => by simp [go_sem] <;> rfl) (lt_of_ble rfl)
          apply Wk.gon 14 rfl rfl
          apply Wk.pckT rfl (by conv => lhs; whnf) (lt_of_ble rfl)
          apply Wk.pckF rfl (by conv => lhs; whnf) (lt_of_ble rfl)
          refine Wk.nil ?_
          refine AW.cond rfl (fun hc => by cases hc) (fun _ => AW.skip (thenA_normal ?_))
          exact ⟨_, rfl, fun a w => Rel.keep ⟨rfl, .cons rfl rfl (.cons rfl rfl (.cons rfl rfl .nil)), .cons rfl rfl (.cons rfl rfl (.cons rfl rfl .nil)), hN.mono (by simp [keys])⟩⟩
      rintro z hz
      rw [← hz]
      clear hz hret hR hG hx1
      refine AW.via (fun z : TX => St.of 56 [(2, .ptr 2 0), (3, .ptr 3 0), (4, .ptr 4 0)] [(2, .var (txC z)), (3, .var (frmZC k sq ack p f y g l zd)), (4, .var txN)]) (fun z' => z' = said1 k y z) ?_ ?_
      · refine AW.seq ?_
        by_cases hk : k = 2
        · subst hk
          apply AW.list
          apply Wk.fad 0 0 false fd42_0 rfl (lt_of_ble rfl)
          apply Wk.ld (i := 3) 1 false ty3 rfl rfl (by conv => lhs; whnf) (lt_of_ble rfl)
          apply Wk.bin rfl rfl (r := .bool true) (fun w => by simp [go_sem]) (lt_of_ble rfl)
          refine Wk.nil ?_
          refine AW.cond rfl (fun _ => ?_) (fun hc => by cases hc)
          apply AW.list
          apply Wk.fad 5 0 false fd42_5 rfl (lt_of_ble rfl)
          apply Wk.ld (i := 3) 1 false ty3 rfl rfl (by conv => lhs; whnf) (lt_of_ble rfl)
          apply Wk.bin rfl rfl (r := .bool (decide (y = 2))) (fun w => by simp [go_sem]; rfl) (lt_of_ble rfl)
          apply Wk.fad 7 0 false fd27_7 rfl (lt_of_ble rfl)
          apply Wk.sto (i := 2) 1 false ty4 rfl rfl rfl rfl (Nat.le_of_ble_eq_true rfl) (lt_of_ble rfl)
          refine Wk.nil ?_
          refine thenA_normal ?_
          exact ⟨_, (if_pos rfl).symm, fun a w => Rel.keep ⟨rfl, .cons rfl rfl (.cons rfl rfl (.cons rfl rfl .nil)), .cons rfl rfl (.cons rfl rfl (.cons rfl rfl .nil)), hN.mono (by simp [keys])⟩⟩
        · apply AW.list
          apply Wk.fad 0 0 false fd42_0 rfl (lt_of_ble rfl)
          apply Wk.ld (i := 3) 1 false ty3 rfl rfl (by conv => lhs; whnf) (lt_of_ble rfl)
          apply Wk.bin rfl rfl (r := .bool false) (fun w => by simp [go_sem, hk]) (lt_of_ble rfl)
          refine Wk.nil ?_
          refine AW.cond rfl (fun hc => by cases hc) (fun _ => AW.skip (thenA_normal ?_))
          exact ⟨_, (if_neg hk).symm, fun a w => Rel.keep ⟨rfl, .cons rfl rfl (.cons rfl rfl (.cons rfl rfl .nil)), .cons rfl rfl (.cons rfl rfl (.cons rfl rfl .nil)), hN.mono (by simp [keys])⟩⟩
      rintro z1 hz1
      rw [← hz1]
      clear hz1
      obtain ⟨n2, a2, fl2, s2, qu2, q2, t2, h2, c2, d2⟩ := z1
      refine AW.via (fun z : TX => St.of 56 [(2, .ptr 2 0), (3, .ptr 3 0), (4, .ptr 4 0)] [(2, .var (txC z)), (3, .var (frmZC k sq ack p f y g l zd)), (4, .var txN)]) (fun z' => z' = said2 f ⟨n2, a2, fl2, s2, qu2, q2, t2, h2, c2, d2⟩) ?_ ?_
      · refine AW.seq ?_
        cases f
        · apply AW.list
          apply Wk.fad 4 0 false fd42_4 rfl (lt_of_ble rfl)
          apply Wk.ld (i := 3) 1 false ty4 rfl rfl (by conv => lhs; whnf) (lt_of_ble rfl)
          apply Wk.mv (by conv => lhs; whnf) (lt_of_ble rfl)
          apply Wk.goff 34 (ok_faddr fd27_5) rfl rfl (by simp)
          apply Wk.goff 34 (ok_load 2 ty4) rfl rfl (by simp)
          apply Wk.pckF rfl (by conv => lhs; whnf) (lt_of_ble rfl)
          refine Wk.nil ?_
          refine AW.cond rfl (fun hc => by cases hc) (fun _ => AW.skip (thenA_normal ?_))
          exact ⟨_, (if_neg (by simp)).symm, fun a w => Rel.keep ⟨rfl, .cons rfl rfl (.cons rfl rfl (.cons rfl rfl .nil)), .cons rfl rfl (.cons rfl rfl (.cons rfl rfl .nil)), hN.mono (by simp [keys])⟩⟩
        · cases q2
          · apply AW.list
            apply Wk.fad 4 0 false fd42_4 rfl (lt_of_ble rfl)
            apply Wk.ld (i := 3) 1 false ty4 rfl rfl (by conv => lhs; whnf) (lt_of_ble rfl)
            apply Wk.mv (by conv => lhs; whnf) (lt_of_ble rfl)
            apply Wk.gon 34 rfl rfl
            apply Wk.fad 5 0 false fd27_5 rfl (lt_of_ble rfl)
            apply Wk.gon 34 rfl rfl
            apply Wk.ld (i := 2) 1 false ty4 rfl rfl (by conv => lhs; whnf) (lt_of_ble rfl)
            apply Wk.pckT rfl (by conv => lhs; whnf) (lt_of_ble rfl)
            refine Wk.nil ?_
            refine AW.cond rfl (fun hc => by cases hc) (fun _ => AW.skip (thenA_normal ?_))
            exact ⟨_, (if_neg (by simp)).symm, fun a w => Rel.keep ⟨rfl, .cons rfl rfl (.cons rfl rfl (.cons rfl rfl .nil)), .cons rfl rfl (.cons rfl rfl (.cons rfl rfl .nil)), hN.mono (by simp [keys])⟩⟩
          · apply AW.list
            apply Wk.fad 4 0 false fd42_4 rfl (lt_of_ble rfl)
            apply Wk.ld (i := 3) 1 false ty4 rfl rfl (by conv => lhs; whnf) (lt_of_ble rfl)
            apply Wk.mv (by conv => lhs; whnf) (lt_of_ble rfl)
            apply Wk.gon 34 rfl rfl
            apply Wk.fad 5 0 false fd27_5 rfl (lt_of_ble rfl)
            apply Wk.gon 34 rfl rfl
            apply Wk.ld (i := 2) 1 false ty4 rfl rfl (by conv => lhs; whnf) (lt_of_ble rfl)
            apply Wk.pckT rfl (by conv => lhs; whnf) (lt_of_ble rfl)
            refine Wk.nil ?_
            refine AW.cond rfl (fun _ => ?_) (fun hc => by cases hc)
            refine AW.seq ?_
            apply AW.list
            apply Wk.fad 5 0 false fd27_5 rfl (lt_of_ble rfl)
            apply Wk.sto (i := 2) 1 false ty4 rfl rfl rfl rfl (Nat.le_of_ble_eq_true rfl) (lt_of_ble rfl)
            refine Wk.nil ?_
            refine AW.seq ?_
            apply AW.list
            apply Wk.fad 6 0 false fd27_6 rfl (lt_of_ble rfl)
            apply Wk.sto (i := 2) 1 false ty3 rfl rfl rfl rfl (Nat.le_of_ble_eq_true rfl) (lt_of_ble rfl)
            refine Wk.nil ?_
            apply AW.list
            apply Wk.fad 3 0 false fd27_3 rfl (lt_of_ble rfl)
            apply Wk.sto (i := 2) 1 false ty3 rfl rfl rfl rfl (Nat.le_of_ble_eq_true rfl) (lt_of_ble rfl)
            refine Wk.nil ?_
            repeat (first | refine thenA_normal ?_ | refine inBlockA_normal ?_)
            exact ⟨_, (if_pos ⟨rfl, rfl⟩).symm, fun a w => Rel.keep ⟨rfl, .cons rfl rfl (.cons rfl rfl (.cons rfl rfl .nil)), .cons rfl rfl (.cons rfl rfl (.cons rfl rfl .nil)), hN.mono (by simp [keys])⟩⟩
      rintro z2 hz2
      rw [← hz2]
      clear hz2
      obtain ⟨n3, a3, fl3, s3, qu3, q3, t3, h3, c3, d3⟩ := z2
      refine AW.via (fun z : TX => St.of 56 [(2, .ptr 2 0), (3, .ptr 3 0), (4, .ptr 4 0)] [(2, .var (txC z)), (3, .var (frmZC k sq ack p f y g l zd)), (4, .var txN)]) (fun z' => z' = said3 k y ⟨n3, a3, fl3, s3, qu3, q3, t3, h3, c3, d3⟩) ?_ ?_
      · refine AW.seq ?_
        by_cases hk : k = 2
        · subst hk
          by_cases hy : y = 1
          · subst hy
            cases q3
            · apply AW.list
              apply Wk.fad 0 0 false fd42_0 rfl (lt_of_ble rfl)
              apply Wk.ld (i := 3) 1 false ty3 rfl rfl (by conv => lhs; whnf) (lt_of_ble rfl)
              apply Wk.bin rfl rfl (r := .bool true) (fun w => by simp [go_sem]) (lt_of_ble rfl)
              apply Wk.mv (by conv => lhs; whnf) (lt_of_ble rfl)
              apply Wk.gon 44 rfl rfl
              apply Wk.fad 5 0 false fd42_5 rfl (lt_of_ble rfl)
              apply Wk.gon 44 rfl rfl
              apply Wk.ld (i := 3) 1 false ty3 rfl rfl (by conv => lhs; whnf) (lt_of_ble rfl)
              apply Wk.gon 44 rfl rfl
              apply Wk.bin rfl rfl (r := .bool true) (fun w => by simp [go_sem]) (lt_of_ble rfl)
              apply Wk.pckT rfl (by conv => lhs; whnf) (lt_of_ble rfl)
              apply Wk.mv (by conv => lhs; whnf) (lt_of_ble rfl)
              apply Wk.gon 49 rfl rfl
              apply Wk.fad 5 0 false fd27_5 rfl (lt_of_ble rfl)
              apply Wk.gon 49 rfl rfl
              apply Wk.ld (i := 2) 1 false ty4 rfl rfl (by conv => lhs; whnf) (lt_of_ble rfl)
              apply Wk.gon 49 rfl rfl
              apply Wk.un rfl (fun w => by simp [go_sem] <;> rfl) (lt_of_ble rfl)
              apply Wk.pckT rfl (by conv => lhs; whnf) (lt_of_ble rfl)
              refine Wk.nil ?_
              refine AW.cond rfl (fun _ => ?_) (fun hc => by cases hc)
              apply AW.list
              apply Wk.fad 3 0 false fd27_3 rfl (lt_of_ble rfl)
              apply Wk.sto (i := 2) 1 false ty3 rfl rfl rfl rfl (Nat.le_of_ble_eq_true rfl) (lt_of_ble rfl)
              refine Wk.nil ?_
              refine thenA_normal ?_
              exact ⟨_, (if_pos ⟨rfl, rfl, rfl⟩).symm, fun a w => Rel.keep ⟨rfl, .cons rfl rfl (.cons rfl rfl (.cons rfl rfl .nil)), .cons rfl rfl (.cons rfl rfl (.cons rfl rfl .nil)), hN.mono (by simp [keys])⟩⟩
            · apply AW.list
              apply Wk.fad 0 0 false fd42_0 rfl (lt_of_ble rfl)
              apply Wk.ld (i := 3) 1 false ty3 rfl rfl (by conv => lhs; whnf) (lt_of_ble rfl)
              apply Wk.bin rfl rfl (r := .bool true) (fun w => by simp [go_sem]) (lt_of_ble rfl)
              apply Wk.mv (by conv => lhs; whnf) (lt_of_ble rfl)
              apply Wk.gon 44 rfl rfl
              apply Wk.fad 5 0 false fd42_5 rfl (lt_of_ble rfl)
              apply Wk.gon 44 rfl rfl
              apply Wk.ld (i := 3) 1 false ty3 rfl rfl (by conv => lhs; whnf) (lt_of_ble rfl)
              apply Wk.gon 44 rfl rfl
              apply Wk.bin rfl rfl (r := .bool true) (fun w => by simp [go_sem]) (lt_of_ble rfl)
              apply Wk.pckT rfl (by conv => lhs; whnf) (lt_of_ble rfl)
              apply Wk.mv (by conv => lhs; whnf) (lt_of_ble rfl)
              apply Wk.gon 49 rfl rfl
              apply Wk.fad 5 0 false fd27_5 rfl (lt_of_ble rfl)
              apply Wk.gon 49 rfl rfl
              apply Wk.ld (i := 2) 1 false ty4 rfl rfl (by conv => lhs; whnf) (lt_of_ble rfl)
              apply Wk.gon 49 rfl rfl
              apply Wk.un rfl (fun w => by simp [go_sem] <;> rfl) (lt_of_ble rfl)
              apply Wk.pckT rfl (by conv => lhs; whnf) (lt_of_ble rfl)
              refine Wk.nil ?_
              refine AW.cond rfl (fun hc => by cases hc) (fun _ => AW.skip (thenA_normal ?_))
              exact ⟨_, (if_neg (by simp)).symm, fun a w => Rel.keep ⟨rfl, .cons rfl rfl (.cons rfl rfl (.cons rfl rfl .nil)), .cons rfl rfl (.cons rfl rfl (.cons rfl rfl .nil)), hN.mono (by simp [keys])⟩⟩
          · apply AW.list
            apply Wk.fad 0 0 false fd42_0 rfl (lt_of_ble rfl)
            apply Wk.ld (i := 3) 1 false ty3 rfl rfl (by conv => lhs; whnf) (lt_of_ble rfl)
            apply Wk.bin rfl rfl (r := .bool true) (fun w => by simp [go_sem]) (lt_of_ble rfl)
            apply Wk.mv (by conv => lhs; whnf) (lt_of_ble rfl)
            apply Wk.gon 44 rfl rfl
            apply Wk.fad 5 0 false fd42_5 rfl (lt_of_ble rfl)
            apply Wk.gon 44 rfl rfl
            apply Wk.ld (i := 3) 1 false ty3 rfl rfl (by conv => lhs; whnf) (lt_of_ble rfl)
            apply Wk.gon 44 rfl rfl
            apply Wk.bin rfl rfl (r := .bool false) (fun w => by simp [go_sem, hy]) (lt_of_ble rfl)
            apply Wk.pckT rfl (by conv => lhs; whnf) (lt_of_ble rfl)
            apply Wk.mv (by conv => lhs; whnf) (lt_of_ble rfl)
            apply Wk.goff 49 (ok_faddr fd27_5) rfl rfl (by simp)
            apply Wk.goff 49 (ok_load 2 ty4) rfl rfl (by simp)
            apply Wk.goff 49 (ok_un _ _ _) rfl rfl (by simp)
            apply Wk.pckF rfl (by conv => lhs; whnf) (lt_of_ble rfl)
            refine Wk.nil ?_
            refine AW.cond rfl (fun hc => by cases hc) (fun _ => AW.skip (thenA_normal ?_))
            exact ⟨_, (if_neg (by simp [hy])).symm, fun a w => Rel.keep ⟨rfl, .cons rfl rfl (.cons rfl rfl (.cons rfl rfl .nil)), .cons rfl rfl (.cons rfl rfl (.cons rfl rfl .nil)), hN.mono (by simp [keys])⟩⟩
        · apply AW.list
          apply Wk.fad 0 0 false fd42_0 rfl (lt_of_ble rfl)
          apply Wk.ld (i := 3) 1 false ty3 rfl rfl (by conv => lhs; whnf) (lt_of_ble rfl)
          apply Wk.bin rfl rfl (r := .bool false) (fun w => by simp [go_sem, hk]) (lt_of_ble rfl)
          apply Wk.mv (by conv => lhs; whnf) (lt_of_ble rfl)
          apply Wk.goff 44 (ok_faddr fd42_5) rfl rfl (by simp)
          apply Wk.goff 44 (ok_load 3 ty3) rfl rfl (by simp)
          apply Wk.goff 44 (ok_bin _ _ _ _ _) rfl rfl (by simp)
          apply Wk.pckF rfl (by conv => lhs; whnf) (lt_of_ble rfl)
          apply Wk.mv (by conv => lhs; whnf) (lt_of_ble rfl)
          apply Wk.goff 49 (ok_faddr fd27_5) rfl rfl (by simp)
          apply Wk.goff 49 (ok_load 2 ty4) rfl rfl (by simp)
          apply Wk.goff 49 (ok_un _ _ _) rfl rfl (by simp)
          apply Wk.pckF rfl (by conv => lhs; whnf) (lt_of_ble rfl)
          refine Wk.nil ?_
          refine AW.cond rfl (fun hc => by cases hc) (fun _ => AW.skip (thenA_normal ?_))
          exact ⟨_, (if_neg (by simp [hk])).symm, fun a w => Rel.keep ⟨rfl, .cons rfl rfl (.cons rfl rfl (.cons rfl rfl .nil)), .cons rfl rfl (.cons rfl rfl (.cons rfl rfl .nil)), hN.mono (by simp [keys])⟩⟩
      rintro z3 hz3
      rw [← hz3]
      clear hz3
      refine AW.seq ?_
      apply AW.list
      apply Wk.ld (i := 2) 10 true ty27 rfl rfl (by conv => lhs; whnf) (lt_of_ble rfl)
      apply Wk.sto (i := 4) 10 true ty27 rfl rfl rfl rfl (Nat.le_of_ble_eq_true rfl) (lt_of_ble rfl)
      refine Wk.nil (AW.ret ?_)
      exact RetQ.ret [] (.cons ⟨4, 0, _, _, _, rfl, rfl, ty27, rfl⟩ .nil) ⟨rfl, rfl⟩ none_kept
  · have e := hD rfl
    subst e
    refine AW.cond rfl (fun _ => ?_) (fun hc => by cases hc)
    refine AW.seq ?_
    apply AW.list
    apply Wk.ld (i := 2) 10 true ty27 rfl rfl (by conv => lhs; whnf) (lt_of_ble rfl)
    apply Wk.sto (i := 4) 10 true ty27 rfl rfl rfl rfl (Nat.le_of_ble_eq_true rfl) (lt_of_ble rfl)
    refine Wk.nil (AW.ret ?_)
    repeat (first | refine thenA_ret ?_ | refine inBlockA_ret ?_)
    exact RetQ.ret [] (.cons ⟨4, 0, _, _, _, rfl, rfl, ty27, rfl⟩ .nil) ⟨rfl, rfl⟩ none_kept
end Go.Proofs.Ytdojkmjamilllaa

/- TxHear of the specification, over what values read as. Written by tools/mk_AbsTxHearT.py. -/
namespace Go.Proofs.Ytdojkmjamilllaa
open Go Go.RowKit
theorem sfrmZ (k s c : Int) (p f : Bool) (y g l : Int) (zs : List Nat) {b : Bool} (hb : frmB k s c p f y g l zs.length = b) : DataOk Try.prog 33 [frmZ k s c p f y g l (bytesD zs)] (.d (.v (.bool b))) := by
  subst hb
  refine DataOk.lift fun w F E H args hF hs hd => ?_
  obtain ⟨v, rfl, hv⟩ := arg1 hs hd
  obtain ⟨cs, rfl, hs, _, h⟩ := den_agg hv
  have hs' : cs.toList.length = 9 := by simpa [frmZC] using hs
  match hl' : cs.toList, hs' with
  | [x0, x1, x2, x3, x4, x5, x6, x7, x8], _ =>
    obtain rfl : cs = #[x0, x1, x2, x3, x4, x5, x6, x7, x8] := by rw [← Array.toArray_toList (xs := cs), hl']
    obtain rfl := den_v (h 0 _ rfl)
    obtain rfl := den_v (h 1 _ rfl)
    obtain rfl := den_v (h 2 _ rfl)
    obtain rfl := den_v (h 3 _ rfl)
    obtain rfl := den_v (h 4 _ rfl)
    obtain rfl := den_v (h 5 _ rfl)
    obtain rfl := den_v (h 6 _ rfl)
    obtain rfl := den_v (h 7 _ rfl)
    have h8 := h 8 _ rfl
    obtain ⟨g', n', cap, rfl, hn⟩ := den_row (den_d h8)
    simp only [List.length_map] at hn
    subst hn
    exact spec_frm _ _ _ _ _ _ _ _ _ _ _ w
set_option maxHeartbeats 4000000 in
set_option maxRecDepth 100000 in
theorem shearT (m0 w0 p0 u0 y0 : Int) (x x' : TX) (k sq ack : Int) (p f : Bool) (y g l : Int) (zs : List Nat) (hok : txOkB ⟨m0, w0, p0, u0, y0⟩ x = true) (hfr : DataOk Try.prog 33 [frmZ k sq ack p f y g l (bytesD zs)] (.d (.v (.bool true)))) (hk : k = 1 ∨ k = 2) (hx : x.few) (hx' : x'.few)
    (ht : DataOk Try.prog 75 [txA x, frmZ k sq ack p f y g l (bytesD zs)] (txA x')) :
    Spec Try.prog 32 [cfgA m0 w0 p0 u0 y0, txA x, frmZ k sq ack p f y g l (bytesD zs)] [] (fun r bs => r = txO x' 5 x'.fl.length 66 x'.qu.length ∧ bs = txB x'.fl x'.qu x'.fl.length x'.qu.length) := by
  simp only [frmZ, frmZC] at hfr ht ⊢
  have c1 := scopy_ok x hx
  have c2 := scopyO x' hx'
  rcases hk with rfl | rfl
  · skip
    refine Spec.intro (n := 32) (rv := [.cell 6 27]) Try.func32 rfl rfl rfl (by simp) fun C hN hX => ?_
    refine AW.seq ?_
    apply AW.list
    apply Wk.bx 3 rfl rfl (lt_of_ble rfl)
    apply Wk.bx 4 rfl rfl (lt_of_ble rfl)
    apply Wk.bx 50 rfl rfl (lt_of_ble rfl)
    apply Wk.alc 6 [.int .i64 0, .int .i64 0, .slice none 0 0, .int .i64 0, .slice none 0 0, .bool false, .int .i64 0, .bool false, .int .i64 0, .bool false] ze27 rfl rfl (lt_of_ble rfl)
    refine Wk.nil ?_
    refine AW.seq (AW.seq ?_)
    apply AW.list
    apply Wk.ld (i := 3) 5 true ty24 rfl rfl (by conv => lhs; whnf) (lt_of_ble rfl)
    apply Wk.ld (i := 4) 10 true ty27 rfl rfl (by conv => lhs; whnf) (lt_of_ble rfl)
    apply Wk.dat (stxb hok) Try.func18 rfl rfl rfl rfl rfl (lt_of_ble rfl)
    apply Wk.un rfl (fun w => by simp [go_sem] <;> rfl) (lt_of_ble rfl)
    apply Wk.mv (by conv => lhs; whnf) (lt_of_ble rfl)
    apply Wk.gon 11 rfl rfl
    apply Wk.ld (i := 50) 9 true ty42 rfl rfl (by conv => lhs; whnf) (lt_of_ble rfl)
    apply Wk.gon 11 rfl rfl
    apply Wk.dat hfr Try.func33 rfl rfl rfl rfl rfl (lt_of_ble rfl)
    apply Wk.gon 11 rfl rfl
    apply Wk.un rfl (fun w => by simp [go_sem] <;> rfl) (lt_of_ble rfl)
    apply Wk.pckF rfl (by conv => lhs; whnf) (lt_of_ble rfl)
    apply Wk.mv (by conv => lhs; whnf) (lt_of_ble rfl)
    apply Wk.gon 16 rfl rfl
    apply Wk.fad 0 0 false fd42_0 rfl (lt_of_ble rfl)
    apply Wk.gon 16 rfl rfl
    apply Wk.ld (i := 50) 1 false ty3 rfl rfl (by conv => lhs; whnf) (lt_of_ble rfl)
    apply Wk.gon 16 rfl rfl
    apply Wk.bin rfl rfl (r := .bool false) (fun w => by simp [go_sem]) (lt_of_ble rfl)
    apply Wk.gon 16 rfl rfl
    apply Wk.mv (by conv => lhs; whnf) (lt_of_ble rfl)
    apply Wk.goff 20 (ok_faddr fd42_0) rfl rfl (by simp)
    apply Wk.goff 20 (ok_load 50 ty3) rfl rfl (by simp)
    apply Wk.goff 20 (ok_bin _ _ _ _ _) rfl rfl (by simp)
    apply Wk.gon 16 rfl rfl
    apply Wk.pckF rfl (by conv => lhs; whnf) (lt_of_ble rfl)
    apply Wk.pckF rfl (by conv => lhs; whnf) (lt_of_ble rfl)
    refine Wk.nil ?_
    refine AW.cond rfl (fun hc => by cases hc) (fun _ => AW.skip (thenA_normal ?_))
    refine AW.seq ?_
    apply AW.draw (hm := hmix) (cs := _)
    · apply Wk.ld (i := 4) 10 true ty27 rfl rfl (by conv => lhs; whnf) (lt_of_ble rfl)
      apply Wk.dat c1 Try.func55 rfl rfl rfl rfl rfl (lt_of_ble rfl)
      apply Wk.ld (i := 50) 9 true ty42 rfl rfl (by conv => lhs; whnf) (lt_of_ble rfl)
      apply Wk.dat ht Try.func75 rfl rfl rfl rfl rfl (lt_of_ble rfl)
      apply Wk.cal [] [5, 66] c2 (in_copy x' _ _) ⟨_, _, rfl, rfl⟩ Try.func55 rfl rfl rfl rfl (by simp; exact ⟨rfl, rfl⟩) rfl (fun i hi => by cases hi) (lt_of_ble rfl)
      rintro r bs' ⟨rfl, rfl⟩
      apply Wk.sto (i := 6) 10 true ty27 rfl rfl rfl rfl (Nat.le_of_ble_eq_true rfl) (lt_of_ble rfl)
      refine Wk.nil (AW.ret ?_)
      exact RetQ.ret (txB x'.fl x'.qu x'.fl.length x'.qu.length) (.cons ⟨6, 0, _, _, _, rfl, rfl, ty27, rfl⟩ .nil) ⟨rfl, rfl⟩ (kept2 rfl rfl)
    · rfl
    · rfl
  · skip
    refine Spec.intro (n := 32) (rv := [.cell 6 27]) Try.func32 rfl rfl rfl (by simp) fun C hN hX => ?_
    refine AW.seq ?_
    apply AW.list
    apply Wk.bx 3 rfl rfl (lt_of_ble rfl)
    apply Wk.bx 4 rfl rfl (lt_of_ble rfl)
    apply Wk.bx 50 rfl rfl (lt_of_ble rfl)
    apply Wk.alc 6 [.int .i64 0, .int .i64 0, .slice none 0 0, .int .i64 0, .slice none 0 0, .bool false, .int .i64 0, .bool false, .int .i64 0, .bool false] ze27 rfl rfl (lt_of_ble rfl)
    refine Wk.nil ?_
    refine AW.seq (AW.seq ?_)
    apply AW.list
    apply Wk.ld (i := 3) 5 true ty24 rfl rfl (by conv => lhs; whnf) (lt_of_ble rfl)
    apply Wk.ld (i := 4) 10 true ty27 rfl rfl (by conv => lhs; whnf) (lt_of_ble rfl)
    apply Wk.dat (stxb hok) Try.func18 rfl rfl rfl rfl rfl (lt_of_ble rfl)
    apply Wk.un rfl (fun w => by simp [go_sem] <;> rfl) (lt_of_ble rfl)
    apply Wk.mv (by conv => lhs; whnf) (lt_of_ble rfl)
    apply Wk.gon 11 rfl rfl
    apply Wk.ld (i := 50) 9 true ty42 rfl rfl (by conv => lhs; whnf) (lt_of_ble rfl)
    apply Wk.gon 11 rfl rfl
    apply Wk.dat hfr Try.func33 rfl rfl rfl rfl rfl (lt_of_ble rfl)
    apply Wk.gon 11 rfl rfl
    apply Wk.un rfl (fun w => by simp [go_sem] <;> rfl) (lt_of_ble rfl)
    apply Wk.pckF rfl (by conv => lhs; whnf) (lt_of_ble rfl)
    apply Wk.mv (by conv => lhs; whnf) (lt_of_ble rfl)
    apply Wk.gon 16 rfl rfl
    apply Wk.fad 0 0 false fd42_0 rfl (lt_of_ble rfl)
    apply Wk.gon 16 rfl rfl
    apply Wk.ld (i := 50) 1 false ty3 rfl rfl (by conv => lhs; whnf) (lt_of_ble rfl)
    apply Wk.gon 16 rfl rfl
    apply Wk.bin rfl rfl (r := .bool true) (fun w => by simp [go_sem]) (lt_of_ble rfl)
    apply Wk.gon 16 rfl rfl
    apply Wk.mv (by conv => lhs; whnf) (lt_of_ble rfl)
    apply Wk.gon 20 rfl rfl
    apply Wk.fad 0 0 false fd42_0 rfl (lt_of_ble rfl)
    apply Wk.gon 20 rfl rfl
    apply Wk.ld (i := 50) 1 false ty3 rfl rfl (by conv => lhs; whnf) (lt_of_ble rfl)
    apply Wk.gon 20 rfl rfl
    apply Wk.bin rfl rfl (r := .bool false) (fun w => by simp [go_sem]) (lt_of_ble rfl)
    apply Wk.gon 16 rfl rfl
    apply Wk.pckT rfl (by conv => lhs; whnf) (lt_of_ble rfl)
    apply Wk.pckF rfl (by conv => lhs; whnf) (lt_of_ble rfl)
    refine Wk.nil ?_
    refine AW.cond rfl (fun hc => by cases hc) (fun _ => AW.skip (thenA_normal ?_))
    refine AW.seq ?_
    apply AW.draw (hm := hmix) (cs := _)
    · apply Wk.ld (i := 4) 10 true ty27 rfl rfl (by conv => lhs; whnf) (lt_of_ble rfl)
      apply Wk.dat c1 Try.func55 rfl rfl rfl rfl rfl (lt_of_ble rfl)
      apply Wk.ld (i := 50) 9 true ty42 rfl rfl (by conv => lhs; whnf) (lt_of_ble rfl)
      apply Wk.dat ht Try.func75 rfl rfl rfl rfl rfl (lt_of_ble rfl)
      apply Wk.cal [] [5, 66] c2 (in_copy x' _ _) ⟨_, _, rfl, rfl⟩ Try.func55 rfl rfl rfl rfl (by simp; exact ⟨rfl, rfl⟩) rfl (fun i hi => by cases hi) (lt_of_ble rfl)
      rintro r bs' ⟨rfl, rfl⟩
      apply Wk.sto (i := 6) 10 true ty27 rfl rfl rfl rfl (Nat.le_of_ble_eq_true rfl) (lt_of_ble rfl)
      refine Wk.nil (AW.ret ?_)
      exact RetQ.ret (txB x'.fl x'.qu x'.fl.length x'.qu.length) (.cons ⟨6, 0, _, _, _, rfl, rfl, ty27, rfl⟩ .nil) ⟨rfl, rfl⟩ (kept2 rfl rfl)
    · rfl
    · rfl
set_option maxHeartbeats 4000000 in
set_option maxRecDepth 100000 in
theorem shearTNo (m0 w0 p0 u0 y0 : Int) (x : TX) (k sq ack : Int) (p f : Bool) (y g l : Int) (zs : List Nat) (fb : Bool) (hfr : DataOk Try.prog 33 [frmZ k sq ack p f y g l (bytesD zs)] (.d (.v (.bool fb)))) (hno : txOkB ⟨m0, w0, p0, u0, y0⟩ x = false ∨ fb = false ∨ (k ≠ 1 ∧ k ≠ 2)) :
    DataOk Try.prog 32 [cfgA m0 w0 p0 u0 y0, txA x, frmZ k sq ack p f y g l (bytesD zs)] txNil := by
  simp only [frmZ, frmZC] at hfr ⊢
  cases hok : txOkB ⟨m0, w0, p0, u0, y0⟩ x
  · skip
    refine Spec.intro (n := 32) (rv := [.cell 6 27]) Try.func32 rfl rfl rfl (by simp) fun C hN hX => ?_
    refine AW.seq ?_
    apply AW.list
    apply Wk.bx 3 rfl rfl (lt_of_ble rfl)
    apply Wk.bx 4 rfl rfl (lt_of_ble rfl)
    apply Wk.bx 50 rfl rfl (lt_of_ble rfl)
    apply Wk.alc 6 [.int .i64 0, .int .i64 0, .slice none 0 0, .int .i64 0, .slice none 0 0, .bool false, .int .i64 0, .bool false, .int .i64 0, .bool false] ze27 rfl rfl (lt_of_ble rfl)
    refine Wk.nil ?_
    refine AW.seq (AW.seq ?_)
    apply AW.list
    apply Wk.ld (i := 3) 5 true ty24 rfl rfl (by conv => lhs; whnf) (lt_of_ble rfl)
    apply Wk.ld (i := 4) 10 true ty27 rfl rfl (by conv => lhs; whnf) (lt_of_ble rfl)
    apply Wk.dat (stxb hok) Try.func18 rfl rfl rfl rfl rfl (lt_of_ble rfl)
    apply Wk.un rfl (fun w => by simp [go_sem] <;> rfl) (lt_of_ble rfl)
    apply Wk.mv (by conv => lhs; whnf) (lt_of_ble rfl)
    apply Wk.goff 11 (ok_load 50 ty42) rfl rfl (by simp)
    apply Wk.goff 11 (ok_datw (hfr.w rfl) Try.func33 rfl rfl) rfl rfl (by simp)
    apply Wk.goff 11 (ok_un _ _ _) rfl rfl (by simp)
    apply Wk.pckT rfl (by conv => lhs; whnf) (lt_of_ble rfl)
    apply Wk.mv (by conv => lhs; whnf) (lt_of_ble rfl)
    apply Wk.goff 16 (ok_faddr fd42_0) rfl rfl (by simp)
    apply Wk.goff 16 (ok_load 50 ty3) rfl rfl (by simp)
    apply Wk.goff 16 (ok_bin _ _ _ _ _) rfl rfl (by simp)
    apply Wk.goff 16 (ok_move _) rfl rfl (by simp)
    apply Wk.goffu 20 (ok_faddr fd42_0) rfl rfl
    apply Wk.goffu 20 (ok_load 50 ty3) rfl rfl
    apply Wk.goffu 20 (ok_bin _ _ _ _ _) rfl rfl
    apply Wk.goff 16 (ok_pick _ _ _) rfl rfl (by simp)
    apply Wk.pckT rfl (by conv => lhs; whnf) (lt_of_ble rfl)
    refine Wk.nil ?_
    refine AW.cond rfl (fun _ => ?_) (fun hc => by cases hc)
    refine AW.seq ?_
    apply AW.list
    apply Wk.bld [.int .i64 0, .int .i64 0, .slice none 0 0, .int .i64 0, .slice none 0 0, .bool false, .int .i64 0, .bool false, .int .i64 0, .bool false] [(0, 1), (1, 1), (2, 1), (3, 1), (4, 1), (5, 1), (6, 1), (7, 1), (8, 1), (9, 1)] bl27 rfl (by conv => lhs; whnf) (lt_of_ble rfl)
    apply Wk.sto (i := 6) 10 true ty27 rfl rfl rfl rfl (Nat.le_of_ble_eq_true rfl) (lt_of_ble rfl)
    refine Wk.nil (AW.ret ?_)
    repeat (first | refine thenA_ret ?_ | refine inBlockA_ret ?_)
    exact RetQ.ret [] (.cons ⟨6, 0, _, _, _, rfl, rfl, ty27, rfl⟩ .nil) ⟨rfl, rfl⟩ none_kept
  · cases fb
    · skip
      refine Spec.intro (n := 32) (rv := [.cell 6 27]) Try.func32 rfl rfl rfl (by simp) fun C hN hX => ?_
      refine AW.seq ?_
      apply AW.list
      apply Wk.bx 3 rfl rfl (lt_of_ble rfl)
      apply Wk.bx 4 rfl rfl (lt_of_ble rfl)
      apply Wk.bx 50 rfl rfl (lt_of_ble rfl)
      apply Wk.alc 6 [.int .i64 0, .int .i64 0, .slice none 0 0, .int .i64 0, .slice none 0 0, .bool false, .int .i64 0, .bool false, .int .i64 0, .bool false] ze27 rfl rfl (lt_of_ble rfl)
      refine Wk.nil ?_
      refine AW.seq (AW.seq ?_)
      apply AW.list
      apply Wk.ld (i := 3) 5 true ty24 rfl rfl (by conv => lhs; whnf) (lt_of_ble rfl)
      apply Wk.ld (i := 4) 10 true ty27 rfl rfl (by conv => lhs; whnf) (lt_of_ble rfl)
      apply Wk.dat (stxb hok) Try.func18 rfl rfl rfl rfl rfl (lt_of_ble rfl)
      apply Wk.un rfl (fun w => by simp [go_sem] <;> rfl) (lt_of_ble rfl)
      apply Wk.mv (by conv => lhs; whnf) (lt_of_ble rfl)
      apply Wk.gon 11 rfl rfl
      apply Wk.ld (i := 50) 9 true ty42 rfl rfl (by conv => lhs; whnf) (lt_of_ble rfl)
      apply Wk.gon 11 rfl rfl
      apply Wk.dat hfr Try.func33 rfl rfl rfl rfl rfl (lt_of_ble rfl)
      apply Wk.gon 11 rfl rfl
      apply Wk.un rfl (fun w => by simp [go_sem] <;> rfl) (lt_of_ble rfl)
      apply Wk.pckF rfl (by conv => lhs; whnf) (lt_of_ble rfl)
      apply Wk.mv (by conv => lhs; whnf) (lt_of_ble rfl)
      apply Wk.goff 16 (ok_faddr fd42_0) rfl rfl (by simp)
      apply Wk.goff 16 (ok_load 50 ty3) rfl rfl (by simp)
      apply Wk.goff 16 (ok_bin _ _ _ _ _) rfl rfl (by simp)
      apply Wk.goff 16 (ok_move _) rfl rfl (by simp)
      apply Wk.goffu 20 (ok_faddr fd42_0) rfl rfl
      apply Wk.goffu 20 (ok_load 50 ty3) rfl rfl
      apply Wk.goffu 20 (ok_bin _ _ _ _ _) rfl rfl
      apply Wk.goff 16 (ok_pick _ _ _) rfl rfl (by simp)
      apply Wk.pckT rfl (by conv => lhs; whnf) (lt_of_ble rfl)
      refine Wk.nil ?_
      refine AW.cond rfl (fun _ => ?_) (fun hc => by cases hc)
      refine AW.seq ?_
      apply AW.list
      apply Wk.bld [.int .i64 0, .int .i64 0, .slice none 0 0, .int .i64 0, .slice none 0 0, .bool false, .int .i64 0, .bool false, .int .i64 0, .bool false] [(0, 1), (1, 1), (2, 1), (3, 1), (4, 1), (5, 1), (6, 1), (7, 1), (8, 1), (9, 1)] bl27 rfl (by conv => lhs; whnf) (lt_of_ble rfl)
      apply Wk.sto (i := 6) 10 true ty27 rfl rfl rfl rfl (Nat.le_of_ble_eq_true rfl) (lt_of_ble rfl)
      refine Wk.nil (AW.ret ?_)
      repeat (first | refine thenA_ret ?_ | refine inBlockA_ret ?_)
      exact RetQ.ret [] (.cons ⟨6, 0, _, _, _, rfl, rfl, ty27, rfl⟩ .nil) ⟨rfl, rfl⟩ none_kept
    · have hk : k ≠ 1 ∧ k ≠ 2 := by rcases hno with h | h | h <;> first | exact h | (rw [hok] at h; cases h) | cases h
      obtain ⟨k1, k2⟩ := hk
      refine Spec.intro (n := 32) (rv := [.cell 6 27]) Try.func32 rfl rfl rfl (by simp) fun C hN hX => ?_
      refine AW.seq ?_
      apply AW.list
      apply Wk.bx 3 rfl rfl (lt_of_ble rfl)
      apply Wk.bx 4 rfl rfl (lt_of_ble rfl)
      apply Wk.bx 50 rfl rfl (lt_of_ble rfl)
      apply Wk.alc 6 [.int .i64 0, .int .i64 0, .slice none 0 0, .int .i64 0, .slice none 0 0, .bool false, .int .i64 0, .bool false, .int .i64 0, .bool false] ze27 rfl rfl (lt_of_ble rfl)
      refine Wk.nil ?_
      refine AW.seq (AW.seq ?_)
      apply AW.list
      apply Wk.ld (i := 3) 5 true ty24 rfl rfl (by conv => lhs; whnf) (lt_of_ble rfl)
      apply Wk.ld (i := 4) 10 true ty27 rfl rfl (by conv => lhs; whnf) (lt_of_ble rfl)
      apply Wk.dat (stxb hok) Try.func18 rfl rfl rfl rfl rfl (lt_of_ble rfl)
      apply Wk.un rfl (fun w => by simp [go_sem] <;> rfl) (lt_of_ble rfl)
      apply Wk.mv (by conv => lhs; whnf) (lt_of_ble rfl)
      apply Wk.gon 11 rfl rfl
      apply Wk.ld (i := 50) 9 true ty42 rfl rfl (by conv => lhs; whnf) (lt_of_ble rfl)
      apply Wk.gon 11 rfl rfl
      apply Wk.dat hfr Try.func33 rfl rfl rfl rfl rfl (lt_of_ble rfl)
      apply Wk.gon 11 rfl rfl
      apply Wk.un rfl (fun w => by simp [go_sem] <;> rfl) (lt_of_ble rfl)
      apply Wk.pckF rfl (by conv => lhs; whnf) (lt_of_ble rfl)
      apply Wk.mv (by conv => lhs; whnf) (lt_of_ble rfl)
      apply Wk.gon 16 rfl rfl
      apply Wk.fad 0 0 false fd42_0 rfl (lt_of_ble rfl)
      apply Wk.gon 16 rfl rfl
      apply Wk.ld (i := 50) 1 false ty3 rfl rfl (by conv => lhs; whnf) (lt_of_ble rfl)
      apply Wk.gon 16 rfl rfl
      apply Wk.bin rfl rfl (r := .bool true) (fun w => by simp [go_sem, k1]) (lt_of_ble rfl)
      apply Wk.gon 16 rfl rfl
      apply Wk.mv (by conv => lhs; whnf) (lt_of_ble rfl)
      apply Wk.gon 20 rfl rfl
      apply Wk.fad 0 0 false fd42_0 rfl (lt_of_ble rfl)
      apply Wk.gon 20 rfl rfl
      apply Wk.ld (i := 50) 1 false ty3 rfl rfl (by conv => lhs; whnf) (lt_of_ble rfl)
      apply Wk.gon 20 rfl rfl
      apply Wk.bin rfl rfl (r := .bool true) (fun w => by simp [go_sem, k2]) (lt_of_ble rfl)
      apply Wk.gon 16 rfl rfl
      apply Wk.pckT rfl (by conv => lhs; whnf) (lt_of_ble rfl)
      apply Wk.pckF rfl (by conv => lhs; whnf) (lt_of_ble rfl)
      refine Wk.nil ?_
      refine AW.cond rfl (fun _ => ?_) (fun hc => by cases hc)
      refine AW.seq ?_
      apply AW.list
      apply Wk.bld [.int .i64 0, .int .i64 0, .slice none 0 0, .int .i64 0, .slice none 0 0, .bool false, .int .i64 0, .bool false, .int .i64 0, .bool false] [(0, 1), (1, 1), (2, 1), (3, 1), (4, 1), (5, 1), (6, 1), (7, 1), (8, 1), (9, 1)] bl27 rfl (by conv => lhs; whnf) (lt_of_ble rfl)
      apply Wk.sto (i := 6) 10 true ty27 rfl rfl rfl rfl (Nat.le_of_ble_eq_true rfl) (lt_of_ble rfl)
      refine Wk.nil (AW.ret ?_)
      repeat (first | refine thenA_ret ?_ | refine inBlockA_ret ?_)
      exact RetQ.ret [] (.cons ⟨6, 0, _, _, _, rfl, rfl, ty27, rfl⟩ .nil) ⟨rfl, rfl⟩ none_kept
end Go.Proofs.Ytdojkmjamilllaa

/- What is told of who sends that is ok. -/
namespace Go.Proofs.Ytdojkmjamilllaa
open Go Go.RowKit
theorem partM_len {p : Int} {d : Dat} (h : partM p d = true) : d.2.2.length ≤ 8 := by
  simp only [partM, pieceB, Bool.and_eq_true, decide_eq_true_eq] at h
  exact h.1.1
theorem txOk_facts {o : Opt} {x : TX} (h : txOkB o x = true) : (1 ≤ o.mode ∧ o.mode ≤ 2) ∧ (1 ≤ o.win ∧ o.win ≤ 4) ∧ (1 ≤ o.mps ∧ o.mps ≤ 8) ∧ (1 ≤ o.mtu ∧ o.mtu ≤ 24) ∧ (1 ≤ o.tri ∧ o.tri ≤ 5) ∧ inB x.n 0 7 = true ∧ inB x.a 0 7 = true ∧ (x.fl.length : Int) ≤ o.win ∧ farF x.a x.n = (x.fl.length : Int) ∧ (0 ≤ x.s ∧ x.s ≤ (x.fl.length : Int)) ∧ x.qu.length ≤ 24 ∧ (0 ≤ x.t ∧ x.t ≤ o.tri) ∧ (0 ≤ x.c ∧ x.c ≤ 9999) ∧ x.c % 8 = x.a ∧ (∀ d ∈ x.fl, partM o.mps d = true) ∧ (∀ d ∈ x.qu, partM o.mps d = true) := by
  simp only [txOkB, Opt.ok, Bool.and_eq_true, decide_eq_true_eq, List.all_eq_true] at h
  obtain ⟨⟨⟨⟨⟨h1, h2⟩, h3⟩, h4⟩, h5⟩, h6, h7, h8, h9, h10, h11, h12, h13, h14, h15, h16⟩ := h
  exact ⟨(inB_iff _ _ _).1 h1, (inB_iff _ _ _).1 h2, (inB_iff _ _ _).1 h3, (inB_iff _ _ _).1 h4, (inB_iff _ _ _).1 h5, h6, h7, h8, h9, (inB_iff _ _ _).1 h10, h11, (inB_iff _ _ _).1 h12, (inB_iff _ _ _).1 h13, h14, h15, h16⟩
end Go.Proofs.Ytdojkmjamilllaa

/- A call by a contract for all that may be handed to it (FunX, Wk.fnx); what who sends may be behind each step, weakly: for draws. -/
namespace Go.Proofs.Ytdojkmjamilllaa
open Go Go.RowKit
def FunX (P : Program) (f : FuncId) (pre : List A → Prop) (post : List A → A → List (Nat × Bx) → Prop) (M : List Nat) : Prop :=
  (∀ aas, pre aas → Spec P f aas [] (post aas)) ∧ (∀ aas, pre aas → ∃ r bs, post aas r bs) ∧ ∀ aas r bs, post aas r bs → r.within M = true ∧ ∀ i x, bs.lookup i = some x → i ∈ M ∧ x.within M = true
def conFnX (pre : List A → Prop) (post : List A → A → List (Nat × Bx) → Prop) : Con := ⟨fun aas bs => bs = [] ∧ pre aas, fun aas _ r bs' => post aas r bs'⟩
theorem conFnX_ok {P : Program} {f : FuncId} {pre : List A → Prop} {post : List A → A → List (Nat × Bx) → Prop} {M : List Nat} (h : FunX P f pre post M) : (conFnX pre post).ok P f ([] ++ M) := by
  rintro aas bs ⟨rfl, hp⟩
  exact ⟨h.1 aas hp, fun r bs' hr => by simpa using h.2.2 aas r bs' hr⟩
theorem Wk.fnx {P : Program} {C : Ctx} {ops : Array Oper} {os : List Oper} {cs : List Cert} {σ : St} {K : St → Prop} {d : Nat} {ty : TypeId} {pos : String} {af : Array Edge} {f : FuncId} {fn : Func} {at_ : Array TypeId} {xs : List Operand} {pre : List A → Prop} {post : List A → A → List (Nat × Bx) → Prop} (M : List Nat) (h : FunX P f pre post M) (hf : P.funcs[f]? = some fn) (hbody : fn.body.isSome = true) (hname : (fn.name == "runtime.NumGoroutine") = false)
    {aas : List A} (hargs : argsA σ xs = aas) (hpre : pre aas) (hw : A.withins [] aas = true) (hM : ∀ i ∈ M, σ.b i = .fresh) (hd : d < σ.n)
    (hk : ∀ r ex, post aas r ex → Wk P C ops os cs (σ.puts (T d :: M.map B) (.a r :: M.map fun i => .b ((ex.lookup i).getD .none))) K) :
    Wk P C ops (⟨some d, .call { callee := .value (.func f), args := xs.toArray, argTypes := at_ }, ty, pos, af, none⟩ :: os) (⟨xs.flatMap kof ++ ([] ++ M).map B, T d :: ([] ++ M).map B, behCall (conFnX pre post) xs [] M d⟩ :: cs) σ K := by
  refine Wk.cons (ok_call [] M hf hbody hname (conFnX_ok h)) ?_ ?_
  · obtain ⟨r, bs, hr⟩ := h.2.1 aas hpre
    exact ⟨hd, hM, by rw [hargs]; exact hw, (fun i hi => (List.not_mem_nil hi).elim), ⟨rfl, by rw [hargs]; exact hpre⟩, r, bs, by rw [hargs]; exact hr⟩
  · rintro us ⟨r, bs', hpost, rfl⟩
    rw [hargs] at hpost
    exact hk r bs' hpost
theorem Spec.imp {P : Program} {f : FuncId} {aas : List A} {bs : List (Nat × Bx)} {post post' : A → List (Nat × Bx) → Prop} (h : Spec P f aas bs post) (hi : ∀ r bs', post r bs' → post' r bs') : Spec P f aas bs post' := by
  intro w F E H args hpo hs hd
  refine (h w F E H args hpo hs hd).mono ?_
  rintro e w' ⟨v, r, bs', F', E', H', h1, h2, h3, h4⟩
  exact ⟨v, r, bs', F', E', H', h1, hi _ _ h2, h3, h4⟩
/-- Who sends, within bounds. -/
def TX.good (cm : Int) (x : TX) : Prop := (0 ≤ x.n ∧ x.n ≤ 7) ∧ (0 ≤ x.a ∧ x.a ≤ 7) ∧ (x.fl.length ≤ 10 ∧ ∀ d ∈ x.fl, (Byt d.2.2 ∧ d.2.2.length ≤ 24)) ∧ (0 ≤ x.s ∧ x.s ≤ 10) ∧ (x.qu.length ≤ 24 ∧ ∀ d ∈ x.qu, (Byt d.2.2 ∧ d.2.2.length ≤ 24)) ∧ (0 ≤ x.t ∧ x.t ≤ 10) ∧ (0 ≤ x.c ∧ x.c ≤ cm)
theorem TX.good.mono {cm cm2 : Int} {x : TX} (h : x.good cm) (hm : cm ≤ cm2) : x.good cm2 := ⟨h.1, h.2.1, h.2.2.1, h.2.2.2.1, h.2.2.2.2.1, h.2.2.2.2.2.1, by have := h.2.2.2.2.2.2; omega⟩
theorem TX.good.few {cm : Int} {x : TX} (h : x.good cm) : x.few := ⟨⟨by have := h.2.2.1.1; omega, fun d hd => by have := h.2.2.1.2 d hd; omega⟩, ⟨by have := h.2.2.2.2.1.1; omega, fun d hd => by have := h.2.2.2.2.1.2 d hd; omega⟩⟩
/-- What comes: who sends, with lists of the call's own, or nothing. -/
def TxR (cm : Int) (r : A) (bs : List (Nat × Bx)) : Prop := (∃ x : TX, x.good cm ∧ r = txO x 5 x.fl.length 66 x.qu.length ∧ bs = txB x.fl x.qu x.fl.length x.qu.length) ∨ (r = txNil ∧ bs = [])
theorem TxR.in_ {cm : Int} {r : A} {bs : List (Nat × Bx)} (h : TxR cm r bs) : r.within [5, 66] = true ∧ ∀ i x, bs.lookup i = some x → i ∈ [5, 66] ∧ x.within [5, 66] = true := by
  rcases h with ⟨x, _, rfl, rfl⟩ | ⟨rfl, rfl⟩
  · exact ⟨in_txO _ _ _, fun i z h => in_txB h⟩
  · exact ⟨rfl, fun i z h => by cases h⟩
def putPre (cm : Int) (aas : List A) : Prop := ∃ (m w p u y : Int) (x : TX) (bs : List (Fin 256)), aas = [cfgA m w p u y, txA x, .d (fbytes bs)] ∧ x.good cm ∧ bs.length ≤ 1000
def putPost (cm : Int) (_ : List A) (r : A) (bs : List (Nat × Bx)) : Prop := ∃ (T : A) (b : Bool), r = .tup [T, .d (.v (.bool b))] ∧ TxR cm T bs
def stepPost (cm : Int) (_ : List A) (r : A) (bs : List (Nat × Bx)) : Prop := ∃ (T : A) (k s c : Int) (p f : Bool) (y g l : Int) (z : D) (b : Bool), r = .tup [T, frmZ k s c p f y g l z, .d (.v (.bool b))] ∧ TxR cm T bs
def tickPre (cm : Int) (aas : List A) : Prop := ∃ (m w p u y : Int) (x : TX) (bu : Bool), aas = [cfgA m w p u y, txA x, .d (.v (.int .i64 0)), .d (.v (.bool bu))] ∧ x.good cm
def sendPre (cm : Int) (aas : List A) : Prop := ∃ (m w p u y : Int) (x : TX), aas = [cfgA m w p u y, txA x, .d (.v (.int .i64 0))] ∧ x.good cm
def hearPre (cm : Int) (aas : List A) : Prop := ∃ (m w p u y : Int) (x : TX) (ack : Int) (f : Bool) (say : Int), aas = [cfgA m w p u y, txA x, frmZ 2 0 ack false f say 0 0 (bytesD [])] ∧ x.good cm ∧ (0 ≤ ack ∧ ack ≤ 7) ∧ (0 ≤ say ∧ say ≤ 2)
theorem putW (cm : Int) : FunX Try.prog 15 (putPre cm) (putPost cm) [5, 66] := by
  refine ⟨?_, ?_, ?_⟩
  · rintro aas ⟨m, w, p, u, y, x, bs, rfl, hx, hl⟩
    cases hok : txOkB ⟨m, w, p, u, y⟩ x
    · refine (sputTNo m w p u y x (fbytes bs) hok).imp ?_
      rintro r bs' ⟨rfl, rfl⟩
      exact ⟨_, _, rfl, .inr ⟨rfl, rfl⟩⟩
    · have hf := txOk_facts hok
      have hcut := scut_ok (bs.map (·.val)) p (fin_byt bs) (by rw [List.length_map]; omega)
      have hcl := cutD_length (bs.map (·.val)) p
      have hcs := cutD_small (bs.map (·.val)) p (fin_byt bs)
      by_cases hfull : full u x (bs.map (·.val)).length (cutD (bs.map (·.val)) p).length
      · have h1 := sputNo m w p u y x x.fl.length x.qu.length (bs.map (·.val)) _ hcut (by omega) (by omega) hfull
        have h2 := sputT m w p u y x x _ _ _ (bs.map (·.val)) hok hx.few hx.few h1
        refine h2.imp ?_
        rintro r bs' ⟨rfl, rfl⟩
        exact ⟨_, _, rfl, .inl ⟨x, hx, rfl, rfl⟩⟩
      · have hx' : TX.good cm { x with qu := x.qu ++ cutD (bs.map (·.val)) p } := by
          simp only [full, not_or] at hfull
          refine ⟨hx.1, hx.2.1, hx.2.2.1, hx.2.2.2.1, ⟨by simp only [List.length_append]; omega, fun d hd => ?_⟩, hx.2.2.2.2.2⟩
          rcases List.mem_append.1 hd with hd | hd
          · exact hx.2.2.2.2.1.2 d hd
          · exact hcs d hd
        have h1 := sputYes m w p u y x x.fl.length x.qu.length (bs.map (·.val)) _ hcut hfull
        have h2 := sputT m w p u y x { x with qu := x.qu ++ cutD (bs.map (·.val)) p } _ _ _ (bs.map (·.val)) hok hx.few hx'.few h1
        refine h2.imp ?_
        rintro r bs' ⟨rfl, rfl⟩
        exact ⟨_, _, rfl, .inl ⟨_, hx', rfl, rfl⟩⟩
  · rintro aas _
    exact ⟨_, _, txNil, false, rfl, .inr ⟨rfl, rfl⟩⟩
  · rintro aas r bs ⟨T, b, rfl, h⟩
    have := h.in_
    exact ⟨by simp [A.within, A.withins, this.1], this.2⟩
theorem stepPost_in {cm : Int} {aas : List A} {r : A} {bs : List (Nat × Bx)} (h : stepPost cm aas r bs) : r.within [5, 66] = true ∧ ∀ i x, bs.lookup i = some x → i ∈ [5, 66] ∧ x.within [5, 66] = true := by
  obtain ⟨T, k, s, c, p, f, y, g, l, z, b, rfl, h⟩ := h
  have := h.in_
  exact ⟨by simp [A.within, A.withins, this.1, frmZ, frmZC], this.2⟩
theorem tickW (cm : Int) : FunX Try.prog 37 (tickPre cm) (stepPost cm) [5, 66] := by
  refine ⟨?_, ?_, fun aas r bs h => stepPost_in h⟩
  · rintro aas ⟨m, w, p, u, y, x, bu, rfl, hx⟩
    cases hok : txOkB ⟨m, w, p, u, y⟩ x
    · refine (stickNo m w p u y x 0 bu (.inl hok)).imp ?_
      rintro r bs' ⟨rfl, rfl⟩
      exact ⟨txNil, 0, 0, 0, false, false, 0, 0, 0, .v (.slice none 0 0), false, rfl, .inr ⟨rfl, rfl⟩⟩
    · have hf := txOk_facts hok
      obtain ⟨n, a, fl, s, qu, q, t, h, c, d⟩ := x
      by_cases hi : d = true ∨ (fl = [] ∧ h = false ∧ q = false)
      · have h1 := stickIdle m w p u y n a fl s qu q t h c d 0 bu hi
        refine (stickT m w p u y _ _ 0 bu 0 0 0 false false 0 0 0 false hok rfl hx.few hx.few h1).imp ?_
        rintro r bs' ⟨rfl, rfl⟩
        exact ⟨_, 0, 0, 0, false, false, 0, 0, 0, .v (.slice none 0 0), false, rfl, .inl ⟨_, hx, rfl, rfl⟩⟩
      · simp only [not_or] at hi
        have hd : d = false := by simpa using hi.1
        by_cases ht : t = y
        · have h1 := stickOut m w p u y n a fl s qu q t h c d 0 bu hd hi.2 ht
          have hx' : TX.good cm ⟨n, a, fl, s, qu, q, t, h, c, true⟩ := hx
          refine (stickT m w p u y _ _ 0 bu 0 0 0 false false 0 0 0 false hok rfl hx.few hx'.few h1).imp ?_
          rintro r bs' ⟨rfl, rfl⟩
          exact ⟨_, 0, 0, 0, false, false, 0, 0, 0, .v (.slice none 0 0), false, rfl, .inl ⟨_, hx', rfl, rfl⟩⟩
        · have hb : 0 ≤ t ∧ t ≤ y := hf.2.2.2.2.2.2.2.2.2.2.2.1
          have hy : 1 ≤ y ∧ y ≤ 5 := hf.2.2.2.2.1
          have h1 := stickAsk m w p u y n a fl s qu q t h c d 0 bu hd hi.2 ht (by omega)
          have hx' : TX.good cm ⟨n, a, fl, s, qu, true, t + 1, h, c, false⟩ := ⟨hx.1, hx.2.1, hx.2.2.1, hx.2.2.2.1, hx.2.2.2.2.1, by simp only; omega, hx.2.2.2.2.2.2⟩
          refine (stickT m w p u y _ _ 0 bu _ _ _ _ _ _ _ _ true hok rfl hx.few hx'.few h1).imp ?_
          rintro r bs' ⟨rfl, rfl⟩
          exact ⟨_, _, _, _, _, _, _, _, _, .v (.slice none 0 0), true, rfl, .inl ⟨_, hx', rfl, rfl⟩⟩
  · rintro aas _
    exact ⟨_, _, txNil, 0, 0, 0, false, false, 0, 0, 0, .v (.slice none 0 0), false, rfl, .inr ⟨rfl, rfl⟩⟩
theorem sendW (cm : Int) : FunX Try.prog 25 (sendPre cm) (stepPost cm) [5, 66] := by
  refine ⟨?_, ?_, fun aas r bs h => stepPost_in h⟩
  · rintro aas ⟨m, w, p, u, y, x, rfl, hx⟩
    cases hok : txOkB ⟨m, w, p, u, y⟩ x
    · refine (ssendTNo m w p u y x 0 (.inl hok)).imp ?_
      rintro r bs' ⟨rfl, rfl⟩
      exact ⟨txNil, 0, 0, 0, false, false, 0, 0, 0, .v (.slice none 0 0), false, rfl, .inr ⟨rfl, rfl⟩⟩
    · have hf := txOk_facts hok
      obtain ⟨n, a, fl, s, qu, q, t, h, c, d⟩ := x
      obtain ⟨-, hw, -, -, -, -, -, hfl, -, hs, hq, -, hc, -, -, -⟩ := hf
      simp only at hw hfl hs hq hc
      obtain ⟨gn, ga, gf, gs, gq, gt, gc⟩ := hx
      simp only at gn ga gf gs gq gt gc
      have hx : TX.good cm ⟨n, a, fl, s, qu, q, t, h, c, d⟩ := ⟨gn, ga, gf, gs, gq, gt, gc⟩
      by_cases hi : idleB w ⟨n, a, fl, s, qu, q, t, h, c, d⟩
      · have h1 := ssendNo m w p u y n a fl s qu q t h c d fl.length 0 hi (by omega) (by omega)
        refine (ssendF m w p u y _ _ 0 _ 0 0 0 false false 0 0 0 (.v (.slice none 0 0)) false hok rfl hx.few hx.few h1).imp ?_
        rintro r bs' ⟨rfl, rfl⟩
        exact ⟨_, 0, 0, 0, false, false, 0, 0, 0, .v (.slice none 0 0), false, rfl, .inl ⟨_, hx, rfl, rfl⟩⟩
      · simp only [idleB, not_or, not_and, Bool.not_eq_true] at hi
        obtain ⟨rfl, rfl, rfl, hi4⟩ := hi
        by_cases hl : s = (fl.length : Int)
        · subst hl
          obtain ⟨h1, h2, h3⟩ := hi4 rfl
          obtain ⟨e, qs, rfl⟩ : ∃ e qs, qu = e :: qs := by
            cases qu with
            | nil => exact absurd rfl h2
            | cons e qs => exact ⟨e, qs, rfl⟩
          have h4 := ssendNew m w p u y n a fl (e :: qs) t c fl.length 0 e qs rfl h1 (by omega) (by omega) (by omega) (by omega) (by omega) (fun d hd => by have := gq.2 d hd; omega)
          have hx' : TX.good cm ⟨(n + 1) % 8, a, fl ++ [e], (fl.length : Int) + 1, qs, false, t, false, c, false⟩ := by
            refine ⟨by simp only; omega, ga, ⟨by simp only [List.length_append, List.length_singleton]; omega, fun d hd => ?_⟩, by simp only; omega, ⟨?_, fun d hd => gq.2 d (List.mem_cons_of_mem _ hd)⟩, gt, gc⟩
            · rcases List.mem_append.1 hd with hd | hd
              · exact gf.2 d hd
              · rw [List.mem_singleton.1 hd]; exact gq.2 e List.mem_cons_self
            · have := gq.1
              simp only [List.length_cons] at this ⊢
              omega
          refine (ssendO m w p u y _ _ 0 _ _ _ _ _ _ _ _ _ _ _ _ hok rfl hx.few hx'.few h4).imp ?_
          rintro r bs' ⟨rfl, rfl⟩
          exact ⟨_, _, _, _, _, _, _, _, _, _, _, rfl, .inl ⟨_, hx', rfl, rfl⟩⟩
        · obtain ⟨i, rfl⟩ : ∃ i : Nat, s = i := ⟨s.toNat, by omega⟩
          have hlt : i < fl.length := by omega
          obtain ⟨e, he⟩ : ∃ e, fl[i]? = some e := ⟨_, List.getElem?_eq_getElem hlt⟩
          have h4 := ssendOn m w p u y n a fl i qu t c fl.length 0 e he (by omega) (by omega) (by have := gf.2 e (List.mem_of_getElem? he); omega)
          have hx' : TX.good cm ⟨n, a, fl, (i : Int) + 1, qu, false, t, false, c, false⟩ := ⟨gn, ga, gf, by simp only; omega, gq, gt, gc⟩
          refine (ssendF m w p u y _ _ 0 _ _ _ _ _ _ _ _ _ _ _ hok rfl hx.few hx'.few h4).imp ?_
          rintro r bs' ⟨rfl, rfl⟩
          exact ⟨_, _, _, _, _, _, _, _, _, _, _, rfl, .inl ⟨_, hx', rfl, rfl⟩⟩
  · rintro aas _
    exact ⟨_, _, txNil, 0, 0, 0, false, false, 0, 0, 0, .v (.slice none 0 0), false, rfl, .inr ⟨rfl, rfl⟩⟩
theorem hearX_good {cm : Int} {x : TX} {k ack : Int} {f : Bool} {y : Int} (hx : x.good cm) (ha : inB x.a 0 7 = true) (hk : inB ack 0 7 = true) : (hearX x k ack f y).good (cm + 8) := by
  have hf := far_nonneg ha hk
  have hk' := (inB_iff _ _ _).1 hk
  have h1 : (ackX x ack).good (cm + 8) := by
    unfold ackX
    split
    · exact hx.mono (by omega)
    · refine ⟨hx.1, by simp only; omega, ⟨by simp only [List.length_drop]; have := hx.2.2.1.1; omega, fun d hd => hx.2.2.1.2 d (List.mem_of_mem_drop hd)⟩, ?_, hx.2.2.2.2.1, hx.2.2.2.2.2.1, ?_⟩
      · have := hx.2.2.2.1; simp only; omega
      · have := hx.2.2.2.2.2.2; simp only; omega
  have h2 : ∀ z : TX, z.good (cm + 8) → (said1 k y z).good (cm + 8) := fun z hz => by unfold said1; split <;> exact hz
  have h3 : ∀ z : TX, z.good (cm + 8) → (said2 f z).good (cm + 8) := fun z hz => by
    unfold said2
    split
    · exact ⟨hz.1, hz.2.1, hz.2.2.1, by simp only; omega, hz.2.2.2.2.1, by simp only; omega, hz.2.2.2.2.2.2⟩
    · exact hz
  have h4 : ∀ z : TX, z.good (cm + 8) → (said3 k y z).good (cm + 8) := fun z hz => by
    unfold said3
    split
    · exact ⟨hz.1, hz.2.1, hz.2.2.1, by simp only; omega, hz.2.2.2.2⟩
    · exact hz
  unfold hearX
  split
  · exact hx.mono (by omega)
  · split
    · exact h1
    · exact h4 _ (h3 _ (h2 _ h1))
theorem hearW (cm : Int) : FunX Try.prog 32 (hearPre cm) (fun _ => TxR (cm + 8)) [5, 66] := by
  refine ⟨?_, ?_, fun aas r bs h => h.in_⟩
  · rintro aas ⟨m, w, p, u, y, x, ack, f, say, rfl, hx, hack, hsay⟩
    have hfr := sfrmZ 2 0 ack false f say 0 0 [] (b := true) (by simp [frmB]; omega)
    cases hok : txOkB ⟨m, w, p, u, y⟩ x
    · refine (shearTNo m w p u y x 2 0 ack false f say 0 0 [] true hfr (.inl hok)).imp ?_
      rintro r bs' ⟨rfl, rfl⟩
      exact .inr ⟨rfl, rfl⟩
    · have hf := txOk_facts hok
      have hin : inB ack 0 7 = true := (inB_iff _ _ _).2 hack
      have ha := hf.2.2.2.2.2.2.1
      have hcc := hf.2.2.2.2.2.2.2.2.2.2.2.2.1
      have hx' := hearX_good (k := 2) (f := f) (y := say) hx ha hin
      have h1 := shear_x x 2 0 ack false f say 0 0 (bytesD []) ha hin hx.few (by have := hx.2.2.2.1; omega) (by omega)
      refine (shearT m w p u y x _ 2 0 ack false f say 0 0 [] hok hfr (.inr rfl) hx.few hx'.few h1).imp ?_
      rintro r bs' ⟨rfl, rfl⟩
      exact .inl ⟨_, hx', rfl, rfl⟩
  · rintro aas _
    exact ⟨_, _, .inr ⟨rfl, rfl⟩⟩
end Go.Proofs.Ytdojkmjamilllaa

/- A piece, drawn, whose bytes are a list of the call's own; over what values read as. -/
namespace Go.Proofs.Ytdojkmjamilllaa
open Go
def ownB (q : Nat) (bs : List (Fin 256)) : Bx := .own q 5 1 (cellsB bs)
theorem ownB_in {q : Nat} {bs : List (Fin 256)} {K : List Nat} : (ownB q bs).within K = true := within_cellsB bs
/-- Bytes, drawn, that are a list of the call's own. -/
def bytesOPost (rest : List A) (r : A) (ex : List (Nat × Bx)) : Prop := ∃ q bs, r = .own 7 q ∧ ex = [(7, ownB q bs)] ∧ ∀ n : Nat, rest = [.d (.v (.int .i64 (n : Int)))] → bs.length ≤ n
set_option maxRecDepth 100000 in
theorem bytesO_ok : DrawX Try.prog 50 (fun rest => ∃ n : Nat, rest = [.d (.v (.int .i64 (n : Int)))] ∧ n ≤ 1000) bytesOPost 3001 [7] := by
 refine ⟨?_, ?_, ?_⟩
 · rintro zs p rest ⟨n, rfl, hn⟩ hp
   refine Spec.intro (n := 30) (rv := [.tmp 4]) Try.func50 rfl rfl rfl (by simp) fun C hN hX => ?_
   refine AW.seq ?_
   apply AW.list
   apply Wk.asg (by conv => lhs; whnf) (lt_of_ble rfl)
   refine Wk.nil ?_
   refine AW.seq ?_
   apply AW.list
   apply Wk.lst 7 1 false [.int .u8 0] un22 ty5 ze5 rfl rfl (by rfl) (by rfl) (by decide) (by decide) rfl rfl (all_len rfl) (lt_of_ble rfl)
   apply Wk.asg (by conv => lhs; whnf) (lt_of_ble rfl)
   refine Wk.nil ?_
   refine AW.seq (AW.seq ?_)
   apply AW.list
   apply Wk.mv (by conv => lhs; whnf) (lt_of_ble rfl)
   apply Wk.mv (by conv => lhs; whnf) (lt_of_ble rfl)
   apply Wk.addi rfl rfl (by omega) (lt_of_ble rfl)
   apply Wk.drw 0 pick_ok Try.func65 rfl rfl rfl rfl ⟨(n : Int) + 1, rfl, by omega⟩ (by omega) rfl (lt_of_ble rfl)
   rintro r zs1 p1 ⟨k, rfl, hk⟩ hp1
   replace hk := hk _ rfl
   apply Wk.asg (by conv => lhs; whnf) (lt_of_ble rfl)
   refine Wk.nil ?_
   refine AW.block ?_
   let inv : Nat × Nat × List (Fin 256) × Nat × List (Fin 256) → St := fun x => St.of 30 [(0, .ptr 0 0), (5, .own 7 x.2.1), (6, .d (.v (.int .i64 (x.1 : Int))))] [(0, rdr x.2.2.1 x.2.2.2.1), (7, .own x.2.1 5 1 (cellsB x.2.2.2.2))]
   refine AW.loop inv (fun x => x.1 ≤ k ∧ x.2.2.2.1 + 3 * x.1 ≤ p + 1 + 3 * k ∧ x.2.2.2.2.length + x.1 ≤ k) (fun x => x.1) (k, 0, zs1, p1, []) ⟨Nat.le_refl _, by simp only; omega, by simp⟩ ?_ ?_
   · exact fun a w => Rel.keep ⟨rfl, .cons rfl rfl (.cons rfl rfl (.cons rfl rfl .nil)), .cons rfl rfl (.cons rfl rfl .nil), ⟨fun i b hb => by have := hN.1 i b hb; simp [keys] at this ⊢; exact .inl this, fun i q v hv => by have := hN.2 i q v hv; simp [keys] at this ⊢; exact .inl this⟩⟩
   · rintro ⟨m, q, zs2, p2, bs⟩ ⟨h1, h2, h3⟩
     simp only at h1 h2 h3
     show AW Try.prog C _ _ (St.of 30 [(0, .ptr 0 0), (5, .own 7 q), (6, .d (.v (.int .i64 (m : Int))))] [(0, rdr zs2 p2), (7, .own q 5 1 (cellsB bs))])
     refine AW.seq (AW.seq ?_)
     apply AW.list
     apply Wk.mv (by conv => lhs; whnf) (lt_of_ble rfl)
     apply Wk.bin rfl rfl (fun w => by simp [go_sem] <;> rfl) (lt_of_ble rfl)
     refine Wk.nil ?_
     refine AW.cond rfl (fun hc => ?_) (fun hc => ?_)
     · have hm : 0 < m := by simpa using hc
       refine AW.skip (thenA_normal ?_)
       refine AW.seq (AW.block ?_)
       apply AW.list
       apply Wk.mv (by conv => lhs; whnf) (lt_of_ble rfl)
       apply Wk.mv (by conv => lhs; whnf) (lt_of_ble rfl)
       apply Wk.drw 0 pick_ok Try.func65 rfl rfl rfl rfl ⟨_, rfl, by omega⟩ (by omega) rfl (lt_of_ble rfl)
       rintro r1 zs3 p3 ⟨k1, rfl, hk1⟩ hp3
       apply Wk.mv (by conv => lhs; whnf) (lt_of_ble rfl)
       apply Wk.drw 0 pick_ok Try.func65 rfl rfl rfl rfl ⟨_, rfl, by omega⟩ (by omega) rfl (lt_of_ble rfl)
       rintro r2 zs4 p4 ⟨k2, rfl, hk2⟩ hp4
       apply Wk.lst 21 1 false [.int .i64 0] un83 ty3 ze3 rfl rfl (by rfl) (by rfl) (by decide) (by decide) rfl rfl (all_len rfl) (lt_of_ble rfl)
       apply Wk.mv (by conv => lhs; whnf) (lt_of_ble rfl)
       apply Wk.drw 0 pick_ok Try.func65 rfl rfl rfl rfl ⟨_, rfl, by omega⟩ (by omega) rfl (lt_of_ble rfl)
       rintro r3 zs5 p5 ⟨k3, rfl, hk3⟩ hp5
       have hk3 : k3 < 3 := by have := hk3 3 rfl; omega
       obtain ⟨v, hv⟩ : ∃ v : Int, partA (List.flatten [[A.d (.v (.int .i64 (k1 : Int)))], [.d (.v (.int .i64 (k2 : Int)))], [.d (.v (.int .i64 255))]]) (k3 * 1) 1 false = some (.d (.v (.int .i64 v))) := by
         rcases (show k3 = 0 ∨ k3 = 1 ∨ k3 = 2 by omega) with rfl | rfl | rfl <;> exact ⟨_, rfl⟩
       apply Wk.iado 21 1 false un83 ty3 rfl rfl rfl hk3 (lt_of_ble rfl)
       apply Wk.ldo (i := 21) 1 false ty3 rfl rfl hv (lt_of_ble rfl)
       apply Wk.convb rfl ui3 ui5 (lt_of_ble rfl)
       intro z
       apply Wk.lst 27 1 false [.int .u8 0] un22 ty5 ze5 rfl rfl (by rfl) (by rfl) (by decide) (by decide) rfl rfl (all_len rfl) (lt_of_ble rfl)
       apply Wk.appOO 7 27 1 un22 ap5 rfl rfl rfl rfl (by decide) (all_len rfl) (one_cellsB bs) (by simp [cellsB]; omega) (lt_of_ble rfl)
       apply Wk.asg (by conv => lhs; whnf) (lt_of_ble rfl)
       refine Wk.nil (inBlockA_normal (thenA_normal ?_))
       apply AW.list
       apply Wk.mv (by conv => lhs; whnf) (lt_of_ble rfl)
       apply Wk.subn (b := 1) rfl rfl (by omega) (by omega) (lt_of_ble rfl)
       apply Wk.asg (by conv => lhs; whnf) (lt_of_ble rfl)
       refine Wk.nil ?_
       refine ⟨(m - 1, q + 1, zs5, p5, bs ++ [z]), ⟨by simp only; omega, by simp only; omega, by simp; omega⟩, by simp only; omega, ?_⟩
       refine fun a w => Rel.keep ⟨rfl, .cons rfl rfl (.cons rfl rfl (.cons rfl rfl .nil)), .cons rfl rfl (.cons ?_ ?_ .nil), ⟨fun i b hb => by have := hN.1 i b hb; simp [keys] at this ⊢; exact .inl this, fun i q v hv => by have := hN.2 i q v hv; simp [keys] at this ⊢; exact .inl this⟩⟩
       · simp only [cellsB, List.map_append]
         rfl
       · exact within_cellsB _
     · have hm : m = 0 := by simpa using hc
       refine AW.exit ?_
       repeat (first | refine inBlockA_same ?_ | refine thenA_exit ?_)
       refine thenA_normal ?_
       refine AW.seq ?_
       apply AW.list
       apply Wk.mv (by conv => lhs; whnf) (lt_of_ble rfl)
       apply Wk.asg (by conv => lhs; whnf) (lt_of_ble rfl)
       refine Wk.nil (AW.ret ?_)
       refine RetQ.ret [(0, rdr zs2 p2), (7, ownB q bs)] (.cons rfl .nil) ⟨zs2, p2, _, rfl, by omega, q, bs, rfl, rfl, fun n' e => ?_⟩ (kept2 rfl rfl)
       simp only [List.cons.injEq, A.d.injEq, D.v.injEq, Value.int.injEq, true_and, and_true] at e
       omega
 · rintro rest ⟨n, rfl, _⟩; exact ⟨_, _, 0, [], rfl, rfl, fun n e => by simp⟩
 · rintro rest r ex ⟨q, bs, rfl, rfl, _⟩; exact ⟨rfl, by simp [ownB_in]⟩

/-- A piece: its bytes the call's own, by the name 7. -/
def partOA (sg ln : Int) (q : Nat) : List A := [.d (.v (.int .i64 sg)), .d (.v (.int .i64 ln)), .own 7 q]
def partOPost (_ : List A) (r : A) (ex : List (Nat × Bx)) : Prop := ∃ sg ln q bs, r = .agg (partOA sg ln q) ∧ ex = [(7, ownB q bs)] ∧ 0 ≤ sg ∧ sg ≤ 3 ∧ 0 ≤ ln ∧ ln ≤ 40 ∧ bs.length ≤ 8
set_option maxRecDepth 100000 in
theorem partO_ok : DrawX Try.prog 87 (fun rest => rest = []) partOPost 3003 [7] := by
 refine ⟨?_, ?_, ?_⟩
 · rintro zs p rest rfl hp
   refine Spec.intro (n := 43) (rv := [.cell 2 47]) Try.func87 rfl rfl rfl (by simp) fun C hN hX => ?_
   refine AW.seq ?_
   apply AW.list
   apply Wk.alc 2 [.int .i64 0, .int .i64 0, .slice none 0 0] ze47 rfl rfl (lt_of_ble rfl)
   refine Wk.nil ?_
   refine AW.seq ?_
   apply AW.list
   apply Wk.mv (by conv => lhs; whnf) (lt_of_ble rfl)
   apply Wk.drw 0 pick_ok Try.func65 rfl rfl rfl rfl ⟨_, rfl, by omega⟩ (by omega) rfl (lt_of_ble rfl)
   rintro r1 zs1 p1 ⟨k1, rfl, hk1⟩ hp1
   apply Wk.mv (by conv => lhs; whnf) (lt_of_ble rfl)
   apply Wk.drx [7] bytesO_ok Try.func50 rfl rfl rfl rfl ⟨8, rfl, by decide⟩ (by omega) rfl (by simp; rfl) (lt_of_ble rfl)
   rintro r zs2 p2 ex ⟨q, bs, rfl, rfl, hbl⟩ hp2
   replace hbl := hbl 8 rfl
   apply Wk.bld [.int .i64 0, .int .i64 0, .slice none 0 0] [(0, 1), (1, 1), (2, 1)] bl47 rfl (by conv => lhs; whnf) (lt_of_ble rfl)
   apply Wk.alc 3 [.int .i64 0, .int .i64 0, .slice none 0 0] ze47 rfl rfl (lt_of_ble rfl)
   apply Wk.sto (i := 3) 3 true ty47 rfl rfl rfl rfl (Nat.le_of_ble_eq_true rfl) (lt_of_ble rfl)
   refine Wk.nil ?_
   have hk1' : k1 < 4 := by have := hk1 4 rfl; omega
   let inv : List (Fin 256) × Nat × Int × Nat × List (Fin 256) → St := fun x => St.of 43 [(0, .ptr 0 0), (2, .ptr 2 0), (3, .ptr 3 0)] [(0, rdr x.1 x.2.1), (2, .var [.d (.v (.int .i64 0)), .d (.v (.int .i64 0)), .d (.v (.slice none 0 0))]), (3, .var (partOA (k1 : Int) x.2.2.1 x.2.2.2.1)), (7, ownB x.2.2.2.1 x.2.2.2.2)]
   let ok : Nat → List (Fin 256) × Nat × Int × Nat × List (Fin 256) → Prop := fun m x => x.2.1 ≤ p + m ∧ 0 ≤ x.2.2.1 ∧ x.2.2.1 ≤ 40 ∧ x.2.2.2.2.length ≤ 8
   have fin : ∀ (zs : List (Fin 256)) (p : Nat) (ln : Int) (q : Nat) (bs : List (Fin 256)) (σ : St), σ.n = 43 → σ.t 0 = .ptr 0 0 → σ.t 2 = .ptr 2 0 → σ.t 3 = .ptr 3 0 → σ.b 0 = rdr zs p → σ.b 2 = .var [.d (.v (.int .i64 0)), .d (.v (.int .i64 0)), .d (.v (.slice none 0 0))] → σ.b 3 = .var (partOA (k1 : Int) ln q) → σ.b 7 = ownB q bs →
       ∀ a w, Rel C σ a w → Rel C (inv (zs, p, ln, q, bs)) a w := fun zs p ln q bs σ h0 h1 h2 h3 h4 h5 h6 h7 a w => Rel.keep ⟨h0.symm, .cons h1 rfl (.cons h2 rfl (.cons h3 rfl .nil)), .cons h4 rfl (.cons h5 rfl (.cons h6 rfl (.cons h7 ownB_in .nil))), hN.mono (by simp [keys])⟩
   refine AW.via inv (ok 3002) ?_ ?_
   · refine AW.seq ?_
     by_cases h1 : k1 = 0
     · subst h1
       apply AW.list
       apply Wk.fad 0 0 false fd47_0 rfl (lt_of_ble rfl)
       apply Wk.ld (i := 3) 1 false ty3 rfl rfl (by conv => lhs; whnf) (lt_of_ble rfl)
       apply Wk.bin rfl rfl (r := .bool false) (fun w => by simp [go_sem]) (lt_of_ble rfl)
       apply Wk.mv (by conv => lhs; whnf) (lt_of_ble rfl)
       apply Wk.goff 12 (ok_faddr fd47_2) rfl rfl (by decide)
       apply Wk.goff 12 (ok_load 3 ty22) rfl rfl (by decide)
       apply Wk.goff 12 (ok_leno 7 un22) rfl rfl (by decide)
       apply Wk.goff 12 (ok_bin _ _ _ _ _) rfl rfl (by decide)
       apply Wk.pckF rfl (by conv => lhs; whnf) (lt_of_ble rfl)
       refine Wk.nil ?_
       refine AW.cond rfl (fun hc => by cases hc) (fun _ => AW.skip (thenA_normal ?_))
       exact ⟨(zs2, p2, 0, q, bs), ⟨by simp only; omega, by simp only; omega, by simp only; omega, hbl⟩, fin _ _ _ _ _ _ rfl rfl rfl rfl rfl rfl rfl rfl⟩
     · apply AW.list
       apply Wk.fad 0 0 false fd47_0 rfl (lt_of_ble rfl)
       apply Wk.ld (i := 3) 1 false ty3 rfl rfl (by conv => lhs; whnf) (lt_of_ble rfl)
       apply Wk.bin rfl rfl (r := .bool true) (fun w => by simp [go_sem, h1]) (lt_of_ble rfl)
       apply Wk.mv (by conv => lhs; whnf) (lt_of_ble rfl)
       apply Wk.gon 12 rfl rfl
       apply Wk.fad 2 0 false fd47_2 rfl (lt_of_ble rfl)
       apply Wk.gon 12 rfl rfl
       apply Wk.ld (i := 3) 1 false ty22 rfl rfl (by conv => lhs; whnf) (lt_of_ble rfl)
       apply Wk.gon 12 rfl rfl
       apply Wk.leno (i := 7) un22 rfl rfl (lt_of_ble rfl)
       apply Wk.gon 12 rfl rfl
       apply Wk.bin rfl rfl (fun w => by simp [go_sem] <;> rfl) (lt_of_ble rfl)
       apply Wk.pckT rfl (by conv => lhs; whnf) (lt_of_ble rfl)
       refine Wk.nil ?_
       refine AW.cond rfl (fun hc => ?_) (fun hc => AW.skip (thenA_normal ?_))
       · apply AW.list
         apply Wk.lst 18 1 false [.int .u8 0] un22 ty5 ze5 rfl rfl (by rfl) (by rfl) (by decide) (by decide) rfl rfl (all_len rfl) (lt_of_ble rfl)
         apply Wk.fad 2 0 false fd47_2 rfl (lt_of_ble rfl)
         apply Wk.sto (i := 3) 1 false ty22 rfl rfl rfl rfl (Nat.le_of_ble_eq_true rfl) (lt_of_ble rfl)
         refine Wk.nil (thenA_normal ?_)
         refine ⟨(zs2, p2, 0, q + 1, [7]), ⟨by simp only; omega, by simp only; omega, by simp only; omega, by simp⟩, fun a w hR => ?_⟩
         have h := Rel.renc (j := 3) (c := 2) (i := 18) (i' := 7) (k' := q + 1) rfl rfl (by rfl) (.inr ⟨_, _, _, _, rfl, rfl⟩) (by decide) hR
         exact fin _ _ _ _ _ _ rfl rfl rfl rfl rfl rfl rfl rfl a w h
       · exact ⟨(zs2, p2, 0, q, bs), ⟨by simp only; omega, by simp only; omega, by simp only; omega, hbl⟩, fin _ _ _ _ _ _ rfl rfl rfl rfl rfl rfl rfl rfl⟩
   · rintro ⟨zs3, p3, l3, q3, bs3⟩ ⟨hp3, hl1, hl2, hb3⟩
     simp only at hp3 hl1 hl2 hb3
     show AW Try.prog C _ _ (St.of 43 [(0, .ptr 0 0), (2, .ptr 2 0), (3, .ptr 3 0)] [(0, rdr zs3 p3), (2, .var [.d (.v (.int .i64 0)), .d (.v (.int .i64 0)), .d (.v (.slice none 0 0))]), (3, .var (partOA (k1 : Int) l3 q3)), (7, ownB q3 bs3)])
     refine AW.via inv (ok 3002) ?_ ?_
     · refine AW.seq ?_
       apply AW.list
       apply Wk.fad 0 0 false fd47_0 rfl (lt_of_ble rfl)
       apply Wk.ld (i := 3) 1 false ty3 rfl rfl (by conv => lhs; whnf) (lt_of_ble rfl)
       apply Wk.bin rfl rfl (fun w => by simp [go_sem] <;> rfl) (lt_of_ble rfl)
       refine Wk.nil ?_
       refine AW.cond rfl (fun hc => ?_) (fun hc => AW.skip (thenA_normal ?_))
       · apply AW.list
         apply Wk.fad 2 0 false fd47_2 rfl (lt_of_ble rfl)
         apply Wk.ld (i := 3) 1 false ty22 rfl rfl (by conv => lhs; whnf) (lt_of_ble rfl)
         apply Wk.leno (i := 7) un22 rfl rfl (lt_of_ble rfl)
         apply Wk.fad 1 0 false fd47_1 rfl (lt_of_ble rfl)
         apply Wk.sto (i := 3) 1 false ty3 rfl rfl rfl rfl (Nat.le_of_ble_eq_true rfl) (lt_of_ble rfl)
         refine Wk.nil (thenA_normal ?_)
         have e5 : (cellsB bs3).length = bs3.length := by simp [cellsB]
         refine ⟨(zs3, p3, ((cellsB bs3).length : Int), q3, bs3), ⟨hp3, by simp only; omega, by simp only; omega, hb3⟩, fin _ _ _ _ _ _ rfl rfl rfl rfl rfl rfl rfl rfl⟩
       · exact ⟨(zs3, p3, l3, q3, bs3), ⟨hp3, hl1, hl2, hb3⟩, fin _ _ _ _ _ _ rfl rfl rfl rfl rfl rfl rfl rfl⟩
     · rintro ⟨zs4, p4, l4, q4, bs4⟩ ⟨hp4, hl3, hl4, hb4⟩
       simp only at hp4 hl3 hl4 hb4
       show AW Try.prog C _ _ (St.of 43 [(0, .ptr 0 0), (2, .ptr 2 0), (3, .ptr 3 0)] [(0, rdr zs4 p4), (2, .var [.d (.v (.int .i64 0)), .d (.v (.int .i64 0)), .d (.v (.slice none 0 0))]), (3, .var (partOA (k1 : Int) l4 q4)), (7, ownB q4 bs4)])
       have e5 : (cellsB bs4).length = bs4.length := by simp [cellsB]
       refine AW.via inv (ok 3003) ?_ ?_
       · refine AW.seq ?_
         apply AW.list
         apply Wk.fad 0 0 false fd47_0 rfl (lt_of_ble rfl)
         apply Wk.ld (i := 3) 1 false ty3 rfl rfl (by conv => lhs; whnf) (lt_of_ble rfl)
         apply Wk.bin rfl rfl (fun w => by simp [go_sem] <;> rfl) (lt_of_ble rfl)
         refine Wk.nil ?_
         refine AW.cond rfl (fun hc => ?_) (fun hc => AW.skip (thenA_normal ?_))
         · apply AW.draw (hm := hmix) (cs := _)
           · apply Wk.fad 2 0 false fd47_2 rfl (lt_of_ble rfl)
             apply Wk.ld (i := 3) 1 false ty22 rfl rfl (by conv => lhs; whnf) (lt_of_ble rfl)
             apply Wk.leno (i := 7) un22 rfl rfl (lt_of_ble rfl)
             apply Wk.addi rfl rfl (by omega) (lt_of_ble rfl)
             apply Wk.mv (by conv => lhs; whnf) (lt_of_ble rfl)
             apply Wk.fad 2 0 false fd47_2 rfl (lt_of_ble rfl)
             apply Wk.ld (i := 3) 1 false ty22 rfl rfl (by conv => lhs; whnf) (lt_of_ble rfl)
             apply Wk.leno (i := 7) un22 rfl rfl (lt_of_ble rfl)
             apply Wk.subi rfl rfl (by omega) (lt_of_ble rfl)
             apply Wk.drw 0 pick_ok Try.func65 rfl rfl rfl rfl ⟨_, rfl, by omega⟩ (by omega) rfl (lt_of_ble rfl)
             rintro r9 zs9 p9 ⟨k9, rfl, hk9⟩ hp9
             replace hk9 := hk9 _ rfl
             apply Wk.addi rfl rfl (by omega) (lt_of_ble rfl)
             apply Wk.fad 1 0 false fd47_1 rfl (lt_of_ble rfl)
             apply Wk.sto (i := 3) 1 false ty3 rfl rfl rfl rfl (Nat.le_of_ble_eq_true rfl) (lt_of_ble rfl)
             refine Wk.nil (thenA_normal ?_)
             refine ⟨(zs9, p9, ((cellsB bs4).length : Int) + 1 + (k9 : Int), q4, bs4), ⟨by simp only; omega, by simp only; omega, by simp only; omega, hb4⟩, fin _ _ _ _ _ _ rfl rfl rfl rfl rfl rfl rfl rfl⟩
           · rfl
           · rfl
         · exact ⟨(zs4, p4, l4, q4, bs4), ⟨by simp only; omega, hl3, hl4, hb4⟩, fin _ _ _ _ _ _ rfl rfl rfl rfl rfl rfl rfl rfl⟩
       · rintro ⟨zs5, p5, l5, q5, bs5⟩ ⟨hp5, hl5, hl6, hb5⟩
         simp only at hp5 hl5 hl6 hb5
         show AW Try.prog C _ _ (St.of 43 [(0, .ptr 0 0), (2, .ptr 2 0), (3, .ptr 3 0)] [(0, rdr zs5 p5), (2, .var [.d (.v (.int .i64 0)), .d (.v (.int .i64 0)), .d (.v (.slice none 0 0))]), (3, .var (partOA (k1 : Int) l5 q5)), (7, ownB q5 bs5)])
         refine AW.seq ?_
         apply AW.list
         apply Wk.ld (i := 3) 3 true ty47 rfl rfl (by conv => lhs; whnf) (lt_of_ble rfl)
         apply Wk.sto (i := 2) 3 true ty47 rfl rfl rfl rfl (Nat.le_of_ble_eq_true rfl) (lt_of_ble rfl)
         refine Wk.nil (AW.ret ?_)
         exact RetQ.ret [(0, rdr zs5 p5), (7, ownB q5 bs5)] (.cons ⟨2, 0, _, _, _, rfl, rfl, ty47, rfl⟩ .nil) ⟨_, _, _, rfl, by omega, (k1 : Int), l5, q5, bs5, rfl, rfl, by omega, by omega, hl5, hl6, hb5⟩ (kept2 rfl rfl)
 · rintro rest rfl; exact ⟨_, _, 0, 0, 0, [], rfl, rfl, by simp⟩
 · rintro rest r ex ⟨sg, ln, q, bs, rfl, rfl, _⟩; exact ⟨rfl, by simp [ownB_in]⟩
end Go.Proofs.Ytdojkmjamilllaa

/- A piece as an answer: its cells. -/
namespace Go.Proofs.Ytdojkmjamilllaa
open Go
def partA3 (g l : Int) (bs : List (Fin 256)) : A := .agg [.d (.v (.int .i64 g)), .d (.v (.int .i64 l)), .d (fbytes bs)]
end Go.Proofs.Ytdojkmjamilllaa

/- Lists of zero bytes are made; the lesser of two numbers; over what values read as. -/
namespace Go.Proofs.Ytdojkmjamilllaa
open Go Go.RowKit
section
variable {C : Ctx} {ops : Array Oper} {os : List Oper} {cs : List Cert} {σ : St} {K : St → Prop} {d : Nat} {ty : TypeId} {pos : String} {af : Array Edge}
def zero8 (n : Nat) : List (List A) := List.replicate n [A.d (.v (.int .u8 0))]
def rMk8 (x : Operand) (i : Nat) (e : TypeId) (σ : St) : Option (List V) :=
  match aev σ x, σ.b i with
  | .d (.v (.int .i64 n)), .fresh => if 0 ≤ n ∧ n ≤ 1000 then some [.a (.own i 0), .b (.own 0 e 1 (zero8 n.toNat))] else none
  | _, _ => none
set_option maxRecDepth 100000 in
theorem ok_mk8 {x : Operand} (i : Nat) : OpOk Try.prog C ops ⟨some d, .makeSlice 22 x x, ty, pos, af, none⟩ ⟨kof x ++ [B i], [T d, B i], behs (rMk8 x i 5) d⟩ :=
  OpOk.turn rfl (by simp [dstIn]) (fun σ => by unfold rMk8; rw [aev_mask fun k hk => List.mem_append_left _ hk, bx_mask (by simp)]) fun σ a w F E H K Q us hR hd h hK => by
    unfold rMk8 at h
    split at h
    · rename_i n hx hb
      split at h
      · rename_i hn
        obtain rfl := Option.some.inj h
        obtain ⟨m, rfl⟩ := Int.eq_ofNat_of_zero_le hn.1
        have hm : m ≤ 1000 := by omega
        have hv : a.eval x = .int .i64 (m : Int) := by
          have := hR.ev x
          rw [hx] at this
          exact den_v this
        obtain ⟨i0, hi, hz0, hz1, hz2⟩ := info_parts Try.infoB
        obtain ⟨w', hr, ho, hg⟩ := run_makeSlice_full (P := Try.prog) w 0 22 5 i0 _ 1 Try.underlying22 hi hz0 hz1 .i64 .i64 m (by omega) (by rw [hz2]; omega) (by unfold maxLen; omega) (Nat.zero_le _)
        have hfr := hR.env.box i
        rw [hb] at hfr
        have hlen : (zero8 m).length = m := by simp [zero8]
        have hflat : (zero8 m).flatten = List.replicate m (A.d (.v (.int .u8 0))) := by
          simp only [zero8]
          clear hR hK h hb hx hv hr ho hn hm hfr hlen
          induction m with
          | zero => rfl
          | succ m ih => rw [List.replicate_succ, List.flatten_cons, ih, List.replicate_succ]; rfl
        have hset := hR.setown (i := i) (k := 0) (sz := 1) (e := 5) (es := zero8 m) (v := .slice (some ⟨w.heap.size, 0, none⟩) m m) (w' := w') (fun b hbk => by rw [hb] at hbk; cases hbk) (fun q _ => hfr.2 q) (by rw [hb]; exact hg)
          (by rw [hlen]; exact ho) (by intro c hc; rw [(List.mem_replicate.1 hc).2]; rfl) (by
            rw [hflat]
            have hl1 := ho.1
            refine ⟨by rw [List.length_replicate, hl1]; omega, fun j q u hq hu => ?_⟩
            obtain rfl := (List.mem_replicate.1 (List.mem_of_getElem? hq)).2
            have hu0 : u = .int .u8 0 := by
              simp only [madeCells, Array.toList_map, Array.toList_range, List.getElem?_map, Option.map_eq_some_iff] at hu
              obtain ⟨y, _, rfl⟩ := hu
              simp [Value.cells, Nat.mod_one]
            rw [hu0]
            exact ⟨rfl, .d _ _ (.v _)⟩) (.inr (.inr rfl))
        unfold Oper.wp
        have hrun : (execOp a.eval ⟨some d, .makeSlice 22 x x, ty, pos, af, none⟩).run Try.prog w = .ok (.value (.slice (some ⟨w.heap.size, 0, none⟩) m m)) w' := by simp only [execOp, Sem.run_bind, hv, hr, Result.andThen_ok, Sem.run_pure]
        rw [hrun, Oper.upon_value]
        refine hK _ _ ?_
        exact (RelE.put (d := d) (r := .own i 0) hset hd (.own i 0 _ (upd2_same _ _ _ _) rfl)).r
      · cases h
    · cases h
set_option maxRecDepth 100000 in
theorem Wk.mk8 {x : Operand} (i n : Nat) (hx : aev σ x = .d (.v (.int .i64 (n : Int)))) (hb : σ.b i = .fresh) (hn : n ≤ 1000) (hd : d < σ.n) (h : Wk Try.prog C ops os cs ((σ.put (T d) (.a (.own i 0))).put (B i) (.b (.own 0 5 1 (zero8 n)))) K) :
    Wk Try.prog C ops (⟨some d, .makeSlice 22 x x, ty, pos, af, none⟩ :: os) (⟨kof x ++ [B i], [T d, B i], behs (rMk8 x i 5) d⟩ :: cs) σ K :=
  Wk.turn (ok_mk8 i) [.a (.own i 0), .b (.own 0 5 1 (zero8 n))] hd (by simp only [rMk8, hx, hb]; rw [if_pos ⟨by omega, by omega⟩]; simp) h
set_option maxRecDepth 100000 in
theorem asData_zero8 (n : Nat) : asData (zero8 n) ((List.replicate n (0 : Fin 256)).map (fun z => z.val) |>.map fun z : Nat => [D.v (.int .u8 (z : Int))]) := by
  simp [asData, zero8, nrms, nrm]
variable {P : Program}
def rMin (x y : Operand) (σ : St) : Option A := (sc (aev σ x)).bind fun u => (sc (aev σ y)).bind fun v => match u, v with | .int k a, .int _ b => some (.d (.v (.int k (if b < a then b else a)))) | _, _ => none
set_option maxRecDepth 100000 in
theorem ok_min (x y : Operand) {at_ : Array TypeId} : OpOk P C ops ⟨some d, .call { callee := .builtin .min, args := #[x, y], argTypes := at_ }, ty, pos, af, none⟩ ⟨kof x ++ kof y, [T d], beh1 (rMin x y) d⟩ :=
  OpOk.read rfl rfl (fun σ => by unfold rMin; rw [aev_mask (fun k h => List.mem_append_left _ h), aev_mask (fun k h => List.mem_append_right _ h)]) fun σ a w F E H r hR h => by
    simp only [rMin, Option.bind_eq_some_iff] at h
    obtain ⟨u, hu, v, hv, h⟩ := h
    have e1 := den_sc hu (hR.ev x)
    have e2 := den_sc hv (hR.ev y)
    split at h
    · obtain rfl := Option.some.inj h
      refine ⟨_, ?_, .d _ _ (.v _)⟩
      simp [execOp, resolve, invoke, builtin, e1, e2, Builtin.min_, Builtin.min2]
    · cases h
set_option maxRecDepth 100000 in
theorem Wk.min2 {x y : Operand} {at_ : Array TypeId} {k k' : IntKind} {u v r : Int} (hx : aev σ x = .d (.v (.int k u))) (hy : aev σ y = .d (.v (.int k' v))) (hr : (if v < u then v else u) = r) (hd : d < σ.n)
    (h : Wk P C ops os cs (σ.put (T d) (.a (.d (.v (.int k r))))) K) : Wk P C ops (⟨some d, .call { callee := .builtin .min, args := #[x, y], argTypes := at_ }, ty, pos, af, none⟩ :: os) (⟨kof x ++ kof y, [T d], beh1 (rMin x y) d⟩ :: cs) σ K :=
  Wk.read (ok_min x y) _ hd (by simp only [rMin, hx, hy, sc, Option.bind_some, hr]) h
end
end Go.Proofs.Ytdojkmjamilllaa

/- A piece, drawn, perhaps with something wrong; over what values read as. -/
namespace Go.Proofs.Ytdojkmjamilllaa
open Go Go.RowKit
def partPost (_ : List A) (r : A) : Prop := ∃ (sg ln : Int) (bs : List (Fin 256)), r = partA3 sg ln bs ∧ (-1 ≤ sg ∧ sg ≤ 4) ∧ (-1 ≤ ln ∧ ln ≤ 40) ∧ bs.length ≤ 16
set_option maxHeartbeats 4000000 in
set_option maxRecDepth 100000 in
theorem partOr_ok : DrawOk Try.prog 86 (fun rest => ∃ n : Int, rest = [.d (.v (.int .i64 n))] ∧ n ≤ 1000000 ∧ -1000000 ≤ n) partPost 3010 := by
 refine DrawOk.zero ?_ ?_ ?_ ?_
 · rintro zs p rest ⟨n, rfl, hn, hn'⟩ hp
   refine Spec.intro (n := 35) (rv := [.cell 4 47]) Try.func86 rfl rfl rfl (by simp) fun C hN hX => ?_
   let inv : List (Fin 256) × Nat × Int × Int × Nat × List (Fin 256) → St := fun x => St.of 35 [(0, .ptr 0 0), (4, .ptr 4 0), (5, .ptr 5 0)] [(0, rdr x.1 x.2.1), (4, .var [.d (.v (.int .i64 0)), .d (.v (.int .i64 0)), .d (.v (.slice none 0 0))]), (5, .var (partOA x.2.2.1 x.2.2.2.1 x.2.2.2.2.1)), (7, ownB x.2.2.2.2.1 x.2.2.2.2.2)]
   have fin : ∀ (zs : List (Fin 256)) (p : Nat) (sg ln : Int) (q : Nat) (bs : List (Fin 256)) (σ : St), σ.n = 35 → σ.t 0 = .ptr 0 0 → σ.t 4 = .ptr 4 0 → σ.t 5 = .ptr 5 0 → σ.b 0 = rdr zs p → σ.b 4 = .var [.d (.v (.int .i64 0)), .d (.v (.int .i64 0)), .d (.v (.slice none 0 0))] → σ.b 5 = .var (partOA sg ln q) → σ.b 7 = ownB q bs →
       ∀ a w, Rel C σ a w → Rel C (inv (zs, p, sg, ln, q, bs)) a w := fun zs p sg ln q bs σ h0 h1 h2 h3 h4 h5 h6 h7 a w => Rel.keep ⟨h0.symm, .cons h1 rfl (.cons h2 rfl (.cons h3 rfl .nil)), .cons h4 rfl (.cons h5 rfl (.cons h6 rfl (.cons h7 ownB_in .nil))), hN.mono (by simp [keys])⟩
   refine AW.seq ?_
   apply AW.list
   apply Wk.alc 4 [.int .i64 0, .int .i64 0, .slice none 0 0] ze47 rfl rfl (lt_of_ble rfl)
   refine Wk.nil ?_
   refine AW.seq ?_
   apply AW.list
   apply Wk.mv (by conv => lhs; whnf) (lt_of_ble rfl)
   apply Wk.drx [7] partO_ok Try.func87 rfl rfl rfl rfl rfl (by omega) rfl (by simp; rfl) (lt_of_ble rfl)
   rintro r2 zs2 p2 ex ⟨sg, ln, q, bs, rfl, rfl, hs1, hs2, hl1, hl2, hbl⟩ hp2
   apply Wk.alc 5 [.int .i64 0, .int .i64 0, .slice none 0 0] ze47 rfl rfl (lt_of_ble rfl)
   apply Wk.sto (i := 5) 3 true ty47 rfl rfl rfl rfl (Nat.le_of_ble_eq_true rfl) (lt_of_ble rfl)
   refine Wk.nil ?_
   refine AW.via inv (fun x => x.2.1 ≤ p + 3010 ∧ (-1 ≤ x.2.2.1 ∧ x.2.2.1 ≤ 4) ∧ (-1 ≤ x.2.2.2.1 ∧ x.2.2.2.1 ≤ 40) ∧ x.2.2.2.2.2.length ≤ 16) ?_ ?_
   · refine AW.seq ?_
     apply AW.list
     apply Wk.mv (by conv => lhs; whnf) (lt_of_ble rfl)
     apply Wk.mv (by conv => lhs; whnf) (lt_of_ble rfl)
     apply Wk.drw 0 odd_ok Try.func84 rfl rfl rfl rfl ⟨_, rfl, by omega⟩ (by omega) rfl (lt_of_ble rfl)
     rintro r3 zs3 p3 ⟨b3, rfl, _⟩ hp3
     refine Wk.nil ?_
     refine AW.cond rfl (fun hc => ?_) (fun hc => AW.skip (thenA_normal ?_))
     · refine AW.seq ?_
       apply AW.list
       apply Wk.mv (by conv => lhs; whnf) (lt_of_ble rfl)
       apply Wk.drw 0 pick_ok Try.func65 rfl rfl rfl rfl ⟨_, rfl, by omega⟩ (by omega) rfl (lt_of_ble rfl)
       rintro r4 zs4 p4 ⟨k4, rfl, hk4⟩ hp4
       refine Wk.nil (AW.block ?_)
       refine AW.seq ?_
       apply AW.list
       apply Wk.bin rfl rfl (fun w => by simp [go_sem] <;> rfl) (lt_of_ble rfl)
       apply Wk.asg (by conv => lhs; whnf) (lt_of_ble rfl)
       refine Wk.nil ?_
       refine AW.cond rfl (fun hc => ?_) (fun hc => ?_)
       · apply AW.list
         apply Wk.lst 20 1 false [.int .i64 0] un83 ty3 ze3 rfl rfl (by rfl) (by rfl) (by decide) (by decide) rfl rfl (all_len rfl) (lt_of_ble rfl)
         apply Wk.mv (by conv => lhs; whnf) (lt_of_ble rfl)
         apply Wk.drw 0 pick_ok Try.func65 rfl rfl rfl rfl ⟨_, rfl, by omega⟩ (by omega) rfl (lt_of_ble rfl)
         rintro r9 zs9 p9 ⟨k9, rfl, hk9⟩ hp9
         have hk9' : k9 < 3 := by have := hk9 3 rfl; omega
         obtain ⟨v, hv, hv1, hv2⟩ : ∃ v : Int, partA (List.flatten [[A.d (.v (.int .i64 (-1)))], [.d (.v (.int .i64 4))], [.d (.v (.int .i64 1))]]) (k9 * 1) 1 false = some (.d (.v (.int .i64 v))) ∧ -1 ≤ v ∧ v ≤ 4 := by
           rcases (show k9 = 0 ∨ k9 = 1 ∨ k9 = 2 by omega) with rfl | rfl | rfl
           · exact ⟨_, rfl, by omega, by omega⟩
           · exact ⟨_, rfl, by omega, by omega⟩
           · exact ⟨_, rfl, by omega, by omega⟩
         apply Wk.iado 20 1 false un83 ty3 rfl rfl rfl hk9' (lt_of_ble rfl)
         apply Wk.ldo (i := 20) 1 false ty3 rfl rfl hv (lt_of_ble rfl)
         apply Wk.fad 0 0 false fd47_0 rfl (lt_of_ble rfl)
         apply Wk.sto (i := 5) 1 false ty3 rfl rfl rfl rfl (Nat.le_of_ble_eq_true rfl) (lt_of_ble rfl)
         refine Wk.nil (inBlockA_normal (thenA_normal ?_))
         exact ⟨(zs9, p9, v, ln, q, bs), ⟨by simp only; omega, ⟨by simp only; omega, by simp only; omega⟩, ⟨by simp only; omega, by simp only; omega⟩, by simp only; omega⟩, fin _ _ _ _ _ _ _ rfl rfl rfl rfl rfl rfl rfl rfl⟩
       · refine AW.seq ?_
         apply AW.list
         apply Wk.bin rfl rfl (fun w => by simp [go_sem] <;> rfl) (lt_of_ble rfl)
         apply Wk.asg (by conv => lhs; whnf) (lt_of_ble rfl)
         refine Wk.nil ?_
         refine AW.cond rfl (fun hc => ?_) (fun hc => ?_)
         · apply AW.list
           apply Wk.lst 28 1 false [.int .i64 0] un83 ty3 ze3 rfl rfl (by rfl) (by rfl) (by decide) (by decide) rfl rfl (all_len rfl) (lt_of_ble rfl)
           apply Wk.mv (by conv => lhs; whnf) (lt_of_ble rfl)
           apply Wk.drw 0 pick_ok Try.func65 rfl rfl rfl rfl ⟨_, rfl, by omega⟩ (by omega) rfl (lt_of_ble rfl)
           rintro r9 zs9 p9 ⟨k9, rfl, hk9⟩ hp9
           have hk9' : k9 < 3 := by have := hk9 3 rfl; omega
           obtain ⟨v, hv, hv1, hv2⟩ : ∃ v : Int, partA (List.flatten [[A.d (.v (.int .i64 (-1)))], [.d (.v (.int .i64 25))], [.d (.v (.int .i64 3))]]) (k9 * 1) 1 false = some (.d (.v (.int .i64 v))) ∧ -1 ≤ v ∧ v ≤ 40 := by
             rcases (show k9 = 0 ∨ k9 = 1 ∨ k9 = 2 by omega) with rfl | rfl | rfl
             · exact ⟨_, rfl, by omega, by omega⟩
             · exact ⟨_, rfl, by omega, by omega⟩
             · exact ⟨_, rfl, by omega, by omega⟩
           apply Wk.iado 28 1 false un83 ty3 rfl rfl rfl hk9' (lt_of_ble rfl)
           apply Wk.ldo (i := 28) 1 false ty3 rfl rfl hv (lt_of_ble rfl)
           apply Wk.fad 1 0 false fd47_1 rfl (lt_of_ble rfl)
           apply Wk.sto (i := 5) 1 false ty3 rfl rfl rfl rfl (Nat.le_of_ble_eq_true rfl) (lt_of_ble rfl)
           refine Wk.nil (inBlockA_normal (thenA_normal ?_))
           exact ⟨(zs9, p9, sg, v, q, bs), ⟨by simp only; omega, ⟨by simp only; omega, by simp only; omega⟩, ⟨by simp only; omega, by simp only; omega⟩, by simp only; omega⟩, fin _ _ _ _ _ _ _ rfl rfl rfl rfl rfl rfl rfl rfl⟩
         · apply AW.list
           apply Wk.fad 2 0 false fd47_2 rfl (lt_of_ble rfl)
           apply Wk.ld (i := 5) 1 false ty22 rfl rfl (by conv => lhs; whnf) (lt_of_ble rfl)
           apply Wk.lst 15 1 false [.int .u8 0] un22 ty5 ze5 rfl rfl (by rfl) (by rfl) (by decide) (by decide) rfl rfl (all_len rfl) (lt_of_ble rfl)
           apply Wk.appOO 7 15 1 un22 ap5 rfl rfl rfl rfl (by decide) (all_len rfl) (one_cellsB bs) (by simp [cellsB]; omega) (lt_of_ble rfl)
           apply Wk.fad 2 0 false fd47_2 rfl (lt_of_ble rfl)
           apply Wk.sto (i := 5) 1 false ty22 rfl rfl rfl rfl (Nat.le_of_ble_eq_true rfl) (lt_of_ble rfl)
           refine Wk.nil (inBlockA_normal (thenA_normal ?_))
           have e9 : cellsB (bs ++ [1, 2, 3, 4, 5, 6, 7, 8]) = cellsB bs ++ cellsB [1, 2, 3, 4, 5, 6, 7, 8] := by simp [cellsB]
           exact ⟨(zs4, p4, sg, ln, q + 1, bs ++ [1, 2, 3, 4, 5, 6, 7, 8]), ⟨by simp only; omega, ⟨by simp only; omega, by simp only; omega⟩, ⟨by simp only; omega, by simp only; omega⟩, by simp; omega⟩, fin _ _ _ _ _ _ _ rfl rfl rfl rfl rfl rfl rfl (by unfold ownB; rw [e9]; rfl)⟩
     · exact ⟨(zs3, p3, sg, ln, q, bs), ⟨by simp only; omega, ⟨by simp only; omega, by simp only; omega⟩, ⟨by simp only; omega, by simp only; omega⟩, by simp only; omega⟩, fin _ _ _ _ _ _ _ rfl rfl rfl rfl rfl rfl rfl rfl⟩
   · rintro ⟨zs6, p6, s6, l6, q6, bs6⟩ ⟨hp6, hs6, hl6, hb6⟩
     simp only at hp6 hs6 hl6 hb6
     show AW Try.prog C _ _ (St.of 35 [(0, .ptr 0 0), (4, .ptr 4 0), (5, .ptr 5 0)] [(0, rdr zs6 p6), (4, .var [.d (.v (.int .i64 0)), .d (.v (.int .i64 0)), .d (.v (.slice none 0 0))]), (5, .var (partOA s6 l6 q6)), (7, ownB q6 bs6)])
     refine AW.thawc (j := 5) (c := 2) (i := 7) (cellsD bs6) rfl rfl (by rfl) (asData_cells bs6) (hX.one (by decide) rfl) ?_
     refine AW.seq ?_
     apply AW.list
     apply Wk.ld (i := 5) 3 true ty47 rfl rfl (by conv => lhs; whnf) (lt_of_ble rfl)
     apply Wk.sto (i := 4) 3 true ty47 rfl rfl rfl rfl (Nat.le_of_ble_eq_true rfl) (lt_of_ble rfl)
     refine Wk.nil (AW.ret ?_)
     exact RetQ.ret [(0, rdr zs6 p6)] (.cons ⟨4, 0, _, _, _, rfl, rfl, ty47, rfl⟩ .nil) ⟨⟨s6, l6, bs6, rfl, hs6, hl6, hb6⟩, _, _, rfl, hp6⟩ (kept1 rfl)
 · rintro rest ⟨n, rfl, _⟩; rfl
 · rintro rest _; exact ⟨_, 0, 0, [], rfl, by simp⟩
 · rintro rest r ⟨sg, ln, bs, rfl, _⟩; rfl
end Go.Proofs.Ytdojkmjamilllaa

/- A piece, drawn, as data. Out of AbsPart. -/
namespace Go.Proofs.Ytdojkmjamilllaa
open Go
set_option maxRecDepth 100000 in
theorem partD_ok : DrawOk Try.prog 87 (fun rest => rest = []) partPost 3003 := by
 refine DrawOk.zero ?_ ?_ ?_ ?_
 · rintro zs p rest rfl hp
   refine Spec.intro (n := 43) (rv := [.cell 2 47]) Try.func87 rfl rfl rfl (by simp) fun C hN hX => ?_
   refine AW.seq ?_
   apply AW.list
   apply Wk.alc 2 [.int .i64 0, .int .i64 0, .slice none 0 0] ze47 rfl rfl (lt_of_ble rfl)
   refine Wk.nil ?_
   refine AW.seq ?_
   apply AW.list
   apply Wk.mv (by conv => lhs; whnf) (lt_of_ble rfl)
   apply Wk.drw 0 pick_ok Try.func65 rfl rfl rfl rfl ⟨_, rfl, by omega⟩ (by omega) rfl (lt_of_ble rfl)
   rintro r1 zs1 p1 ⟨k1, rfl, hk1⟩ hp1
   apply Wk.mv (by conv => lhs; whnf) (lt_of_ble rfl)
   apply Wk.drx [7] bytesO_ok Try.func50 rfl rfl rfl rfl ⟨8, rfl, by decide⟩ (by omega) rfl (by simp; rfl) (lt_of_ble rfl)
   rintro r zs2 p2 ex ⟨q, bs, rfl, rfl, hbl⟩ hp2
   replace hbl := hbl 8 rfl
   apply Wk.bld [.int .i64 0, .int .i64 0, .slice none 0 0] [(0, 1), (1, 1), (2, 1)] bl47 rfl (by conv => lhs; whnf) (lt_of_ble rfl)
   apply Wk.alc 3 [.int .i64 0, .int .i64 0, .slice none 0 0] ze47 rfl rfl (lt_of_ble rfl)
   apply Wk.sto (i := 3) 3 true ty47 rfl rfl rfl rfl (Nat.le_of_ble_eq_true rfl) (lt_of_ble rfl)
   refine Wk.nil ?_
   have hk1' : k1 < 4 := by have := hk1 4 rfl; omega
   let inv : List (Fin 256) × Nat × Int × Nat × List (Fin 256) → St := fun x => St.of 43 [(0, .ptr 0 0), (2, .ptr 2 0), (3, .ptr 3 0)] [(0, rdr x.1 x.2.1), (2, .var [.d (.v (.int .i64 0)), .d (.v (.int .i64 0)), .d (.v (.slice none 0 0))]), (3, .var (partOA (k1 : Int) x.2.2.1 x.2.2.2.1)), (7, ownB x.2.2.2.1 x.2.2.2.2)]
   let ok : Nat → List (Fin 256) × Nat × Int × Nat × List (Fin 256) → Prop := fun m x => x.2.1 ≤ p + m ∧ 0 ≤ x.2.2.1 ∧ x.2.2.1 ≤ 40 ∧ x.2.2.2.2.length ≤ 8
   have fin : ∀ (zs : List (Fin 256)) (p : Nat) (ln : Int) (q : Nat) (bs : List (Fin 256)) (σ : St), σ.n = 43 → σ.t 0 = .ptr 0 0 → σ.t 2 = .ptr 2 0 → σ.t 3 = .ptr 3 0 → σ.b 0 = rdr zs p → σ.b 2 = .var [.d (.v (.int .i64 0)), .d (.v (.int .i64 0)), .d (.v (.slice none 0 0))] → σ.b 3 = .var (partOA (k1 : Int) ln q) → σ.b 7 = ownB q bs →
       ∀ a w, Rel C σ a w → Rel C (inv (zs, p, ln, q, bs)) a w := fun zs p ln q bs σ h0 h1 h2 h3 h4 h5 h6 h7 a w => Rel.keep ⟨h0.symm, .cons h1 rfl (.cons h2 rfl (.cons h3 rfl .nil)), .cons h4 rfl (.cons h5 rfl (.cons h6 rfl (.cons h7 ownB_in .nil))), hN.mono (by simp [keys])⟩
   refine AW.via inv (ok 3002) ?_ ?_
   · refine AW.seq ?_
     by_cases h1 : k1 = 0
     · subst h1
       apply AW.list
       apply Wk.fad 0 0 false fd47_0 rfl (lt_of_ble rfl)
       apply Wk.ld (i := 3) 1 false ty3 rfl rfl (by conv => lhs; whnf) (lt_of_ble rfl)
       apply Wk.bin rfl rfl (r := .bool false) (fun w => by simp [go_sem]) (lt_of_ble rfl)
       apply Wk.mv (by conv => lhs; whnf) (lt_of_ble rfl)
       apply Wk.goff 12 (ok_faddr fd47_2) rfl rfl (by decide)
       apply Wk.goff 12 (ok_load 3 ty22) rfl rfl (by decide)
       apply Wk.goff 12 (ok_leno 7 un22) rfl rfl (by decide)
       apply Wk.goff 12 (ok_bin _ _ _ _ _) rfl rfl (by decide)
       apply Wk.pckF rfl (by conv => lhs; whnf) (lt_of_ble rfl)
       refine Wk.nil ?_
       refine AW.cond rfl (fun hc => by cases hc) (fun _ => AW.skip (thenA_normal ?_))
       exact ⟨(zs2, p2, 0, q, bs), ⟨by simp only; omega, by simp only; omega, by simp only; omega, hbl⟩, fin _ _ _ _ _ _ rfl rfl rfl rfl rfl rfl rfl rfl⟩
     · apply AW.list
       apply Wk.fad 0 0 false fd47_0 rfl (lt_of_ble rfl)
       apply Wk.ld (i := 3) 1 false ty3 rfl rfl (by conv => lhs; whnf) (lt_of_ble rfl)
       apply Wk.bin rfl rfl (r := .bool true) (fun w => by simp [go_sem, h1]) (lt_of_ble rfl)
       apply Wk.mv (by conv => lhs; whnf) (lt_of_ble rfl)
       apply Wk.gon 12 rfl rfl
       apply Wk.fad 2 0 false fd47_2 rfl (lt_of_ble rfl)
       apply Wk.gon 12 rfl rfl
       apply Wk.ld (i := 3) 1 false ty22 rfl rfl (by conv => lhs; whnf) (lt_of_ble rfl)
       apply Wk.gon 12 rfl rfl
       apply Wk.leno (i := 7) un22 rfl rfl (lt_of_ble rfl)
       apply Wk.gon 12 rfl rfl
       apply Wk.bin rfl rfl (fun w => by simp [go_sem] <;> rfl) (lt_of_ble rfl)
       apply Wk.pckT rfl (by conv => lhs; whnf) (lt_of_ble rfl)
       refine Wk.nil ?_
       refine AW.cond rfl (fun hc => ?_) (fun hc => AW.skip (thenA_normal ?_))
       · apply AW.list
         apply Wk.lst 18 1 false [.int .u8 0] un22 ty5 ze5 rfl rfl (by rfl) (by rfl) (by decide) (by decide) rfl rfl (all_len rfl) (lt_of_ble rfl)
         apply Wk.fad 2 0 false fd47_2 rfl (lt_of_ble rfl)
         apply Wk.sto (i := 3) 1 false ty22 rfl rfl rfl rfl (Nat.le_of_ble_eq_true rfl) (lt_of_ble rfl)
         refine Wk.nil (thenA_normal ?_)
         refine ⟨(zs2, p2, 0, q + 1, [7]), ⟨by simp only; omega, by simp only; omega, by simp only; omega, by simp⟩, fun a w hR => ?_⟩
         have h := Rel.renc (j := 3) (c := 2) (i := 18) (i' := 7) (k' := q + 1) rfl rfl (by rfl) (.inr ⟨_, _, _, _, rfl, rfl⟩) (by decide) hR
         exact fin _ _ _ _ _ _ rfl rfl rfl rfl rfl rfl rfl rfl a w h
       · exact ⟨(zs2, p2, 0, q, bs), ⟨by simp only; omega, by simp only; omega, by simp only; omega, hbl⟩, fin _ _ _ _ _ _ rfl rfl rfl rfl rfl rfl rfl rfl⟩
   · rintro ⟨zs3, p3, l3, q3, bs3⟩ ⟨hp3, hl1, hl2, hb3⟩
     simp only at hp3 hl1 hl2 hb3
     show AW Try.prog C _ _ (St.of 43 [(0, .ptr 0 0), (2, .ptr 2 0), (3, .ptr 3 0)] [(0, rdr zs3 p3), (2, .var [.d (.v (.int .i64 0)), .d (.v (.int .i64 0)), .d (.v (.slice none 0 0))]), (3, .var (partOA (k1 : Int) l3 q3)), (7, ownB q3 bs3)])
     refine AW.via inv (ok 3002) ?_ ?_
     · refine AW.seq ?_
       apply AW.list
       apply Wk.fad 0 0 false fd47_0 rfl (lt_of_ble rfl)
       apply Wk.ld (i := 3) 1 false ty3 rfl rfl (by conv => lhs; whnf) (lt_of_ble rfl)
       apply Wk.bin rfl rfl (fun w => by simp [go_sem] <;> rfl) (lt_of_ble rfl)
       refine Wk.nil ?_
       refine AW.cond rfl (fun hc => ?_) (fun hc => AW.skip (thenA_normal ?_))
       · apply AW.list
         apply Wk.fad 2 0 false fd47_2 rfl (lt_of_ble rfl)
         apply Wk.ld (i := 3) 1 false ty22 rfl rfl (by conv => lhs; whnf) (lt_of_ble rfl)
         apply Wk.leno (i := 7) un22 rfl rfl (lt_of_ble rfl)
         apply Wk.fad 1 0 false fd47_1 rfl (lt_of_ble rfl)
         apply Wk.sto (i := 3) 1 false ty3 rfl rfl rfl rfl (Nat.le_of_ble_eq_true rfl) (lt_of_ble rfl)
         refine Wk.nil (thenA_normal ?_)
         have e5 : (cellsB bs3).length = bs3.length := by simp [cellsB]
         refine ⟨(zs3, p3, ((cellsB bs3).length : Int), q3, bs3), ⟨hp3, by simp only; omega, by simp only; omega, hb3⟩, fin _ _ _ _ _ _ rfl rfl rfl rfl rfl rfl rfl rfl⟩
       · exact ⟨(zs3, p3, l3, q3, bs3), ⟨hp3, hl1, hl2, hb3⟩, fin _ _ _ _ _ _ rfl rfl rfl rfl rfl rfl rfl rfl⟩
     · rintro ⟨zs4, p4, l4, q4, bs4⟩ ⟨hp4, hl3, hl4, hb4⟩
       simp only at hp4 hl3 hl4 hb4
       show AW Try.prog C _ _ (St.of 43 [(0, .ptr 0 0), (2, .ptr 2 0), (3, .ptr 3 0)] [(0, rdr zs4 p4), (2, .var [.d (.v (.int .i64 0)), .d (.v (.int .i64 0)), .d (.v (.slice none 0 0))]), (3, .var (partOA (k1 : Int) l4 q4)), (7, ownB q4 bs4)])
       have e5 : (cellsB bs4).length = bs4.length := by simp [cellsB]
       refine AW.via inv (ok 3003) ?_ ?_
       · refine AW.seq ?_
         apply AW.list
         apply Wk.fad 0 0 false fd47_0 rfl (lt_of_ble rfl)
         apply Wk.ld (i := 3) 1 false ty3 rfl rfl (by conv => lhs; whnf) (lt_of_ble rfl)
         apply Wk.bin rfl rfl (fun w => by simp [go_sem] <;> rfl) (lt_of_ble rfl)
         refine Wk.nil ?_
         refine AW.cond rfl (fun hc => ?_) (fun hc => AW.skip (thenA_normal ?_))
         · apply AW.draw (hm := hmix) (cs := _)
           · apply Wk.fad 2 0 false fd47_2 rfl (lt_of_ble rfl)
             apply Wk.ld (i := 3) 1 false ty22 rfl rfl (by conv => lhs; whnf) (lt_of_ble rfl)
             apply Wk.leno (i := 7) un22 rfl rfl (lt_of_ble rfl)
             apply Wk.addi rfl rfl (by omega) (lt_of_ble rfl)
             apply Wk.mv (by conv => lhs; whnf) (lt_of_ble rfl)
             apply Wk.fad 2 0 false fd47_2 rfl (lt_of_ble rfl)
             apply Wk.ld (i := 3) 1 false ty22 rfl rfl (by conv => lhs; whnf) (lt_of_ble rfl)
             apply Wk.leno (i := 7) un22 rfl rfl (lt_of_ble rfl)
             apply Wk.subi rfl rfl (by omega) (lt_of_ble rfl)
             apply Wk.drw 0 pick_ok Try.func65 rfl rfl rfl rfl ⟨_, rfl, by omega⟩ (by omega) rfl (lt_of_ble rfl)
             rintro r9 zs9 p9 ⟨k9, rfl, hk9⟩ hp9
             replace hk9 := hk9 _ rfl
             apply Wk.addi rfl rfl (by omega) (lt_of_ble rfl)
             apply Wk.fad 1 0 false fd47_1 rfl (lt_of_ble rfl)
             apply Wk.sto (i := 3) 1 false ty3 rfl rfl rfl rfl (Nat.le_of_ble_eq_true rfl) (lt_of_ble rfl)
             refine Wk.nil (thenA_normal ?_)
             refine ⟨(zs9, p9, ((cellsB bs4).length : Int) + 1 + (k9 : Int), q4, bs4), ⟨by simp only; omega, by simp only; omega, by simp only; omega, hb4⟩, fin _ _ _ _ _ _ rfl rfl rfl rfl rfl rfl rfl rfl⟩
           · rfl
           · rfl
         · exact ⟨(zs4, p4, l4, q4, bs4), ⟨by simp only; omega, hl3, hl4, hb4⟩, fin _ _ _ _ _ _ rfl rfl rfl rfl rfl rfl rfl rfl⟩
       · rintro ⟨zs5, p5, l5, q5, bs5⟩ ⟨hp5, hl5, hl6, hb5⟩
         simp only at hp5 hl5 hl6 hb5
         show AW Try.prog C _ _ (St.of 43 [(0, .ptr 0 0), (2, .ptr 2 0), (3, .ptr 3 0)] [(0, rdr zs5 p5), (2, .var [.d (.v (.int .i64 0)), .d (.v (.int .i64 0)), .d (.v (.slice none 0 0))]), (3, .var (partOA (k1 : Int) l5 q5)), (7, ownB q5 bs5)])
         refine AW.thawc (j := 3) (c := 2) (i := 7) (cellsD bs5) rfl rfl (by rfl) (asData_cells bs5) (hX.one (by decide) rfl) ?_
         refine AW.seq ?_
         apply AW.list
         apply Wk.ld (i := 3) 3 true ty47 rfl rfl (by conv => lhs; whnf) (lt_of_ble rfl)
         apply Wk.sto (i := 2) 3 true ty47 rfl rfl rfl rfl (Nat.le_of_ble_eq_true rfl) (lt_of_ble rfl)
         refine Wk.nil (AW.ret ?_)
         exact RetQ.ret [(0, rdr zs5 p5)] (.cons ⟨2, 0, _, _, _, rfl, rfl, ty47, rfl⟩ .nil) ⟨⟨(k1 : Int), l5, bs5, rfl, by omega, by omega, by omega⟩, _, _, rfl, by omega⟩ (kept1 rfl)
 · rintro rest rfl; rfl
 · rintro rest _; exact ⟨_, 0, 0, [], rfl, by simp⟩
 · rintro rest r ⟨sg, ln, bs, rfl, _⟩; rfl
end Go.Proofs.Ytdojkmjamilllaa
