/- The law of CrdSend and its grant, promise 80, returns true at every code. Written by tools/mk_WFnCrdLimit.py. -/
import Derived.Test.YthnlpdjjnfkmeaaDoorMa
import Derived.Test.YthnlpdjjnfkmeaaDoorMb
import Derived.Test.YthnlpdjjnfkmeaaDoorMc
import Derived.Test.YthnlpdjjnfkmeaaDoorMd
import Derived.Test.YthnlpdjjnfkmeaaDoorMe
import Derived.Test.YthnlpdjjnfkmeaaDoorMf
import Derived.RowKit3
namespace Go.Proofs.YthnlpdjjnfkmeaaDoor
open Go Go.RowKit
theorem CX.wide.fewL {x : CX} (h : x.wide) : x.few := ⟨by have := h.2.1.1; omega, fun d hd => by have := (h.2.1.2 d hd).2; omega⟩
theorem crdOk_sentL {o : Opt} {v : Int} {e : Dat} {qs : List Dat} {g s : Int} (h : crdOkB o ⟨v, e :: qs, g, s, false⟩ = true) (hv : ¬ v = 0) (hs : ¬ s = 9999) : crdOkB o ⟨v - 1, qs, g, s + 1, false⟩ = true := by
  simp only [crdOkB, Bool.and_eq_true, decide_eq_true_eq, List.all_eq_true, inB_iff, List.length_cons] at h ⊢
  obtain ⟨h1, h2, h3, h4, h5, h6, h7⟩ := h
  exact ⟨h1, by omega, by omega, by omega, by omega, by omega, fun d hd => h7 d (List.mem_cons_of_mem _ hd)⟩
/-- Who has sent k pieces of what it had. -/
def Gone (o : Opt) (v : Int) (qu : List Dat) (s : Int) (z : CX) (k : Nat) : Prop := crdOkB o z = true ∧ z.few ∧ z.d = false ∧ z.qu.length + k = qu.length ∧ z.v + (k : Int) = v ∧ s + (k : Int) = z.s
set_option maxHeartbeats 8000000 in
set_option maxRecDepth 100000 in
theorem lawCrdLimit_ok (zs : List (Fin 256)) {V : List (Nat × Value)} {a : Addr} (h0 : (0, errV a) ∈ V) : DataV Tryd.prog V 4 [.d (bytesD (zs.map (·.val)))] (.d (.v (.bool true))) := by
  refine DataV.intro (n := 71) (rv := [.tmp 2]) Tryd.func4 rfl rfl rfl (by simp) fun C hV hN hX => ?_
  refine AW.seq ?_
  apply AW.list
  apply Wk.asg (by conv => lhs; whnf) (lt_of_ble rfl)
  refine Wk.nil ?_
  refine AW.seq (AW.seq ?_)
  apply AW.list
  apply Wk.mv (by conv => lhs; whnf) (lt_of_ble rfl)
  apply Wk.len un22 rfl (lt_of_ble rfl)
  apply Wk.bin rfl rfl (fun w => by simp [go_sem] <;> rfl) (lt_of_ble rfl)
  refine Wk.nil ?_
  refine AW.cond rfl (fun hc => ?_) (fun hc => ?_)
  · refine AW.seq ?_
    apply AW.list
    apply Wk.asg (by conv => lhs; whnf) (lt_of_ble rfl)
    refine Wk.nil (AW.ret ?_)
    refine thenA_ret ?_
    exact RetQ.ret [] (.cons rfl .nil) ⟨rfl, rfl⟩ none_kept
  refine AW.skip (thenA_normal ?_)
  refine AW.seq ?_
  apply AW.list
  apply Wk.mv (by conv => lhs; whnf) (lt_of_ble rfl)
  apply Wk.datw (drawCrdTxOk_ok zs) Tryd.func16 rfl rfl rfl rfl (lt_of_ble rfl)
  rintro _ ⟨m, w, p, u, y, x, rfl, hx⟩
  apply Wk.mv (by conv => lhs; whnf) (lt_of_ble rfl)
  apply Wk.ext rfl rfl (lt_of_ble rfl)
  apply Wk.ext rfl rfl (lt_of_ble rfl)
  apply Wk.alc 3 [.int .i64 0, .int .i64 0, .int .i64 0, .int .i64 0, .int .i64 0] ze35 rfl rfl (lt_of_ble rfl)
  apply Wk.alc 4 [.int .i64 0, .slice none 0 0, .int .i64 0, .int .i64 0, .bool false] ze38 rfl rfl (lt_of_ble rfl)
  apply Wk.sto (i := 3) 5 true ty35 rfl rfl rfl rfl (Nat.le_of_ble_eq_true rfl) (lt_of_ble rfl)
  apply Wk.sto (i := 4) 5 true ty38 rfl rfl rfl rfl (Nat.le_of_ble_eq_true rfl) (lt_of_ble rfl)
  refine Wk.nil ?_
  cases hok : crdOkB ⟨m, w, p, u, y⟩ x
  · skip
    refine AW.seq (AW.seq ?_)
    apply AW.list
    apply Wk.ld (i := 3) 5 true ty35 rfl rfl (by conv => lhs; whnf) (lt_of_ble rfl)
    apply Wk.ld (i := 4) 5 true ty38 rfl rfl (by conv => lhs; whnf) (lt_of_ble rfl)
    apply Wk.dat (scxb hok) Tryd.func17 rfl rfl rfl rfl rfl (lt_of_ble rfl)
    apply Wk.un rfl (fun w => by simp [go_sem] <;> rfl) (lt_of_ble rfl)
    apply Wk.mv (by conv => lhs; whnf) (lt_of_ble rfl)
    apply Wk.goff 23 (ok_faddr fd38_4) rfl rfl (by simp)
    apply Wk.goff 23 (ok_load 4 ty4) rfl rfl (by simp)
    apply Wk.pckT rfl (by conv => lhs; whnf) (lt_of_ble rfl)
    refine Wk.nil ?_
    refine AW.cond rfl (fun _ => ?_) (fun hc => by cases hc)
    refine AW.seq ?_
    apply AW.draw (hm := hmix) (cs := _)
    · apply Wk.ld (i := 3) 5 true ty35 rfl rfl (by conv => lhs; whnf) (lt_of_ble rfl)
      apply Wk.ld (i := 4) 5 true ty38 rfl rfl (by conv => lhs; whnf) (lt_of_ble rfl)
      apply Wk.dat (icxb hok) Tryd.func18 rfl rfl rfl rfl rfl (lt_of_ble rfl)
      apply Wk.ld (i := 3) 5 true ty35 rfl rfl (by conv => lhs; whnf) (lt_of_ble rfl)
      apply Wk.ld (i := 4) 5 true ty38 rfl rfl (by conv => lhs; whnf) (lt_of_ble rfl)
      apply Wk.dat (scxb hok) Tryd.func17 rfl rfl rfl rfl rfl (lt_of_ble rfl)
      apply Wk.bin rfl rfl (r := .bool true) (fun w => by simp [go_sem]) (lt_of_ble rfl)
      apply Wk.mv (by conv => lhs; whnf) (lt_of_ble rfl)
      apply Wk.gon 34 rfl rfl
      apply Wk.dat liok_ok Tryd.func15 rfl rfl rfl rfl rfl (lt_of_ble rfl)
      apply Wk.pckT rfl (by conv => lhs; whnf) (lt_of_ble rfl)
      apply Wk.asg (by conv => lhs; whnf) (lt_of_ble rfl)
      refine Wk.nil (AW.ret ?_)
      repeat (first | refine thenA_ret ?_ | refine inBlockA_ret ?_)
      exact RetQ.ret [] (.cons rfl .nil) ⟨rfl, rfl⟩ none_kept
    · rfl
    · rfl
  have hxf := hx.fewL
  have f := crdOk_facts hok
  obtain ⟨v, qu, g, s, d⟩ := x
  simp only at f
  cases d
  rotate_left
  · skip
    refine AW.seq (AW.seq ?_)
    apply AW.list
    apply Wk.ld (i := 3) 5 true ty35 rfl rfl (by conv => lhs; whnf) (lt_of_ble rfl)
    apply Wk.ld (i := 4) 5 true ty38 rfl rfl (by conv => lhs; whnf) (lt_of_ble rfl)
    apply Wk.dat (scxb hok) Tryd.func17 rfl rfl rfl rfl rfl (lt_of_ble rfl)
    apply Wk.un rfl (fun w => by simp [go_sem] <;> rfl) (lt_of_ble rfl)
    apply Wk.mv (by conv => lhs; whnf) (lt_of_ble rfl)
    apply Wk.gon 23 rfl rfl
    apply Wk.fad 4 0 false fd38_4 rfl (lt_of_ble rfl)
    apply Wk.gon 23 rfl rfl
    apply Wk.ld (i := 4) 1 false ty4 rfl rfl (by conv => lhs; whnf) (lt_of_ble rfl)
    apply Wk.pckF rfl (by conv => lhs; whnf) (lt_of_ble rfl)
    refine Wk.nil ?_
    refine AW.cond rfl (fun _ => ?_) (fun hc => by cases hc)
    refine AW.seq ?_
    apply AW.draw (hm := hmix) (cs := _)
    · apply Wk.ld (i := 3) 5 true ty35 rfl rfl (by conv => lhs; whnf) (lt_of_ble rfl)
      apply Wk.ld (i := 4) 5 true ty38 rfl rfl (by conv => lhs; whnf) (lt_of_ble rfl)
      apply Wk.dat (icxb hok) Tryd.func18 rfl rfl rfl rfl rfl (lt_of_ble rfl)
      apply Wk.ld (i := 3) 5 true ty35 rfl rfl (by conv => lhs; whnf) (lt_of_ble rfl)
      apply Wk.ld (i := 4) 5 true ty38 rfl rfl (by conv => lhs; whnf) (lt_of_ble rfl)
      apply Wk.dat (scxb hok) Tryd.func17 rfl rfl rfl rfl rfl (lt_of_ble rfl)
      apply Wk.bin rfl rfl (r := .bool true) (fun w => by simp [go_sem]) (lt_of_ble rfl)
      apply Wk.mv (by conv => lhs; whnf) (lt_of_ble rfl)
      apply Wk.gon 34 rfl rfl
      apply Wk.dat liok_ok Tryd.func15 rfl rfl rfl rfl rfl (lt_of_ble rfl)
      apply Wk.pckT rfl (by conv => lhs; whnf) (lt_of_ble rfl)
      apply Wk.asg (by conv => lhs; whnf) (lt_of_ble rfl)
      refine Wk.nil (AW.ret ?_)
      repeat (first | refine thenA_ret ?_ | refine inBlockA_ret ?_)
      exact RetQ.ret [] (.cons rfl .nil) ⟨rfl, rfl⟩ none_kept
    · rfl
    · rfl
  refine AW.seq (AW.seq ?_)
  apply AW.list
  apply Wk.ld (i := 3) 5 true ty35 rfl rfl (by conv => lhs; whnf) (lt_of_ble rfl)
  apply Wk.ld (i := 4) 5 true ty38 rfl rfl (by conv => lhs; whnf) (lt_of_ble rfl)
  apply Wk.dat (scxb hok) Tryd.func17 rfl rfl rfl rfl rfl (lt_of_ble rfl)
  apply Wk.un rfl (fun w => by simp [go_sem] <;> rfl) (lt_of_ble rfl)
  apply Wk.mv (by conv => lhs; whnf) (lt_of_ble rfl)
  apply Wk.gon 23 rfl rfl
  apply Wk.fad 4 0 false fd38_4 rfl (lt_of_ble rfl)
  apply Wk.gon 23 rfl rfl
  apply Wk.ld (i := 4) 1 false ty4 rfl rfl (by conv => lhs; whnf) (lt_of_ble rfl)
  apply Wk.pckF rfl (by conv => lhs; whnf) (lt_of_ble rfl)
  refine Wk.nil ?_
  refine AW.cond rfl (fun hc => by cases hc) (fun _ => AW.skip (thenA_normal ?_))
  have hv0 := f.2.1
  have hg0 := f.2.2.2.1
  have hs0 := f.2.2.2.2.1
  have hgs := f.2.2.2.2.2.1
  have e3 : (((qu.map datD).length : Nat) : Int) = (qu.length : Int) := by rw [List.length_map]
  refine AW.seq ?_
  apply AW.list
  apply Wk.asg (by conv => lhs; whnf) (lt_of_ble rfl)
  refine Wk.nil ?_
  refine AW.seq ?_
  apply AW.list
  apply Wk.ld (i := 4) 5 true ty38 rfl rfl (by conv => lhs; whnf) (lt_of_ble rfl)
  apply Wk.alc 6 [.int .i64 0, .slice none 0 0, .int .i64 0, .int .i64 0, .bool false] ze38 rfl rfl (lt_of_ble rfl)
  apply Wk.sto (i := 6) 5 true ty38 rfl rfl rfl rfl (Nat.le_of_ble_eq_true rfl) (lt_of_ble rfl)
  refine Wk.nil ?_
  refine AW.seq (AW.seq ?_)
  apply AW.list
  apply Wk.asg (by conv => lhs; whnf) (lt_of_ble rfl)
  refine Wk.nil (AW.block ?_)
  let inv : Nat × CX → St := fun z => St.of 71 [(3, .ptr 3 0), (4, .ptr 4 0), (5, .d (.v (.int .i64 (z.1 : Int)))), (6, .ptr 6 0), (7, .d (.v (.int .i64 (z.1 : Int))))] [(3, .var (cfgC m w p u y)), (4, .var (cxC ⟨v, qu, g, s, false⟩)), (6, .var (cxC z.2))]
  have fin : ∀ (k : Nat) (z : CX) (σ : St), σ.n = 71 → σ.t 3 = .ptr 3 0 → σ.t 4 = .ptr 4 0 → σ.t 5 = .d (.v (.int .i64 (k : Int))) → σ.t 6 = .ptr 6 0 → σ.t 7 = .d (.v (.int .i64 (k : Int))) → σ.b 3 = .var (cfgC m w p u y) → σ.b 4 = .var (cxC ⟨v, qu, g, s, false⟩) → σ.b 6 = .var (cxC z) →
      ∀ a w, Rel C σ a w → Rel C (inv (k, z)) a w := fun k z σ h0 h1 h2 h3 h4 h5 h6 h7 h8 a w => Rel.keep ⟨h0.symm, .cons h1 rfl (.cons h2 rfl (.cons h3 rfl (.cons h4 rfl (.cons h5 rfl .nil)))), .cons h6 rfl (.cons h7 rfl (.cons h8 rfl .nil)), hN.mono (by simp [keys])⟩
  refine AW.loop inv (fun z => Gone ⟨m, w, p, u, y⟩ v qu s z.2 z.1) (fun z => 257 - z.1) (0, ⟨v, qu, g, s, false⟩) ⟨hok, hxf, rfl, rfl, by simp, by simp⟩ (fin 0 ⟨v, qu, g, s, false⟩ _ rfl rfl rfl rfl rfl rfl rfl rfl rfl) ?_
  rintro ⟨k, ⟨v', qu', g', s', d'⟩⟩ ⟨g1, g2, g3, g4, g5, g6⟩
  simp only at g1 g2 g3 g4 g5 g6
  subst g3
  have gf := crdOk_facts g1
  simp only at gf
  have gv := gf.2.1
  show AW Tryd.prog C _ _ (St.of 71 [(3, .ptr 3 0), (4, .ptr 4 0), (5, .d (.v (.int .i64 (k : Int)))), (6, .ptr 6 0), (7, .d (.v (.int .i64 (k : Int))))] [(3, .var (cfgC m w p u y)), (4, .var (cxC ⟨v, qu, g, s, false⟩)), (6, .var (cxC ⟨v', qu', g', s', false⟩))])
  refine AW.seq (AW.seq ?_)
  apply AW.list
  apply Wk.mv (by conv => lhs; whnf) (lt_of_ble rfl)
  apply Wk.bin rfl rfl (r := .bool true) (fun w => by simp [go_sem] <;> omega) (lt_of_ble rfl)
  refine Wk.nil ?_
  refine AW.cond rfl (fun _ => AW.skip ?_) (fun hc => by cases hc)
  repeat (first | refine thenA_normal ?_ | refine inBlockA_normal ?_)
  refine AW.seq (AW.block (AW.seq ?_))
  by_cases hi : idleC ⟨v', qu', g', s', false⟩
  · have ci := icsendIdle m w p u y ⟨v', qu', g', s', false⟩ g1 g2 hi h0
    apply AW.list
    apply Wk.ld (i := 3) 5 true ty35 rfl rfl (by conv => lhs; whnf) (lt_of_ble rfl)
    apply Wk.ld (i := 6) 5 true ty38 rfl rfl (by conv => lhs; whnf) (lt_of_ble rfl)
    apply Wk.dav ci hX hV Tryd.func19 rfl rfl rfl rfl rfl (lt_of_ble rfl)
    apply Wk.mv (by conv => lhs; whnf) (lt_of_ble rfl)
    apply Wk.ext rfl rfl (lt_of_ble rfl)
    apply Wk.ext rfl rfl (lt_of_ble rfl)
    apply Wk.ext rfl rfl (lt_of_ble rfl)
    apply Wk.alc 8 [.int .i64 0, .slice none 0 0, .int .i64 0, .int .i64 0, .bool false] ze38 rfl rfl (lt_of_ble rfl)
    apply Wk.alc 9 [.int .i64 0, .int .i64 0, .int .i64 0, .bool false, .bool false, .int .i64 0, .int .i64 0, .int .i64 0, .slice none 0 0] ze24 rfl rfl (lt_of_ble rfl)
    apply Wk.sto (i := 8) 5 true ty38 rfl rfl rfl rfl (Nat.le_of_ble_eq_true rfl) (lt_of_ble rfl)
    apply Wk.sto (i := 9) 9 true ty24 rfl rfl rfl rfl (Nat.le_of_ble_eq_true rfl) (lt_of_ble rfl)
    apply Wk.asg (by conv => lhs; whnf) (lt_of_ble rfl)
    refine Wk.nil ?_
    refine AW.seq (AW.seq ?_)
    apply AW.list
    apply Wk.mv (by conv => lhs; whnf) (lt_of_ble rfl)
    apply Wk.un rfl (fun w => by simp [go_sem] <;> rfl) (lt_of_ble rfl)
    refine Wk.nil ?_
    refine AW.cond rfl (fun _ => AW.exit ?_) (fun hc => by cases hc)
    repeat (first | refine thenA_exit ?_ | refine inBlockA_other (by decide) ?_ | refine inBlockA_same ?_)
    repeat (first | refine thenA_normal ?_ | refine inBlockA_normal ?_)
    obtain ⟨M1, hM1⟩ : ∃ M1 : Int, min (((qu.map datD).length : Nat) : Int) (9999 - s) = M1 := ⟨_, rfl⟩
    obtain ⟨M2, hM2⟩ : ∃ M2 : Int, min v M1 = M2 := ⟨_, rfl⟩
    have key : (k : Int) = M2 := by
      rw [← hM2, ← hM1, e3]
      simp only [idleC, Bool.false_eq_true, false_or] at hi
      rcases hi with hi | hi | hi
      · omega
      · rw [hi] at g4; simp only [List.length_nil] at g4; omega
      · omega
    refine AW.seq ?_
    apply AW.list
    apply Wk.mv (by conv => lhs; whnf) (lt_of_ble rfl)
    apply Wk.fad 0 0 false fd38_0 rfl (lt_of_ble rfl)
    apply Wk.ld (i := 4) 1 false ty3 rfl rfl (by conv => lhs; whnf) (lt_of_ble rfl)
    apply Wk.fad 1 0 false fd38_1 rfl (lt_of_ble rfl)
    apply Wk.ld (i := 4) 1 false ty36 rfl rfl (by conv => lhs; whnf) (lt_of_ble rfl)
    apply Wk.len un36 rfl (lt_of_ble rfl)
    apply Wk.fad 3 0 false fd38_3 rfl (lt_of_ble rfl)
    apply Wk.ld (i := 4) 1 false ty3 rfl rfl (by conv => lhs; whnf) (lt_of_ble rfl)
    apply Wk.subi rfl rfl (by dsimp only; omega) (lt_of_ble rfl)
    apply Wk.min2 rfl rfl (r := M1) (by dsimp only; rw [← hM1, Int.min_def]; split <;> split <;> omega) (lt_of_ble rfl)
    apply Wk.min2 rfl rfl (r := M2) (by dsimp only; rw [← hM2, Int.min_def]; split <;> split <;> omega) (lt_of_ble rfl)
    apply Wk.bin rfl rfl (r := .bool true) (fun w => by rw [key]; simp [go_sem]) (lt_of_ble rfl)
    apply Wk.mv (by conv => lhs; whnf) (lt_of_ble rfl)
    apply Wk.gon 66 rfl rfl
    apply Wk.ld (i := 3) 5 true ty35 rfl rfl (by conv => lhs; whnf) (lt_of_ble rfl)
    apply Wk.gon 66 rfl rfl
    apply Wk.ld (i := 6) 5 true ty38 rfl rfl (by conv => lhs; whnf) (lt_of_ble rfl)
    apply Wk.gon 66 rfl rfl
    apply Wk.dat (icxb g1) Tryd.func18 rfl rfl rfl rfl rfl (lt_of_ble rfl)
    apply Wk.pckT rfl (by conv => lhs; whnf) (lt_of_ble rfl)
    apply Wk.asg (by conv => lhs; whnf) (lt_of_ble rfl)
    refine Wk.nil (AW.ret ?_)
    repeat (first | refine thenA_ret ?_ | refine inBlockA_ret ?_)
    exact RetQ.ret [] (.cons rfl .nil) ⟨rfl, rfl⟩ none_kept
  · simp only [idleC, not_or, Bool.not_eq_true] at hi
    obtain ⟨_, c1, c2, c3⟩ := hi
    obtain ⟨e, qs, rfl⟩ : ∃ e qs, qu' = e :: qs := by
      cases qu' with
      | nil => exact absurd rfl c2
      | cons e qs => exact ⟨e, qs, rfl⟩
    simp only [List.length_cons] at g4
    have ci := icsendOn m w p u y v' (e :: qs) g' s' e qs rfl g1 g2 (by omega) h0
    have hin : Gone ⟨m, w, p, u, y⟩ v qu s ⟨v' - 1, qs, g', s' + 1, false⟩ (k + 1) := by
      refine ⟨crdOk_sentL g1 c1 c3, ⟨?_, fun d hd => g2.2 d (List.mem_cons_of_mem _ hd)⟩, rfl, ?_, ?_, ?_⟩
      · have h9 := g2.1; simp only [List.length_cons] at h9; simp only; omega
      · simp only; omega
      · simp only; omega
      · simp only; omega
    apply AW.list
    apply Wk.ld (i := 3) 5 true ty35 rfl rfl (by conv => lhs; whnf) (lt_of_ble rfl)
    apply Wk.ld (i := 6) 5 true ty38 rfl rfl (by conv => lhs; whnf) (lt_of_ble rfl)
    apply Wk.dav ci hX hV Tryd.func19 rfl rfl rfl rfl rfl (lt_of_ble rfl)
    apply Wk.mv (by conv => lhs; whnf) (lt_of_ble rfl)
    apply Wk.ext rfl rfl (lt_of_ble rfl)
    apply Wk.ext rfl rfl (lt_of_ble rfl)
    apply Wk.ext rfl rfl (lt_of_ble rfl)
    apply Wk.alc 8 [.int .i64 0, .slice none 0 0, .int .i64 0, .int .i64 0, .bool false] ze38 rfl rfl (lt_of_ble rfl)
    apply Wk.alc 9 [.int .i64 0, .int .i64 0, .int .i64 0, .bool false, .bool false, .int .i64 0, .int .i64 0, .int .i64 0, .slice none 0 0] ze24 rfl rfl (lt_of_ble rfl)
    apply Wk.sto (i := 8) 5 true ty38 rfl rfl rfl rfl (Nat.le_of_ble_eq_true rfl) (lt_of_ble rfl)
    apply Wk.sto (i := 9) 9 true ty24 rfl rfl rfl rfl (Nat.le_of_ble_eq_true rfl) (lt_of_ble rfl)
    apply Wk.asg (by conv => lhs; whnf) (lt_of_ble rfl)
    refine Wk.nil ?_
    refine AW.seq (AW.seq ?_)
    apply AW.list
    apply Wk.mv (by conv => lhs; whnf) (lt_of_ble rfl)
    apply Wk.un rfl (fun w => by simp [go_sem] <;> rfl) (lt_of_ble rfl)
    refine Wk.nil ?_
    refine AW.cond rfl (fun hc => by cases hc) (fun _ => AW.skip (thenA_normal ?_))
    refine AW.seq ?_
    apply AW.list
    apply Wk.mv (by conv => lhs; whnf) (lt_of_ble rfl)
    apply Wk.addn (b := 1) rfl rfl (by omega) (lt_of_ble rfl)
    apply Wk.asg (by conv => lhs; whnf) (lt_of_ble rfl)
    refine Wk.nil ?_
    apply AW.list
    apply Wk.ld (i := 8) 5 true ty38 rfl rfl (by conv => lhs; whnf) (lt_of_ble rfl)
    apply Wk.sto (i := 6) 5 true ty38 rfl rfl rfl rfl (Nat.le_of_ble_eq_true rfl) (lt_of_ble rfl)
    refine Wk.nil ?_
    repeat (first | refine thenA_normal ?_ | refine inBlockA_normal ?_)
    apply AW.list
    apply Wk.mv (by conv => lhs; whnf) (lt_of_ble rfl)
    apply Wk.addn (b := 1) rfl rfl (by omega) (lt_of_ble rfl)
    apply Wk.asg (by conv => lhs; whnf) (lt_of_ble rfl)
    refine Wk.nil ?_
    repeat (first | refine thenA_normal ?_ | refine inBlockA_normal ?_)
    exact ⟨(k + 1, ⟨v' - 1, qs, g', s' + 1, false⟩), hin, by simp only; omega, fin (k + 1) ⟨v' - 1, qs, g', s' + 1, false⟩ _ rfl rfl rfl rfl rfl rfl rfl rfl rfl⟩
namespace fnCrdLimit
set_option maxRecDepth 100000 in
theorem walk (a0 : Option Addr) (len0 cap0 : Nat) (z0 : List Int) (w : World) (w0 : IsRow .u8 w a0 len0 cap0 z0) (a10 : Addr) (hE : VarsIn [(0, errV a10)] w) :
    Calls Tryd.prog 4 #[.slice a0 len0 cap0] w fun e w' => e = .returned (.bool true) ∧ Below w.heap.size w w' := by
  by_cases hs0 : (1048576 : Int) < (len0 : Int)
  · go_enter Tryd.func4, Tryd.ntmps4
    go_wp2
    go_ret
    exact ⟨rfl, Below.refl _ _⟩
  obtain ⟨cz, hR0, _⟩ := w0.rd (by omega)
  obtain ⟨zs, rfl⟩ := byt_fin hR0.1
  exact (lawCrdLimit_ok zs (V := [(0, errV a10)]) (show (0, errV a10) ∈ ([(0, errV a10)] : List (Nat × Value)) by simp)).run hE hR0
end fnCrdLimit
end Go.Proofs.YthnlpdjjnfkmeaaDoor
