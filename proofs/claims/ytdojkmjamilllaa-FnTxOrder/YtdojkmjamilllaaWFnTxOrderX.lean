/- The law of TxSend (in order), promise 75, returns true at every code. Written by tools/mk_WFnTxOrder.py. -/
import Derived.Test.YtdojkmjamilllaaMa
import Derived.Test.YtdojkmjamilllaaMb
import Derived.Test.YtdojkmjamilllaaMc
import Derived.Test.YtdojkmjamilllaaMd
import Derived.Test.YtdojkmjamilllaaMe
import Derived.Test.YtdojkmjamilllaaMf
import Derived.Test.YtdojkmjamilllaaMg
import Derived.Test.YtdojkmjamilllaaMh
import Derived.RowKit3
namespace Go.Proofs.Ytdojkmjamilllaa
open Go Go.RowKit
theorem txOk_on {o : Opt} {n a : Int} {fl : List Dat} {i : Nat} {qu : List Dat} {t c : Int} (h : txOkB o ⟨n, a, fl, (i : Int), qu, false, t, false, c, false⟩ = true) (hi : i < fl.length) : txOkB o ⟨n, a, fl, (i : Int) + 1, qu, false, t, false, c, false⟩ = true := by
  simp only [txOkB, Bool.and_eq_true, decide_eq_true_eq, List.all_eq_true, inB_iff] at h ⊢
  obtain ⟨h1, h2, h3, h4, h5, h6, h7⟩ := h
  exact ⟨h1, h2, h3, h4, h5, by omega, h7⟩
theorem txOk_new {o : Opt} {n a : Int} {fl : List Dat} {e : Dat} {qs : List Dat} {t c : Int} (h : txOkB o ⟨n, a, fl, (fl.length : Int), e :: qs, false, t, false, c, false⟩ = true) (hw : ¬ (fl.length : Int) = o.win) : txOkB o ⟨(n + 1) % 8, a, fl ++ [e], (fl.length : Int) + 1, qs, false, t, false, c, false⟩ = true := by
  have hn := txOk_next h
  have h4 := (txOk_four h).1
  have f := (txOk_facts h).2.1
  simp only at hn h4
  simp only [txOkB, Bool.and_eq_true, decide_eq_true_eq, List.all_eq_true, inB_iff, List.length_cons] at h ⊢
  obtain ⟨h1, h2, h3, h5, h6, h7, h8, h9, h10, h11, h12, h13⟩ := h
  have el : ((fl ++ [e]).length : Int) = (fl.length : Int) + 1 := by simp
  refine ⟨h1, by omega, h3, by rw [el]; omega, by rw [farF_in (by omega) (by omega), el]; omega, by rw [el]; omega, by omega, h9, h10, h11, fun d hd => ?_, fun d hd => h13 d (List.mem_cons_of_mem _ hd)⟩
  rcases List.mem_append.1 hd with hd | hd
  · exact h12 d hd
  · rw [List.mem_singleton.1 hd]; exact h13 e List.mem_cons_self
/-- Who has sent as long as it may: what stands, turn for turn. -/
def InOrder (o : Opt) (x z : TX) (k : Nat) : Prop := txOkB o z = true ∧ z.fl ++ z.qu = x.fl ++ x.qu ∧ z.a = x.a ∧ z.c = x.c ∧ z.q = x.q ∧ z.h = x.h ∧ z.d = x.d ∧ (z.fl.length : Int) = max (x.fl.length : Int) z.s ∧ x.s + (k : Int) = z.s
set_option maxHeartbeats 8000000 in
set_option maxRecDepth 100000 in
theorem lawTxOrder_ok (zs : List (Fin 256)) : DataOk Try.prog 8 [.d (bytesD (zs.map (·.val)))] (.d (.v (.bool true))) := by
  refine Spec.intro (n := 123) (rv := [.tmp 2]) Try.func8 rfl rfl rfl (by simp) fun C hN hX => ?_
  refine AW.seq ?_
  apply AW.list
  apply Wk.asg (by conv => lhs; whnf) (lt_of_ble rfl)
  refine Wk.nil ?_
  refine AW.seq (AW.seq ?_)
  apply AW.list
  apply Wk.mv (by conv => lhs; whnf) (lt_of_ble rfl)
  apply Wk.len un22 rfl (lt_of_ble rfl)
  apply Wk.bin rfl rfl (fun w => by simp [go_sem] <;> rfl) (lt_of_ble rfl)
  refine Wk.nil ?_
  refine AW.cond rfl (fun hc => ?_) (fun hc => ?_)
  · refine AW.seq ?_
    apply AW.list
    apply Wk.asg (by conv => lhs; whnf) (lt_of_ble rfl)
    refine Wk.nil (AW.ret ?_)
    refine thenA_ret ?_
    exact RetQ.ret [] (.cons rfl .nil) ⟨rfl, rfl⟩ none_kept
  refine AW.skip (thenA_normal ?_)
  refine AW.seq ?_
  apply AW.list
  apply Wk.mv (by conv => lhs; whnf) (lt_of_ble rfl)
  apply Wk.datw (drawTxSend_ok zs) Try.func23 rfl rfl rfl rfl (lt_of_ble rfl)
  rintro _ ⟨m, w, p, u, y, x, ack, rfl, hx, _, _⟩
  apply Wk.mv (by conv => lhs; whnf) (lt_of_ble rfl)
  apply Wk.ext rfl rfl (lt_of_ble rfl)
  apply Wk.ext rfl rfl (lt_of_ble rfl)
  apply Wk.ext rfl rfl (lt_of_ble rfl)
  apply Wk.alc 3 [.int .i64 0, .int .i64 0, .int .i64 0, .int .i64 0, .int .i64 0] ze24 rfl rfl (lt_of_ble rfl)
  apply Wk.alc 4 [.int .i64 0, .int .i64 0, .slice none 0 0, .int .i64 0, .slice none 0 0, .bool false, .int .i64 0, .bool false, .int .i64 0, .bool false] ze27 rfl rfl (lt_of_ble rfl)
  apply Wk.sto (i := 3) 5 true ty24 rfl rfl rfl rfl (Nat.le_of_ble_eq_true rfl) (lt_of_ble rfl)
  apply Wk.sto (i := 4) 10 true ty27 rfl rfl rfl rfl (Nat.le_of_ble_eq_true rfl) (lt_of_ble rfl)
  apply Wk.asg (by conv => lhs; whnf) (lt_of_ble rfl)
  refine Wk.nil ?_
  refine AW.seq (AW.seq ?_)
  cases hok : txOkB ⟨m, w, p, u, y⟩ x
  · apply AW.list
    apply Wk.ld (i := 3) 5 true ty24 rfl rfl (by conv => lhs; whnf) (lt_of_ble rfl)
    apply Wk.ld (i := 4) 10 true ty27 rfl rfl (by conv => lhs; whnf) (lt_of_ble rfl)
    apply Wk.dat (stxb hok) Try.func18 rfl rfl rfl rfl rfl (lt_of_ble rfl)
    apply Wk.un rfl (fun w => by simp [go_sem] <;> rfl) (lt_of_ble rfl)
    refine Wk.nil ?_
    refine AW.cond rfl (fun _ => ?_) (fun hc => by cases hc)
    refine AW.seq ?_
    apply AW.list
    apply Wk.ld (i := 3) 5 true ty24 rfl rfl (by conv => lhs; whnf) (lt_of_ble rfl)
    apply Wk.ld (i := 4) 10 true ty27 rfl rfl (by conv => lhs; whnf) (lt_of_ble rfl)
    apply Wk.dat (itxb hok) Try.func17 rfl rfl rfl rfl rfl (lt_of_ble rfl)
    apply Wk.un rfl (fun w => by simp [go_sem] <;> rfl) (lt_of_ble rfl)
    apply Wk.mv (by conv => lhs; whnf) (lt_of_ble rfl)
    apply Wk.gon 30 rfl rfl
    apply Wk.dat liok_ok Try.func19 rfl rfl rfl rfl rfl (lt_of_ble rfl)
    apply Wk.pckT rfl (by conv => lhs; whnf) (lt_of_ble rfl)
    apply Wk.asg (by conv => lhs; whnf) (lt_of_ble rfl)
    refine Wk.nil (AW.ret ?_)
    repeat (first | refine thenA_ret ?_ | refine inBlockA_ret ?_)
    exact RetQ.ret [] (.cons rfl .nil) ⟨rfl, rfl⟩ none_kept
  apply AW.list
  apply Wk.ld (i := 3) 5 true ty24 rfl rfl (by conv => lhs; whnf) (lt_of_ble rfl)
  apply Wk.ld (i := 4) 10 true ty27 rfl rfl (by conv => lhs; whnf) (lt_of_ble rfl)
  apply Wk.dat (stxb hok) Try.func18 rfl rfl rfl rfl rfl (lt_of_ble rfl)
  apply Wk.un rfl (fun w => by simp [go_sem] <;> rfl) (lt_of_ble rfl)
  refine Wk.nil ?_
  refine AW.cond rfl (fun hc => by cases hc) (fun _ => AW.skip (thenA_normal ?_))
  have f := txOk_facts hok
  have h4 := txOk_four hok
  have hlw := f.2.2.2.2.2.2.2.1
  have hs0 := f.2.2.2.2.2.2.2.2.2.1
  have hc0 := f.2.2.2.2.2.2.2.2.2.2.2.2.1
  have hq := f.2.2.2.2.2.2.2.2.2.2.1
  have hw4 := f.2.1
  have hcw := hx.2.2.2.2.2.2
  obtain ⟨n, a, fl, s, qu, q, t, hh, c, d⟩ := x
  simp only at hlw hw4 hs0 hc0 hq hcw h4
  have hez : ∀ c ∈ piecesA fl, c.length = 3 := three_parts _
  have e1 : (((fl.map datD).length : Nat) : Int) = (fl.length : Int) := by rw [List.length_map]
  have e5 : (((piecesA (fl ++ qu)).length : Nat) : Int) = (fl.length : Int) + (qu.length : Int) := by simp [piecesA]
  refine AW.seq ?_
  apply AW.draw (hm := hmix) (cs := _)
  · apply Wk.lst 33 3 true [.int .i64 0, .int .i64 0, .slice none 0 0] un25 ty47 ze47 rfl rfl (by rfl) (by rfl) (by decide) (by decide) rfl rfl (all_len rfl) (lt_of_ble rfl)
    apply Wk.fad 2 0 false fd27_2 rfl (lt_of_ble rfl)
    apply Wk.ld (i := 4) 1 false ty25 rfl rfl (by conv => lhs; whnf) (lt_of_ble rfl)
    apply Wk.appOR 33 1000 3 un25 ap47 rfl rfl rfl (.inr rfl) (by decide) (datD_len _) (by simp) (by simp; omega) (lt_of_ble rfl)
    rw [show [] ++ (fl.map datD).map (·.map A.d) = piecesA fl by simp [piecesA]]
    apply Wk.fad 4 0 false fd27_4 rfl (lt_of_ble rfl)
    apply Wk.ld (i := 4) 1 false ty25 rfl rfl (by conv => lhs; whnf) (lt_of_ble rfl)
    apply Wk.appOR 33 1000 3 un25 ap47 rfl rfl rfl (.inr rfl) (by decide) (datD_len _) hez (by simp [piecesA]; omega) (lt_of_ble rfl)
    rw [show piecesA fl ++ (qu.map datD).map (·.map A.d) = piecesA (fl ++ qu) by simp [piecesA]]
    apply Wk.asg (by conv => lhs; whnf) (lt_of_ble rfl)
    refine Wk.nil ?_
    refine AW.seq ?_
    apply AW.list
    apply Wk.ld (i := 4) 10 true ty27 rfl rfl (by conv => lhs; whnf) (lt_of_ble rfl)
    apply Wk.alc 7 [.int .i64 0, .int .i64 0, .slice none 0 0, .int .i64 0, .slice none 0 0, .bool false, .int .i64 0, .bool false, .int .i64 0, .bool false] ze27 rfl rfl (lt_of_ble rfl)
    apply Wk.sto (i := 7) 10 true ty27 rfl rfl rfl rfl (Nat.le_of_ble_eq_true rfl) (lt_of_ble rfl)
    refine Wk.nil ?_
    refine AW.seq ?_
    apply AW.list
    apply Wk.fad 3 0 false fd27_3 rfl (lt_of_ble rfl)
    apply Wk.ld (i := 4) 1 false ty3 rfl rfl (by conv => lhs; whnf) (lt_of_ble rfl)
    apply Wk.asg (by conv => lhs; whnf) (lt_of_ble rfl)
    refine Wk.nil ?_
    refine AW.seq (AW.seq ?_)
    apply AW.list
    apply Wk.asg (by conv => lhs; whnf) (lt_of_ble rfl)
    refine Wk.nil (AW.block ?_)
    let inv : Nat × TX → St := fun z => St.of 123 [(3, .ptr 3 0), (4, .ptr 4 0), (6, .own 33 2), (7, .ptr 7 0), (8, .d (.v (.int .i64 z.2.s))), (9, .d (.v (.int .i64 (z.1 : Int))))] [(3, .var (cfgC m w p u y)), (4, .var (txC ⟨n, a, fl, s, qu, q, t, hh, c, d⟩)), (7, .var (txC z.2)), (33, .own 2 47 3 (piecesA (fl ++ qu)))]
    have fin : ∀ (k : Nat) (z : TX) (σ : St), σ.n = 123 → σ.t 3 = .ptr 3 0 → σ.t 4 = .ptr 4 0 → σ.t 6 = .own 33 2 → σ.t 7 = .ptr 7 0 → σ.t 8 = .d (.v (.int .i64 z.s)) → σ.t 9 = .d (.v (.int .i64 (k : Int))) → σ.b 3 = .var (cfgC m w p u y) → σ.b 4 = .var (txC ⟨n, a, fl, s, qu, q, t, hh, c, d⟩) → σ.b 7 = .var (txC z) → σ.b 33 = .own 2 47 3 (piecesA (fl ++ qu)) →
        ∀ a w, Rel C σ a w → Rel C (inv (k, z)) a w := fun k z σ h0 h1 h2 h3 h4 h5 h6 h7 h8 h9 h10 a w => Rel.keep ⟨h0.symm, .cons h1 rfl (.cons h2 rfl (.cons h3 rfl (.cons h4 rfl (.cons h5 rfl (.cons h6 rfl .nil))))), .cons h7 rfl (.cons h8 rfl (.cons h9 rfl (.cons h10 (by exact within_parts _) .nil))), hN.mono (by simp [keys])⟩
    refine AW.loop inv (fun z => InOrder ⟨m, w, p, u, y⟩ ⟨n, a, fl, s, qu, q, t, hh, c, d⟩ z.2 z.1) (fun z => 10 - z.1) (0, ⟨n, a, fl, s, qu, q, t, hh, c, d⟩) ⟨hok, rfl, rfl, rfl, rfl, rfl, rfl, by simp only; omega, by simp⟩ (fin 0 ⟨n, a, fl, s, qu, q, t, hh, c, d⟩ _ rfl rfl rfl rfl rfl rfl rfl rfl rfl rfl rfl) ?_
    rintro ⟨k, ⟨n', a', fl', s', qu', q', t', hh', c', d'⟩⟩ ⟨g1, g2, g3, g4, g5, g6, g7, g8, g9⟩
    simp only at g1 g2 g3 g4 g5 g6 g7 g8 g9
    have gf := txOk_facts g1
    have gn := txOk_next g1
    have glw := gf.2.2.2.2.2.2.2.1
    have gs := gf.2.2.2.2.2.2.2.2.2.1
    have gcm := gf.2.2.2.2.2.2.2.2.2.2.2.2.2.1
    simp only at glw gs gcm gn
    have gl : fl'.length + qu'.length = fl.length + qu.length := by rw [← List.length_append, g2, List.length_append]
    show AW Try.prog C _ _ (St.of 123 [(3, .ptr 3 0), (4, .ptr 4 0), (6, .own 33 2), (7, .ptr 7 0), (8, .d (.v (.int .i64 s'))), (9, .d (.v (.int .i64 (k : Int))))] [(3, .var (cfgC m w p u y)), (4, .var (txC ⟨n, a, fl, s, qu, q, t, hh, c, d⟩)), (7, .var (txC ⟨n', a', fl', s', qu', q', t', hh', c', d'⟩)), (33, .own 2 47 3 (piecesA (fl ++ qu)))])
    refine AW.seq (AW.seq ?_)
    apply AW.list
    apply Wk.mv (by conv => lhs; whnf) (lt_of_ble rfl)
    apply Wk.bin rfl rfl (r := .bool true) (fun w => by simp [go_sem] <;> omega) (lt_of_ble rfl)
    refine Wk.nil ?_
    refine AW.cond rfl (fun _ => AW.skip ?_) (fun hc => by cases hc)
    repeat (first | refine thenA_normal ?_ | refine inBlockA_normal ?_)
    refine AW.seq (AW.block (AW.seq ?_))
    by_cases hi : idleB w ⟨n', a', fl', s', qu', q', t', hh', c', d'⟩
    · have ci := (idle_both m w p u y n' a' fl' s' qu' q' t' hh' c' d' 0 g1 rfl hi (by omega)).1
      apply AW.list
      apply Wk.ld (i := 3) 5 true ty24 rfl rfl (by conv => lhs; whnf) (lt_of_ble rfl)
      apply Wk.ld (i := 7) 10 true ty27 rfl rfl (by conv => lhs; whnf) (lt_of_ble rfl)
      apply Wk.dat ci Try.func24 rfl rfl rfl rfl rfl (lt_of_ble rfl)
      apply Wk.mv (by conv => lhs; whnf) (lt_of_ble rfl)
      apply Wk.ext rfl rfl (lt_of_ble rfl)
      apply Wk.ext rfl rfl (lt_of_ble rfl)
      apply Wk.ext rfl rfl (lt_of_ble rfl)
      apply Wk.alc 10 [.int .i64 0, .int .i64 0, .slice none 0 0, .int .i64 0, .slice none 0 0, .bool false, .int .i64 0, .bool false, .int .i64 0, .bool false] ze27 rfl rfl (lt_of_ble rfl)
      apply Wk.alc 11 [.int .i64 0, .int .i64 0, .int .i64 0, .bool false, .bool false, .int .i64 0, .int .i64 0, .int .i64 0, .slice none 0 0] ze42 rfl rfl (lt_of_ble rfl)
      apply Wk.sto (i := 10) 10 true ty27 rfl rfl rfl rfl (Nat.le_of_ble_eq_true rfl) (lt_of_ble rfl)
      apply Wk.sto (i := 11) 9 true ty42 rfl rfl rfl rfl (Nat.le_of_ble_eq_true rfl) (lt_of_ble rfl)
      apply Wk.asg (by conv => lhs; whnf) (lt_of_ble rfl)
      refine Wk.nil ?_
      refine AW.seq (AW.seq ?_)
      apply AW.list
      apply Wk.mv (by conv => lhs; whnf) (lt_of_ble rfl)
      apply Wk.un rfl (fun w => by simp [go_sem] <;> rfl) (lt_of_ble rfl)
      refine Wk.nil ?_
      refine AW.cond rfl (fun _ => AW.exit ?_) (fun hc => by cases hc)
      repeat (first | refine thenA_exit ?_ | refine inBlockA_other (by decide) ?_ | refine inBlockA_same ?_)
      repeat (first | refine thenA_normal ?_ | refine inBlockA_normal ?_)
      refine AW.seq (AW.seq ?_)
      rcases hd : d with _ | _
      · rcases hqq : q with _ | _
        · rcases hhh : hh with _ | _
          · subst hd hqq hhh
            simp only [idleB, g5, g6, g7, Bool.false_eq_true, false_or] at hi
            obtain ⟨M, hM⟩ : ∃ M : Int, min ((((piecesA (fl ++ qu)).length : Nat) : Int)) w = M := ⟨_, rfl⟩
            have key : s' = max ((((fl.map datD).length : Nat) : Int)) M := by
              rw [← hM, e1, e5]
              obtain ⟨k1, k2⟩ := hi
              rcases k2 with k2 | k2 | k2
              · omega
              · rw [k2] at gl; simp only [List.length_nil] at gl; omega
              · omega
            apply AW.list
            apply Wk.fad 9 0 false fd27_9 rfl (lt_of_ble rfl)
            apply Wk.ld (i := 4) 1 false ty4 rfl rfl (by conv => lhs; whnf) (lt_of_ble rfl)
            apply Wk.mv (by conv => lhs; whnf) (lt_of_ble rfl)
            apply Wk.gon 90 rfl rfl
            apply Wk.fad 5 0 false fd27_5 rfl (lt_of_ble rfl)
            apply Wk.gon 90 rfl rfl
            apply Wk.ld (i := 4) 1 false ty4 rfl rfl (by conv => lhs; whnf) (lt_of_ble rfl)
            apply Wk.pckF rfl (by conv => lhs; whnf) (lt_of_ble rfl)
            apply Wk.mv (by conv => lhs; whnf) (lt_of_ble rfl)
            apply Wk.gon 94 rfl rfl
            apply Wk.fad 7 0 false fd27_7 rfl (lt_of_ble rfl)
            apply Wk.gon 94 rfl rfl
            apply Wk.ld (i := 4) 1 false ty4 rfl rfl (by conv => lhs; whnf) (lt_of_ble rfl)
            apply Wk.pckF rfl (by conv => lhs; whnf) (lt_of_ble rfl)
            apply Wk.mv (by conv => lhs; whnf) (lt_of_ble rfl)
            apply Wk.gon 98 rfl rfl
            apply Wk.fad 8 0 false fd27_8 rfl (lt_of_ble rfl)
            apply Wk.gon 98 rfl rfl
            apply Wk.ld (i := 4) 1 false ty3 rfl rfl (by conv => lhs; whnf) (lt_of_ble rfl)
            apply Wk.gon 98 rfl rfl
            apply Wk.fad 2 0 false fd27_2 rfl (lt_of_ble rfl)
            apply Wk.gon 98 rfl rfl
            apply Wk.ld (i := 4) 1 false ty25 rfl rfl (by conv => lhs; whnf) (lt_of_ble rfl)
            apply Wk.gon 98 rfl rfl
            apply Wk.len un25 rfl (lt_of_ble rfl)
            apply Wk.gon 98 rfl rfl
            apply Wk.addi rfl rfl (by rw [e1]; omega) (lt_of_ble rfl)
            apply Wk.gon 98 rfl rfl
            apply Wk.bin rfl rfl (r := .bool false) (fun w => by rw [e1]; simp [go_sem] <;> omega) (lt_of_ble rfl)
            apply Wk.pckF rfl (by conv => lhs; whnf) (lt_of_ble rfl)
            refine Wk.nil ?_
            refine AW.cond rfl (fun hc => by cases hc) (fun _ => AW.skip (thenA_normal ?_))
            refine AW.seq ?_
            apply AW.list
            apply Wk.mv (by conv => lhs; whnf) (lt_of_ble rfl)
            apply Wk.fad 2 0 false fd27_2 rfl (lt_of_ble rfl)
            apply Wk.ld (i := 4) 1 false ty25 rfl rfl (by conv => lhs; whnf) (lt_of_ble rfl)
            apply Wk.len un25 rfl (lt_of_ble rfl)
            apply Wk.mv (by conv => lhs; whnf) (lt_of_ble rfl)
            apply Wk.leno (i := 33) un25 rfl rfl (lt_of_ble rfl)
            apply Wk.fad 1 0 false fd24_1 rfl (lt_of_ble rfl)
            apply Wk.ld (i := 3) 1 false ty3 rfl rfl (by conv => lhs; whnf) (lt_of_ble rfl)
            apply Wk.min2 rfl rfl (r := M) (by rw [← hM, Int.min_def]; split <;> split <;> omega) (lt_of_ble rfl)
            apply Wk.max2 rfl rfl (r := max ((((fl.map datD).length : Nat) : Int)) M) (by (try dsimp only); rw [Int.max_def]; split <;> split <;> omega) (lt_of_ble rfl)
            apply Wk.bin rfl rfl (r := .bool true) (fun w => by rw [key]; simp [go_sem]) (lt_of_ble rfl)
            apply Wk.mv (by conv => lhs; whnf) (lt_of_ble rfl)
            apply Wk.gon 118 rfl rfl
            apply Wk.ld (i := 3) 5 true ty24 rfl rfl (by conv => lhs; whnf) (lt_of_ble rfl)
            apply Wk.gon 118 rfl rfl
            apply Wk.ld (i := 7) 10 true ty27 rfl rfl (by conv => lhs; whnf) (lt_of_ble rfl)
            apply Wk.gon 118 rfl rfl
            apply Wk.dat (itxb g1) Try.func17 rfl rfl rfl rfl rfl (lt_of_ble rfl)
            apply Wk.pckT rfl (by conv => lhs; whnf) (lt_of_ble rfl)
            apply Wk.asg (by conv => lhs; whnf) (lt_of_ble rfl)
            refine Wk.nil (AW.ret ?_)
            repeat (first | refine thenA_ret ?_ | refine inBlockA_ret ?_)
            exact RetQ.ret [] (.cons rfl .nil) ⟨rfl, rfl⟩ none_kept
          · subst hd hqq hhh
            apply AW.list
            apply Wk.fad 9 0 false fd27_9 rfl (lt_of_ble rfl)
            apply Wk.ld (i := 4) 1 false ty4 rfl rfl (by conv => lhs; whnf) (lt_of_ble rfl)
            apply Wk.mv (by conv => lhs; whnf) (lt_of_ble rfl)
            apply Wk.gon 90 rfl rfl
            apply Wk.fad 5 0 false fd27_5 rfl (lt_of_ble rfl)
            apply Wk.gon 90 rfl rfl
            apply Wk.ld (i := 4) 1 false ty4 rfl rfl (by conv => lhs; whnf) (lt_of_ble rfl)
            apply Wk.pckF rfl (by conv => lhs; whnf) (lt_of_ble rfl)
            apply Wk.mv (by conv => lhs; whnf) (lt_of_ble rfl)
            apply Wk.gon 94 rfl rfl
            apply Wk.fad 7 0 false fd27_7 rfl (lt_of_ble rfl)
            apply Wk.gon 94 rfl rfl
            apply Wk.ld (i := 4) 1 false ty4 rfl rfl (by conv => lhs; whnf) (lt_of_ble rfl)
            apply Wk.pckF rfl (by conv => lhs; whnf) (lt_of_ble rfl)
            apply Wk.mv (by conv => lhs; whnf) (lt_of_ble rfl)
            apply Wk.goff 98 (ok_faddr fd27_8) rfl rfl (by simp)
            apply Wk.goff 98 (ok_load 4 ty3) rfl rfl (by simp)
            apply Wk.goff 98 (ok_faddr fd27_2) rfl rfl (by simp)
            apply Wk.goff 98 (ok_load 4 ty25) rfl rfl (by simp)
            apply Wk.goff 98 (ok_len un25) rfl rfl (by simp)
            apply Wk.goff 98 (ok_bin _ _ _ _ _) rfl rfl (by simp)
            apply Wk.goff 98 (ok_bin _ _ _ _ _) rfl rfl (by simp)
            apply Wk.pckT rfl (by conv => lhs; whnf) (lt_of_ble rfl)
            refine Wk.nil ?_
            refine AW.cond rfl (fun _ => ?_) (fun hc => by cases hc)
            refine AW.seq ?_
            apply AW.list
            apply Wk.asg (by conv => lhs; whnf) (lt_of_ble rfl)
            refine Wk.nil (AW.ret ?_)
            repeat (first | refine thenA_ret ?_ | refine inBlockA_ret ?_)
            exact RetQ.ret [] (.cons rfl .nil) ⟨rfl, rfl⟩ none_kept
        · subst hd hqq
          apply AW.list
          apply Wk.fad 9 0 false fd27_9 rfl (lt_of_ble rfl)
          apply Wk.ld (i := 4) 1 false ty4 rfl rfl (by conv => lhs; whnf) (lt_of_ble rfl)
          apply Wk.mv (by conv => lhs; whnf) (lt_of_ble rfl)
          apply Wk.gon 90 rfl rfl
          apply Wk.fad 5 0 false fd27_5 rfl (lt_of_ble rfl)
          apply Wk.gon 90 rfl rfl
          apply Wk.ld (i := 4) 1 false ty4 rfl rfl (by conv => lhs; whnf) (lt_of_ble rfl)
          apply Wk.pckF rfl (by conv => lhs; whnf) (lt_of_ble rfl)
          apply Wk.mv (by conv => lhs; whnf) (lt_of_ble rfl)
          apply Wk.goff 94 (ok_faddr fd27_7) rfl rfl (by simp)
          apply Wk.goff 94 (ok_load 4 ty4) rfl rfl (by simp)
          apply Wk.pckT rfl (by conv => lhs; whnf) (lt_of_ble rfl)
          apply Wk.mv (by conv => lhs; whnf) (lt_of_ble rfl)
          apply Wk.goff 98 (ok_faddr fd27_8) rfl rfl (by simp)
          apply Wk.goff 98 (ok_load 4 ty3) rfl rfl (by simp)
          apply Wk.goff 98 (ok_faddr fd27_2) rfl rfl (by simp)
          apply Wk.goff 98 (ok_load 4 ty25) rfl rfl (by simp)
          apply Wk.goff 98 (ok_len un25) rfl rfl (by simp)
          apply Wk.goff 98 (ok_bin _ _ _ _ _) rfl rfl (by simp)
          apply Wk.goff 98 (ok_bin _ _ _ _ _) rfl rfl (by simp)
          apply Wk.pckT rfl (by conv => lhs; whnf) (lt_of_ble rfl)
          refine Wk.nil ?_
          refine AW.cond rfl (fun _ => ?_) (fun hc => by cases hc)
          refine AW.seq ?_
          apply AW.list
          apply Wk.asg (by conv => lhs; whnf) (lt_of_ble rfl)
          refine Wk.nil (AW.ret ?_)
          repeat (first | refine thenA_ret ?_ | refine inBlockA_ret ?_)
          exact RetQ.ret [] (.cons rfl .nil) ⟨rfl, rfl⟩ none_kept
      · subst hd
        apply AW.list
        apply Wk.fad 9 0 false fd27_9 rfl (lt_of_ble rfl)
        apply Wk.ld (i := 4) 1 false ty4 rfl rfl (by conv => lhs; whnf) (lt_of_ble rfl)
        apply Wk.mv (by conv => lhs; whnf) (lt_of_ble rfl)
        apply Wk.goff 90 (ok_faddr fd27_5) rfl rfl (by simp)
        apply Wk.goff 90 (ok_load 4 ty4) rfl rfl (by simp)
        apply Wk.pckT rfl (by conv => lhs; whnf) (lt_of_ble rfl)
        apply Wk.mv (by conv => lhs; whnf) (lt_of_ble rfl)
        apply Wk.goff 94 (ok_faddr fd27_7) rfl rfl (by simp)
        apply Wk.goff 94 (ok_load 4 ty4) rfl rfl (by simp)
        apply Wk.pckT rfl (by conv => lhs; whnf) (lt_of_ble rfl)
        apply Wk.mv (by conv => lhs; whnf) (lt_of_ble rfl)
        apply Wk.goff 98 (ok_faddr fd27_8) rfl rfl (by simp)
        apply Wk.goff 98 (ok_load 4 ty3) rfl rfl (by simp)
        apply Wk.goff 98 (ok_faddr fd27_2) rfl rfl (by simp)
        apply Wk.goff 98 (ok_load 4 ty25) rfl rfl (by simp)
        apply Wk.goff 98 (ok_len un25) rfl rfl (by simp)
        apply Wk.goff 98 (ok_bin _ _ _ _ _) rfl rfl (by simp)
        apply Wk.goff 98 (ok_bin _ _ _ _ _) rfl rfl (by simp)
        apply Wk.pckT rfl (by conv => lhs; whnf) (lt_of_ble rfl)
        refine Wk.nil ?_
        refine AW.cond rfl (fun _ => ?_) (fun hc => by cases hc)
        refine AW.seq ?_
        apply AW.list
        apply Wk.asg (by conv => lhs; whnf) (lt_of_ble rfl)
        refine Wk.nil (AW.ret ?_)
        repeat (first | refine thenA_ret ?_ | refine inBlockA_ret ?_)
        exact RetQ.ret [] (.cons rfl .nil) ⟨rfl, rfl⟩ none_kept
    · simp only [idleB, not_or, not_and, Bool.not_eq_true] at hi
      obtain ⟨rfl, rfl, rfl, hi4⟩ := hi
      by_cases hl : s' = (fl'.length : Int)
      · subst hl
        obtain ⟨h1, h2, h3⟩ := hi4 rfl
        obtain ⟨e, qs, rfl⟩ : ∃ e qs, qu' = e :: qs := by
          cases qu' with
          | nil => exact absurd rfl h2
          | cons e qs => exact ⟨e, qs, rfl⟩
        simp only [List.length_cons] at gl
        have ci := (new_both m w p u y n' a' fl' e qs t' c' 0 g1 rfl h1 (by omega)).1
        have hat : (fl ++ qu)[fl'.length]? = some e := by rw [← g2, List.getElem?_append_right (Nat.le_refl _), Nat.sub_self]; rfl
        have hpart := pieces_at hat
        have hkk : fl'.length < (piecesA (fl ++ qu)).length := by simp [piecesA]; omega
        have hsq : (a' + (fl'.length : Int)) % 8 = numI (c + (fl'.length : Int)) := by unfold numI; rw [if_neg (by omega)]; omega
        have hin : InOrder ⟨m, w, p, u, y⟩ ⟨n, a, fl, s, qu, q, t, hh, c, d⟩ ⟨(n' + 1) % 8, a', fl' ++ [e], (fl'.length : Int) + 1, qs, false, t', false, c', false⟩ (k + 1) := by
          refine ⟨txOk_new g1 h1, by simp only [List.append_assoc, List.singleton_append]; exact g2, g3, g4, g5, g6, g7, ?_, ?_⟩
          · simp only [List.length_append, List.length_singleton]; omega
          · simp only; omega
        apply AW.list
        apply Wk.ld (i := 3) 5 true ty24 rfl rfl (by conv => lhs; whnf) (lt_of_ble rfl)
        apply Wk.ld (i := 7) 10 true ty27 rfl rfl (by conv => lhs; whnf) (lt_of_ble rfl)
        apply Wk.dat ci Try.func24 rfl rfl rfl rfl rfl (lt_of_ble rfl)
        apply Wk.mv (by conv => lhs; whnf) (lt_of_ble rfl)
        apply Wk.ext rfl rfl (lt_of_ble rfl)
        apply Wk.ext rfl rfl (lt_of_ble rfl)
        apply Wk.ext rfl rfl (lt_of_ble rfl)
        apply Wk.alc 10 [.int .i64 0, .int .i64 0, .slice none 0 0, .int .i64 0, .slice none 0 0, .bool false, .int .i64 0, .bool false, .int .i64 0, .bool false] ze27 rfl rfl (lt_of_ble rfl)
        apply Wk.alc 11 [.int .i64 0, .int .i64 0, .int .i64 0, .bool false, .bool false, .int .i64 0, .int .i64 0, .int .i64 0, .slice none 0 0] ze42 rfl rfl (lt_of_ble rfl)
        apply Wk.sto (i := 10) 10 true ty27 rfl rfl rfl rfl (Nat.le_of_ble_eq_true rfl) (lt_of_ble rfl)
        apply Wk.sto (i := 11) 9 true ty42 rfl rfl rfl rfl (Nat.le_of_ble_eq_true rfl) (lt_of_ble rfl)
        apply Wk.asg (by conv => lhs; whnf) (lt_of_ble rfl)
        refine Wk.nil ?_
        refine AW.seq (AW.seq ?_)
        apply AW.list
        apply Wk.mv (by conv => lhs; whnf) (lt_of_ble rfl)
        apply Wk.un rfl (fun w => by simp [go_sem] <;> rfl) (lt_of_ble rfl)
        refine Wk.nil ?_
        refine AW.cond rfl (fun hc => by cases hc) (fun _ => AW.skip (thenA_normal ?_))
        refine AW.seq (AW.seq ?_)
        apply AW.draw (hm := hmix) (cs := _)
        · apply Wk.mv (by conv => lhs; whnf) (lt_of_ble rfl)
          apply Wk.mv (by conv => lhs; whnf) (lt_of_ble rfl)
          apply Wk.leno (i := 33) un25 rfl rfl (lt_of_ble rfl)
          apply Wk.bin rfl rfl (r := .bool false) (fun w => by rw [e5]; simp [go_sem] <;> omega) (lt_of_ble rfl)
          apply Wk.mv (by conv => lhs; whnf) (lt_of_ble rfl)
          apply Wk.gon 60 rfl rfl
          apply Wk.fad 1 0 false fd42_1 rfl (lt_of_ble rfl)
          apply Wk.gon 60 rfl rfl
          apply Wk.ld (i := 11) 1 false ty3 rfl rfl (by conv => lhs; whnf) (lt_of_ble rfl)
          apply Wk.gon 60 rfl rfl
          apply Wk.fad 8 0 false fd27_8 rfl (lt_of_ble rfl)
          apply Wk.gon 60 rfl rfl
          apply Wk.ld (i := 4) 1 false ty3 rfl rfl (by conv => lhs; whnf) (lt_of_ble rfl)
          apply Wk.gon 60 rfl rfl
          apply Wk.mv (by conv => lhs; whnf) (lt_of_ble rfl)
          apply Wk.gon 60 rfl rfl
          apply Wk.addi rfl rfl (by omega) (lt_of_ble rfl)
          apply Wk.gon 60 rfl rfl
          apply Wk.dat (inum_ok _) Try.func28 rfl rfl rfl rfl rfl (lt_of_ble rfl)
          apply Wk.gon 60 rfl rfl
          apply Wk.bin rfl rfl (r := .bool false) (fun w => by simp [go_sem, hsq]) (lt_of_ble rfl)
          apply Wk.pckF rfl (by conv => lhs; whnf) (lt_of_ble rfl)
          apply Wk.mv (by conv => lhs; whnf) (lt_of_ble rfl)
          apply Wk.gon 70 rfl rfl
          apply Wk.fad 6 0 false fd42_6 rfl (lt_of_ble rfl)
          apply Wk.gon 70 rfl rfl
          apply Wk.ld (i := 11) 1 false ty3 rfl rfl (by conv => lhs; whnf) (lt_of_ble rfl)
          apply Wk.gon 70 rfl rfl
          apply Wk.fad 7 0 false fd42_7 rfl (lt_of_ble rfl)
          apply Wk.gon 70 rfl rfl
          apply Wk.ld (i := 11) 1 false ty3 rfl rfl (by conv => lhs; whnf) (lt_of_ble rfl)
          apply Wk.gon 70 rfl rfl
          apply Wk.fad 8 0 false fd42_8 rfl (lt_of_ble rfl)
          apply Wk.gon 70 rfl rfl
          apply Wk.ld (i := 11) 1 false ty22 rfl rfl (by conv => lhs; whnf) (lt_of_ble rfl)
          apply Wk.gon 70 rfl rfl
          apply Wk.bld [.int .i64 0, .int .i64 0, .slice none 0 0] [(0, 1), (1, 1), (2, 1)] bl47 rfl (by conv => lhs; whnf) (lt_of_ble rfl)
          apply Wk.gon 70 rfl rfl
          apply Wk.mv (by conv => lhs; whnf) (lt_of_ble rfl)
          apply Wk.gon 70 rfl rfl
          apply Wk.mv (by conv => lhs; whnf) (lt_of_ble rfl)
          apply Wk.gon 70 rfl rfl
          apply Wk.iado 33 3 true un25 ty47 rfl rfl rfl hkk (lt_of_ble rfl)
          apply Wk.gon 70 rfl rfl
          apply Wk.ldo (i := 33) 3 true ty47 rfl rfl (by exact hpart) (lt_of_ble rfl)
          apply Wk.gon 70 rfl rfl
          apply Wk.dat (liPartE e) Try.func29 rfl rfl rfl rfl rfl (lt_of_ble rfl)
          apply Wk.gon 70 rfl rfl
          apply Wk.un rfl (fun w => by simp [go_sem] <;> rfl) (lt_of_ble rfl)
          apply Wk.pckF rfl (by conv => lhs; whnf) (lt_of_ble rfl)
          refine Wk.nil ?_
          refine AW.cond rfl (fun hc => by cases hc) (fun _ => AW.skip (thenA_normal ?_))
          refine AW.seq ?_
          apply AW.list
          apply Wk.mv (by conv => lhs; whnf) (lt_of_ble rfl)
          apply Wk.addi rfl rfl (by omega) (lt_of_ble rfl)
          apply Wk.asg (by conv => lhs; whnf) (lt_of_ble rfl)
          refine Wk.nil ?_
          apply AW.list
          apply Wk.ld (i := 10) 10 true ty27 rfl rfl (by conv => lhs; whnf) (lt_of_ble rfl)
          apply Wk.sto (i := 7) 10 true ty27 rfl rfl rfl rfl (Nat.le_of_ble_eq_true rfl) (lt_of_ble rfl)
          refine Wk.nil ?_
          repeat (first | refine thenA_normal ?_ | refine inBlockA_normal ?_)
          apply AW.list
          apply Wk.mv (by conv => lhs; whnf) (lt_of_ble rfl)
          apply Wk.addn (b := 1) rfl rfl (by omega) (lt_of_ble rfl)
          apply Wk.asg (by conv => lhs; whnf) (lt_of_ble rfl)
          refine Wk.nil ?_
          repeat (first | refine thenA_normal ?_ | refine inBlockA_normal ?_)
          exact ⟨(k + 1, ⟨(n' + 1) % 8, a', fl' ++ [e], (fl'.length : Int) + 1, qs, false, t', false, c', false⟩), hin, by simp only; omega, fin (k + 1) ⟨(n' + 1) % 8, a', fl' ++ [e], (fl'.length : Int) + 1, qs, false, t', false, c', false⟩ _ rfl rfl rfl rfl rfl rfl rfl rfl rfl rfl rfl⟩
        · rfl
        · rfl
      · obtain ⟨i, rfl⟩ : ∃ i : Nat, s' = i := ⟨s'.toNat, by omega⟩
        have hlt : i < fl'.length := by omega
        obtain ⟨e, he⟩ : ∃ e, fl'[i]? = some e := ⟨_, List.getElem?_eq_getElem hlt⟩
        have ci := (on_both m w p u y n' a' fl' i qu' t' c' 0 e he g1 rfl).1
        have hat : (fl ++ qu)[i]? = some e := by rw [← g2, List.getElem?_append_left hlt]; exact he
        have hpart := pieces_at hat
        have hkk : i < (piecesA (fl ++ qu)).length := by simp [piecesA]; omega
        have hsq : (a' + (i : Int)) % 8 = numI (c + (i : Int)) := by unfold numI; rw [if_neg (by omega)]; omega
        have hin : InOrder ⟨m, w, p, u, y⟩ ⟨n, a, fl, s, qu, q, t, hh, c, d⟩ ⟨n', a', fl', (i : Int) + 1, qu', false, t', false, c', false⟩ (k + 1) := by
          refine ⟨txOk_on g1 hlt, g2, g3, g4, g5, g6, g7, ?_, ?_⟩
          · simp only; omega
          · simp only; omega
        apply AW.list
        apply Wk.ld (i := 3) 5 true ty24 rfl rfl (by conv => lhs; whnf) (lt_of_ble rfl)
        apply Wk.ld (i := 7) 10 true ty27 rfl rfl (by conv => lhs; whnf) (lt_of_ble rfl)
        apply Wk.dat ci Try.func24 rfl rfl rfl rfl rfl (lt_of_ble rfl)
        apply Wk.mv (by conv => lhs; whnf) (lt_of_ble rfl)
        apply Wk.ext rfl rfl (lt_of_ble rfl)
        apply Wk.ext rfl rfl (lt_of_ble rfl)
        apply Wk.ext rfl rfl (lt_of_ble rfl)
        apply Wk.alc 10 [.int .i64 0, .int .i64 0, .slice none 0 0, .int .i64 0, .slice none 0 0, .bool false, .int .i64 0, .bool false, .int .i64 0, .bool false] ze27 rfl rfl (lt_of_ble rfl)
        apply Wk.alc 11 [.int .i64 0, .int .i64 0, .int .i64 0, .bool false, .bool false, .int .i64 0, .int .i64 0, .int .i64 0, .slice none 0 0] ze42 rfl rfl (lt_of_ble rfl)
        apply Wk.sto (i := 10) 10 true ty27 rfl rfl rfl rfl (Nat.le_of_ble_eq_true rfl) (lt_of_ble rfl)
        apply Wk.sto (i := 11) 9 true ty42 rfl rfl rfl rfl (Nat.le_of_ble_eq_true rfl) (lt_of_ble rfl)
        apply Wk.asg (by conv => lhs; whnf) (lt_of_ble rfl)
        refine Wk.nil ?_
        refine AW.seq (AW.seq ?_)
        apply AW.list
        apply Wk.mv (by conv => lhs; whnf) (lt_of_ble rfl)
        apply Wk.un rfl (fun w => by simp [go_sem] <;> rfl) (lt_of_ble rfl)
        refine Wk.nil ?_
        refine AW.cond rfl (fun hc => by cases hc) (fun _ => AW.skip (thenA_normal ?_))
        refine AW.seq (AW.seq ?_)
        apply AW.draw (hm := hmix) (cs := _)
        · apply Wk.mv (by conv => lhs; whnf) (lt_of_ble rfl)
          apply Wk.mv (by conv => lhs; whnf) (lt_of_ble rfl)
          apply Wk.leno (i := 33) un25 rfl rfl (lt_of_ble rfl)
          apply Wk.bin rfl rfl (r := .bool false) (fun w => by rw [e5]; simp [go_sem] <;> omega) (lt_of_ble rfl)
          apply Wk.mv (by conv => lhs; whnf) (lt_of_ble rfl)
          apply Wk.gon 60 rfl rfl
          apply Wk.fad 1 0 false fd42_1 rfl (lt_of_ble rfl)
          apply Wk.gon 60 rfl rfl
          apply Wk.ld (i := 11) 1 false ty3 rfl rfl (by conv => lhs; whnf) (lt_of_ble rfl)
          apply Wk.gon 60 rfl rfl
          apply Wk.fad 8 0 false fd27_8 rfl (lt_of_ble rfl)
          apply Wk.gon 60 rfl rfl
          apply Wk.ld (i := 4) 1 false ty3 rfl rfl (by conv => lhs; whnf) (lt_of_ble rfl)
          apply Wk.gon 60 rfl rfl
          apply Wk.mv (by conv => lhs; whnf) (lt_of_ble rfl)
          apply Wk.gon 60 rfl rfl
          apply Wk.addi rfl rfl (by omega) (lt_of_ble rfl)
          apply Wk.gon 60 rfl rfl
          apply Wk.dat (inum_ok _) Try.func28 rfl rfl rfl rfl rfl (lt_of_ble rfl)
          apply Wk.gon 60 rfl rfl
          apply Wk.bin rfl rfl (r := .bool false) (fun w => by simp [go_sem, hsq]) (lt_of_ble rfl)
          apply Wk.pckF rfl (by conv => lhs; whnf) (lt_of_ble rfl)
          apply Wk.mv (by conv => lhs; whnf) (lt_of_ble rfl)
          apply Wk.gon 70 rfl rfl
          apply Wk.fad 6 0 false fd42_6 rfl (lt_of_ble rfl)
          apply Wk.gon 70 rfl rfl
          apply Wk.ld (i := 11) 1 false ty3 rfl rfl (by conv => lhs; whnf) (lt_of_ble rfl)
          apply Wk.gon 70 rfl rfl
          apply Wk.fad 7 0 false fd42_7 rfl (lt_of_ble rfl)
          apply Wk.gon 70 rfl rfl
          apply Wk.ld (i := 11) 1 false ty3 rfl rfl (by conv => lhs; whnf) (lt_of_ble rfl)
          apply Wk.gon 70 rfl rfl
          apply Wk.fad 8 0 false fd42_8 rfl (lt_of_ble rfl)
          apply Wk.gon 70 rfl rfl
          apply Wk.ld (i := 11) 1 false ty22 rfl rfl (by conv => lhs; whnf) (lt_of_ble rfl)
          apply Wk.gon 70 rfl rfl
          apply Wk.bld [.int .i64 0, .int .i64 0, .slice none 0 0] [(0, 1), (1, 1), (2, 1)] bl47 rfl (by conv => lhs; whnf) (lt_of_ble rfl)
          apply Wk.gon 70 rfl rfl
          apply Wk.mv (by conv => lhs; whnf) (lt_of_ble rfl)
          apply Wk.gon 70 rfl rfl
          apply Wk.mv (by conv => lhs; whnf) (lt_of_ble rfl)
          apply Wk.gon 70 rfl rfl
          apply Wk.iado 33 3 true un25 ty47 rfl rfl rfl hkk (lt_of_ble rfl)
          apply Wk.gon 70 rfl rfl
          apply Wk.ldo (i := 33) 3 true ty47 rfl rfl (by exact hpart) (lt_of_ble rfl)
          apply Wk.gon 70 rfl rfl
          apply Wk.dat (liPartE e) Try.func29 rfl rfl rfl rfl rfl (lt_of_ble rfl)
          apply Wk.gon 70 rfl rfl
          apply Wk.un rfl (fun w => by simp [go_sem] <;> rfl) (lt_of_ble rfl)
          apply Wk.pckF rfl (by conv => lhs; whnf) (lt_of_ble rfl)
          refine Wk.nil ?_
          refine AW.cond rfl (fun hc => by cases hc) (fun _ => AW.skip (thenA_normal ?_))
          refine AW.seq ?_
          apply AW.list
          apply Wk.mv (by conv => lhs; whnf) (lt_of_ble rfl)
          apply Wk.addi rfl rfl (by omega) (lt_of_ble rfl)
          apply Wk.asg (by conv => lhs; whnf) (lt_of_ble rfl)
          refine Wk.nil ?_
          apply AW.list
          apply Wk.ld (i := 10) 10 true ty27 rfl rfl (by conv => lhs; whnf) (lt_of_ble rfl)
          apply Wk.sto (i := 7) 10 true ty27 rfl rfl rfl rfl (Nat.le_of_ble_eq_true rfl) (lt_of_ble rfl)
          refine Wk.nil ?_
          repeat (first | refine thenA_normal ?_ | refine inBlockA_normal ?_)
          apply AW.list
          apply Wk.mv (by conv => lhs; whnf) (lt_of_ble rfl)
          apply Wk.addn (b := 1) rfl rfl (by omega) (lt_of_ble rfl)
          apply Wk.asg (by conv => lhs; whnf) (lt_of_ble rfl)
          refine Wk.nil ?_
          repeat (first | refine thenA_normal ?_ | refine inBlockA_normal ?_)
          exact ⟨(k + 1, ⟨n', a', fl', (i : Int) + 1, qu', false, t', false, c', false⟩), hin, by simp only; omega, fin (k + 1) ⟨n', a', fl', (i : Int) + 1, qu', false, t', false, c', false⟩ _ rfl rfl rfl rfl rfl rfl rfl rfl rfl rfl rfl⟩
        · rfl
        · rfl
  · rfl
  · rfl
namespace fnTxOrder
set_option maxRecDepth 100000 in
theorem walk (a0 : Option Addr) (len0 cap0 : Nat) (z0 : List Int) (w : World) (w0 : IsRow .u8 w a0 len0 cap0 z0) :
    Calls Try.prog 8 #[.slice a0 len0 cap0] w fun e w' => e = .returned (.bool true) ∧ Below w.heap.size w w' := by
  by_cases hs0 : (1048576 : Int) < (len0 : Int)
  · go_enter Try.func8, Try.ntmps8
    go_wp2
    go_ret
    exact ⟨rfl, Below.refl _ _⟩
  obtain ⟨cz, hR0, _⟩ := w0.rd (by omega)
  obtain ⟨zs, rfl⟩ := byt_fin hR0.1
  exact (lawTxOrder_ok zs).run hR0
end fnTxOrder
end Go.Proofs.Ytdojkmjamilllaa
