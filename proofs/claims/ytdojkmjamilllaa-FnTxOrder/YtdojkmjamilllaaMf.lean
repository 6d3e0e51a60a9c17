/- Laws and contracts that the proof stands on: AbsL20Tx, AbsArr, AbsCopyI, AbsTxOkI, AbsSender. -/
import Derived.Test.YtdojkmjamilllaaMa
import Derived.Test.YtdojkmjamilllaaMb
import Derived.Test.YtdojkmjamilllaaMc
import Derived.Test.YtdojkmjamilllaaMd
import Derived.Test.YtdojkmjamilllaaMe
import Derived.Laws.MakeOwn
/- Who sends, drawn; over what values read as. Written by tools/mk_AbsL20Tx.py. -/
namespace Go.Proofs.Ytdojkmjamilllaa
open Go Go.RowKit
def tx0 : TX := ⟨0, 0, [], 0, [], false, 0, false, 0, false⟩
theorem tx0_good : tx0.good 0 := by simp [TX.good, tx0]
/-- Who sends, drawn: within bounds. -/
def TX.wide (x : TX) : Prop := (-1 ≤ x.n ∧ x.n ≤ 8) ∧ (-1 ≤ x.a ∧ x.a ≤ 8) ∧ (x.fl.length ≤ 11 ∧ ∀ d ∈ x.fl, (Byt d.2.2 ∧ d.2.2.length ≤ 24)) ∧ (-1 ≤ x.s ∧ x.s ≤ 11) ∧ (x.qu.length ≤ 25 ∧ ∀ d ∈ x.qu, (Byt d.2.2 ∧ d.2.2.length ≤ 24)) ∧ (-1 ≤ x.t ∧ x.t ≤ 10) ∧ (-1 ≤ x.c ∧ (x.c ≤ 1000 ∨ x.c = 10000))
theorem TX.good.wide {cm : Int} {x : TX} (h : x.good cm) (hm : cm ≤ 1000 := by omega) : x.wide := ⟨by have := h.1; omega, by have := h.2.1; omega, ⟨by have := h.2.2.1.1; omega, h.2.2.1.2⟩, by have := h.2.2.2.1; omega, ⟨by have := h.2.2.2.2.1.1; omega, h.2.2.2.2.1.2⟩, by have := h.2.2.2.2.2.1; omega, by have := h.2.2.2.2.2.2; omega⟩
theorem TX.wide.few {x : TX} (h : x.wide) : x.few := ⟨⟨by have := h.2.2.1.1; omega, fun d hd => by have := h.2.2.1.2 d hd; omega⟩, ⟨by have := h.2.2.2.2.1.1; omega, fun d hd => by have := h.2.2.2.2.1.2 d hd; omega⟩⟩
def txPre (rest : List A) : Prop := ∃ m w p u y n : Int, rest = [cfgA m w p u y, .d (.v (.int .i64 n))] ∧ (0 ≤ m ∧ m ≤ 3 ∧ 0 ≤ w ∧ w ≤ 5 ∧ 0 ≤ p ∧ p ≤ 9 ∧ 0 ≤ u ∧ u ≤ 25 ∧ 0 ≤ y ∧ y ≤ 6) ∧ n ≤ 1000000 ∧ -1000000 ≤ n
def txPost (_ : List A) (r : A) : Prop := ∃ x : TX, r = txA x ∧ x.wide
theorem asData_more {es : List (List A)} {ds : List Dat} (h : asData es (ds.map datD)) (d : Dat) (c : List A) (hc : nrms c = (datD d).map A.d) : asData (es ++ [c]) ((ds ++ [d]).map datD) := by
  simp only [asData, List.map_append, List.map_cons, List.map_nil] at h ⊢
  rw [h, hc]
set_option maxHeartbeats 16000000 in
set_option maxRecDepth 100000 in
theorem l20Tx_ok : DrawOk Try.prog 49 txPre txPost 70000 := by
 refine DrawOk.zero ?_ ?_ ?_ ?_
 · rintro zs p rest ⟨m, w, pp, u, y, nn, rfl, hcf, hn, hn'⟩ hp
   refine Spec.intro (n := 158) (rv := [.cell 6 27]) Try.func49 rfl rfl rfl (by simp) fun C hN hX => ?_
   let inv : List (Fin 256) × Nat × Nat × TX → St := fun z => St.of 158 [(0, .ptr 0 0), (2, .d (.v (.int .i64 nn))), (4, .ptr 4 0), (6, .ptr 6 0), (7, .ptr 70 0), (8, .d (.v (.int .i64 (z.2.2.1 : Int))))] [(0, rdr z.1 z.2.1), (4, .var (cfgC m w pp u y)), (5, .own z.2.2.2.fl.length 47 3 (piecesA z.2.2.2.fl)), (6, .var txN), (66, .own z.2.2.2.qu.length 47 3 (piecesA z.2.2.2.qu)), (70, .var (txOC z.2.2.2 5 z.2.2.2.fl.length 66 z.2.2.2.qu.length))]
   let inv2 : List (Fin 256) × Nat × TX → St := fun z => St.of 158 [(0, .ptr 0 0), (6, .ptr 6 0), (7, .ptr 70 0)] [(0, rdr z.1 z.2.1), (6, .var txN), (70, .var (txC z.2.2))]
   have fin1 : ∀ (zs : List (Fin 256)) (p k : Nat) (x : TX) (σ : St), σ.n = 158 → σ.t 0 = .ptr 0 0 → σ.t 2 = .d (.v (.int .i64 nn)) → σ.t 4 = .ptr 4 0 → σ.t 6 = .ptr 6 0 → σ.t 7 = .ptr 70 0 → σ.t 8 = .d (.v (.int .i64 (k : Int))) → σ.b 0 = rdr zs p → σ.b 4 = .var (cfgC m w pp u y) → σ.b 6 = .var txN → σ.b 70 = .var (txOC x 5 x.fl.length 66 x.qu.length) → σ.b 5 = .own x.fl.length 47 3 (piecesA x.fl) → σ.b 66 = .own x.qu.length 47 3 (piecesA x.qu) →
       ∀ a w, Rel C σ a w → Rel C (inv (zs, p, k, x)) a w := fun zs p k x σ h0 h1 h2 h3 h4 h5 h6 h7 h8 h9 h10 h11 h12 a w => Rel.keep ⟨h0.symm, .cons h1 rfl (.cons h2 rfl (.cons h3 rfl (.cons h4 rfl (.cons h5 rfl (.cons h6 rfl .nil))))), .cons h7 rfl (.cons h8 rfl (.cons h11 (within_parts _) (.cons h9 rfl (.cons h12 (within_parts _) (.cons h10 rfl .nil))))), hN.mono (by simp [keys])⟩
   have finN : ∀ (zs : List (Fin 256)) (p k : Nat) (σ : St), σ.n = 158 → σ.t 0 = .ptr 0 0 → σ.t 2 = .d (.v (.int .i64 nn)) → σ.t 4 = .ptr 4 0 → σ.t 6 = .ptr 6 0 → σ.t 7 = .ptr 70 0 → σ.t 8 = .d (.v (.int .i64 (k : Int))) → σ.b 0 = rdr zs p → σ.b 4 = .var (cfgC m w pp u y) → σ.b 6 = .var txN → σ.b 70 = .var txN →
       ∀ a w, Rel C σ a w → Rel C (inv (zs, p, k, tx0)) a w := by
     intro zs p k σ h0 h1 h2 h3 h4 h5 h6 h7 h8 h9 h10 a wd hR
     have g0 := Rel.keep (n := 158) (ts := [(0, .ptr 0 0), (2, .d (.v (.int .i64 nn))), (4, .ptr 4 0), (6, .ptr 6 0), (7, .ptr 70 0), (8, .d (.v (.int .i64 (k : Int))))]) (bs := [(0, rdr zs p), (4, .var (cfgC m w pp u y)), (6, .var txN), (70, .var txN)]) ⟨h0.symm, .cons h1 rfl (.cons h2 rfl (.cons h3 rfl (.cons h4 rfl (.cons h5 rfl (.cons h6 rfl .nil))))), .cons h7 rfl (.cons h8 rfl (.cons h9 rfl (.cons h10 rfl .nil))), hN.mono (by simp [keys])⟩ hR
     have g1 := Rel.nilc (j := 70) (c := 2) (i' := 5) 47 3 rfl rfl rfl g0
     have g2 := Rel.nilc (j := 70) (c := 4) (i' := 66) 47 3 rfl rfl rfl g1
     exact fin1 zs p k tx0 _ rfl rfl rfl rfl rfl rfl rfl rfl rfl rfl rfl rfl rfl a wd g2
   have fin2 : ∀ (zs : List (Fin 256)) (p : Nat) (x : TX) (k l : Nat) (es qs : List (List A)) (σ : St), asData es (x.fl.map datD) → asData qs (x.qu.map datD) → σ.n = 158 → σ.t 0 = .ptr 0 0 → σ.t 6 = .ptr 6 0 → σ.t 7 = .ptr 70 0 → σ.b 0 = rdr zs p → σ.b 6 = .var txN → σ.b 70 = .var (txOC x 5 k 66 l) → σ.b 5 = .own k 47 3 es → σ.b 66 = .own l 47 3 qs →
       ∀ a w, Rel C σ a w → Rel C (inv2 (zs, p, x)) a w := by
     intro zs p x k l es qs σ hes hqs h0 h1 h2 h3 h4 h5 h6 h7 h8 a w hR
     have g1 := Rel.thawc (j := 70) (c := 2) (i := 5) (k := k) _ h6 rfl h7 hes (hX.one (by decide) h4) hR
     have g2 := Rel.thawc (σ := (σ.put (B 70) (.b (.var ((txOC x 5 k 66 l).set 2 (.d (.row (x.fl.map datD))))))).put (B 5) (.b .none)) (j := 70) (c := 4) (i := 66) (k := l) _ rfl rfl h8 hqs (hX.one (by decide) h4) g1
     refine Rel.keep ?_ g2
     exact ⟨h0.symm, .cons h1 rfl (.cons h2 rfl (.cons h3 rfl .nil)), .cons h4 rfl (.cons h5 rfl (.cons rfl rfl .nil)), hN.mono (by simp [keys])⟩
   refine AW.seq ?_
   apply AW.list
   apply Wk.bx 4 rfl rfl (lt_of_ble rfl)
   apply Wk.alc 6 [.int .i64 0, .int .i64 0, .slice none 0 0, .int .i64 0, .slice none 0 0, .bool false, .int .i64 0, .bool false, .int .i64 0, .bool false] ze27 rfl rfl (lt_of_ble rfl)
   refine Wk.nil ?_
   refine AW.seq ?_
   apply AW.list
   apply Wk.bld [.int .i64 0, .int .i64 0, .slice none 0 0, .int .i64 0, .slice none 0 0, .bool false, .int .i64 0, .bool false, .int .i64 0, .bool false] [(0, 1), (1, 1), (2, 1), (3, 1), (4, 1), (5, 1), (6, 1), (7, 1), (8, 1), (9, 1)] bl27 rfl (by conv => lhs; whnf) (lt_of_ble rfl)
   apply Wk.alc 70 [.int .i64 0, .int .i64 0, .slice none 0 0, .int .i64 0, .slice none 0 0, .bool false, .int .i64 0, .bool false, .int .i64 0, .bool false] ze27 rfl rfl (lt_of_ble rfl)
   apply Wk.sto (i := 70) 10 true ty27 rfl rfl rfl rfl (Nat.le_of_ble_eq_true rfl) (lt_of_ble rfl)
   refine Wk.nil ?_
   refine AW.seq (AW.seq ?_)
   apply AW.list
   apply Wk.mv (by conv => lhs; whnf) (lt_of_ble rfl)
   apply Wk.drw 0 pick_ok Try.func65 rfl rfl rfl rfl ⟨_, rfl, by omega⟩ (by omega) rfl (lt_of_ble rfl)
   rintro r1 zs1 p1 ⟨k1, rfl, hk1⟩ hp1
   apply Wk.asg (by conv => lhs; whnf) (lt_of_ble rfl)
   have hk1' : k1 < 20 := by have := hk1 20 rfl; omega
   refine Wk.nil (AW.block ?_)
   refine AW.loop inv (fun z => z.2.2.1 ≤ k1 ∧ z.2.1 + 3100 * z.2.2.1 ≤ p + 1 + 3100 * k1 ∧ z.2.2.2.good (8 * ((k1 : Int) - (z.2.2.1 : Int)))) (fun z => z.2.2.1) (zs1, p1, k1, tx0) ⟨Nat.le_refl _, by simp only; omega, tx0_good.mono (by simp only; omega)⟩ (finN zs1 p1 k1 _ rfl rfl rfl rfl rfl rfl rfl rfl rfl rfl rfl) ?_
   rintro ⟨zs2, p2, k2, x2⟩ ⟨hk2, hp2, hx2⟩
   simp only at hk2 hp2 hx2
   show AW Try.prog C _ _ (St.of 158 [(0, .ptr 0 0), (2, .d (.v (.int .i64 nn))), (4, .ptr 4 0), (6, .ptr 6 0), (7, .ptr 70 0), (8, .d (.v (.int .i64 (k2 : Int))))] [(0, rdr zs2 p2), (4, .var (cfgC m w pp u y)), (5, .own x2.fl.length 47 3 (piecesA x2.fl)), (6, .var txN), (66, .own x2.qu.length 47 3 (piecesA x2.qu)), (70, .var (txOC x2 5 x2.fl.length 66 x2.qu.length))])
   refine AW.seq (AW.seq ?_)
   apply AW.list
   apply Wk.mv (by conv => lhs; whnf) (lt_of_ble rfl)
   apply Wk.bin rfl rfl (fun w => by simp [go_sem] <;> rfl) (lt_of_ble rfl)
   refine Wk.nil ?_
   refine AW.cond rfl (fun hc => ?_) (fun hc => ?_)
   · have hpos : 0 < k2 := by simpa using hc
     refine AW.skip ?_
     repeat (first | refine thenA_normal ?_ | refine inBlockA_normal ?_)
     refine AW.via inv (fun z => z.2.2.1 = k2 ∧ z.2.1 ≤ p2 + 3100 ∧ z.2.2.2.good (8 * ((k1 : Int) - (k2 : Int)) + 8)) ?_ ?_
     · refine AW.block ?_
       refine AW.thawc (j := 70) (c := 2) (i := 5) _ rfl rfl rfl (asData_parts x2.fl) (hX.one (by decide) rfl) ?_
       refine AW.thawc (j := 70) (c := 4) (i := 66) _ rfl rfl rfl (asData_parts x2.qu) (hX.one (by decide) rfl) ?_
       refine AW.keep (n := 158) (ts := [(0, .ptr 0 0), (2, .d (.v (.int .i64 nn))), (4, .ptr 4 0), (6, .ptr 6 0), (7, .ptr 70 0), (8, .d (.v (.int .i64 (k2 : Int))))]) (bs := [(0, rdr zs2 p2), (4, .var (cfgC m w pp u y)), (6, .var txN), (70, .var (txC x2))]) ⟨rfl, .cons rfl rfl (.cons rfl rfl (.cons rfl rfl (.cons rfl rfl (.cons rfl rfl (.cons rfl rfl .nil))))), .cons rfl rfl (.cons rfl rfl (.cons rfl rfl (.cons rfl rfl .nil))), hN.mono (by simp [keys])⟩ ?_
       refine AW.seq ?_
       apply AW.list
       apply Wk.mv (by conv => lhs; whnf) (lt_of_ble rfl)
       apply Wk.drw 0 pick_ok Try.func65 rfl rfl rfl rfl ⟨_, rfl, by omega⟩ (by omega) rfl (lt_of_ble rfl)
       rintro r3 zs3 p3 ⟨k3, rfl, hk3⟩ hp3
       have hk3' : k3 < 6 := by have := hk3 6 rfl; omega
       refine Wk.nil (AW.block ?_)
       rcases (show k3 = 0 ∨ k3 = 1 ∨ k3 = 2 ∨ k3 = 3 ∨ k3 = 4 ∨ k3 = 5 by omega) with rfl | rfl | rfl | rfl | rfl | rfl
       · skip
         refine AW.seq (AW.seq ?_)
         apply AW.list
         apply Wk.bin rfl rfl (fun w => by simp [go_sem] <;> rfl) (lt_of_ble rfl)
         apply Wk.asg (by conv => lhs; whnf) (lt_of_ble rfl)
         refine Wk.nil ?_
         refine AW.cond rfl (fun _ => AW.skip ?_) (fun hc => by cases hc)
         repeat (first | refine thenA_normal ?_ | refine inBlockA_normal ?_)
         refine AW.cond rfl (fun _ => ?_) (fun hc => by cases hc)
         apply AW.draw (hm := hmix) (cs := _)
         · apply Wk.ld (i := 4) 5 true ty24 rfl rfl (by conv => lhs; whnf) (lt_of_ble rfl)
           apply Wk.ld (i := 70) 10 true ty27 rfl rfl (by conv => lhs; whnf) (lt_of_ble rfl)
           apply Wk.mv (by conv => lhs; whnf) (lt_of_ble rfl)
           apply Wk.fad 3 0 false fd24_3 rfl (lt_of_ble rfl)
           apply Wk.ld (i := 4) 1 false ty3 rfl rfl (by conv => lhs; whnf) (lt_of_ble rfl)
           apply Wk.drw 0 bytes_ok Try.func50 rfl rfl rfl rfl ⟨_, rfl, by omega⟩ (by omega) rfl (lt_of_ble rfl)
           rintro r4 zs4 p4 ⟨bs4, rfl, hb4⟩ hp4
           have hl4 : bs4.length ≤ 1000 := by rcases hb4 _ rfl with h | h <;> first | omega | (rw [h]; simp)
           apply Wk.fnx [5, 66] (putW _) Try.func15 rfl rfl rfl ⟨m, w, pp, u, y, x2, bs4, rfl, hx2, hl4⟩ rfl (by simp; exact ⟨rfl, rfl⟩) (lt_of_ble rfl)
           rintro r9 ex ⟨T, b9, rfl, ⟨x9, hx9, rfl, rfl⟩ | ⟨rfl, rfl⟩⟩
           · apply Wk.mv (by conv => lhs; whnf) (lt_of_ble rfl)
             apply Wk.ext rfl rfl (lt_of_ble rfl)
             apply Wk.ext rfl rfl (lt_of_ble rfl)
             apply Wk.sto (i := 70) 10 true ty27 rfl rfl rfl rfl (Nat.le_of_ble_eq_true rfl) (lt_of_ble rfl)
             refine Wk.nil ?_
             repeat (first | refine inBlockA_normal ?_ | refine thenA_normal ?_)
             exact ⟨(zs4, p4, k2, x9), ⟨rfl, by simp only; omega, hx9.mono (by omega)⟩, fin1 zs4 p4 k2 x9 _ rfl rfl rfl rfl rfl rfl rfl rfl rfl rfl rfl rfl rfl⟩
           · apply Wk.mv (by conv => lhs; whnf) (lt_of_ble rfl)
             apply Wk.ext rfl rfl (lt_of_ble rfl)
             apply Wk.ext rfl rfl (lt_of_ble rfl)
             apply Wk.sto (i := 70) 10 true ty27 rfl rfl rfl rfl (Nat.le_of_ble_eq_true rfl) (lt_of_ble rfl)
             refine Wk.nil ?_
             repeat (first | refine inBlockA_normal ?_ | refine thenA_normal ?_)
             exact ⟨(zs4, p4, k2, tx0), ⟨rfl, by simp only; omega, tx0_good.mono (by omega)⟩, finN zs4 p4 k2 _ rfl rfl rfl rfl rfl rfl rfl rfl rfl rfl rfl⟩
         · rfl
         · rfl
       · skip
         refine AW.seq (AW.seq ?_)
         apply AW.list
         apply Wk.bin rfl rfl (fun w => by simp [go_sem] <;> rfl) (lt_of_ble rfl)
         apply Wk.asg (by conv => lhs; whnf) (lt_of_ble rfl)
         refine Wk.nil ?_
         refine AW.cond rfl (fun hc => by cases hc) (fun _ => ?_)
         apply AW.list
         apply Wk.bin rfl rfl (fun w => by simp [go_sem] <;> rfl) (lt_of_ble rfl)
         apply Wk.asg (by conv => lhs; whnf) (lt_of_ble rfl)
         refine Wk.nil (thenA_normal ?_)
         refine AW.cond rfl (fun _ => ?_) (fun hc => by cases hc)
         apply AW.draw (hm := hmix) (cs := _)
         · apply Wk.ld (i := 4) 5 true ty24 rfl rfl (by conv => lhs; whnf) (lt_of_ble rfl)
           apply Wk.ld (i := 70) 10 true ty27 rfl rfl (by conv => lhs; whnf) (lt_of_ble rfl)
           apply Wk.mv (by conv => lhs; whnf) (lt_of_ble rfl)
           apply Wk.fad 3 0 false fd24_3 rfl (lt_of_ble rfl)
           apply Wk.ld (i := 4) 1 false ty3 rfl rfl (by conv => lhs; whnf) (lt_of_ble rfl)
           apply Wk.drw 0 bytes_ok Try.func50 rfl rfl rfl rfl ⟨_, rfl, by omega⟩ (by omega) rfl (lt_of_ble rfl)
           rintro r4 zs4 p4 ⟨bs4, rfl, hb4⟩ hp4
           have hl4 : bs4.length ≤ 1000 := by rcases hb4 _ rfl with h | h <;> first | omega | (rw [h]; simp)
           apply Wk.fnx [5, 66] (putW _) Try.func15 rfl rfl rfl ⟨m, w, pp, u, y, x2, bs4, rfl, hx2, hl4⟩ rfl (by simp; exact ⟨rfl, rfl⟩) (lt_of_ble rfl)
           rintro r9 ex ⟨T, b9, rfl, ⟨x9, hx9, rfl, rfl⟩ | ⟨rfl, rfl⟩⟩
           · apply Wk.mv (by conv => lhs; whnf) (lt_of_ble rfl)
             apply Wk.ext rfl rfl (lt_of_ble rfl)
             apply Wk.ext rfl rfl (lt_of_ble rfl)
             apply Wk.sto (i := 70) 10 true ty27 rfl rfl rfl rfl (Nat.le_of_ble_eq_true rfl) (lt_of_ble rfl)
             refine Wk.nil ?_
             repeat (first | refine inBlockA_normal ?_ | refine thenA_normal ?_)
             exact ⟨(zs4, p4, k2, x9), ⟨rfl, by simp only; omega, hx9.mono (by omega)⟩, fin1 zs4 p4 k2 x9 _ rfl rfl rfl rfl rfl rfl rfl rfl rfl rfl rfl rfl rfl⟩
           · apply Wk.mv (by conv => lhs; whnf) (lt_of_ble rfl)
             apply Wk.ext rfl rfl (lt_of_ble rfl)
             apply Wk.ext rfl rfl (lt_of_ble rfl)
             apply Wk.sto (i := 70) 10 true ty27 rfl rfl rfl rfl (Nat.le_of_ble_eq_true rfl) (lt_of_ble rfl)
             refine Wk.nil ?_
             repeat (first | refine inBlockA_normal ?_ | refine thenA_normal ?_)
             exact ⟨(zs4, p4, k2, tx0), ⟨rfl, by simp only; omega, tx0_good.mono (by omega)⟩, finN zs4 p4 k2 _ rfl rfl rfl rfl rfl rfl rfl rfl rfl rfl rfl⟩
         · rfl
         · rfl
       · skip
         refine AW.seq (AW.seq ?_)
         apply AW.list
         apply Wk.bin rfl rfl (fun w => by simp [go_sem] <;> rfl) (lt_of_ble rfl)
         apply Wk.asg (by conv => lhs; whnf) (lt_of_ble rfl)
         refine Wk.nil ?_
         refine AW.cond rfl (fun hc => by cases hc) (fun _ => ?_)
         apply AW.list
         apply Wk.bin rfl rfl (fun w => by simp [go_sem] <;> rfl) (lt_of_ble rfl)
         apply Wk.asg (by conv => lhs; whnf) (lt_of_ble rfl)
         refine Wk.nil (thenA_normal ?_)
         refine AW.cond rfl (fun hc => by cases hc) (fun _ => ?_)
         refine AW.seq (AW.seq ?_)
         apply AW.list
         apply Wk.bin rfl rfl (fun w => by simp [go_sem] <;> rfl) (lt_of_ble rfl)
         apply Wk.asg (by conv => lhs; whnf) (lt_of_ble rfl)
         refine Wk.nil ?_
         refine AW.cond rfl (fun _ => AW.skip ?_) (fun hc => by cases hc)
         repeat (first | refine thenA_normal ?_ | refine inBlockA_normal ?_)
         refine AW.cond rfl (fun _ => ?_) (fun hc => by cases hc)
         apply AW.list
         apply Wk.ld (i := 4) 5 true ty24 rfl rfl (by conv => lhs; whnf) (lt_of_ble rfl)
         apply Wk.ld (i := 70) 10 true ty27 rfl rfl (by conv => lhs; whnf) (lt_of_ble rfl)
         apply Wk.fnx [5, 66] (sendW _) Try.func25 rfl rfl rfl ⟨m, w, pp, u, y, x2, rfl, hx2⟩ rfl (by simp; exact ⟨rfl, rfl⟩) (lt_of_ble rfl)
         rintro r9 ex ⟨T, i1, i2, i3, b1, b2, i4, i5, i6, z9, b9, rfl, ⟨x9, hx9, rfl, rfl⟩ | ⟨rfl, rfl⟩⟩
         · apply Wk.mv (by conv => lhs; whnf) (lt_of_ble rfl)
           apply Wk.ext rfl rfl (lt_of_ble rfl)
           apply Wk.ext rfl rfl (lt_of_ble rfl)
           apply Wk.ext rfl rfl (lt_of_ble rfl)
           apply Wk.sto (i := 70) 10 true ty27 rfl rfl rfl rfl (Nat.le_of_ble_eq_true rfl) (lt_of_ble rfl)
           refine Wk.nil ?_
           repeat (first | refine inBlockA_normal ?_ | refine thenA_normal ?_)
           exact ⟨(zs3, p3, k2, x9), ⟨rfl, by simp only; omega, hx9.mono (by omega)⟩, fin1 zs3 p3 k2 x9 _ rfl rfl rfl rfl rfl rfl rfl rfl rfl rfl rfl rfl rfl⟩
         · apply Wk.mv (by conv => lhs; whnf) (lt_of_ble rfl)
           apply Wk.ext rfl rfl (lt_of_ble rfl)
           apply Wk.ext rfl rfl (lt_of_ble rfl)
           apply Wk.ext rfl rfl (lt_of_ble rfl)
           apply Wk.sto (i := 70) 10 true ty27 rfl rfl rfl rfl (Nat.le_of_ble_eq_true rfl) (lt_of_ble rfl)
           refine Wk.nil ?_
           repeat (first | refine inBlockA_normal ?_ | refine thenA_normal ?_)
           exact ⟨(zs3, p3, k2, tx0), ⟨rfl, by simp only; omega, tx0_good.mono (by omega)⟩, finN zs3 p3 k2 _ rfl rfl rfl rfl rfl rfl rfl rfl rfl rfl rfl⟩
       · skip
         refine AW.seq (AW.seq ?_)
         apply AW.list
         apply Wk.bin rfl rfl (fun w => by simp [go_sem] <;> rfl) (lt_of_ble rfl)
         apply Wk.asg (by conv => lhs; whnf) (lt_of_ble rfl)
         refine Wk.nil ?_
         refine AW.cond rfl (fun hc => by cases hc) (fun _ => ?_)
         apply AW.list
         apply Wk.bin rfl rfl (fun w => by simp [go_sem] <;> rfl) (lt_of_ble rfl)
         apply Wk.asg (by conv => lhs; whnf) (lt_of_ble rfl)
         refine Wk.nil (thenA_normal ?_)
         refine AW.cond rfl (fun hc => by cases hc) (fun _ => ?_)
         refine AW.seq (AW.seq ?_)
         apply AW.list
         apply Wk.bin rfl rfl (fun w => by simp [go_sem] <;> rfl) (lt_of_ble rfl)
         apply Wk.asg (by conv => lhs; whnf) (lt_of_ble rfl)
         refine Wk.nil ?_
         refine AW.cond rfl (fun hc => by cases hc) (fun _ => ?_)
         apply AW.list
         apply Wk.bin rfl rfl (fun w => by simp [go_sem] <;> rfl) (lt_of_ble rfl)
         apply Wk.asg (by conv => lhs; whnf) (lt_of_ble rfl)
         refine Wk.nil (thenA_normal ?_)
         refine AW.cond rfl (fun _ => ?_) (fun hc => by cases hc)
         apply AW.list
         apply Wk.ld (i := 4) 5 true ty24 rfl rfl (by conv => lhs; whnf) (lt_of_ble rfl)
         apply Wk.ld (i := 70) 10 true ty27 rfl rfl (by conv => lhs; whnf) (lt_of_ble rfl)
         apply Wk.fnx [5, 66] (sendW _) Try.func25 rfl rfl rfl ⟨m, w, pp, u, y, x2, rfl, hx2⟩ rfl (by simp; exact ⟨rfl, rfl⟩) (lt_of_ble rfl)
         rintro r9 ex ⟨T, i1, i2, i3, b1, b2, i4, i5, i6, z9, b9, rfl, ⟨x9, hx9, rfl, rfl⟩ | ⟨rfl, rfl⟩⟩
         · apply Wk.mv (by conv => lhs; whnf) (lt_of_ble rfl)
           apply Wk.ext rfl rfl (lt_of_ble rfl)
           apply Wk.ext rfl rfl (lt_of_ble rfl)
           apply Wk.ext rfl rfl (lt_of_ble rfl)
           apply Wk.sto (i := 70) 10 true ty27 rfl rfl rfl rfl (Nat.le_of_ble_eq_true rfl) (lt_of_ble rfl)
           refine Wk.nil ?_
           repeat (first | refine inBlockA_normal ?_ | refine thenA_normal ?_)
           exact ⟨(zs3, p3, k2, x9), ⟨rfl, by simp only; omega, hx9.mono (by omega)⟩, fin1 zs3 p3 k2 x9 _ rfl rfl rfl rfl rfl rfl rfl rfl rfl rfl rfl rfl rfl⟩
         · apply Wk.mv (by conv => lhs; whnf) (lt_of_ble rfl)
           apply Wk.ext rfl rfl (lt_of_ble rfl)
           apply Wk.ext rfl rfl (lt_of_ble rfl)
           apply Wk.ext rfl rfl (lt_of_ble rfl)
           apply Wk.sto (i := 70) 10 true ty27 rfl rfl rfl rfl (Nat.le_of_ble_eq_true rfl) (lt_of_ble rfl)
           refine Wk.nil ?_
           repeat (first | refine inBlockA_normal ?_ | refine thenA_normal ?_)
           exact ⟨(zs3, p3, k2, tx0), ⟨rfl, by simp only; omega, tx0_good.mono (by omega)⟩, finN zs3 p3 k2 _ rfl rfl rfl rfl rfl rfl rfl rfl rfl rfl rfl⟩
       · skip
         refine AW.seq (AW.seq ?_)
         apply AW.list
         apply Wk.bin rfl rfl (fun w => by simp [go_sem] <;> rfl) (lt_of_ble rfl)
         apply Wk.asg (by conv => lhs; whnf) (lt_of_ble rfl)
         refine Wk.nil ?_
         refine AW.cond rfl (fun hc => by cases hc) (fun _ => ?_)
         apply AW.list
         apply Wk.bin rfl rfl (fun w => by simp [go_sem] <;> rfl) (lt_of_ble rfl)
         apply Wk.asg (by conv => lhs; whnf) (lt_of_ble rfl)
         refine Wk.nil (thenA_normal ?_)
         refine AW.cond rfl (fun hc => by cases hc) (fun _ => ?_)
         refine AW.seq (AW.seq ?_)
         apply AW.list
         apply Wk.bin rfl rfl (fun w => by simp [go_sem] <;> rfl) (lt_of_ble rfl)
         apply Wk.asg (by conv => lhs; whnf) (lt_of_ble rfl)
         refine Wk.nil ?_
         refine AW.cond rfl (fun hc => by cases hc) (fun _ => ?_)
         apply AW.list
         apply Wk.bin rfl rfl (fun w => by simp [go_sem] <;> rfl) (lt_of_ble rfl)
         apply Wk.asg (by conv => lhs; whnf) (lt_of_ble rfl)
         refine Wk.nil (thenA_normal ?_)
         refine AW.cond rfl (fun hc => by cases hc) (fun _ => ?_)
         refine AW.seq ?_
         apply AW.list
         apply Wk.bin rfl rfl (fun w => by simp [go_sem] <;> rfl) (lt_of_ble rfl)
         apply Wk.asg (by conv => lhs; whnf) (lt_of_ble rfl)
         refine Wk.nil ?_
         refine AW.cond rfl (fun _ => ?_) (fun hc => by cases hc)
         have e2f : (((x2.fl.map datD).length : Nat) : Int) = (x2.fl.length : Int) := by rw [List.length_map]
         have hlf := hx2.2.2.1.1
         have ha2 := hx2.2.1
         apply AW.draw (hm := hmix) (cs := _)
         · apply Wk.ld (i := 4) 5 true ty24 rfl rfl (by conv => lhs; whnf) (lt_of_ble rfl)
           apply Wk.ld (i := 70) 10 true ty27 rfl rfl (by conv => lhs; whnf) (lt_of_ble rfl)
           apply Wk.fad 1 0 false fd27_1 rfl (lt_of_ble rfl)
           apply Wk.ld (i := 70) 1 false ty3 rfl rfl (by conv => lhs; whnf) (lt_of_ble rfl)
           apply Wk.mv (by conv => lhs; whnf) (lt_of_ble rfl)
           apply Wk.fad 2 0 false fd27_2 rfl (lt_of_ble rfl)
           apply Wk.ld (i := 70) 1 false ty25 rfl rfl (by conv => lhs; whnf) (lt_of_ble rfl)
           apply Wk.len un25 rfl (lt_of_ble rfl)
           apply Wk.addi rfl rfl (by rw [e2f]; omega) (lt_of_ble rfl)
           apply Wk.drw 0 pick_ok Try.func65 rfl rfl rfl rfl ⟨_, rfl, by rw [e2f]; omega⟩ (by omega) rfl (lt_of_ble rfl)
           rintro r4 zs4 p4 ⟨k4, rfl, hk4⟩ hp4
           have hk4 : (k4 : Int) ≤ 20 := by have h := hk4 _ rfl; rw [e2f] at h; omega
           apply Wk.addi rfl rfl (by omega) (lt_of_ble rfl)
           apply Wk.bin rfl rfl (r := .int .i64 ((x2.a + (k4 : Int)) % 8)) (fun w => by simp [go_sem]; exact Int.tmod_eq_emod_of_nonneg (by omega)) (lt_of_ble rfl)
           apply Wk.mv (by conv => lhs; whnf) (lt_of_ble rfl)
           apply Wk.drw 0 pick_ok Try.func65 rfl rfl rfl rfl ⟨_, rfl, by omega⟩ (by omega) rfl (lt_of_ble rfl)
           rintro r5 zs5 p5 ⟨k5, rfl, hk5⟩ hp5
           apply Wk.mv (by conv => lhs; whnf) (lt_of_ble rfl)
           apply Wk.drw 0 pick_ok Try.func65 rfl rfl rfl rfl ⟨_, rfl, by omega⟩ (by omega) rfl (lt_of_ble rfl)
           rintro r6 zs6 p6 ⟨k6, rfl, hk6⟩ hp6
           apply Wk.bin rfl rfl (r := .bool ((k6 : Int) == 0)) (fun w => by simp [go_sem]) (lt_of_ble rfl)
           apply Wk.bld [.int .i64 0, .int .i64 0, .int .i64 0, .bool false, .bool false, .int .i64 0, .int .i64 0, .int .i64 0, .slice none 0 0] [(0, 1), (1, 1), (2, 1), (3, 1), (4, 1), (5, 1), (6, 1), (7, 1), (8, 1)] bl42 rfl (by conv => lhs; whnf) (lt_of_ble rfl)
           have hk5' : k5 < 3 := by have := hk5 3 rfl; omega
           apply Wk.fnx [5, 66] (hearW _) Try.func32 rfl rfl rfl ⟨m, w, pp, u, y, x2, (x2.a + (k4 : Int)) % 8, ((k6 : Int) == 0), (k5 : Int), rfl, hx2, by omega, by omega⟩ rfl (by simp; exact ⟨rfl, rfl⟩) (lt_of_ble rfl)
           rintro r9 ex (⟨x9, hx9, rfl, rfl⟩ | ⟨rfl, rfl⟩)
           · apply Wk.sto (i := 70) 10 true ty27 rfl rfl rfl rfl (Nat.le_of_ble_eq_true rfl) (lt_of_ble rfl)
             refine Wk.nil ?_
             repeat (first | refine inBlockA_normal ?_ | refine thenA_normal ?_)
             exact ⟨(zs6, p6, k2, x9), ⟨rfl, by simp only; omega, hx9.mono (by omega)⟩, fin1 zs6 p6 k2 x9 _ rfl rfl rfl rfl rfl rfl rfl rfl rfl rfl rfl rfl rfl⟩
           · apply Wk.sto (i := 70) 10 true ty27 rfl rfl rfl rfl (Nat.le_of_ble_eq_true rfl) (lt_of_ble rfl)
             refine Wk.nil ?_
             repeat (first | refine inBlockA_normal ?_ | refine thenA_normal ?_)
             exact ⟨(zs6, p6, k2, tx0), ⟨rfl, by simp only; omega, tx0_good.mono (by omega)⟩, finN zs6 p6 k2 _ rfl rfl rfl rfl rfl rfl rfl rfl rfl rfl rfl⟩
         · rfl
         · rfl
       · skip
         refine AW.seq (AW.seq ?_)
         apply AW.list
         apply Wk.bin rfl rfl (fun w => by simp [go_sem] <;> rfl) (lt_of_ble rfl)
         apply Wk.asg (by conv => lhs; whnf) (lt_of_ble rfl)
         refine Wk.nil ?_
         refine AW.cond rfl (fun hc => by cases hc) (fun _ => ?_)
         apply AW.list
         apply Wk.bin rfl rfl (fun w => by simp [go_sem] <;> rfl) (lt_of_ble rfl)
         apply Wk.asg (by conv => lhs; whnf) (lt_of_ble rfl)
         refine Wk.nil (thenA_normal ?_)
         refine AW.cond rfl (fun hc => by cases hc) (fun _ => ?_)
         refine AW.seq (AW.seq ?_)
         apply AW.list
         apply Wk.bin rfl rfl (fun w => by simp [go_sem] <;> rfl) (lt_of_ble rfl)
         apply Wk.asg (by conv => lhs; whnf) (lt_of_ble rfl)
         refine Wk.nil ?_
         refine AW.cond rfl (fun hc => by cases hc) (fun _ => ?_)
         apply AW.list
         apply Wk.bin rfl rfl (fun w => by simp [go_sem] <;> rfl) (lt_of_ble rfl)
         apply Wk.asg (by conv => lhs; whnf) (lt_of_ble rfl)
         refine Wk.nil (thenA_normal ?_)
         refine AW.cond rfl (fun hc => by cases hc) (fun _ => ?_)
         refine AW.seq ?_
         apply AW.list
         apply Wk.bin rfl rfl (fun w => by simp [go_sem] <;> rfl) (lt_of_ble rfl)
         apply Wk.asg (by conv => lhs; whnf) (lt_of_ble rfl)
         refine Wk.nil ?_
         refine AW.cond rfl (fun hc => by cases hc) (fun _ => ?_)
         apply AW.list
         apply Wk.ld (i := 4) 5 true ty24 rfl rfl (by conv => lhs; whnf) (lt_of_ble rfl)
         apply Wk.ld (i := 70) 10 true ty27 rfl rfl (by conv => lhs; whnf) (lt_of_ble rfl)
         apply Wk.fnx [5, 66] (tickW _) Try.func37 rfl rfl rfl ⟨m, w, pp, u, y, x2, false, rfl, hx2⟩ rfl (by simp; exact ⟨rfl, rfl⟩) (lt_of_ble rfl)
         rintro r9 ex ⟨T, i1, i2, i3, b1, b2, i4, i5, i6, z9, b9, rfl, ⟨x9, hx9, rfl, rfl⟩ | ⟨rfl, rfl⟩⟩
         · apply Wk.mv (by conv => lhs; whnf) (lt_of_ble rfl)
           apply Wk.ext rfl rfl (lt_of_ble rfl)
           apply Wk.ext rfl rfl (lt_of_ble rfl)
           apply Wk.ext rfl rfl (lt_of_ble rfl)
           apply Wk.sto (i := 70) 10 true ty27 rfl rfl rfl rfl (Nat.le_of_ble_eq_true rfl) (lt_of_ble rfl)
           refine Wk.nil ?_
           repeat (first | refine inBlockA_normal ?_ | refine thenA_normal ?_)
           exact ⟨(zs3, p3, k2, x9), ⟨rfl, by simp only; omega, hx9.mono (by omega)⟩, fin1 zs3 p3 k2 x9 _ rfl rfl rfl rfl rfl rfl rfl rfl rfl rfl rfl rfl rfl⟩
         · apply Wk.mv (by conv => lhs; whnf) (lt_of_ble rfl)
           apply Wk.ext rfl rfl (lt_of_ble rfl)
           apply Wk.ext rfl rfl (lt_of_ble rfl)
           apply Wk.ext rfl rfl (lt_of_ble rfl)
           apply Wk.sto (i := 70) 10 true ty27 rfl rfl rfl rfl (Nat.le_of_ble_eq_true rfl) (lt_of_ble rfl)
           refine Wk.nil ?_
           repeat (first | refine inBlockA_normal ?_ | refine thenA_normal ?_)
           exact ⟨(zs3, p3, k2, tx0), ⟨rfl, by simp only; omega, tx0_good.mono (by omega)⟩, finN zs3 p3 k2 _ rfl rfl rfl rfl rfl rfl rfl rfl rfl rfl rfl⟩
     · rintro ⟨zs4, p4, k4, x4⟩ ⟨rfl, hp4, hx4⟩
       simp only at hp4 hx4 hk2 hp2 hpos ⊢
       show AW Try.prog C _ _ (St.of 158 [(0, .ptr 0 0), (2, .d (.v (.int .i64 nn))), (4, .ptr 4 0), (6, .ptr 6 0), (7, .ptr 70 0), (8, .d (.v (.int .i64 (k4 : Int))))] [(0, rdr zs4 p4), (4, .var (cfgC m w pp u y)), (5, .own x4.fl.length 47 3 (piecesA x4.fl)), (6, .var txN), (66, .own x4.qu.length 47 3 (piecesA x4.qu)), (70, .var (txOC x4 5 x4.fl.length 66 x4.qu.length))])
       apply AW.list
       apply Wk.mv (by conv => lhs; whnf) (lt_of_ble rfl)
       apply Wk.subn (b := 1) rfl rfl (by omega) (by omega) (lt_of_ble rfl)
       apply Wk.asg (by conv => lhs; whnf) (lt_of_ble rfl)
       refine Wk.nil ?_
       exact ⟨(zs4, p4, k4 - 1, x4), ⟨by simp only; omega, by simp only; omega, hx4.mono (by simp only; omega)⟩, by simp only; omega, fin1 zs4 p4 (k4 - 1) x4 _ rfl rfl rfl rfl rfl rfl rfl rfl rfl rfl rfl rfl rfl⟩
   · obtain rfl : k2 = 0 := by simp at hc; omega
     refine AW.exit ?_
     repeat (first | refine inBlockA_same ?_ | refine thenA_exit ?_)
     repeat (first | refine thenA_normal ?_ | refine inBlockA_normal ?_)
     refine AW.via inv2 (fun z => z.2.1 ≤ p + 69999 ∧ z.2.2.wide) ?_ ?_
     · refine AW.seq ?_
       apply AW.list
       apply Wk.mv (by conv => lhs; whnf) (lt_of_ble rfl)
       apply Wk.mv (by conv => lhs; whnf) (lt_of_ble rfl)
       apply Wk.drw 0 odd_ok Try.func84 rfl rfl rfl rfl ⟨_, rfl, by omega⟩ (by omega) rfl (lt_of_ble rfl)
       rintro r3 zs3 p3 ⟨b3, rfl, _⟩ hp3
       refine Wk.nil ?_
       refine AW.cond rfl (fun hc => ?_) (fun hc => AW.skip (thenA_normal ?_))
       · refine AW.seq ?_
         apply AW.list
         apply Wk.mv (by conv => lhs; whnf) (lt_of_ble rfl)
         apply Wk.drw 0 pick_ok Try.func65 rfl rfl rfl rfl ⟨_, rfl, by omega⟩ (by omega) rfl (lt_of_ble rfl)
         rintro r4 zs4 p4 ⟨k4, rfl, hk4⟩ hp4
         have hk4' : k4 < 8 := by have := hk4 8 rfl; omega
         refine Wk.nil (AW.block ?_)
         rcases (show k4 = 0 ∨ k4 = 1 ∨ k4 = 2 ∨ k4 = 3 ∨ k4 = 4 ∨ k4 = 5 ∨ k4 = 6 ∨ k4 = 7 by omega) with rfl | rfl | rfl | rfl | rfl | rfl | rfl | rfl
         · have hw2 := hx2.wide
           refine AW.seq ?_
           apply AW.list
           apply Wk.bin rfl rfl (fun w => by simp [go_sem] <;> rfl) (lt_of_ble rfl)
           apply Wk.asg (by conv => lhs; whnf) (lt_of_ble rfl)
           refine Wk.nil ?_
           refine AW.cond rfl (fun _ => ?_) (fun hc => by cases hc)
           have cn : DataOk Try.prog 85 [.d (.v (.int .i64 x2.n))] (.d (.v (.int .i64 ((x2.n + 1) % 8)))) := int1 (spec_next x2.n (by have := hx2.1; omega))
           apply AW.list
           apply Wk.fad 0 0 false fd27_0 rfl (lt_of_ble rfl)
           apply Wk.ld (i := 70) 1 false ty3 rfl rfl (by conv => lhs; whnf) (lt_of_ble rfl)
           apply Wk.dat cn Try.func85 rfl rfl rfl rfl rfl (lt_of_ble rfl)
           apply Wk.lst 89 1 false [.int .i64 0] un83 ty3 ze3 rfl rfl (by rfl) (by rfl) (by decide) (by decide) rfl rfl (all_len rfl) (lt_of_ble rfl)
           apply Wk.mv (by conv => lhs; whnf) (lt_of_ble rfl)
           apply Wk.drw 0 pick_ok Try.func65 rfl rfl rfl rfl ⟨_, rfl, by omega⟩ (by omega) rfl (lt_of_ble rfl)
           rintro r9 zs9 p9 ⟨k9, rfl, hk9⟩ hp9
           have hk9' : k9 < 3 := by have := hk9 3 rfl; omega
           obtain ⟨v, hv, hv1, hv2⟩ : ∃ v : Int, partA (List.flatten [[A.d (.v (.int .i64 (-1)))], [A.d (.v (.int .i64 8))], [A.d (.v (.int .i64 ((x2.n + 1) % 8)))]]) (k9 * 1) 1 false = some (.d (.v (.int .i64 v))) ∧ -1 ≤ v ∧ v ≤ 8 := by
             rcases (show k9 = 0 ∨ k9 = 1 ∨ k9 = 2 by omega) with rfl | rfl | rfl
             · exact ⟨_, rfl, by omega, by omega⟩
             · exact ⟨_, rfl, by omega, by omega⟩
             · exact ⟨_, rfl, by omega, by omega⟩
           apply Wk.iado 89 1 false un83 ty3 rfl rfl rfl hk9' (lt_of_ble rfl)
           apply Wk.ldo (i := 89) 1 false ty3 rfl rfl hv (lt_of_ble rfl)
           apply Wk.fad 0 0 false fd27_0 rfl (lt_of_ble rfl)
           apply Wk.sto (i := 70) 1 false ty3 rfl rfl rfl rfl (Nat.le_of_ble_eq_true rfl) (lt_of_ble rfl)
           refine Wk.nil ?_
           repeat (first | refine inBlockA_normal ?_ | refine thenA_normal ?_)
           exact ⟨(zs9, p9, { x2 with n := v }), ⟨by simp only; omega, ⟨⟨hv1, hv2⟩, hw2.2⟩⟩, fin2 zs9 p9 { x2 with n := v } _ _ _ _ _ (asData_parts _) (asData_parts _) rfl rfl rfl rfl rfl rfl rfl rfl rfl⟩
         · have hw2 := hx2.wide
           refine AW.seq ?_
           apply AW.list
           apply Wk.bin rfl rfl (fun w => by simp [go_sem] <;> rfl) (lt_of_ble rfl)
           apply Wk.asg (by conv => lhs; whnf) (lt_of_ble rfl)
           refine Wk.nil ?_
           refine AW.cond rfl (fun hc => by cases hc) (fun _ => ?_)
           refine AW.seq ?_
           apply AW.list
           apply Wk.bin rfl rfl (fun w => by simp [go_sem] <;> rfl) (lt_of_ble rfl)
           apply Wk.asg (by conv => lhs; whnf) (lt_of_ble rfl)
           refine Wk.nil ?_
           refine AW.cond rfl (fun _ => ?_) (fun hc => by cases hc)
           apply AW.list
           apply Wk.lst 97 1 false [.int .i64 0] un83 ty3 ze3 rfl rfl (by rfl) (by rfl) (by decide) (by decide) rfl rfl (all_len rfl) (lt_of_ble rfl)
           apply Wk.mv (by conv => lhs; whnf) (lt_of_ble rfl)
           apply Wk.drw 0 pick_ok Try.func65 rfl rfl rfl rfl ⟨_, rfl, by omega⟩ (by omega) rfl (lt_of_ble rfl)
           rintro r9 zs9 p9 ⟨k9, rfl, hk9⟩ hp9
           have hk9' : k9 < 2 := by have := hk9 2 rfl; omega
           obtain ⟨v, hv, hv1, hv2⟩ : ∃ v : Int, partA (List.flatten [[A.d (.v (.int .i64 (-1)))], [A.d (.v (.int .i64 8))]]) (k9 * 1) 1 false = some (.d (.v (.int .i64 v))) ∧ -1 ≤ v ∧ v ≤ 8 := by
             rcases (show k9 = 0 ∨ k9 = 1 by omega) with rfl | rfl
             · exact ⟨_, rfl, by omega, by omega⟩
             · exact ⟨_, rfl, by omega, by omega⟩
           apply Wk.iado 97 1 false un83 ty3 rfl rfl rfl hk9' (lt_of_ble rfl)
           apply Wk.ldo (i := 97) 1 false ty3 rfl rfl hv (lt_of_ble rfl)
           apply Wk.fad 1 0 false fd27_1 rfl (lt_of_ble rfl)
           apply Wk.sto (i := 70) 1 false ty3 rfl rfl rfl rfl (Nat.le_of_ble_eq_true rfl) (lt_of_ble rfl)
           refine Wk.nil ?_
           repeat (first | refine inBlockA_normal ?_ | refine thenA_normal ?_)
           exact ⟨(zs9, p9, { x2 with a := v }), ⟨by simp only; omega, ⟨hw2.1, ⟨hv1, hv2⟩, hw2.2.2⟩⟩, fin2 zs9 p9 { x2 with a := v } _ _ _ _ _ (asData_parts _) (asData_parts _) rfl rfl rfl rfl rfl rfl rfl rfl rfl⟩
         · have hw2 := hx2.wide
           refine AW.seq ?_
           apply AW.list
           apply Wk.bin rfl rfl (fun w => by simp [go_sem] <;> rfl) (lt_of_ble rfl)
           apply Wk.asg (by conv => lhs; whnf) (lt_of_ble rfl)
           refine Wk.nil ?_
           refine AW.cond rfl (fun hc => by cases hc) (fun _ => ?_)
           refine AW.seq ?_
           apply AW.list
           apply Wk.bin rfl rfl (fun w => by simp [go_sem] <;> rfl) (lt_of_ble rfl)
           apply Wk.asg (by conv => lhs; whnf) (lt_of_ble rfl)
           refine Wk.nil ?_
           refine AW.cond rfl (fun hc => by cases hc) (fun _ => ?_)
           refine AW.seq ?_
           apply AW.list
           apply Wk.bin rfl rfl (fun w => by simp [go_sem] <;> rfl) (lt_of_ble rfl)
           apply Wk.asg (by conv => lhs; whnf) (lt_of_ble rfl)
           refine Wk.nil ?_
           refine AW.cond rfl (fun _ => ?_) (fun hc => by cases hc)
           have e3 : (((piecesA x2.fl).length : Nat) : Int) = (x2.fl.length : Int) := by rw [piecesA, List.length_map]
           have hfl := hx2.2.2.1.1
           apply AW.draw (hm := hmix) (cs := _)
           · apply Wk.fad 2 0 false fd27_2 rfl (lt_of_ble rfl)
             apply Wk.ld (i := 70) 1 false ty25 rfl rfl (by conv => lhs; whnf) (lt_of_ble rfl)
             apply Wk.leno (i := 5) un25 rfl rfl (lt_of_ble rfl)
             apply Wk.addi rfl rfl (by omega) (lt_of_ble rfl)
             apply Wk.lst 109 1 false [.int .i64 0] un83 ty3 ze3 rfl rfl (by rfl) (by rfl) (by decide) (by decide) rfl rfl (all_len rfl) (lt_of_ble rfl)
             apply Wk.mv (by conv => lhs; whnf) (lt_of_ble rfl)
             apply Wk.drw 0 pick_ok Try.func65 rfl rfl rfl rfl ⟨_, rfl, by omega⟩ (by omega) rfl (lt_of_ble rfl)
             rintro r9 zs9 p9 ⟨k9, rfl, hk9⟩ hp9
             have hk9' : k9 < 2 := by have := hk9 2 rfl; omega
             obtain ⟨v, hv, hv1, hv2⟩ : ∃ v : Int, partA (List.flatten [[A.d (.v (.int .i64 (-1)))], [A.d (.v (.int .i64 ((((piecesA x2.fl).length : Nat) : Int) + 1)))]]) (k9 * 1) 1 false = some (.d (.v (.int .i64 v))) ∧ -1 ≤ v ∧ v ≤ 11 := by
               rcases (show k9 = 0 ∨ k9 = 1 by omega) with rfl | rfl
               · exact ⟨_, rfl, by omega, by omega⟩
               · exact ⟨_, rfl, by omega, by omega⟩
             apply Wk.iado 109 1 false un83 ty3 rfl rfl rfl hk9' (lt_of_ble rfl)
             apply Wk.ldo (i := 109) 1 false ty3 rfl rfl hv (lt_of_ble rfl)
             apply Wk.fad 3 0 false fd27_3 rfl (lt_of_ble rfl)
             apply Wk.sto (i := 70) 1 false ty3 rfl rfl rfl rfl (Nat.le_of_ble_eq_true rfl) (lt_of_ble rfl)
             refine Wk.nil ?_
             repeat (first | refine inBlockA_normal ?_ | refine thenA_normal ?_)
             exact ⟨(zs9, p9, { x2 with s := v }), ⟨by simp only; omega, ⟨hw2.1, hw2.2.1, hw2.2.2.1, ⟨hv1, hv2⟩, hw2.2.2.2.2⟩⟩, fin2 zs9 p9 { x2 with s := v } _ _ _ _ _ (asData_parts _) (asData_parts _) rfl rfl rfl rfl rfl rfl rfl rfl rfl⟩
           · rfl
           · rfl
         · have hw2 := hx2.wide
           refine AW.seq ?_
           apply AW.list
           apply Wk.bin rfl rfl (fun w => by simp [go_sem] <;> rfl) (lt_of_ble rfl)
           apply Wk.asg (by conv => lhs; whnf) (lt_of_ble rfl)
           refine Wk.nil ?_
           refine AW.cond rfl (fun hc => by cases hc) (fun _ => ?_)
           refine AW.seq ?_
           apply AW.list
           apply Wk.bin rfl rfl (fun w => by simp [go_sem] <;> rfl) (lt_of_ble rfl)
           apply Wk.asg (by conv => lhs; whnf) (lt_of_ble rfl)
           refine Wk.nil ?_
           refine AW.cond rfl (fun hc => by cases hc) (fun _ => ?_)
           refine AW.seq ?_
           apply AW.list
           apply Wk.bin rfl rfl (fun w => by simp [go_sem] <;> rfl) (lt_of_ble rfl)
           apply Wk.asg (by conv => lhs; whnf) (lt_of_ble rfl)
           refine Wk.nil ?_
           refine AW.cond rfl (fun hc => by cases hc) (fun _ => ?_)
           refine AW.seq ?_
           apply AW.list
           apply Wk.bin rfl rfl (fun w => by simp [go_sem] <;> rfl) (lt_of_ble rfl)
           apply Wk.asg (by conv => lhs; whnf) (lt_of_ble rfl)
           refine Wk.nil ?_
           refine AW.cond rfl (fun _ => ?_) (fun hc => by cases hc)
           apply AW.draw (hm := hmix) (cs := _)
           · apply Wk.fad 4 0 false fd24_4 rfl (lt_of_ble rfl)
             apply Wk.ld (i := 4) 1 false ty3 rfl rfl (by conv => lhs; whnf) (lt_of_ble rfl)
             apply Wk.addi rfl rfl (by omega) (lt_of_ble rfl)
             apply Wk.fad 4 0 false fd24_4 rfl (lt_of_ble rfl)
             apply Wk.ld (i := 4) 1 false ty3 rfl rfl (by conv => lhs; whnf) (lt_of_ble rfl)
             apply Wk.lst 122 1 false [.int .i64 0] un83 ty3 ze3 rfl rfl (by rfl) (by rfl) (by decide) (by decide) rfl rfl (all_len rfl) (lt_of_ble rfl)
             apply Wk.mv (by conv => lhs; whnf) (lt_of_ble rfl)
             apply Wk.drw 0 pick_ok Try.func65 rfl rfl rfl rfl ⟨_, rfl, by omega⟩ (by omega) rfl (lt_of_ble rfl)
             rintro r9 zs9 p9 ⟨k9, rfl, hk9⟩ hp9
             have hk9' : k9 < 3 := by have := hk9 3 rfl; omega
             obtain ⟨v, hv, hv1, hv2⟩ : ∃ v : Int, partA (List.flatten [[A.d (.v (.int .i64 (-1)))], [A.d (.v (.int .i64 (y + 1)))], [A.d (.v (.int .i64 y))]]) (k9 * 1) 1 false = some (.d (.v (.int .i64 v))) ∧ -1 ≤ v ∧ v ≤ 10 := by
               rcases (show k9 = 0 ∨ k9 = 1 ∨ k9 = 2 by omega) with rfl | rfl | rfl
               · exact ⟨_, rfl, by omega, by omega⟩
               · exact ⟨_, rfl, by omega, by omega⟩
               · exact ⟨_, rfl, by omega, by omega⟩
             apply Wk.iado 122 1 false un83 ty3 rfl rfl rfl hk9' (lt_of_ble rfl)
             apply Wk.ldo (i := 122) 1 false ty3 rfl rfl hv (lt_of_ble rfl)
             apply Wk.fad 6 0 false fd27_6 rfl (lt_of_ble rfl)
             apply Wk.sto (i := 70) 1 false ty3 rfl rfl rfl rfl (Nat.le_of_ble_eq_true rfl) (lt_of_ble rfl)
             refine Wk.nil ?_
             repeat (first | refine inBlockA_normal ?_ | refine thenA_normal ?_)
             exact ⟨(zs9, p9, { x2 with t := v }), ⟨by simp only; omega, ⟨hw2.1, hw2.2.1, hw2.2.2.1, hw2.2.2.2.1, hw2.2.2.2.2.1, ⟨hv1, hv2⟩, hw2.2.2.2.2.2.2⟩⟩, fin2 zs9 p9 { x2 with t := v } _ _ _ _ _ (asData_parts _) (asData_parts _) rfl rfl rfl rfl rfl rfl rfl rfl rfl⟩
           · rfl
           · rfl
         · have hw2 := hx2.wide
           refine AW.seq ?_
           apply AW.list
           apply Wk.bin rfl rfl (fun w => by simp [go_sem] <;> rfl) (lt_of_ble rfl)
           apply Wk.asg (by conv => lhs; whnf) (lt_of_ble rfl)
           refine Wk.nil ?_
           refine AW.cond rfl (fun hc => by cases hc) (fun _ => ?_)
           refine AW.seq ?_
           apply AW.list
           apply Wk.bin rfl rfl (fun w => by simp [go_sem] <;> rfl) (lt_of_ble rfl)
           apply Wk.asg (by conv => lhs; whnf) (lt_of_ble rfl)
           refine Wk.nil ?_
           refine AW.cond rfl (fun hc => by cases hc) (fun _ => ?_)
           refine AW.seq ?_
           apply AW.list
           apply Wk.bin rfl rfl (fun w => by simp [go_sem] <;> rfl) (lt_of_ble rfl)
           apply Wk.asg (by conv => lhs; whnf) (lt_of_ble rfl)
           refine Wk.nil ?_
           refine AW.cond rfl (fun hc => by cases hc) (fun _ => ?_)
           refine AW.seq ?_
           apply AW.list
           apply Wk.bin rfl rfl (fun w => by simp [go_sem] <;> rfl) (lt_of_ble rfl)
           apply Wk.asg (by conv => lhs; whnf) (lt_of_ble rfl)
           refine Wk.nil ?_
           refine AW.cond rfl (fun hc => by cases hc) (fun _ => ?_)
           refine AW.seq ?_
           apply AW.list
           apply Wk.bin rfl rfl (fun w => by simp [go_sem] <;> rfl) (lt_of_ble rfl)
           apply Wk.asg (by conv => lhs; whnf) (lt_of_ble rfl)
           refine Wk.nil ?_
           refine AW.cond rfl (fun _ => ?_) (fun hc => by cases hc)
           have hc2 := hx2.2.2.2.2.2.2
           apply AW.draw (hm := hmix) (cs := _)
           · apply Wk.fad 8 0 false fd27_8 rfl (lt_of_ble rfl)
             apply Wk.ld (i := 70) 1 false ty3 rfl rfl (by conv => lhs; whnf) (lt_of_ble rfl)
             apply Wk.addi rfl rfl (by omega) (lt_of_ble rfl)
             apply Wk.lst 133 1 false [.int .i64 0] un83 ty3 ze3 rfl rfl (by rfl) (by rfl) (by decide) (by decide) rfl rfl (all_len rfl) (lt_of_ble rfl)
             apply Wk.mv (by conv => lhs; whnf) (lt_of_ble rfl)
             apply Wk.drw 0 pick_ok Try.func65 rfl rfl rfl rfl ⟨_, rfl, by omega⟩ (by omega) rfl (lt_of_ble rfl)
             rintro r9 zs9 p9 ⟨k9, rfl, hk9⟩ hp9
             have hk9' : k9 < 3 := by have := hk9 3 rfl; omega
             obtain ⟨v, hv, hv1, hv2⟩ : ∃ v : Int, partA (List.flatten [[A.d (.v (.int .i64 (-1)))], [A.d (.v (.int .i64 10000))], [A.d (.v (.int .i64 (x2.c + 8)))]]) (k9 * 1) 1 false = some (.d (.v (.int .i64 v))) ∧ -1 ≤ v ∧ (v ≤ 1000 ∨ v = 10000) := by
               rcases (show k9 = 0 ∨ k9 = 1 ∨ k9 = 2 by omega) with rfl | rfl | rfl
               · exact ⟨_, rfl, by omega, by omega⟩
               · exact ⟨_, rfl, by omega, by omega⟩
               · exact ⟨_, rfl, by omega, by omega⟩
             apply Wk.iado 133 1 false un83 ty3 rfl rfl rfl hk9' (lt_of_ble rfl)
             apply Wk.ldo (i := 133) 1 false ty3 rfl rfl hv (lt_of_ble rfl)
             apply Wk.fad 8 0 false fd27_8 rfl (lt_of_ble rfl)
             apply Wk.sto (i := 70) 1 false ty3 rfl rfl rfl rfl (Nat.le_of_ble_eq_true rfl) (lt_of_ble rfl)
             refine Wk.nil ?_
             repeat (first | refine inBlockA_normal ?_ | refine thenA_normal ?_)
             exact ⟨(zs9, p9, { x2 with c := v }), ⟨by simp only; omega, ⟨hw2.1, hw2.2.1, hw2.2.2.1, hw2.2.2.2.1, hw2.2.2.2.2.1, hw2.2.2.2.2.2.1, ⟨hv1, hv2⟩⟩⟩, fin2 zs9 p9 { x2 with c := v } _ _ _ _ _ (asData_parts _) (asData_parts _) rfl rfl rfl rfl rfl rfl rfl rfl rfl⟩
           · rfl
           · rfl
         · have hw2 := hx2.wide
           refine AW.seq ?_
           apply AW.list
           apply Wk.bin rfl rfl (fun w => by simp [go_sem] <;> rfl) (lt_of_ble rfl)
           apply Wk.asg (by conv => lhs; whnf) (lt_of_ble rfl)
           refine Wk.nil ?_
           refine AW.cond rfl (fun hc => by cases hc) (fun _ => ?_)
           refine AW.seq ?_
           apply AW.list
           apply Wk.bin rfl rfl (fun w => by simp [go_sem] <;> rfl) (lt_of_ble rfl)
           apply Wk.asg (by conv => lhs; whnf) (lt_of_ble rfl)
           refine Wk.nil ?_
           refine AW.cond rfl (fun hc => by cases hc) (fun _ => ?_)
           refine AW.seq ?_
           apply AW.list
           apply Wk.bin rfl rfl (fun w => by simp [go_sem] <;> rfl) (lt_of_ble rfl)
           apply Wk.asg (by conv => lhs; whnf) (lt_of_ble rfl)
           refine Wk.nil ?_
           refine AW.cond rfl (fun hc => by cases hc) (fun _ => ?_)
           refine AW.seq ?_
           apply AW.list
           apply Wk.bin rfl rfl (fun w => by simp [go_sem] <;> rfl) (lt_of_ble rfl)
           apply Wk.asg (by conv => lhs; whnf) (lt_of_ble rfl)
           refine Wk.nil ?_
           refine AW.cond rfl (fun hc => by cases hc) (fun _ => ?_)
           refine AW.seq ?_
           apply AW.list
           apply Wk.bin rfl rfl (fun w => by simp [go_sem] <;> rfl) (lt_of_ble rfl)
           apply Wk.asg (by conv => lhs; whnf) (lt_of_ble rfl)
           refine Wk.nil ?_
           refine AW.cond rfl (fun hc => by cases hc) (fun _ => ?_)
           refine AW.seq ?_
           apply AW.list
           apply Wk.bin rfl rfl (fun w => by simp [go_sem] <;> rfl) (lt_of_ble rfl)
           apply Wk.asg (by conv => lhs; whnf) (lt_of_ble rfl)
           refine Wk.nil ?_
           refine AW.cond rfl (fun _ => ?_) (fun hc => by cases hc)
           have hlq := hx2.2.2.2.2.1.1
           apply AW.draw (hm := hmix) (cs := _)
           · apply Wk.fad 4 0 false fd27_4 rfl (lt_of_ble rfl)
             apply Wk.ld (i := 70) 1 false ty25 rfl rfl (by conv => lhs; whnf) (lt_of_ble rfl)
             apply Wk.mv (by conv => lhs; whnf) (lt_of_ble rfl)
             apply Wk.drw 0 partOr_ok Try.func86 rfl rfl rfl rfl ⟨_, rfl, by omega⟩ (by omega) rfl (lt_of_ble rfl)
             rintro r9 zs9 p9 ⟨sg, ln, bs, rfl, hs1, hl1, hb1⟩ hp9
             apply Wk.lst 145 3 true [.int .i64 0, .int .i64 0, .slice none 0 0] un25 ty47 ze47 rfl rfl (by rfl) (by rfl) (by decide) (by decide) rfl rfl (all_len rfl) (lt_of_ble rfl)
             apply Wk.appOO 66 145 3 un25 ap47 rfl rfl rfl rfl (by decide) (all_len rfl) (three_parts _) (by simp [piecesA]; omega) (lt_of_ble rfl)
             apply Wk.fad 4 0 false fd27_4 rfl (lt_of_ble rfl)
             apply Wk.sto (i := 70) 1 false ty25 rfl rfl rfl rfl (Nat.le_of_ble_eq_true rfl) (lt_of_ble rfl)
             have ha9 : asData (piecesA x2.qu ++ [[A.d (.v (.int .i64 sg)), A.d (.v (.int .i64 ln)), A.d (fbytes bs)]]) ((x2.qu ++ [(sg, ln, bs.map (·.val))]).map datD) := asData_more (asData_parts _) _ _ rfl
             have hq9 : (x2.qu ++ [(sg, ln, bs.map (·.val))]).length ≤ 25 ∧ ∀ d ∈ x2.qu ++ [(sg, ln, bs.map (·.val))], (Byt d.2.2 ∧ d.2.2.length ≤ 24) := by
               refine ⟨by simp only [List.length_append, List.length_singleton]; omega, fun d hd => ?_⟩
               rcases List.mem_append.1 hd with hd | hd
               · exact hx2.2.2.2.2.1.2 d hd
               · rw [List.mem_singleton.1 hd]; exact ⟨fin_byt bs, by simp; omega⟩
             refine Wk.nil ?_
             repeat (first | refine inBlockA_normal ?_ | refine thenA_normal ?_)
             exact ⟨(zs9, p9, { x2 with qu := x2.qu ++ [(sg, ln, bs.map (·.val))] }), ⟨by simp only; omega, ⟨hw2.1, hw2.2.1, hw2.2.2.1, hw2.2.2.2.1, hq9, hw2.2.2.2.2.2⟩⟩, fin2 zs9 p9 { x2 with qu := x2.qu ++ [(sg, ln, bs.map (·.val))] } _ _ _ _ _ (asData_parts _) ha9 rfl rfl rfl rfl rfl rfl rfl rfl rfl⟩
           · rfl
           · rfl
         · have hw2 := hx2.wide
           refine AW.seq ?_
           apply AW.list
           apply Wk.bin rfl rfl (fun w => by simp [go_sem] <;> rfl) (lt_of_ble rfl)
           apply Wk.asg (by conv => lhs; whnf) (lt_of_ble rfl)
           refine Wk.nil ?_
           refine AW.cond rfl (fun hc => by cases hc) (fun _ => ?_)
           refine AW.seq ?_
           apply AW.list
           apply Wk.bin rfl rfl (fun w => by simp [go_sem] <;> rfl) (lt_of_ble rfl)
           apply Wk.asg (by conv => lhs; whnf) (lt_of_ble rfl)
           refine Wk.nil ?_
           refine AW.cond rfl (fun hc => by cases hc) (fun _ => ?_)
           refine AW.seq ?_
           apply AW.list
           apply Wk.bin rfl rfl (fun w => by simp [go_sem] <;> rfl) (lt_of_ble rfl)
           apply Wk.asg (by conv => lhs; whnf) (lt_of_ble rfl)
           refine Wk.nil ?_
           refine AW.cond rfl (fun hc => by cases hc) (fun _ => ?_)
           refine AW.seq ?_
           apply AW.list
           apply Wk.bin rfl rfl (fun w => by simp [go_sem] <;> rfl) (lt_of_ble rfl)
           apply Wk.asg (by conv => lhs; whnf) (lt_of_ble rfl)
           refine Wk.nil ?_
           refine AW.cond rfl (fun hc => by cases hc) (fun _ => ?_)
           refine AW.seq ?_
           apply AW.list
           apply Wk.bin rfl rfl (fun w => by simp [go_sem] <;> rfl) (lt_of_ble rfl)
           apply Wk.asg (by conv => lhs; whnf) (lt_of_ble rfl)
           refine Wk.nil ?_
           refine AW.cond rfl (fun hc => by cases hc) (fun _ => ?_)
           refine AW.seq ?_
           apply AW.list
           apply Wk.bin rfl rfl (fun w => by simp [go_sem] <;> rfl) (lt_of_ble rfl)
           apply Wk.asg (by conv => lhs; whnf) (lt_of_ble rfl)
           refine Wk.nil ?_
           refine AW.cond rfl (fun hc => by cases hc) (fun _ => ?_)
           refine AW.seq ?_
           apply AW.list
           apply Wk.bin rfl rfl (fun w => by simp [go_sem] <;> rfl) (lt_of_ble rfl)
           apply Wk.asg (by conv => lhs; whnf) (lt_of_ble rfl)
           refine Wk.nil ?_
           refine AW.cond rfl (fun _ => ?_) (fun hc => by cases hc)
           have hlq := hx2.2.2.1.1
           apply AW.draw (hm := hmix) (cs := _)
           · apply Wk.fad 2 0 false fd27_2 rfl (lt_of_ble rfl)
             apply Wk.ld (i := 70) 1 false ty25 rfl rfl (by conv => lhs; whnf) (lt_of_ble rfl)
             apply Wk.mv (by conv => lhs; whnf) (lt_of_ble rfl)
             apply Wk.drw 0 partD_ok Try.func87 rfl rfl rfl rfl rfl (by omega) rfl (lt_of_ble rfl)
             rintro r9 zs9 p9 ⟨sg, ln, bs, rfl, hs1, hl1, hb1⟩ hp9
             apply Wk.lst 154 3 true [.int .i64 0, .int .i64 0, .slice none 0 0] un25 ty47 ze47 rfl rfl (by rfl) (by rfl) (by decide) (by decide) rfl rfl (all_len rfl) (lt_of_ble rfl)
             apply Wk.appOO 5 154 3 un25 ap47 rfl rfl rfl rfl (by decide) (all_len rfl) (three_parts _) (by simp [piecesA]; omega) (lt_of_ble rfl)
             apply Wk.fad 2 0 false fd27_2 rfl (lt_of_ble rfl)
             apply Wk.sto (i := 70) 1 false ty25 rfl rfl rfl rfl (Nat.le_of_ble_eq_true rfl) (lt_of_ble rfl)
             have ha9 : asData (piecesA x2.fl ++ [[A.d (.v (.int .i64 sg)), A.d (.v (.int .i64 ln)), A.d (fbytes bs)]]) ((x2.fl ++ [(sg, ln, bs.map (·.val))]).map datD) := asData_more (asData_parts _) _ _ rfl
             have hq9 : (x2.fl ++ [(sg, ln, bs.map (·.val))]).length ≤ 11 ∧ ∀ d ∈ x2.fl ++ [(sg, ln, bs.map (·.val))], (Byt d.2.2 ∧ d.2.2.length ≤ 24) := by
               refine ⟨by simp only [List.length_append, List.length_singleton]; omega, fun d hd => ?_⟩
               rcases List.mem_append.1 hd with hd | hd
               · exact hx2.2.2.1.2 d hd
               · rw [List.mem_singleton.1 hd]; exact ⟨fin_byt bs, by simp; omega⟩
             refine Wk.nil ?_
             repeat (first | refine inBlockA_normal ?_ | refine thenA_normal ?_)
             exact ⟨(zs9, p9, { x2 with fl := x2.fl ++ [(sg, ln, bs.map (·.val))] }), ⟨by simp only; omega, ⟨hw2.1, hw2.2.1, hq9, hw2.2.2.2⟩⟩, fin2 zs9 p9 { x2 with fl := x2.fl ++ [(sg, ln, bs.map (·.val))] } _ _ _ _ _ ha9 (asData_parts _) rfl rfl rfl rfl rfl rfl rfl rfl rfl⟩
           · rfl
           · rfl
         · have hw2 := hx2.wide
           refine AW.seq ?_
           apply AW.list
           apply Wk.bin rfl rfl (fun w => by simp [go_sem] <;> rfl) (lt_of_ble rfl)
           apply Wk.asg (by conv => lhs; whnf) (lt_of_ble rfl)
           refine Wk.nil ?_
           refine AW.cond rfl (fun hc => by cases hc) (fun _ => ?_)
           refine AW.seq ?_
           apply AW.list
           apply Wk.bin rfl rfl (fun w => by simp [go_sem] <;> rfl) (lt_of_ble rfl)
           apply Wk.asg (by conv => lhs; whnf) (lt_of_ble rfl)
           refine Wk.nil ?_
           refine AW.cond rfl (fun hc => by cases hc) (fun _ => ?_)
           refine AW.seq ?_
           apply AW.list
           apply Wk.bin rfl rfl (fun w => by simp [go_sem] <;> rfl) (lt_of_ble rfl)
           apply Wk.asg (by conv => lhs; whnf) (lt_of_ble rfl)
           refine Wk.nil ?_
           refine AW.cond rfl (fun hc => by cases hc) (fun _ => ?_)
           refine AW.seq ?_
           apply AW.list
           apply Wk.bin rfl rfl (fun w => by simp [go_sem] <;> rfl) (lt_of_ble rfl)
           apply Wk.asg (by conv => lhs; whnf) (lt_of_ble rfl)
           refine Wk.nil ?_
           refine AW.cond rfl (fun hc => by cases hc) (fun _ => ?_)
           refine AW.seq ?_
           apply AW.list
           apply Wk.bin rfl rfl (fun w => by simp [go_sem] <;> rfl) (lt_of_ble rfl)
           apply Wk.asg (by conv => lhs; whnf) (lt_of_ble rfl)
           refine Wk.nil ?_
           refine AW.cond rfl (fun hc => by cases hc) (fun _ => ?_)
           refine AW.seq ?_
           apply AW.list
           apply Wk.bin rfl rfl (fun w => by simp [go_sem] <;> rfl) (lt_of_ble rfl)
           apply Wk.asg (by conv => lhs; whnf) (lt_of_ble rfl)
           refine Wk.nil ?_
           refine AW.cond rfl (fun hc => by cases hc) (fun _ => ?_)
           refine AW.seq ?_
           apply AW.list
           apply Wk.bin rfl rfl (fun w => by simp [go_sem] <;> rfl) (lt_of_ble rfl)
           apply Wk.asg (by conv => lhs; whnf) (lt_of_ble rfl)
           refine Wk.nil ?_
           refine AW.cond rfl (fun hc => by cases hc) (fun _ => ?_)
           have hlq := hx2.2.2.2.2.1.1
           refine AW.block ?_
           let inv3 : Nat → St := fun j => St.of 158 [(0, .ptr 0 0), (6, .ptr 6 0), (7, .ptr 70 0)] [(0, rdr zs4 p4), (5, .own x2.fl.length 47 3 (piecesA x2.fl)), (6, .var txN), (66, .own (x2.qu.length + j) 47 3 (piecesA x2.qu ++ List.replicate j [A.d (.v (.int .i64 0)), A.d (.v (.int .i64 0)), A.d (.v (.slice none 0 0))])), (70, .var (txOC x2 5 x2.fl.length 66 (x2.qu.length + j)))]
           have hin3 : ∀ j, (piecesA x2.qu ++ List.replicate j [A.d (.v (.int .i64 0)), A.d (.v (.int .i64 0)), A.d (.v (.slice none 0 0))]).all (A.withins (keys [(0, rdr zs4 p4), (5, .own x2.fl.length 47 3 (piecesA x2.fl)), (6, .var txN), (66, .own (x2.qu.length + j) 47 3 (piecesA x2.qu ++ List.replicate j [A.d (.v (.int .i64 0)), A.d (.v (.int .i64 0)), A.d (.v (.slice none 0 0))])), (70, .var (txOC x2 5 x2.fl.length 66 (x2.qu.length + j)))])) = true := by
             intro j
             rw [List.all_append, within_parts, Bool.true_and, List.all_eq_true]
             intro c hc
             rw [(List.mem_replicate.1 hc).2]; rfl
           refine AW.loop inv3 (fun j => x2.qu.length + j ≤ 25) (fun j => 25 - (x2.qu.length + j)) 0 (by omega) ?_ ?_
           · exact fun a w => Rel.keep ⟨rfl, .cons rfl rfl (.cons rfl rfl (.cons rfl rfl .nil)), .cons rfl rfl (.cons rfl (by exact within_parts _) (.cons rfl rfl (.cons (by rw [List.replicate_zero, List.append_nil]; rfl) (by exact hin3 0) (.cons rfl rfl .nil)))), hN.mono (by simp [keys])⟩
           rintro j hj
           show AW Try.prog C _ _ (St.of 158 [(0, .ptr 0 0), (6, .ptr 6 0), (7, .ptr 70 0)] [(0, rdr zs4 p4), (5, .own x2.fl.length 47 3 (piecesA x2.fl)), (6, .var txN), (66, .own (x2.qu.length + j) 47 3 (piecesA x2.qu ++ List.replicate j [A.d (.v (.int .i64 0)), A.d (.v (.int .i64 0)), A.d (.v (.slice none 0 0))])), (70, .var (txOC x2 5 x2.fl.length 66 (x2.qu.length + j)))])
           have hlj : (piecesA x2.qu ++ List.replicate j [A.d (.v (.int .i64 0)), A.d (.v (.int .i64 0)), A.d (.v (.slice none 0 0))]).length = x2.qu.length + j := by simp [piecesA]
           have hez : ∀ c ∈ piecesA x2.qu ++ List.replicate j [A.d (.v (.int .i64 0)), A.d (.v (.int .i64 0)), A.d (.v (.slice none 0 0))], c.length = 3 := by
             intro c hc
             rcases List.mem_append.1 hc with hc | hc
             · exact three_parts _ c hc
             · rw [(List.mem_replicate.1 hc).2]; rfl
           by_cases hgo : x2.qu.length + j ≤ 24
           · refine AW.seq (AW.seq ?_)
             apply AW.list
             apply Wk.fad 4 0 false fd27_4 rfl (lt_of_ble rfl)
             apply Wk.ld (i := 70) 1 false ty25 rfl rfl (by conv => lhs; whnf) (lt_of_ble rfl)
             apply Wk.leno (i := 66) un25 rfl rfl (lt_of_ble rfl)
             apply Wk.bin rfl rfl (r := .bool true) (fun w => by rw [hlj]; simp [go_sem] <;> omega) (lt_of_ble rfl)
             refine Wk.nil ?_
             refine AW.cond rfl (fun _ => AW.skip ?_) (fun hc => by cases hc)
             repeat (first | refine thenA_normal ?_ | refine inBlockA_normal ?_)
             refine AW.block ?_
             apply AW.list
             apply Wk.fad 4 0 false fd27_4 rfl (lt_of_ble rfl)
             apply Wk.ld (i := 70) 1 false ty25 rfl rfl (by conv => lhs; whnf) (lt_of_ble rfl)
             apply Wk.bld [.int .i64 0, .int .i64 0, .slice none 0 0] [(0, 1), (1, 1), (2, 1)] bl47 rfl (by conv => lhs; whnf) (lt_of_ble rfl)
             apply Wk.lst 81 3 true [.int .i64 0, .int .i64 0, .slice none 0 0] un25 ty47 ze47 rfl rfl (by rfl) (by rfl) (by decide) (by decide) rfl rfl (all_len rfl) (lt_of_ble rfl)
             apply Wk.appOO 66 81 3 un25 ap47 rfl rfl rfl rfl (by decide) (all_len rfl) hez (by simp [piecesA]; omega) (lt_of_ble rfl)
             apply Wk.fad 4 0 false fd27_4 rfl (lt_of_ble rfl)
             apply Wk.sto (i := 70) 1 false ty25 rfl rfl rfl rfl (Nat.le_of_ble_eq_true rfl) (lt_of_ble rfl)
             refine Wk.nil ?_
             repeat (first | refine inBlockA_normal ?_ | refine thenA_normal ?_)
             refine ⟨j + 1, by omega, by omega, ?_⟩
             exact fun a w => Rel.keep ⟨rfl, .cons rfl rfl (.cons rfl rfl (.cons rfl rfl .nil)), .cons rfl rfl (.cons rfl (by exact within_parts _) (.cons rfl rfl (.cons (by simp only [List.replicate_succ', ← List.append_assoc]; rfl) (by exact hin3 (j + 1)) (.cons rfl rfl .nil)))), hN.mono (by simp [keys])⟩
           · refine AW.seq (AW.seq ?_)
             apply AW.list
             apply Wk.fad 4 0 false fd27_4 rfl (lt_of_ble rfl)
             apply Wk.ld (i := 70) 1 false ty25 rfl rfl (by conv => lhs; whnf) (lt_of_ble rfl)
             apply Wk.leno (i := 66) un25 rfl rfl (lt_of_ble rfl)
             apply Wk.bin rfl rfl (r := .bool false) (fun w => by rw [hlj]; simp [go_sem] <;> omega) (lt_of_ble rfl)
             refine Wk.nil ?_
             refine AW.cond rfl (fun hc => by cases hc) (fun _ => ?_)
             refine AW.exit ?_
             repeat (first | refine inBlockA_same ?_ | refine thenA_exit ?_ | refine inBlockA_other (by decide) ?_)
             repeat (first | refine thenA_normal ?_ | refine inBlockA_normal ?_)
             have ha9 : asData (piecesA x2.qu ++ List.replicate j [A.d (.v (.int .i64 0)), A.d (.v (.int .i64 0)), A.d (.v (.slice none 0 0))]) ((x2.qu ++ List.replicate j (0, 0, [])).map datD) := by
               have := asData_parts x2.qu
               simp only [asData, List.map_append, List.map_replicate] at this ⊢
               rw [this]
               rfl
             refine ⟨(zs4, p4, { x2 with qu := x2.qu ++ List.replicate j (0, 0, []) }), ⟨by simp only; omega, ⟨hw2.1, hw2.2.1, hw2.2.2.1, hw2.2.2.2.1, ⟨by simp; omega, fun d hd => ?_⟩, hw2.2.2.2.2.2⟩⟩, fin2 zs4 p4 _ _ _ _ _ _ (asData_parts _) ha9 rfl rfl rfl rfl rfl rfl rfl rfl rfl⟩
             rcases List.mem_append.1 hd with hd | hd
             · exact hw2.2.2.2.2.1.2 d hd
             · rw [(List.mem_replicate.1 hd).2]; exact ⟨(fun z hz => by cases hz), by simp⟩
       · exact ⟨(zs3, p3, x2), ⟨by simp only; omega, hx2.wide⟩, fin2 zs3 p3 x2 _ _ _ _ _ (asData_parts _) (asData_parts _) rfl rfl rfl rfl rfl rfl rfl rfl rfl⟩
     · rintro ⟨zs9, p9, x9⟩ ⟨hp9, hx9⟩
       simp only at hp9 hx9
       show AW Try.prog C _ _ (St.of 158 [(0, .ptr 0 0), (6, .ptr 6 0), (7, .ptr 70 0)] [(0, rdr zs9 p9), (6, .var txN), (70, .var (txC x9))])
       refine AW.seq ?_
       apply AW.list
       apply Wk.ld (i := 70) 10 true ty27 rfl rfl (by conv => lhs; whnf) (lt_of_ble rfl)
       apply Wk.sto (i := 6) 10 true ty27 rfl rfl rfl rfl (Nat.le_of_ble_eq_true rfl) (lt_of_ble rfl)
       refine Wk.nil (AW.ret ?_)
       exact RetQ.ret [(0, rdr zs9 p9)] (.cons ⟨6, 0, _, _, _, rfl, rfl, ty27, rfl⟩ .nil) ⟨⟨x9, rfl, hx9⟩, _, _, rfl, by omega⟩ (kept1 rfl)
 · rintro rest ⟨m, w, pp, u, y, nn, rfl, _⟩; rfl
 · rintro rest _; exact ⟨_, tx0, rfl, tx0_good.wide⟩
 · rintro rest r ⟨x, rfl, _⟩; rfl
end Go.Proofs.Ytdojkmjamilllaa

/- An element's address in an array that lies in a variable; a list of pieces is made, with room. -/
namespace Go.Proofs.Ytdojkmjamilllaa
open Go Go.RowKit
section
variable {P : Program} {C : Ctx} {ops : Array Oper} {os : List Oper} {cs : List Cert} {σ : St} {K : St → Prop} {d : Nat} {ty : TypeId} {pos : String} {af : Array Edge}
def rIArr (x y : Operand) (sz len : Nat) (σ : St) : Option A :=
  match aev σ x, aev σ y with
  | .ptr i o, .d (.v (.int _ n)) => if 0 ≤ n ∧ n < (len : Int) then some (.ptr i (o + n.toNat * sz)) else none
  | _, _ => none
theorem ok_iarr {xt e : TypeId} {x y : Operand} {sz len : Nat} {row : Bool} (hu : P.underlying xt = some (.array len e)) (ht : tyOf P e = some (sz, row)) :
    OpOk P C ops ⟨some d, .indexAddr xt x y, ty, pos, af, none⟩ ⟨kof x ++ kof y, [T d], beh1 (rIArr x y sz len) d⟩ :=
  OpOk.read rfl rfl (fun σ => by unfold rIArr; rw [aev_mask (fun k h => List.mem_append_left _ h), aev_mask (fun k h => List.mem_append_right _ h)]) fun σ a w F E H r hR h => by
    unfold rIArr at h
    split at h
    · rename_i i o kd n he hi
      split at h
      · rename_i hc
        obtain rfl := Option.some.inj h
        have hd2 := hR.ev y
        rw [hi] at hd2
        have e2 := den_v hd2
        have hd1 := hR.ev x
        rw [he] at hd1
        obtain ⟨b, hE, hv⟩ := den_ptr hd1
        refine ⟨.pointer (some ⟨b, o + n.toNat * sz, none⟩), ?_, .ptr i _ b hE⟩
        simp [execOp, hv, e2, Instr.indexAt, asIntOf, run_underlying hu, run_size ht, hc, Instr.sureAddr, add_at']
      · cases h
    · cases h
theorem Wk.iap {xt e : TypeId} {x y : Operand} (sz len : Nat) (row : Bool) {kd : IntKind} {i o k : Nat} (hu : P.underlying xt = some (.array len e)) (ht : tyOf P e = some (sz, row)) (hx : aev σ x = .ptr i o) (hy : aev σ y = .d (.v (.int kd (k : Int))))
    (hk : k < len) (hd : d < σ.n) (h : Wk P C ops os cs (σ.put (T d) (.a (.ptr i (o + k * sz)))) K) :
    Wk P C ops (⟨some d, .indexAddr xt x y, ty, pos, af, none⟩ :: os) (⟨kof x ++ kof y, [T d], beh1 (rIArr x y sz len) d⟩ :: cs) σ K :=
  Wk.read (ok_iarr hu ht) _ hd (by simp only [rIArr, hx, hy]; rw [if_pos ⟨by omega, by omega⟩]; simp) h
end
section
variable {C : Ctx} {ops : Array Oper} {os : List Oper} {cs : List Cert} {σ : St} {K : St → Prop} {d : Nat} {ty : TypeId} {pos : String} {af : Array Edge}
def rMkP (x y : Operand) (i : Nat) (e : TypeId) (σ : St) : Option (List V) :=
  match aev σ x, aev σ y, σ.b i with
  | .d (.v (.int .i64 m)), .d (.v (.int .i64 n)), .fresh => if m = 0 ∧ 0 ≤ n ∧ n ≤ 1000 then some [.a (.own i 0), .b (.own 0 e 3 [])] else none
  | _, _, _ => none
set_option maxRecDepth 100000 in
theorem ok_mkp {x y : Operand} (i : Nat) : OpOk Try.prog C ops ⟨some d, .makeSlice 25 x y, ty, pos, af, none⟩ ⟨(kof x ++ kof y) ++ [B i], [T d, B i], behs (rMkP x y i 47) d⟩ :=
  OpOk.turn rfl (by simp [dstIn]) (fun σ => by unfold rMkP; rw [aev_mask fun k hk => List.mem_append_left _ (List.mem_append_left _ hk), aev_mask fun k hk => List.mem_append_left _ (List.mem_append_right _ hk), bx_mask (by simp)]) fun σ a w F E H K Q us hR hd h hK => by
    unfold rMkP at h
    split at h
    · rename_i m n hx hy hb
      split at h
      · rename_i hn
        obtain ⟨rfl, hn0, hn1⟩ := hn
        obtain rfl := Option.some.inj h
        obtain ⟨c, rfl⟩ := Int.eq_ofNat_of_zero_le hn0
        have hvx : a.eval x = .int .i64 0 := by
          have := hR.ev x
          rw [hx] at this
          exact den_v this
        have hvy : a.eval y = .int .i64 (c : Int) := by
          have := hR.ev y
          rw [hy] at this
          exact den_v this
        obtain ⟨i0, hi, hz0, hz1, hz2⟩ := info_parts Try.infoP
        obtain ⟨w', hr, ho, hg⟩ := run_makeSlice_owned (P := Try.prog) w 0 25 47 i0 _ 3 Try.underlying25 hi hz0 hz1 .i64 .i64 c (by omega) (by rw [hz2]; omega) (by unfold maxLen; omega) (Nat.zero_le _)
        have hfr := hR.env.box i
        rw [hb] at hfr
        have hset := hR.setown (i := i) (k := 0) (sz := 3) (e := 47) (es := []) (v := .slice (some ⟨w.heap.size, 0, none⟩) 0 c) (w' := w') (fun b hbk => by rw [hb] at hbk; cases hbk) (fun q _ => hfr.2 q) (by rw [hb]; exact hg)
          ho (by intro c hc; cases hc) Pw.nil (.inr (.inr rfl))
        unfold Oper.wp
        have hrun : (execOp a.eval ⟨some d, .makeSlice 25 x y, ty, pos, af, none⟩).run Try.prog w = .ok (.value (.slice (some ⟨w.heap.size, 0, none⟩) 0 c)) w' := by simp only [execOp, Sem.run_bind, hvx, hvy, hr, Result.andThen_ok, Sem.run_pure]
        rw [hrun, Oper.upon_value]
        refine hK _ _ ?_
        exact (RelE.put (d := d) (r := .own i 0) hset hd (.own i 0 _ (upd2_same _ _ _ _) rfl)).r
      · cases h
    · cases h
set_option maxRecDepth 100000 in
theorem Wk.mkp {x y : Operand} (i n : Nat) (hx : aev σ x = .d (.v (.int .i64 0))) (hy : aev σ y = .d (.v (.int .i64 (n : Int)))) (hb : σ.b i = .fresh) (hn : n ≤ 1000) (hd : d < σ.n) (h : Wk Try.prog C ops os cs ((σ.put (T d) (.a (.own i 0))).put (B i) (.b (.own 0 47 3 []))) K) :
    Wk Try.prog C ops (⟨some d, .makeSlice 25 x y, ty, pos, af, none⟩ :: os) (⟨(kof x ++ kof y) ++ [B i], [T d, B i], behs (rMkP x y i 47) d⟩ :: cs) σ K :=
  Wk.turn (ok_mkp i) [.a (.own i 0), .b (.own 0 47 3 [])] hd (by simp only [rMkP, hx, hy, hb]; rw [if_pos ⟨trivial, by omega, by omega⟩]) h
end
theorem ua107 : Try.prog.underlying 107 = some (.array 4 47) := by kernel_rfl
end Go.Proofs.Ytdojkmjamilllaa

/- Copies of pieces, in new memory: the program's. Written by tools/mk_AbsCopyI.py. -/
namespace Go.Proofs.Ytdojkmjamilllaa
open Go Go.RowKit
theorem asData_rows' (zs : List Nat) : asData ((zs.map fun z : Nat => [D.v (.int .u8 (z : Int))]).map (·.map A.d)) (zs.map fun z : Nat => [.v (.int .u8 (z : Int))]) := by
  simp [asData, nrms, nrm]
set_option maxRecDepth 100000 in
theorem inew_ok (d : Dat) (hd : d.2.2.length ≤ 1000) : DataOk Try.prog 64 [.d (.v (.int .i64 d.1)), .d (.v (.int .i64 d.2.1)), .d (bytesD d.2.2)] (partN d) := by
  obtain ⟨g, l, ys⟩ := d
  have as9 := asData_rows' ys
  simp only at hd
  refine Spec.intro (n := 12) (rv := [.cell 6 47]) Try.func64 rfl rfl rfl (by simp) fun C hN hX => ?_
  refine AW.seq ?_
  apply AW.list
  apply Wk.alc 6 [.int .i64 0, .int .i64 0, .slice none 0 0] ze47 rfl rfl (lt_of_ble rfl)
  refine Wk.nil ?_
  refine AW.seq ?_
  apply AW.list
  apply Wk.mv (by conv => lhs; whnf) (lt_of_ble rfl)
  apply Wk.mv (by conv => lhs; whnf) (lt_of_ble rfl)
  apply Wk.mv (by conv => lhs; whnf) (lt_of_ble rfl)
  apply Wk.appNR 10 1000 1 un22 ap5 rfl rfl rfl (.inr rfl) (by decide) (one_bytes _) (by simp; omega) (lt_of_ble rfl)
  apply Wk.thaw 10 10 _ hX rfl (by rfl) as9
  apply Wk.bld [.int .i64 0, .int .i64 0, .slice none 0 0] [(0, 1), (1, 1), (2, 1)] bl47 rfl (by conv => lhs; whnf) (lt_of_ble rfl)
  apply Wk.sto (i := 6) 3 true ty47 rfl rfl rfl rfl (Nat.le_of_ble_eq_true rfl) (lt_of_ble rfl)
  refine Wk.nil (AW.ret ?_)
  exact RetQ.ret [] (.cons ⟨6, 0, _, _, _, rfl, rfl, ty47, rfl⟩ .nil) ⟨rfl, rfl⟩ none_kept
set_option maxRecDepth 100000 in
theorem icpart_ok (d : Dat) (hd : d.2.2.length ≤ 1000) : DataOk Try.prog 97 [partN d] (partN d) := by
  have h := inew_ok d hd
  obtain ⟨g, l, ys⟩ := d
  refine Spec.intro (n := 10) (rv := [.cell 2 47]) Try.func97 rfl rfl rfl (by simp) fun C hN hX => ?_
  refine AW.seq ?_
  apply AW.list
  apply Wk.bx 1 rfl rfl (lt_of_ble rfl)
  apply Wk.alc 2 [.int .i64 0, .int .i64 0, .slice none 0 0] ze47 rfl rfl (lt_of_ble rfl)
  refine Wk.nil ?_
  refine AW.seq ?_
  apply AW.list
  apply Wk.fad 0 0 false fd47_0 rfl (lt_of_ble rfl)
  apply Wk.ld (i := 1) 1 false ty3 rfl rfl (by conv => lhs; whnf) (lt_of_ble rfl)
  apply Wk.fad 1 0 false fd47_1 rfl (lt_of_ble rfl)
  apply Wk.ld (i := 1) 1 false ty3 rfl rfl (by conv => lhs; whnf) (lt_of_ble rfl)
  apply Wk.fad 2 0 false fd47_2 rfl (lt_of_ble rfl)
  apply Wk.ld (i := 1) 1 false ty22 rfl rfl (by conv => lhs; whnf) (lt_of_ble rfl)
  apply Wk.dat h Try.func64 rfl rfl rfl rfl rfl (lt_of_ble rfl)
  apply Wk.sto (i := 2) 3 true ty47 rfl rfl rfl rfl (Nat.le_of_ble_eq_true rfl) (lt_of_ble rfl)
  refine Wk.nil (AW.ret ?_)
  exact RetQ.ret [] (.cons ⟨2, 0, _, _, _, rfl, rfl, ty47, rfl⟩ .nil) ⟨rfl, rfl⟩ none_kept
theorem Spec.arg {P : Program} {f : FuncId} {ls ls' : List A} {bs : List (Nat × Bx)} {post : A → List (Nat × Bx) → Prop} (h : Spec P f ls bs post) (hl : ls'.length = ls.length) (hd : ∀ (w : World) (F : Nat → Prop) (E : Nat → Option Nat) (H : Nat → Nat → Option Value) (i : Nat) (a a' : A) (v : Value), ls[i]? = some a → ls'[i]? = some a' → Den w F E H a' v → Den w F E H a v) : Spec P f ls' bs post := by
  intro w F E H args hpo hs hda
  refine h w F E H args hpo (by rw [hs, hl]) (fun i a ha => ?_)
  have hi : i < ls'.length := by rw [hl]; exact (List.getElem?_eq_some_iff.1 ha).1
  exact hd w F E H i a _ _ ha (List.getElem?_eq_getElem hi) (hda i _ (List.getElem?_eq_getElem hi))
theorem Spec.fnc {P : Program} {f g : FuncId} {x : A} {bs : List (Nat × Bx)} {post : A → List (Nat × Bx) → Prop} (h : Spec P f [x, .fn (.func g) [] []] bs post) : Spec P f [x, .d (.v (.func (.func g) #[] #[]))] bs post := by
  refine h.arg rfl fun w F E H i a a' v ha ha' hd => ?_
  match i with
  | 0 => obtain rfl := Option.some.inj ha; obtain rfl := Option.some.inj ha'; exact hd
  | 1 =>
    obtain rfl := Option.some.inj ha
    obtain rfl := Option.some.inj ha'
    obtain rfl := den_v hd
    exact .fn _ _ _ _ _ rfl rfl (fun i a h => by simp at h) (fun i a h => by simp at h)
  | n + 2 => simp at ha
theorem in_cpart (d : Dat) : PostIn ([] ++ []) (fun r bs => r = partN d ∧ bs = []) := by
  rintro r bs ⟨rfl, rfl⟩
  exact ⟨rfl, fun i x h => by cases h⟩
set_option maxHeartbeats 4000000 in
set_option maxRecDepth 100000 in
theorem ieach_ok (ds : List Dat) (h0 : ds ≠ []) (hn : ds.length ≤ 1000) (hs : ∀ d ∈ ds, d.2.2.length ≤ 1000) : DataOk Try.prog 108 [.d (partsD ds), .fn (.func 97) [] []] (.d (partsD ds)) := by
  have e1 : (((ds.map datD).length : Nat) : Int) = (ds.length : Int) := by rw [List.length_map]
  have hpos : ds.length ≠ 0 := fun h => h0 (List.length_eq_zero_iff.1 h)
  refine Spec.intro (n := 28) (rv := [.tmp 4]) Try.func108 rfl rfl rfl (by simp) fun C hN hX => ?_
  refine AW.seq ?_
  apply AW.list
  apply Wk.asg (by conv => lhs; whnf) (lt_of_ble rfl)
  refine Wk.nil ?_
  refine AW.seq (AW.seq ?_)
  apply AW.list
  apply Wk.mv (by conv => lhs; whnf) (lt_of_ble rfl)
  apply Wk.len un25 rfl (lt_of_ble rfl)
  apply Wk.bin rfl rfl (r := .bool false) (fun w => by rw [e1]; simp [go_sem, h0]) (lt_of_ble rfl)
  refine Wk.nil ?_
  refine AW.cond rfl (fun hc => by cases hc) (fun _ => AW.skip (thenA_normal ?_))
  refine AW.seq ?_
  apply AW.list
  apply Wk.mv (by conv => lhs; whnf) (lt_of_ble rfl)
  apply Wk.len un25 rfl (lt_of_ble rfl)
  apply Wk.mkp 66 (ds.map datD).length rfl rfl rfl (by rw [List.length_map]; exact hn) (lt_of_ble rfl)
  apply Wk.asg (by conv => lhs; whnf) (lt_of_ble rfl)
  refine Wk.nil ?_
  refine AW.seq (AW.seq ?_)
  apply AW.list
  apply Wk.mv (by conv => lhs; whnf) (lt_of_ble rfl)
  apply Wk.len un25 rfl (lt_of_ble rfl)
  apply Wk.mv (by conv => lhs; whnf) (lt_of_ble rfl)
  refine Wk.nil (AW.block ?_)
  refine AW.loop (fun k : Nat => St.of 28 [(1, .fn (.func 97) [] []), (5, .own 66 k), (14, .d (partsD ds)), (15, .d (.v (.int .i64 (((ds.map datD).length : Nat) : Int)))), (16, .d (.v (.int .i64 (k : Int))))] [(66, .own k 47 3 (piecesA (ds.take k)))]) (fun k => k ≤ ds.length) (fun k => ds.length - k) 0 (Nat.zero_le _) ?_ ?_
  · exact fun a w => Rel.keep ⟨rfl, .cons rfl rfl (.cons rfl rfl (.cons rfl rfl (.cons rfl rfl (.cons rfl rfl .nil)))), .cons rfl rfl .nil, hN.mono (by simp [keys])⟩
  rintro k hk
  show AW Try.prog C _ _ (St.of 28 [(1, .fn (.func 97) [] []), (5, .own 66 k), (14, .d (partsD ds)), (15, .d (.v (.int .i64 (((ds.map datD).length : Nat) : Int)))), (16, .d (.v (.int .i64 (k : Int))))] [(66, .own k 47 3 (piecesA (ds.take k)))])
  refine AW.seq ?_
  apply AW.list
  apply Wk.bin rfl rfl (fun w => by simp [go_sem] <;> rfl) (lt_of_ble rfl)
  refine Wk.nil ?_
  refine AW.seq ?_
  refine AW.cond rfl (fun hc => ?_) (fun hc => ?_)
  · have hlt : k < ds.length := by simpa using hc
    obtain ⟨d, hd⟩ : ∃ d, ds[k]? = some d := ⟨_, List.getElem?_eq_getElem hlt⟩
    have hds := hs d (List.mem_of_getElem? hd)
    have hget : (ds.map datD)[k]? = some (datD d) := by simp [hd]
    have hklt : k < (ds.map datD).length := by simpa using hlt
    have htk : ds.take (k + 1) = ds.take k ++ [d] := by rw [List.take_add_one, hd]; rfl
    have cd := icpart_ok d hds
    refine AW.skip ?_
    repeat (first | refine thenA_normal ?_ | refine inBlockA_normal ?_)
    refine AW.seq (AW.block (AW.seq ?_))
    apply AW.list
    apply Wk.iad 3 true un25 ty47 rfl rfl hklt (datD_len _) (lt_of_ble rfl)
    apply Wk.ldr 3 true ty47 rfl hget (by conv => lhs; whnf) (lt_of_ble rfl)
    apply Wk.alc 7 [.int .i64 0, .int .i64 0, .slice none 0 0] ze47 rfl rfl (lt_of_ble rfl)
    apply Wk.sto (i := 7) 3 true ty47 rfl rfl rfl rfl (Nat.le_of_ble_eq_true rfl) (lt_of_ble rfl)
    refine Wk.nil ?_
    apply AW.list
    apply Wk.mv (by conv => lhs; whnf) (lt_of_ble rfl)
    apply Wk.mv (by conv => lhs; whnf) (lt_of_ble rfl)
    apply Wk.ld (i := 7) 3 true ty47 rfl rfl (by conv => lhs; whnf) (lt_of_ble rfl)
    apply Wk.clf [] [] cd (in_cpart d) ⟨_, _, rfl, rfl⟩ Try.func97 rfl rfl rfl rfl (fun i hi => by cases hi) rfl (fun i hi => by cases hi) (lt_of_ble rfl)
    rintro r bs' ⟨rfl, rfl⟩
    apply Wk.lst 24 3 true [.int .i64 0, .int .i64 0, .slice none 0 0] un25 ty47 ze47 rfl rfl (by rfl) (by rfl) (by decide) (by decide) rfl rfl (all_len rfl) (lt_of_ble rfl)
    apply Wk.appOO 66 24 3 un25 ap47 rfl rfl rfl rfl (by decide) (all_len rfl) (three_parts _) (by simp [piecesA]; omega) (lt_of_ble rfl)
    apply Wk.asg (by conv => lhs; whnf) (lt_of_ble rfl)
    refine Wk.nil ?_
    repeat (first | refine thenA_normal ?_ | refine inBlockA_normal ?_)
    apply AW.list
    apply Wk.addi rfl rfl (by omega) (lt_of_ble rfl)
    apply Wk.mv (by conv => lhs; whnf) (lt_of_ble rfl)
    refine Wk.nil ?_
    refine ⟨k + 1, by omega, by omega, ?_⟩
    refine fun a w => Rel.keep ⟨rfl, .cons rfl rfl (.cons rfl rfl (.cons rfl rfl (.cons rfl rfl (.cons rfl rfl .nil)))), .cons ?_ (by exact within_parts _) .nil, hN.mono (by simp [keys])⟩
    simp only [htk, piecesA, List.map_append]
    rfl
  · have hke : k = ds.length := by
      simp at hc
      omega
    subst hke
    refine AW.exit ?_
    repeat (first | refine inBlockA_same ?_ | refine thenA_exit ?_)
    repeat (first | refine thenA_normal ?_ | refine inBlockA_normal ?_)
    rw [List.take_length]
    refine AW.seq ?_
    apply AW.list
    apply Wk.mv (by conv => lhs; whnf) (lt_of_ble rfl)
    apply Wk.asg (by conv => lhs; whnf) (lt_of_ble rfl)
    refine Wk.nil ?_
    refine AW.thaw (t := 4) (i := 66) _ rfl rfl (asData_parts ds) hX.none ?_
    refine AW.ret ?_
    repeat (first | refine thenA_ret ?_ | refine inBlockA_ret ?_)
    exact RetQ.ret [] (.cons rfl .nil) ⟨rfl, rfl⟩ none_kept
set_option maxHeartbeats 4000000 in
set_option maxRecDepth 100000 in
theorem ieachO (ds : List Dat) (h0 : ds ≠ []) (hn : ds.length ≤ 1000) (hs : ∀ d ∈ ds, d.2.2.length ≤ 1000) : Spec Try.prog 108 [.d (partsD ds), .fn (.func 97) [] []] [] (fun r bs => r = .own 66 ds.length ∧ bs = [(66, .own ds.length 47 3 (piecesA ds))]) := by
  have e1 : (((ds.map datD).length : Nat) : Int) = (ds.length : Int) := by rw [List.length_map]
  have hpos : ds.length ≠ 0 := fun h => h0 (List.length_eq_zero_iff.1 h)
  refine Spec.intro (n := 28) (rv := [.tmp 4]) Try.func108 rfl rfl rfl (by simp) fun C hN hX => ?_
  refine AW.seq ?_
  apply AW.list
  apply Wk.asg (by conv => lhs; whnf) (lt_of_ble rfl)
  refine Wk.nil ?_
  refine AW.seq (AW.seq ?_)
  apply AW.list
  apply Wk.mv (by conv => lhs; whnf) (lt_of_ble rfl)
  apply Wk.len un25 rfl (lt_of_ble rfl)
  apply Wk.bin rfl rfl (r := .bool false) (fun w => by rw [e1]; simp [go_sem, h0]) (lt_of_ble rfl)
  refine Wk.nil ?_
  refine AW.cond rfl (fun hc => by cases hc) (fun _ => AW.skip (thenA_normal ?_))
  refine AW.seq ?_
  apply AW.list
  apply Wk.mv (by conv => lhs; whnf) (lt_of_ble rfl)
  apply Wk.len un25 rfl (lt_of_ble rfl)
  apply Wk.mkp 66 (ds.map datD).length rfl rfl rfl (by rw [List.length_map]; exact hn) (lt_of_ble rfl)
  apply Wk.asg (by conv => lhs; whnf) (lt_of_ble rfl)
  refine Wk.nil ?_
  refine AW.seq (AW.seq ?_)
  apply AW.list
  apply Wk.mv (by conv => lhs; whnf) (lt_of_ble rfl)
  apply Wk.len un25 rfl (lt_of_ble rfl)
  apply Wk.mv (by conv => lhs; whnf) (lt_of_ble rfl)
  refine Wk.nil (AW.block ?_)
  refine AW.loop (fun k : Nat => St.of 28 [(1, .fn (.func 97) [] []), (5, .own 66 k), (14, .d (partsD ds)), (15, .d (.v (.int .i64 (((ds.map datD).length : Nat) : Int)))), (16, .d (.v (.int .i64 (k : Int))))] [(66, .own k 47 3 (piecesA (ds.take k)))]) (fun k => k ≤ ds.length) (fun k => ds.length - k) 0 (Nat.zero_le _) ?_ ?_
  · exact fun a w => Rel.keep ⟨rfl, .cons rfl rfl (.cons rfl rfl (.cons rfl rfl (.cons rfl rfl (.cons rfl rfl .nil)))), .cons rfl rfl .nil, hN.mono (by simp [keys])⟩
  rintro k hk
  show AW Try.prog C _ _ (St.of 28 [(1, .fn (.func 97) [] []), (5, .own 66 k), (14, .d (partsD ds)), (15, .d (.v (.int .i64 (((ds.map datD).length : Nat) : Int)))), (16, .d (.v (.int .i64 (k : Int))))] [(66, .own k 47 3 (piecesA (ds.take k)))])
  refine AW.seq ?_
  apply AW.list
  apply Wk.bin rfl rfl (fun w => by simp [go_sem] <;> rfl) (lt_of_ble rfl)
  refine Wk.nil ?_
  refine AW.seq ?_
  refine AW.cond rfl (fun hc => ?_) (fun hc => ?_)
  · have hlt : k < ds.length := by simpa using hc
    obtain ⟨d, hd⟩ : ∃ d, ds[k]? = some d := ⟨_, List.getElem?_eq_getElem hlt⟩
    have hds := hs d (List.mem_of_getElem? hd)
    have hget : (ds.map datD)[k]? = some (datD d) := by simp [hd]
    have hklt : k < (ds.map datD).length := by simpa using hlt
    have htk : ds.take (k + 1) = ds.take k ++ [d] := by rw [List.take_add_one, hd]; rfl
    have cd := icpart_ok d hds
    refine AW.skip ?_
    repeat (first | refine thenA_normal ?_ | refine inBlockA_normal ?_)
    refine AW.seq (AW.block (AW.seq ?_))
    apply AW.list
    apply Wk.iad 3 true un25 ty47 rfl rfl hklt (datD_len _) (lt_of_ble rfl)
    apply Wk.ldr 3 true ty47 rfl hget (by conv => lhs; whnf) (lt_of_ble rfl)
    apply Wk.alc 7 [.int .i64 0, .int .i64 0, .slice none 0 0] ze47 rfl rfl (lt_of_ble rfl)
    apply Wk.sto (i := 7) 3 true ty47 rfl rfl rfl rfl (Nat.le_of_ble_eq_true rfl) (lt_of_ble rfl)
    refine Wk.nil ?_
    apply AW.list
    apply Wk.mv (by conv => lhs; whnf) (lt_of_ble rfl)
    apply Wk.mv (by conv => lhs; whnf) (lt_of_ble rfl)
    apply Wk.ld (i := 7) 3 true ty47 rfl rfl (by conv => lhs; whnf) (lt_of_ble rfl)
    apply Wk.clf [] [] cd (in_cpart d) ⟨_, _, rfl, rfl⟩ Try.func97 rfl rfl rfl rfl (fun i hi => by cases hi) rfl (fun i hi => by cases hi) (lt_of_ble rfl)
    rintro r bs' ⟨rfl, rfl⟩
    apply Wk.lst 24 3 true [.int .i64 0, .int .i64 0, .slice none 0 0] un25 ty47 ze47 rfl rfl (by rfl) (by rfl) (by decide) (by decide) rfl rfl (all_len rfl) (lt_of_ble rfl)
    apply Wk.appOO 66 24 3 un25 ap47 rfl rfl rfl rfl (by decide) (all_len rfl) (three_parts _) (by simp [piecesA]; omega) (lt_of_ble rfl)
    apply Wk.asg (by conv => lhs; whnf) (lt_of_ble rfl)
    refine Wk.nil ?_
    repeat (first | refine thenA_normal ?_ | refine inBlockA_normal ?_)
    apply AW.list
    apply Wk.addi rfl rfl (by omega) (lt_of_ble rfl)
    apply Wk.mv (by conv => lhs; whnf) (lt_of_ble rfl)
    refine Wk.nil ?_
    refine ⟨k + 1, by omega, by omega, ?_⟩
    refine fun a w => Rel.keep ⟨rfl, .cons rfl rfl (.cons rfl rfl (.cons rfl rfl (.cons rfl rfl (.cons rfl rfl .nil)))), .cons ?_ (by exact within_parts _) .nil, hN.mono (by simp [keys])⟩
    simp only [htk, piecesA, List.map_append]
    rfl
  · have hke : k = ds.length := by
      simp at hc
      omega
    subst hke
    refine AW.exit ?_
    repeat (first | refine inBlockA_same ?_ | refine thenA_exit ?_)
    repeat (first | refine thenA_normal ?_ | refine inBlockA_normal ?_)
    rw [List.take_length]
    refine AW.seq ?_
    apply AW.list
    apply Wk.mv (by conv => lhs; whnf) (lt_of_ble rfl)
    apply Wk.asg (by conv => lhs; whnf) (lt_of_ble rfl)
    refine Wk.nil ?_
    refine AW.ret ?_
    repeat (first | refine thenA_ret ?_ | refine inBlockA_ret ?_)
    exact RetQ.ret [(66, .own ds.length 47 3 (piecesA ds))] (.cons rfl .nil) ⟨rfl, rfl⟩ (kept1 rfl)
set_option maxRecDepth 100000 in
theorem ieachNil : DataOk Try.prog 108 [.d (partsD []), .fn (.func 97) [] []] (.d (.v (.slice none 0 0))) := by
  refine Spec.intro (n := 28) (rv := [.tmp 4]) Try.func108 rfl rfl rfl (by simp) fun C hN hX => ?_
  refine AW.seq ?_
  apply AW.list
  apply Wk.asg (by conv => lhs; whnf) (lt_of_ble rfl)
  refine Wk.nil ?_
  refine AW.seq (AW.seq ?_)
  apply AW.list
  apply Wk.mv (by conv => lhs; whnf) (lt_of_ble rfl)
  apply Wk.len un25 rfl (lt_of_ble rfl)
  apply Wk.bin rfl rfl (r := .bool true) (fun w => by simp [go_sem]) (lt_of_ble rfl)
  refine Wk.nil ?_
  refine AW.cond rfl (fun _ => ?_) (fun hc => by cases hc)
  refine AW.seq ?_
  apply AW.list
  apply Wk.asg (by conv => lhs; whnf) (lt_of_ble rfl)
  refine Wk.nil (AW.ret ?_)
  repeat (first | refine thenA_ret ?_ | refine inBlockA_ret ?_)
  exact RetQ.ret [] (.cons rfl .nil) ⟨rfl, rfl⟩ none_kept
set_option maxRecDepth 100000 in
theorem icopyNil : DataOk Try.prog 88 [.d (partsD [])] (.d (.v (.slice none 0 0))) := by
  have h : DataOk Try.prog 108 [.d (partsD []), .d (.v (.func (.func 97) #[] #[]))] (.d (.v (.slice none 0 0))) := Spec.fnc ieachNil
  refine Spec.intro (n := 5) (rv := [.tmp 2]) Try.func88 rfl rfl rfl (by simp) fun C hN hX => ?_
  refine AW.seq ?_
  apply AW.list
  apply Wk.asg (by conv => lhs; whnf) (lt_of_ble rfl)
  refine Wk.nil ?_
  refine AW.seq ?_
  apply AW.list
  apply Wk.mv (by conv => lhs; whnf) (lt_of_ble rfl)
  apply Wk.dat h Try.func108 rfl rfl rfl rfl rfl (lt_of_ble rfl)
  apply Wk.asg (by conv => lhs; whnf) (lt_of_ble rfl)
  refine Wk.nil (AW.ret ?_)
  exact RetQ.ret [] (.cons rfl .nil) ⟨rfl, rfl⟩ none_kept
set_option maxRecDepth 100000 in
theorem icopy_ok (ds : List Dat) (hn : ds.length ≤ 1000) (hs : ∀ d ∈ ds, d.2.2.length ≤ 1000) : DataOk Try.prog 88 [.d (partsD ds)] (.d (partsD ds)) := by
  by_cases h0 : ds = []
  · subst h0
    exact icopyNil.nrm
  have h : DataOk Try.prog 108 [.d (partsD ds), .d (.v (.func (.func 97) #[] #[]))] (.d (partsD ds)) := Spec.fnc (ieach_ok ds h0 hn hs)
  refine Spec.intro (n := 5) (rv := [.tmp 2]) Try.func88 rfl rfl rfl (by simp) fun C hN hX => ?_
  refine AW.seq ?_
  apply AW.list
  apply Wk.asg (by conv => lhs; whnf) (lt_of_ble rfl)
  refine Wk.nil ?_
  refine AW.seq ?_
  apply AW.list
  apply Wk.mv (by conv => lhs; whnf) (lt_of_ble rfl)
  apply Wk.dat h Try.func108 rfl rfl rfl rfl rfl (lt_of_ble rfl)
  apply Wk.asg (by conv => lhs; whnf) (lt_of_ble rfl)
  refine Wk.nil (AW.ret ?_)
  exact RetQ.ret [] (.cons rfl .nil) ⟨rfl, rfl⟩ none_kept
set_option maxRecDepth 100000 in
theorem icopyO (ds : List Dat) (h0 : ds ≠ []) (hn : ds.length ≤ 1000) (hs : ∀ d ∈ ds, d.2.2.length ≤ 1000) : Spec Try.prog 88 [.d (partsD ds)] [] (fun r bs => r = .own 66 ds.length ∧ bs = [(66, .own ds.length 47 3 (piecesA ds))]) := by
  have h := (ieachO ds h0 hn hs).fnc
  have i1 := in_slist (L := [] ++ [66]) (i := 66) (k := ds.length) (e := 47) (sz := 3) (by simp) (within_parts ds)
  refine Spec.intro (n := 5) (rv := [.tmp 2]) Try.func88 rfl rfl rfl (by simp) fun C hN hX => ?_
  refine AW.seq ?_
  apply AW.list
  apply Wk.asg (by conv => lhs; whnf) (lt_of_ble rfl)
  refine Wk.nil ?_
  refine AW.seq ?_
  apply AW.list
  apply Wk.mv (by conv => lhs; whnf) (lt_of_ble rfl)
  apply Wk.cal [] [66] h i1 ⟨_, _, rfl, rfl⟩ Try.func108 rfl rfl rfl rfl (by simp; rfl) rfl (fun i hi => by cases hi) (lt_of_ble rfl)
  rintro r bs' ⟨rfl, rfl⟩
  apply Wk.asg (by conv => lhs; whnf) (lt_of_ble rfl)
  refine Wk.nil (AW.ret ?_)
  exact RetQ.ret [(66, .own ds.length 47 3 (piecesA ds))] (.cons rfl .nil) ⟨rfl, rfl⟩ (kept1 rfl)
end Go.Proofs.Ytdojkmjamilllaa

/- TxOk of the program, over what values read as. Written by tools/mk_AbsTxOkI.py. -/
namespace Go.Proofs.Ytdojkmjamilllaa
open Go Go.RowKit
/-- The number of what is so many on, as the program answers it. -/
def numI (n : Int) : Int := if n < 0 then -1 else n % 8
theorem inum_ok (n : Int) : DataOk Try.prog 28 [.d (.v (.int .i64 n))] (.d (.v (.int .i64 (numI n)))) := by
  by_cases h : n < 0
  · rw [numI, if_pos h]; exact int1 (impl_numof_no n h)
  · rw [numI, if_neg h]; exact int1 (impl_numof n (by omega))
theorem inoneb {n hi : Int} {b : Bool} (h : inB n 0 hi = b) : DataOk Try.prog 56 [.d (.v (.int .i64 n)), .d (.v (.int .i64 hi))] (.d (.v (.bool b))) := by
  subst h
  refine DataOk.lift fun w F E H args _ hs hd => ?_
  obtain ⟨v, u, rfl, hv, hu⟩ := args2 hs hd
  obtain rfl := den_v hv
  obtain rfl := den_v hu
  go_enter Try.func56, Try.ntmps56
  go_wp2
  all_goals
    go_ret
    refine ⟨ret_bool ?_, Below.refl _ _⟩
    go_light
    grind [inB]
theorem icfgb {m n s t y : Int} {b : Bool} (h : Opt.ok ⟨m, n, s, t, y⟩ = b) : DataOk Try.prog 57 [cfgA m n s t y] (.d (.v (.bool b))) := by
  subst h
  refine DataOk.lift fun w F E H args _ hs hd => ?_
  obtain ⟨v, rfl, hv⟩ := arg1 hs hd
  obtain rfl := cfg_args hv
  exact impl_cfg_v _ _ _ _ _ w
theorem ifarb (a b : Int) : DataOk Try.prog 34 [.d (.v (.int .i64 a)), .d (.v (.int .i64 b))] (.d (.v (.int .i64 (farF a b)))) := int2 (impl_far_any a b)
theorem ipartsb (ds : List Dat) (m : Int) {b : Bool} (h : ds.all (partM m) = b) : DataOk Try.prog 58 [.d (partsD ds), .d (.v (.int .i64 m))] (.d (.v (.bool b))) := h ▸ iparts_ok ds m
theorem txOk_parts (o : Opt) (x : TX) : txOkB o x = (o.ok && ((decide (farF x.a x.n = (x.fl.length : Int)) && decide (numI x.c = x.a)) && ((inB (x.fl.length : Int) 0 o.win && (inB x.s 0 (x.fl.length : Int) && (inB (x.qu.length : Int) 0 24 && (inB x.t 0 o.tri && inB x.c 0 9999)))) && (x.fl.all (partM o.mps) && x.qu.all (partM o.mps))))) := by
  apply bool_of_iff
  simp only [txOkB, Bool.and_eq_true, decide_eq_true_eq, inB_iff]
  rcases far_cases x.a x.n with ⟨h1, h2, h3⟩ | ⟨_, h2, h3⟩
  · constructor
    · rintro ⟨k1, k2, k3, k4, k5, k6, k7, k8, k9, k10, k11, k12⟩
      exact ⟨k1, ⟨k5, by rw [numI, if_neg (by omega)]; omega⟩, ⟨⟨by omega, k4⟩, k6, ⟨by omega, by omega⟩, k8, k9⟩, k11, k12⟩
    · rintro ⟨k1, ⟨k2, k3⟩, ⟨k4, k5, k6, k7, k8⟩, k9, k10⟩
      rw [numI, if_neg (by omega)] at k3
      exact ⟨k1, by omega, by omega, k4.2, k2, k5, by omega, k7, k8, by omega, k9, k10⟩
  · constructor
    · rintro ⟨k1, k2, k3, k4, k5, _⟩; omega
    · rintro ⟨k1, ⟨k2, k3⟩, _⟩; omega
set_option maxHeartbeats 16000000 in
set_option maxRecDepth 100000 in
theorem itx_ok (m0 w0 p0 u0 y0 : Int) (x : TX) : DataOk Try.prog 17 [cfgA m0 w0 p0 u0 y0, txA x] (.d (.v (.bool (txOkB ⟨m0, w0, p0, u0, y0⟩ x)))) := by
  rw [txOk_parts]
  obtain ⟨n, a, fl, s, qu, q, t, h, c, d⟩ := x
  have e1 : (((fl.map datD).length : Nat) : Int) = (fl.length : Int) := by rw [List.length_map]
  have e2 : (((qu.map datD).length : Nat) : Int) = (qu.length : Int) := by rw [List.length_map]
  simp only
  rw [← e1, ← e2]
  obtain ⟨nb, hnb⟩ : ∃ nb, nb = (decide (farF a n = (((fl.map datD).length : Nat) : Int)) && decide (numI c = a)) := ⟨_, rfl⟩
  obtain ⟨cb, hcb⟩ : ∃ cb, cb = (inB (((fl.map datD).length : Nat) : Int) 0 w0 && (inB s 0 (((fl.map datD).length : Nat) : Int) && (inB (((qu.map datD).length : Nat) : Int) 0 24 && (inB t 0 y0 && inB c 0 9999)))) := ⟨_, rfl⟩
  rw [← hnb, ← hcb]
  refine Spec.intro (n := 76) (rv := [.tmp 4]) Try.func17 rfl rfl rfl (by simp) fun C hN hX => ?_
  have hL : ∃ L : Nat, L = (fl.map datD).length := ⟨_, rfl⟩
  refine AW.seq ?_
  apply AW.list
  apply Wk.bx 2 rfl rfl (lt_of_ble rfl)
  apply Wk.bx 3 rfl rfl (lt_of_ble rfl)
  apply Wk.asg (by conv => lhs; whnf) (lt_of_ble rfl)
  refine Wk.nil ?_
  refine AW.seq ?_
  apply AW.list
  apply Wk.fad 2 0 false fd27_2 rfl (lt_of_ble rfl)
  apply Wk.ld (i := 3) 1 false ty25 rfl rfl (by conv => lhs; whnf) (lt_of_ble rfl)
  apply Wk.len un25 rfl (lt_of_ble rfl)
  apply Wk.asg (by conv => lhs; whnf) (lt_of_ble rfl)
  refine Wk.nil ?_
  refine AW.via (fun b : Bool => St.of 76 [(2, .ptr 2 0), (3, .ptr 3 0), (5, .d (.v (.int .i64 (((fl.map datD).length : Nat) : Int)))), (6, .d (.v (.bool b)))] [(2, .var [.d (.v (.int .i64 m0)), .d (.v (.int .i64 w0)), .d (.v (.int .i64 p0)), .d (.v (.int .i64 u0)), .d (.v (.int .i64 y0))]), (3, .var [.d (.v (.int .i64 n)), .d (.v (.int .i64 a)), .d (partsD fl), .d (.v (.int .i64 s)), .d (partsD qu), .d (.v (.bool q)), .d (.v (.int .i64 t)), .d (.v (.bool h)), .d (.v (.int .i64 c)), .d (.v (.bool d))])]) (fun b => b = nb) ?_ ?_
  · by_cases c1 : farF a n = (((fl.map datD).length : Nat) : Int)
    · by_cases c2 : numI c = a
      · skip
        apply AW.draw (hm := hmix) (cs := _)
        · apply Wk.fad 1 0 false fd27_1 rfl (lt_of_ble rfl)
          apply Wk.ld (i := 3) 1 false ty3 rfl rfl (by conv => lhs; whnf) (lt_of_ble rfl)
          apply Wk.fad 0 0 false fd27_0 rfl (lt_of_ble rfl)
          apply Wk.ld (i := 3) 1 false ty3 rfl rfl (by conv => lhs; whnf) (lt_of_ble rfl)
          apply Wk.dat (ifarb a n) Try.func34 rfl rfl rfl rfl rfl (lt_of_ble rfl)
          apply Wk.mv (by conv => lhs; whnf) (lt_of_ble rfl)
          apply Wk.bin rfl rfl (r := .bool true) (fun w => by simp [go_sem, -List.length_map, c1]) (lt_of_ble rfl)
          apply Wk.mv (by conv => lhs; whnf) (lt_of_ble rfl)
          apply Wk.gon 18 rfl rfl
          apply Wk.fad 8 0 false fd27_8 rfl (lt_of_ble rfl)
          apply Wk.gon 18 rfl rfl
          apply Wk.ld (i := 3) 1 false ty3 rfl rfl (by conv => lhs; whnf) (lt_of_ble rfl)
          apply Wk.gon 18 rfl rfl
          apply Wk.dat (inum_ok c) Try.func28 rfl rfl rfl rfl rfl (lt_of_ble rfl)
          apply Wk.gon 18 rfl rfl
          apply Wk.fad 1 0 false fd27_1 rfl (lt_of_ble rfl)
          apply Wk.gon 18 rfl rfl
          apply Wk.ld (i := 3) 1 false ty3 rfl rfl (by conv => lhs; whnf) (lt_of_ble rfl)
          apply Wk.gon 18 rfl rfl
          apply Wk.bin rfl rfl (r := .bool true) (fun w => by simp [go_sem, c2]) (lt_of_ble rfl)
          apply Wk.pckT rfl (by conv => lhs; whnf) (lt_of_ble rfl)
          apply Wk.asg (by conv => lhs; whnf) (lt_of_ble rfl)
          refine Wk.nil (thenA_normal ?_)
          exact ⟨true, by rw [hnb, decide_eq_true c1, decide_eq_true c2]; rfl, fun a w => Rel.keep ⟨rfl, (.cons rfl rfl (.cons rfl rfl (.cons rfl rfl (.cons rfl rfl .nil)))), .cons rfl rfl (.cons rfl rfl .nil), hN.mono (by simp [keys])⟩⟩
        · rfl
        · rfl
      · skip
        apply AW.draw (hm := hmix) (cs := _)
        · apply Wk.fad 1 0 false fd27_1 rfl (lt_of_ble rfl)
          apply Wk.ld (i := 3) 1 false ty3 rfl rfl (by conv => lhs; whnf) (lt_of_ble rfl)
          apply Wk.fad 0 0 false fd27_0 rfl (lt_of_ble rfl)
          apply Wk.ld (i := 3) 1 false ty3 rfl rfl (by conv => lhs; whnf) (lt_of_ble rfl)
          apply Wk.dat (ifarb a n) Try.func34 rfl rfl rfl rfl rfl (lt_of_ble rfl)
          apply Wk.mv (by conv => lhs; whnf) (lt_of_ble rfl)
          apply Wk.bin rfl rfl (r := .bool true) (fun w => by simp [go_sem, -List.length_map, c1]) (lt_of_ble rfl)
          apply Wk.mv (by conv => lhs; whnf) (lt_of_ble rfl)
          apply Wk.gon 18 rfl rfl
          apply Wk.fad 8 0 false fd27_8 rfl (lt_of_ble rfl)
          apply Wk.gon 18 rfl rfl
          apply Wk.ld (i := 3) 1 false ty3 rfl rfl (by conv => lhs; whnf) (lt_of_ble rfl)
          apply Wk.gon 18 rfl rfl
          apply Wk.dat (inum_ok c) Try.func28 rfl rfl rfl rfl rfl (lt_of_ble rfl)
          apply Wk.gon 18 rfl rfl
          apply Wk.fad 1 0 false fd27_1 rfl (lt_of_ble rfl)
          apply Wk.gon 18 rfl rfl
          apply Wk.ld (i := 3) 1 false ty3 rfl rfl (by conv => lhs; whnf) (lt_of_ble rfl)
          apply Wk.gon 18 rfl rfl
          apply Wk.bin rfl rfl (r := .bool false) (fun w => by simp [go_sem, c2]) (lt_of_ble rfl)
          apply Wk.pckT rfl (by conv => lhs; whnf) (lt_of_ble rfl)
          apply Wk.asg (by conv => lhs; whnf) (lt_of_ble rfl)
          refine Wk.nil (thenA_normal ?_)
          exact ⟨false, by rw [hnb, decide_eq_true c1, decide_eq_false c2]; rfl, fun a w => Rel.keep ⟨rfl, (.cons rfl rfl (.cons rfl rfl (.cons rfl rfl (.cons rfl rfl .nil)))), .cons rfl rfl (.cons rfl rfl .nil), hN.mono (by simp [keys])⟩⟩
        · rfl
        · rfl
    · skip
      apply AW.draw (hm := hmix) (cs := _)
      · apply Wk.fad 1 0 false fd27_1 rfl (lt_of_ble rfl)
        apply Wk.ld (i := 3) 1 false ty3 rfl rfl (by conv => lhs; whnf) (lt_of_ble rfl)
        apply Wk.fad 0 0 false fd27_0 rfl (lt_of_ble rfl)
        apply Wk.ld (i := 3) 1 false ty3 rfl rfl (by conv => lhs; whnf) (lt_of_ble rfl)
        apply Wk.dat (ifarb a n) Try.func34 rfl rfl rfl rfl rfl (lt_of_ble rfl)
        apply Wk.mv (by conv => lhs; whnf) (lt_of_ble rfl)
        apply Wk.bin rfl rfl (r := .bool false) (fun w => by simp [go_sem, -List.length_map, c1]) (lt_of_ble rfl)
        apply Wk.mv (by conv => lhs; whnf) (lt_of_ble rfl)
        apply Wk.goff 18 (ok_faddr fd27_8) rfl rfl (by simp)
        apply Wk.goff 18 (ok_load 3 ty3) rfl rfl (by simp)
        apply Wk.goff 18 (ok_datw ((inum_ok c).w rfl) Try.func28 rfl rfl) rfl rfl (by simp)
        apply Wk.goff 18 (ok_faddr fd27_1) rfl rfl (by simp)
        apply Wk.goff 18 (ok_load 3 ty3) rfl rfl (by simp)
        apply Wk.goff 18 (ok_bin _ _ _ _ _) rfl rfl (by simp)
        apply Wk.pckF rfl (by conv => lhs; whnf) (lt_of_ble rfl)
        apply Wk.asg (by conv => lhs; whnf) (lt_of_ble rfl)
        refine Wk.nil (thenA_normal ?_)
        exact ⟨false, by rw [hnb, decide_eq_false c1]; rfl, fun a w => Rel.keep ⟨rfl, (.cons rfl rfl (.cons rfl rfl (.cons rfl rfl (.cons rfl rfl .nil)))), .cons rfl rfl (.cons rfl rfl .nil), hN.mono (by simp [keys])⟩⟩
      · rfl
      · rfl
  rintro nb' rfl
  refine AW.via (fun b : Bool => St.of 76 [(2, .ptr 2 0), (3, .ptr 3 0), (5, .d (.v (.int .i64 (((fl.map datD).length : Nat) : Int)))), (6, .d (.v (.bool nb'))), (7, .d (.v (.bool b)))] [(2, .var [.d (.v (.int .i64 m0)), .d (.v (.int .i64 w0)), .d (.v (.int .i64 p0)), .d (.v (.int .i64 u0)), .d (.v (.int .i64 y0))]), (3, .var [.d (.v (.int .i64 n)), .d (.v (.int .i64 a)), .d (partsD fl), .d (.v (.int .i64 s)), .d (partsD qu), .d (.v (.bool q)), .d (.v (.int .i64 t)), .d (.v (.bool h)), .d (.v (.int .i64 c)), .d (.v (.bool d))])]) (fun b => b = cb) ?_ ?_
  · skip
    cases k0 : inB (((fl.map datD).length : Nat) : Int) 0 w0
    · skip
      apply AW.list
      apply Wk.mv (by conv => lhs; whnf) (lt_of_ble rfl)
      apply Wk.fad 1 0 false fd24_1 rfl (lt_of_ble rfl)
      apply Wk.ld (i := 2) 1 false ty3 rfl rfl (by conv => lhs; whnf) (lt_of_ble rfl)
      apply Wk.dat (inoneb k0) Try.func56 rfl rfl rfl rfl rfl (lt_of_ble rfl)
      apply Wk.mv (by conv => lhs; whnf) (lt_of_ble rfl)
      apply Wk.goff 30 (ok_faddr fd27_3) rfl rfl (by simp)
      apply Wk.goff 30 (ok_load 3 ty3) rfl rfl (by simp)
      apply Wk.goff 30 (ok_move _) rfl rfl (by simp)
      apply Wk.goff 30 (ok_datw ((inoneb (n := 0) (hi := 0) rfl).w rfl) Try.func56 rfl rfl) rfl rfl (by simp)
      apply Wk.pckF rfl (by conv => lhs; whnf) (lt_of_ble rfl)
      apply Wk.mv (by conv => lhs; whnf) (lt_of_ble rfl)
      apply Wk.goff 36 (ok_faddr fd27_4) rfl rfl (by simp)
      apply Wk.goff 36 (ok_load 3 ty25) rfl rfl (by simp)
      apply Wk.goff 36 (ok_len un25) rfl rfl (by simp)
      apply Wk.goff 36 (ok_datw ((inoneb (n := 0) (hi := 0) rfl).w rfl) Try.func56 rfl rfl) rfl rfl (by simp)
      apply Wk.pckF rfl (by conv => lhs; whnf) (lt_of_ble rfl)
      apply Wk.mv (by conv => lhs; whnf) (lt_of_ble rfl)
      apply Wk.goff 42 (ok_faddr fd27_6) rfl rfl (by simp)
      apply Wk.goff 42 (ok_load 3 ty3) rfl rfl (by simp)
      apply Wk.goff 42 (ok_faddr fd24_4) rfl rfl (by simp)
      apply Wk.goff 42 (ok_load 2 ty3) rfl rfl (by simp)
      apply Wk.goff 42 (ok_datw ((inoneb (n := 0) (hi := 0) rfl).w rfl) Try.func56 rfl rfl) rfl rfl (by simp)
      apply Wk.pckF rfl (by conv => lhs; whnf) (lt_of_ble rfl)
      apply Wk.mv (by conv => lhs; whnf) (lt_of_ble rfl)
      apply Wk.goff 49 (ok_faddr fd27_8) rfl rfl (by simp)
      apply Wk.goff 49 (ok_load 3 ty3) rfl rfl (by simp)
      apply Wk.goff 49 (ok_datw ((inoneb (n := 0) (hi := 0) rfl).w rfl) Try.func56 rfl rfl) rfl rfl (by simp)
      apply Wk.pckF rfl (by conv => lhs; whnf) (lt_of_ble rfl)
      apply Wk.asg (by conv => lhs; whnf) (lt_of_ble rfl)
      refine Wk.nil (thenA_normal ?_)
      exact ⟨false, by rw [hcb, k0]; rfl, fun a w => Rel.keep ⟨rfl, (.cons rfl rfl (.cons rfl rfl (.cons rfl rfl (.cons rfl rfl (.cons rfl rfl .nil))))), .cons rfl rfl (.cons rfl rfl .nil), hN.mono (by simp [keys])⟩⟩
    · skip
      cases k1 : inB s 0 (((fl.map datD).length : Nat) : Int)
      · skip
        apply AW.list
        apply Wk.mv (by conv => lhs; whnf) (lt_of_ble rfl)
        apply Wk.fad 1 0 false fd24_1 rfl (lt_of_ble rfl)
        apply Wk.ld (i := 2) 1 false ty3 rfl rfl (by conv => lhs; whnf) (lt_of_ble rfl)
        apply Wk.dat (inoneb k0) Try.func56 rfl rfl rfl rfl rfl (lt_of_ble rfl)
        apply Wk.mv (by conv => lhs; whnf) (lt_of_ble rfl)
        apply Wk.gon 30 rfl rfl
        apply Wk.fad 3 0 false fd27_3 rfl (lt_of_ble rfl)
        apply Wk.gon 30 rfl rfl
        apply Wk.ld (i := 3) 1 false ty3 rfl rfl (by conv => lhs; whnf) (lt_of_ble rfl)
        apply Wk.gon 30 rfl rfl
        apply Wk.mv (by conv => lhs; whnf) (lt_of_ble rfl)
        apply Wk.gon 30 rfl rfl
        apply Wk.dat (inoneb k1) Try.func56 rfl rfl rfl rfl rfl (lt_of_ble rfl)
        apply Wk.pckT rfl (by conv => lhs; whnf) (lt_of_ble rfl)
        apply Wk.mv (by conv => lhs; whnf) (lt_of_ble rfl)
        apply Wk.goff 36 (ok_faddr fd27_4) rfl rfl (by simp)
        apply Wk.goff 36 (ok_load 3 ty25) rfl rfl (by simp)
        apply Wk.goff 36 (ok_len un25) rfl rfl (by simp)
        apply Wk.goff 36 (ok_datw ((inoneb (n := 0) (hi := 0) rfl).w rfl) Try.func56 rfl rfl) rfl rfl (by simp)
        apply Wk.pckF rfl (by conv => lhs; whnf) (lt_of_ble rfl)
        apply Wk.mv (by conv => lhs; whnf) (lt_of_ble rfl)
        apply Wk.goff 42 (ok_faddr fd27_6) rfl rfl (by simp)
        apply Wk.goff 42 (ok_load 3 ty3) rfl rfl (by simp)
        apply Wk.goff 42 (ok_faddr fd24_4) rfl rfl (by simp)
        apply Wk.goff 42 (ok_load 2 ty3) rfl rfl (by simp)
        apply Wk.goff 42 (ok_datw ((inoneb (n := 0) (hi := 0) rfl).w rfl) Try.func56 rfl rfl) rfl rfl (by simp)
        apply Wk.pckF rfl (by conv => lhs; whnf) (lt_of_ble rfl)
        apply Wk.mv (by conv => lhs; whnf) (lt_of_ble rfl)
        apply Wk.goff 49 (ok_faddr fd27_8) rfl rfl (by simp)
        apply Wk.goff 49 (ok_load 3 ty3) rfl rfl (by simp)
        apply Wk.goff 49 (ok_datw ((inoneb (n := 0) (hi := 0) rfl).w rfl) Try.func56 rfl rfl) rfl rfl (by simp)
        apply Wk.pckF rfl (by conv => lhs; whnf) (lt_of_ble rfl)
        apply Wk.asg (by conv => lhs; whnf) (lt_of_ble rfl)
        refine Wk.nil (thenA_normal ?_)
        exact ⟨false, by rw [hcb, k0, k1]; rfl, fun a w => Rel.keep ⟨rfl, (.cons rfl rfl (.cons rfl rfl (.cons rfl rfl (.cons rfl rfl (.cons rfl rfl .nil))))), .cons rfl rfl (.cons rfl rfl .nil), hN.mono (by simp [keys])⟩⟩
      · skip
        cases k2 : inB (((qu.map datD).length : Nat) : Int) 0 24
        · skip
          apply AW.list
          apply Wk.mv (by conv => lhs; whnf) (lt_of_ble rfl)
          apply Wk.fad 1 0 false fd24_1 rfl (lt_of_ble rfl)
          apply Wk.ld (i := 2) 1 false ty3 rfl rfl (by conv => lhs; whnf) (lt_of_ble rfl)
          apply Wk.dat (inoneb k0) Try.func56 rfl rfl rfl rfl rfl (lt_of_ble rfl)
          apply Wk.mv (by conv => lhs; whnf) (lt_of_ble rfl)
          apply Wk.gon 30 rfl rfl
          apply Wk.fad 3 0 false fd27_3 rfl (lt_of_ble rfl)
          apply Wk.gon 30 rfl rfl
          apply Wk.ld (i := 3) 1 false ty3 rfl rfl (by conv => lhs; whnf) (lt_of_ble rfl)
          apply Wk.gon 30 rfl rfl
          apply Wk.mv (by conv => lhs; whnf) (lt_of_ble rfl)
          apply Wk.gon 30 rfl rfl
          apply Wk.dat (inoneb k1) Try.func56 rfl rfl rfl rfl rfl (lt_of_ble rfl)
          apply Wk.pckT rfl (by conv => lhs; whnf) (lt_of_ble rfl)
          apply Wk.mv (by conv => lhs; whnf) (lt_of_ble rfl)
          apply Wk.gon 36 rfl rfl
          apply Wk.fad 4 0 false fd27_4 rfl (lt_of_ble rfl)
          apply Wk.gon 36 rfl rfl
          apply Wk.ld (i := 3) 1 false ty25 rfl rfl (by conv => lhs; whnf) (lt_of_ble rfl)
          apply Wk.gon 36 rfl rfl
          apply Wk.len un25 rfl (lt_of_ble rfl)
          apply Wk.gon 36 rfl rfl
          apply Wk.dat (inoneb k2) Try.func56 rfl rfl rfl rfl rfl (lt_of_ble rfl)
          apply Wk.pckT rfl (by conv => lhs; whnf) (lt_of_ble rfl)
          apply Wk.mv (by conv => lhs; whnf) (lt_of_ble rfl)
          apply Wk.goff 42 (ok_faddr fd27_6) rfl rfl (by simp)
          apply Wk.goff 42 (ok_load 3 ty3) rfl rfl (by simp)
          apply Wk.goff 42 (ok_faddr fd24_4) rfl rfl (by simp)
          apply Wk.goff 42 (ok_load 2 ty3) rfl rfl (by simp)
          apply Wk.goff 42 (ok_datw ((inoneb (n := 0) (hi := 0) rfl).w rfl) Try.func56 rfl rfl) rfl rfl (by simp)
          apply Wk.pckF rfl (by conv => lhs; whnf) (lt_of_ble rfl)
          apply Wk.mv (by conv => lhs; whnf) (lt_of_ble rfl)
          apply Wk.goff 49 (ok_faddr fd27_8) rfl rfl (by simp)
          apply Wk.goff 49 (ok_load 3 ty3) rfl rfl (by simp)
          apply Wk.goff 49 (ok_datw ((inoneb (n := 0) (hi := 0) rfl).w rfl) Try.func56 rfl rfl) rfl rfl (by simp)
          apply Wk.pckF rfl (by conv => lhs; whnf) (lt_of_ble rfl)
          apply Wk.asg (by conv => lhs; whnf) (lt_of_ble rfl)
          refine Wk.nil (thenA_normal ?_)
          exact ⟨false, by rw [hcb, k0, k1, k2]; rfl, fun a w => Rel.keep ⟨rfl, (.cons rfl rfl (.cons rfl rfl (.cons rfl rfl (.cons rfl rfl (.cons rfl rfl .nil))))), .cons rfl rfl (.cons rfl rfl .nil), hN.mono (by simp [keys])⟩⟩
        · skip
          cases k3 : inB t 0 y0
          · skip
            apply AW.list
            apply Wk.mv (by conv => lhs; whnf) (lt_of_ble rfl)
            apply Wk.fad 1 0 false fd24_1 rfl (lt_of_ble rfl)
            apply Wk.ld (i := 2) 1 false ty3 rfl rfl (by conv => lhs; whnf) (lt_of_ble rfl)
            apply Wk.dat (inoneb k0) Try.func56 rfl rfl rfl rfl rfl (lt_of_ble rfl)
            apply Wk.mv (by conv => lhs; whnf) (lt_of_ble rfl)
            apply Wk.gon 30 rfl rfl
            apply Wk.fad 3 0 false fd27_3 rfl (lt_of_ble rfl)
            apply Wk.gon 30 rfl rfl
            apply Wk.ld (i := 3) 1 false ty3 rfl rfl (by conv => lhs; whnf) (lt_of_ble rfl)
            apply Wk.gon 30 rfl rfl
            apply Wk.mv (by conv => lhs; whnf) (lt_of_ble rfl)
            apply Wk.gon 30 rfl rfl
            apply Wk.dat (inoneb k1) Try.func56 rfl rfl rfl rfl rfl (lt_of_ble rfl)
            apply Wk.pckT rfl (by conv => lhs; whnf) (lt_of_ble rfl)
            apply Wk.mv (by conv => lhs; whnf) (lt_of_ble rfl)
            apply Wk.gon 36 rfl rfl
            apply Wk.fad 4 0 false fd27_4 rfl (lt_of_ble rfl)
            apply Wk.gon 36 rfl rfl
            apply Wk.ld (i := 3) 1 false ty25 rfl rfl (by conv => lhs; whnf) (lt_of_ble rfl)
            apply Wk.gon 36 rfl rfl
            apply Wk.len un25 rfl (lt_of_ble rfl)
            apply Wk.gon 36 rfl rfl
            apply Wk.dat (inoneb k2) Try.func56 rfl rfl rfl rfl rfl (lt_of_ble rfl)
            apply Wk.pckT rfl (by conv => lhs; whnf) (lt_of_ble rfl)
            apply Wk.mv (by conv => lhs; whnf) (lt_of_ble rfl)
            apply Wk.gon 42 rfl rfl
            apply Wk.fad 6 0 false fd27_6 rfl (lt_of_ble rfl)
            apply Wk.gon 42 rfl rfl
            apply Wk.ld (i := 3) 1 false ty3 rfl rfl (by conv => lhs; whnf) (lt_of_ble rfl)
            apply Wk.gon 42 rfl rfl
            apply Wk.fad 4 0 false fd24_4 rfl (lt_of_ble rfl)
            apply Wk.gon 42 rfl rfl
            apply Wk.ld (i := 2) 1 false ty3 rfl rfl (by conv => lhs; whnf) (lt_of_ble rfl)
            apply Wk.gon 42 rfl rfl
            apply Wk.dat (inoneb k3) Try.func56 rfl rfl rfl rfl rfl (lt_of_ble rfl)
            apply Wk.pckT rfl (by conv => lhs; whnf) (lt_of_ble rfl)
            apply Wk.mv (by conv => lhs; whnf) (lt_of_ble rfl)
            apply Wk.goff 49 (ok_faddr fd27_8) rfl rfl (by simp)
            apply Wk.goff 49 (ok_load 3 ty3) rfl rfl (by simp)
            apply Wk.goff 49 (ok_datw ((inoneb (n := 0) (hi := 0) rfl).w rfl) Try.func56 rfl rfl) rfl rfl (by simp)
            apply Wk.pckF rfl (by conv => lhs; whnf) (lt_of_ble rfl)
            apply Wk.asg (by conv => lhs; whnf) (lt_of_ble rfl)
            refine Wk.nil (thenA_normal ?_)
            exact ⟨false, by rw [hcb, k0, k1, k2, k3]; rfl, fun a w => Rel.keep ⟨rfl, (.cons rfl rfl (.cons rfl rfl (.cons rfl rfl (.cons rfl rfl (.cons rfl rfl .nil))))), .cons rfl rfl (.cons rfl rfl .nil), hN.mono (by simp [keys])⟩⟩
          · skip
            cases k4 : inB c 0 9999
            · skip
              apply AW.list
              apply Wk.mv (by conv => lhs; whnf) (lt_of_ble rfl)
              apply Wk.fad 1 0 false fd24_1 rfl (lt_of_ble rfl)
              apply Wk.ld (i := 2) 1 false ty3 rfl rfl (by conv => lhs; whnf) (lt_of_ble rfl)
              apply Wk.dat (inoneb k0) Try.func56 rfl rfl rfl rfl rfl (lt_of_ble rfl)
              apply Wk.mv (by conv => lhs; whnf) (lt_of_ble rfl)
              apply Wk.gon 30 rfl rfl
              apply Wk.fad 3 0 false fd27_3 rfl (lt_of_ble rfl)
              apply Wk.gon 30 rfl rfl
              apply Wk.ld (i := 3) 1 false ty3 rfl rfl (by conv => lhs; whnf) (lt_of_ble rfl)
              apply Wk.gon 30 rfl rfl
              apply Wk.mv (by conv => lhs; whnf) (lt_of_ble rfl)
              apply Wk.gon 30 rfl rfl
              apply Wk.dat (inoneb k1) Try.func56 rfl rfl rfl rfl rfl (lt_of_ble rfl)
              apply Wk.pckT rfl (by conv => lhs; whnf) (lt_of_ble rfl)
              apply Wk.mv (by conv => lhs; whnf) (lt_of_ble rfl)
              apply Wk.gon 36 rfl rfl
              apply Wk.fad 4 0 false fd27_4 rfl (lt_of_ble rfl)
              apply Wk.gon 36 rfl rfl
              apply Wk.ld (i := 3) 1 false ty25 rfl rfl (by conv => lhs; whnf) (lt_of_ble rfl)
              apply Wk.gon 36 rfl rfl
              apply Wk.len un25 rfl (lt_of_ble rfl)
              apply Wk.gon 36 rfl rfl
              apply Wk.dat (inoneb k2) Try.func56 rfl rfl rfl rfl rfl (lt_of_ble rfl)
              apply Wk.pckT rfl (by conv => lhs; whnf) (lt_of_ble rfl)
              apply Wk.mv (by conv => lhs; whnf) (lt_of_ble rfl)
              apply Wk.gon 42 rfl rfl
              apply Wk.fad 6 0 false fd27_6 rfl (lt_of_ble rfl)
              apply Wk.gon 42 rfl rfl
              apply Wk.ld (i := 3) 1 false ty3 rfl rfl (by conv => lhs; whnf) (lt_of_ble rfl)
              apply Wk.gon 42 rfl rfl
              apply Wk.fad 4 0 false fd24_4 rfl (lt_of_ble rfl)
              apply Wk.gon 42 rfl rfl
              apply Wk.ld (i := 2) 1 false ty3 rfl rfl (by conv => lhs; whnf) (lt_of_ble rfl)
              apply Wk.gon 42 rfl rfl
              apply Wk.dat (inoneb k3) Try.func56 rfl rfl rfl rfl rfl (lt_of_ble rfl)
              apply Wk.pckT rfl (by conv => lhs; whnf) (lt_of_ble rfl)
              apply Wk.mv (by conv => lhs; whnf) (lt_of_ble rfl)
              apply Wk.gon 49 rfl rfl
              apply Wk.fad 8 0 false fd27_8 rfl (lt_of_ble rfl)
              apply Wk.gon 49 rfl rfl
              apply Wk.ld (i := 3) 1 false ty3 rfl rfl (by conv => lhs; whnf) (lt_of_ble rfl)
              apply Wk.gon 49 rfl rfl
              apply Wk.dat (inoneb k4) Try.func56 rfl rfl rfl rfl rfl (lt_of_ble rfl)
              apply Wk.pckT rfl (by conv => lhs; whnf) (lt_of_ble rfl)
              apply Wk.asg (by conv => lhs; whnf) (lt_of_ble rfl)
              refine Wk.nil (thenA_normal ?_)
              exact ⟨false, by rw [hcb, k0, k1, k2, k3, k4]; rfl, fun a w => Rel.keep ⟨rfl, (.cons rfl rfl (.cons rfl rfl (.cons rfl rfl (.cons rfl rfl (.cons rfl rfl .nil))))), .cons rfl rfl (.cons rfl rfl .nil), hN.mono (by simp [keys])⟩⟩
            · skip
              apply AW.list
              apply Wk.mv (by conv => lhs; whnf) (lt_of_ble rfl)
              apply Wk.fad 1 0 false fd24_1 rfl (lt_of_ble rfl)
              apply Wk.ld (i := 2) 1 false ty3 rfl rfl (by conv => lhs; whnf) (lt_of_ble rfl)
              apply Wk.dat (inoneb k0) Try.func56 rfl rfl rfl rfl rfl (lt_of_ble rfl)
              apply Wk.mv (by conv => lhs; whnf) (lt_of_ble rfl)
              apply Wk.gon 30 rfl rfl
              apply Wk.fad 3 0 false fd27_3 rfl (lt_of_ble rfl)
              apply Wk.gon 30 rfl rfl
              apply Wk.ld (i := 3) 1 false ty3 rfl rfl (by conv => lhs; whnf) (lt_of_ble rfl)
              apply Wk.gon 30 rfl rfl
              apply Wk.mv (by conv => lhs; whnf) (lt_of_ble rfl)
              apply Wk.gon 30 rfl rfl
              apply Wk.dat (inoneb k1) Try.func56 rfl rfl rfl rfl rfl (lt_of_ble rfl)
              apply Wk.pckT rfl (by conv => lhs; whnf) (lt_of_ble rfl)
              apply Wk.mv (by conv => lhs; whnf) (lt_of_ble rfl)
              apply Wk.gon 36 rfl rfl
              apply Wk.fad 4 0 false fd27_4 rfl (lt_of_ble rfl)
              apply Wk.gon 36 rfl rfl
              apply Wk.ld (i := 3) 1 false ty25 rfl rfl (by conv => lhs; whnf) (lt_of_ble rfl)
              apply Wk.gon 36 rfl rfl
              apply Wk.len un25 rfl (lt_of_ble rfl)
              apply Wk.gon 36 rfl rfl
              apply Wk.dat (inoneb k2) Try.func56 rfl rfl rfl rfl rfl (lt_of_ble rfl)
              apply Wk.pckT rfl (by conv => lhs; whnf) (lt_of_ble rfl)
              apply Wk.mv (by conv => lhs; whnf) (lt_of_ble rfl)
              apply Wk.gon 42 rfl rfl
              apply Wk.fad 6 0 false fd27_6 rfl (lt_of_ble rfl)
              apply Wk.gon 42 rfl rfl
              apply Wk.ld (i := 3) 1 false ty3 rfl rfl (by conv => lhs; whnf) (lt_of_ble rfl)
              apply Wk.gon 42 rfl rfl
              apply Wk.fad 4 0 false fd24_4 rfl (lt_of_ble rfl)
              apply Wk.gon 42 rfl rfl
              apply Wk.ld (i := 2) 1 false ty3 rfl rfl (by conv => lhs; whnf) (lt_of_ble rfl)
              apply Wk.gon 42 rfl rfl
              apply Wk.dat (inoneb k3) Try.func56 rfl rfl rfl rfl rfl (lt_of_ble rfl)
              apply Wk.pckT rfl (by conv => lhs; whnf) (lt_of_ble rfl)
              apply Wk.mv (by conv => lhs; whnf) (lt_of_ble rfl)
              apply Wk.gon 49 rfl rfl
              apply Wk.fad 8 0 false fd27_8 rfl (lt_of_ble rfl)
              apply Wk.gon 49 rfl rfl
              apply Wk.ld (i := 3) 1 false ty3 rfl rfl (by conv => lhs; whnf) (lt_of_ble rfl)
              apply Wk.gon 49 rfl rfl
              apply Wk.dat (inoneb k4) Try.func56 rfl rfl rfl rfl rfl (lt_of_ble rfl)
              apply Wk.pckT rfl (by conv => lhs; whnf) (lt_of_ble rfl)
              apply Wk.asg (by conv => lhs; whnf) (lt_of_ble rfl)
              refine Wk.nil (thenA_normal ?_)
              exact ⟨true, by rw [hcb, k0, k1, k2, k3, k4]; rfl, fun a w => Rel.keep ⟨rfl, (.cons rfl rfl (.cons rfl rfl (.cons rfl rfl (.cons rfl rfl (.cons rfl rfl .nil))))), .cons rfl rfl (.cons rfl rfl .nil), hN.mono (by simp [keys])⟩⟩
  rintro cb' rfl
  refine AW.seq ?_
  clear hnb hcb
  cases h0 : Opt.ok ⟨m0, w0, p0, u0, y0⟩
  · skip
    apply AW.list
    apply Wk.ld (i := 2) 5 true ty24 rfl rfl (by conv => lhs; whnf) (lt_of_ble rfl)
    apply Wk.dat (icfgb h0) Try.func57 rfl rfl rfl rfl rfl (lt_of_ble rfl)
    apply Wk.mv (by conv => lhs; whnf) (lt_of_ble rfl)
    apply Wk.goff 56 (ok_move _) rfl rfl (by simp)
    apply Wk.pckF rfl (by conv => lhs; whnf) (lt_of_ble rfl)
    apply Wk.mv (by conv => lhs; whnf) (lt_of_ble rfl)
    apply Wk.goff 59 (ok_move _) rfl rfl (by simp)
    apply Wk.pckF rfl (by conv => lhs; whnf) (lt_of_ble rfl)
    apply Wk.mv (by conv => lhs; whnf) (lt_of_ble rfl)
    apply Wk.goff 62 (ok_faddr fd27_2) rfl rfl (by simp)
    apply Wk.goff 62 (ok_load 3 ty25) rfl rfl (by simp)
    apply Wk.goff 62 (ok_faddr fd24_2) rfl rfl (by simp)
    apply Wk.goff 62 (ok_load 2 ty3) rfl rfl (by simp)
    apply Wk.goff 62 (ok_datw ((ipartsb [] 0 rfl).w rfl) Try.func58 rfl rfl) rfl rfl (by simp)
    apply Wk.pckF rfl (by conv => lhs; whnf) (lt_of_ble rfl)
    apply Wk.mv (by conv => lhs; whnf) (lt_of_ble rfl)
    apply Wk.goff 69 (ok_faddr fd27_4) rfl rfl (by simp)
    apply Wk.goff 69 (ok_load 3 ty25) rfl rfl (by simp)
    apply Wk.goff 69 (ok_faddr fd24_2) rfl rfl (by simp)
    apply Wk.goff 69 (ok_load 2 ty3) rfl rfl (by simp)
    apply Wk.goff 69 (ok_datw ((ipartsb [] 0 rfl).w rfl) Try.func58 rfl rfl) rfl rfl (by simp)
    apply Wk.pckF rfl (by conv => lhs; whnf) (lt_of_ble rfl)
    apply Wk.asg (by conv => lhs; whnf) (lt_of_ble rfl)
    refine Wk.nil (AW.ret ?_)
    exact RetQ.ret [] (.cons rfl .nil) ⟨rfl, rfl⟩ none_kept
  · skip
    cases nb'
    · skip
      apply AW.list
      apply Wk.ld (i := 2) 5 true ty24 rfl rfl (by conv => lhs; whnf) (lt_of_ble rfl)
      apply Wk.dat (icfgb h0) Try.func57 rfl rfl rfl rfl rfl (lt_of_ble rfl)
      apply Wk.mv (by conv => lhs; whnf) (lt_of_ble rfl)
      apply Wk.gon 56 rfl rfl
      apply Wk.mv (by conv => lhs; whnf) (lt_of_ble rfl)
      apply Wk.pckT rfl (by conv => lhs; whnf) (lt_of_ble rfl)
      apply Wk.mv (by conv => lhs; whnf) (lt_of_ble rfl)
      apply Wk.goff 59 (ok_move _) rfl rfl (by simp)
      apply Wk.pckF rfl (by conv => lhs; whnf) (lt_of_ble rfl)
      apply Wk.mv (by conv => lhs; whnf) (lt_of_ble rfl)
      apply Wk.goff 62 (ok_faddr fd27_2) rfl rfl (by simp)
      apply Wk.goff 62 (ok_load 3 ty25) rfl rfl (by simp)
      apply Wk.goff 62 (ok_faddr fd24_2) rfl rfl (by simp)
      apply Wk.goff 62 (ok_load 2 ty3) rfl rfl (by simp)
      apply Wk.goff 62 (ok_datw ((ipartsb [] 0 rfl).w rfl) Try.func58 rfl rfl) rfl rfl (by simp)
      apply Wk.pckF rfl (by conv => lhs; whnf) (lt_of_ble rfl)
      apply Wk.mv (by conv => lhs; whnf) (lt_of_ble rfl)
      apply Wk.goff 69 (ok_faddr fd27_4) rfl rfl (by simp)
      apply Wk.goff 69 (ok_load 3 ty25) rfl rfl (by simp)
      apply Wk.goff 69 (ok_faddr fd24_2) rfl rfl (by simp)
      apply Wk.goff 69 (ok_load 2 ty3) rfl rfl (by simp)
      apply Wk.goff 69 (ok_datw ((ipartsb [] 0 rfl).w rfl) Try.func58 rfl rfl) rfl rfl (by simp)
      apply Wk.pckF rfl (by conv => lhs; whnf) (lt_of_ble rfl)
      apply Wk.asg (by conv => lhs; whnf) (lt_of_ble rfl)
      refine Wk.nil (AW.ret ?_)
      exact RetQ.ret [] (.cons rfl .nil) ⟨rfl, rfl⟩ none_kept
    · skip
      cases cb'
      · skip
        apply AW.list
        apply Wk.ld (i := 2) 5 true ty24 rfl rfl (by conv => lhs; whnf) (lt_of_ble rfl)
        apply Wk.dat (icfgb h0) Try.func57 rfl rfl rfl rfl rfl (lt_of_ble rfl)
        apply Wk.mv (by conv => lhs; whnf) (lt_of_ble rfl)
        apply Wk.gon 56 rfl rfl
        apply Wk.mv (by conv => lhs; whnf) (lt_of_ble rfl)
        apply Wk.pckT rfl (by conv => lhs; whnf) (lt_of_ble rfl)
        apply Wk.mv (by conv => lhs; whnf) (lt_of_ble rfl)
        apply Wk.gon 59 rfl rfl
        apply Wk.mv (by conv => lhs; whnf) (lt_of_ble rfl)
        apply Wk.pckT rfl (by conv => lhs; whnf) (lt_of_ble rfl)
        apply Wk.mv (by conv => lhs; whnf) (lt_of_ble rfl)
        apply Wk.goff 62 (ok_faddr fd27_2) rfl rfl (by simp)
        apply Wk.goff 62 (ok_load 3 ty25) rfl rfl (by simp)
        apply Wk.goff 62 (ok_faddr fd24_2) rfl rfl (by simp)
        apply Wk.goff 62 (ok_load 2 ty3) rfl rfl (by simp)
        apply Wk.goff 62 (ok_datw ((ipartsb [] 0 rfl).w rfl) Try.func58 rfl rfl) rfl rfl (by simp)
        apply Wk.pckF rfl (by conv => lhs; whnf) (lt_of_ble rfl)
        apply Wk.mv (by conv => lhs; whnf) (lt_of_ble rfl)
        apply Wk.goff 69 (ok_faddr fd27_4) rfl rfl (by simp)
        apply Wk.goff 69 (ok_load 3 ty25) rfl rfl (by simp)
        apply Wk.goff 69 (ok_faddr fd24_2) rfl rfl (by simp)
        apply Wk.goff 69 (ok_load 2 ty3) rfl rfl (by simp)
        apply Wk.goff 69 (ok_datw ((ipartsb [] 0 rfl).w rfl) Try.func58 rfl rfl) rfl rfl (by simp)
        apply Wk.pckF rfl (by conv => lhs; whnf) (lt_of_ble rfl)
        apply Wk.asg (by conv => lhs; whnf) (lt_of_ble rfl)
        refine Wk.nil (AW.ret ?_)
        exact RetQ.ret [] (.cons rfl .nil) ⟨rfl, rfl⟩ none_kept
      · skip
        cases h3 : fl.all (partM p0)
        · skip
          apply AW.list
          apply Wk.ld (i := 2) 5 true ty24 rfl rfl (by conv => lhs; whnf) (lt_of_ble rfl)
          apply Wk.dat (icfgb h0) Try.func57 rfl rfl rfl rfl rfl (lt_of_ble rfl)
          apply Wk.mv (by conv => lhs; whnf) (lt_of_ble rfl)
          apply Wk.gon 56 rfl rfl
          apply Wk.mv (by conv => lhs; whnf) (lt_of_ble rfl)
          apply Wk.pckT rfl (by conv => lhs; whnf) (lt_of_ble rfl)
          apply Wk.mv (by conv => lhs; whnf) (lt_of_ble rfl)
          apply Wk.gon 59 rfl rfl
          apply Wk.mv (by conv => lhs; whnf) (lt_of_ble rfl)
          apply Wk.pckT rfl (by conv => lhs; whnf) (lt_of_ble rfl)
          apply Wk.mv (by conv => lhs; whnf) (lt_of_ble rfl)
          apply Wk.gon 62 rfl rfl
          apply Wk.fad 2 0 false fd27_2 rfl (lt_of_ble rfl)
          apply Wk.gon 62 rfl rfl
          apply Wk.ld (i := 3) 1 false ty25 rfl rfl (by conv => lhs; whnf) (lt_of_ble rfl)
          apply Wk.gon 62 rfl rfl
          apply Wk.fad 2 0 false fd24_2 rfl (lt_of_ble rfl)
          apply Wk.gon 62 rfl rfl
          apply Wk.ld (i := 2) 1 false ty3 rfl rfl (by conv => lhs; whnf) (lt_of_ble rfl)
          apply Wk.gon 62 rfl rfl
          apply Wk.dat (ipartsb fl p0 h3) Try.func58 rfl rfl rfl rfl rfl (lt_of_ble rfl)
          apply Wk.pckT rfl (by conv => lhs; whnf) (lt_of_ble rfl)
          apply Wk.mv (by conv => lhs; whnf) (lt_of_ble rfl)
          apply Wk.goff 69 (ok_faddr fd27_4) rfl rfl (by simp)
          apply Wk.goff 69 (ok_load 3 ty25) rfl rfl (by simp)
          apply Wk.goff 69 (ok_faddr fd24_2) rfl rfl (by simp)
          apply Wk.goff 69 (ok_load 2 ty3) rfl rfl (by simp)
          apply Wk.goff 69 (ok_datw ((ipartsb [] 0 rfl).w rfl) Try.func58 rfl rfl) rfl rfl (by simp)
          apply Wk.pckF rfl (by conv => lhs; whnf) (lt_of_ble rfl)
          apply Wk.asg (by conv => lhs; whnf) (lt_of_ble rfl)
          refine Wk.nil (AW.ret ?_)
          exact RetQ.ret [] (.cons rfl .nil) ⟨rfl, rfl⟩ none_kept
        · skip
          cases h4 : qu.all (partM p0)
          · skip
            apply AW.list
            apply Wk.ld (i := 2) 5 true ty24 rfl rfl (by conv => lhs; whnf) (lt_of_ble rfl)
            apply Wk.dat (icfgb h0) Try.func57 rfl rfl rfl rfl rfl (lt_of_ble rfl)
            apply Wk.mv (by conv => lhs; whnf) (lt_of_ble rfl)
            apply Wk.gon 56 rfl rfl
            apply Wk.mv (by conv => lhs; whnf) (lt_of_ble rfl)
            apply Wk.pckT rfl (by conv => lhs; whnf) (lt_of_ble rfl)
            apply Wk.mv (by conv => lhs; whnf) (lt_of_ble rfl)
            apply Wk.gon 59 rfl rfl
            apply Wk.mv (by conv => lhs; whnf) (lt_of_ble rfl)
            apply Wk.pckT rfl (by conv => lhs; whnf) (lt_of_ble rfl)
            apply Wk.mv (by conv => lhs; whnf) (lt_of_ble rfl)
            apply Wk.gon 62 rfl rfl
            apply Wk.fad 2 0 false fd27_2 rfl (lt_of_ble rfl)
            apply Wk.gon 62 rfl rfl
            apply Wk.ld (i := 3) 1 false ty25 rfl rfl (by conv => lhs; whnf) (lt_of_ble rfl)
            apply Wk.gon 62 rfl rfl
            apply Wk.fad 2 0 false fd24_2 rfl (lt_of_ble rfl)
            apply Wk.gon 62 rfl rfl
            apply Wk.ld (i := 2) 1 false ty3 rfl rfl (by conv => lhs; whnf) (lt_of_ble rfl)
            apply Wk.gon 62 rfl rfl
            apply Wk.dat (ipartsb fl p0 h3) Try.func58 rfl rfl rfl rfl rfl (lt_of_ble rfl)
            apply Wk.pckT rfl (by conv => lhs; whnf) (lt_of_ble rfl)
            apply Wk.mv (by conv => lhs; whnf) (lt_of_ble rfl)
            apply Wk.gon 69 rfl rfl
            apply Wk.fad 4 0 false fd27_4 rfl (lt_of_ble rfl)
            apply Wk.gon 69 rfl rfl
            apply Wk.ld (i := 3) 1 false ty25 rfl rfl (by conv => lhs; whnf) (lt_of_ble rfl)
            apply Wk.gon 69 rfl rfl
            apply Wk.fad 2 0 false fd24_2 rfl (lt_of_ble rfl)
            apply Wk.gon 69 rfl rfl
            apply Wk.ld (i := 2) 1 false ty3 rfl rfl (by conv => lhs; whnf) (lt_of_ble rfl)
            apply Wk.gon 69 rfl rfl
            apply Wk.dat (ipartsb qu p0 h4) Try.func58 rfl rfl rfl rfl rfl (lt_of_ble rfl)
            apply Wk.pckT rfl (by conv => lhs; whnf) (lt_of_ble rfl)
            apply Wk.asg (by conv => lhs; whnf) (lt_of_ble rfl)
            refine Wk.nil (AW.ret ?_)
            exact RetQ.ret [] (.cons rfl .nil) ⟨rfl, rfl⟩ none_kept
          · skip
            apply AW.list
            apply Wk.ld (i := 2) 5 true ty24 rfl rfl (by conv => lhs; whnf) (lt_of_ble rfl)
            apply Wk.dat (icfgb h0) Try.func57 rfl rfl rfl rfl rfl (lt_of_ble rfl)
            apply Wk.mv (by conv => lhs; whnf) (lt_of_ble rfl)
            apply Wk.gon 56 rfl rfl
            apply Wk.mv (by conv => lhs; whnf) (lt_of_ble rfl)
            apply Wk.pckT rfl (by conv => lhs; whnf) (lt_of_ble rfl)
            apply Wk.mv (by conv => lhs; whnf) (lt_of_ble rfl)
            apply Wk.gon 59 rfl rfl
            apply Wk.mv (by conv => lhs; whnf) (lt_of_ble rfl)
            apply Wk.pckT rfl (by conv => lhs; whnf) (lt_of_ble rfl)
            apply Wk.mv (by conv => lhs; whnf) (lt_of_ble rfl)
            apply Wk.gon 62 rfl rfl
            apply Wk.fad 2 0 false fd27_2 rfl (lt_of_ble rfl)
            apply Wk.gon 62 rfl rfl
            apply Wk.ld (i := 3) 1 false ty25 rfl rfl (by conv => lhs; whnf) (lt_of_ble rfl)
            apply Wk.gon 62 rfl rfl
            apply Wk.fad 2 0 false fd24_2 rfl (lt_of_ble rfl)
            apply Wk.gon 62 rfl rfl
            apply Wk.ld (i := 2) 1 false ty3 rfl rfl (by conv => lhs; whnf) (lt_of_ble rfl)
            apply Wk.gon 62 rfl rfl
            apply Wk.dat (ipartsb fl p0 h3) Try.func58 rfl rfl rfl rfl rfl (lt_of_ble rfl)
            apply Wk.pckT rfl (by conv => lhs; whnf) (lt_of_ble rfl)
            apply Wk.mv (by conv => lhs; whnf) (lt_of_ble rfl)
            apply Wk.gon 69 rfl rfl
            apply Wk.fad 4 0 false fd27_4 rfl (lt_of_ble rfl)
            apply Wk.gon 69 rfl rfl
            apply Wk.ld (i := 3) 1 false ty25 rfl rfl (by conv => lhs; whnf) (lt_of_ble rfl)
            apply Wk.gon 69 rfl rfl
            apply Wk.fad 2 0 false fd24_2 rfl (lt_of_ble rfl)
            apply Wk.gon 69 rfl rfl
            apply Wk.ld (i := 2) 1 false ty3 rfl rfl (by conv => lhs; whnf) (lt_of_ble rfl)
            apply Wk.gon 69 rfl rfl
            apply Wk.dat (ipartsb qu p0 h4) Try.func58 rfl rfl rfl rfl rfl (lt_of_ble rfl)
            apply Wk.pckT rfl (by conv => lhs; whnf) (lt_of_ble rfl)
            apply Wk.asg (by conv => lhs; whnf) (lt_of_ble rfl)
            refine Wk.nil (AW.ret ?_)
            exact RetQ.ret [] (.cons rfl .nil) ⟨rfl, rfl⟩ none_kept
end Go.Proofs.Ytdojkmjamilllaa

/- Who sends, the program's: its ring of pieces, made of a state, its state. Written by tools/mk_AbsSender.py. -/
namespace Go.Proofs.Ytdojkmjamilllaa
open Go Go.RowKit
/-- A place of the ring. -/
structure Sl where
  x : D
  y : D
  z : D
def sl : Option Dat → Sl
  | some d => ⟨.v (.int .i64 d.1), .v (.int .i64 d.2.1), bytesD d.2.2⟩
  | none => ⟨.v (.int .i64 0), .v (.int .i64 0), .v (.slice none 0 0)⟩
def ringF (fl : List Dat) (i : Nat) : Sl := sl (fl[i]?)
theorem ring_push {fl : List Dat} {k : Nat} {d : Dat} (h : fl[k]? = some d) : upd (ringF (fl.take k)) k (sl (some d)) = ringF (fl.take (k + 1)) := by
  have hk := (List.getElem?_eq_some_iff.1 h).1
  funext i
  unfold upd ringF
  by_cases hi : i = k
  · subst hi
    rw [if_pos rfl, List.getElem?_take_of_lt (by omega), h]
  · rw [if_neg hi]
    by_cases hl : i < k
    · rw [List.getElem?_take_of_lt hl, List.getElem?_take_of_lt (by omega)]
    · rw [List.getElem?_eq_none (by rw [List.length_take]; omega), List.getElem?_eq_none (by rw [List.length_take]; omega)]
/-- Who sends: its cells. -/
def sndC (m w p u y a : Int) (f : Nat → Sl) (h k s : Int) (l : Nat) (q : Bool) (t : Int) (hh : Bool) (c : Int) (d : Bool) : List A :=
  [.d (.v (.int .i64 m)), .d (.v (.int .i64 w)), .d (.v (.int .i64 p)), .d (.v (.int .i64 u)), .d (.v (.int .i64 y)), .d (.v (.int .i64 a)), .d (f 0).x, .d (f 0).y, .d (f 0).z, .d (f 1).x, .d (f 1).y, .d (f 1).z, .d (f 2).x, .d (f 2).y, .d (f 2).z, .d (f 3).x, .d (f 3).y, .d (f 3).z, .d (.v (.int .i64 h)), .d (.v (.int .i64 k)), .d (.v (.int .i64 s)), .own 66 l, .d (.v (.bool q)), .d (.v (.int .i64 t)), .d (.v (.bool hh)), .d (.v (.int .i64 c)), .d (.v (.bool d))]
def sndB (cs : List A) (l : Nat) (qu : List Dat) : List (Nat × Bx) := [(27, .var cs), (66, .own l 47 3 (piecesA qu))]
theorem in_sndB {m w p u y a : Int} {f : Nat → Sl} {h k s : Int} {l : Nat} {q : Bool} {t : Int} {hh : Bool} {c : Int} {d : Bool} {l' : Nat} {qu : List Dat} {i : Nat} {z : Bx} (hz : (sndB (sndC m w p u y a f h k s l q t hh c d) l' qu).lookup i = some z) : i ∈ [27, 66] ∧ z.within [27, 66] = true := by
  rcases lookup2 hz with ⟨rfl, rfl⟩ | ⟨rfl, rfl⟩
  · exact ⟨by simp, by simp [Bx.within, sndC, A.withins, A.within]⟩
  · exact ⟨by simp, by simp [Bx.within, within_parts]⟩
theorem in_snd (r0 : A) (hr : r0.within [27, 66] = true) (m w p u y a : Int) (f : Nat → Sl) (h k s : Int) (l : Nat) (q : Bool) (t : Int) (hh : Bool) (c : Int) (d : Bool) (l' : Nat) (qu : List Dat) : PostIn [27, 66] (fun r bs => r = r0 ∧ bs = sndB (sndC m w p u y a f h k s l q t hh c d) l' qu) := by
  rintro r bs ⟨rfl, rfl⟩
  exact ⟨hr, fun i z hz => in_sndB hz⟩
set_option maxHeartbeats 8000000 in
set_option maxRecDepth 100000 in
theorem ipush (m w p u y a : Int) (f : Nat → Sl) (s : Int) (l : Nat) (q : Bool) (t : Int) (hh : Bool) (c : Int) (dd : Bool) (qu : List Dat) (k : Nat) (hk : k < 4) (d : Dat) : Spec Try.prog 89 [.ptr 27 6, partN d] (sndB (sndC m w p u y a f 0 (k : Int) s l q t hh c dd) l qu) (fun r bs => r = .tup [] ∧ bs = sndB (sndC m w p u y a (upd f k (sl (some d))) 0 ((k : Int) + 1) s l q t hh c dd) l qu) := by
  obtain ⟨g, n, ys⟩ := d
  rcases (show k = 0 ∨ k = 1 ∨ k = 2 ∨ k = 3 by omega) with rfl | rfl | rfl | rfl
  · skip
    refine Spec.intro (n := 26) (rv := []) Try.func89 rfl rfl rfl (by simp) fun C hN hX => ?_
    refine AW.seq ?_
    apply AW.list
    apply Wk.bx 3 rfl rfl (lt_of_ble rfl)
    refine Wk.nil ?_
    refine AW.seq ?_
    apply AW.draw (hm := hmix) (cs := _)
    · apply Wk.mv (by conv => lhs; whnf) (lt_of_ble rfl)
      apply Wk.mv (by conv => lhs; whnf) (lt_of_ble rfl)
      apply Wk.nilc rfl (lt_of_ble rfl)
      apply Wk.fad 12 0 false fd109_1 rfl (lt_of_ble rfl)
      apply Wk.ld (i := 27) 1 false ty3 rfl rfl (by conv => lhs; whnf) (lt_of_ble rfl)
      apply Wk.mv (by conv => lhs; whnf) (lt_of_ble rfl)
      apply Wk.nilc rfl (lt_of_ble rfl)
      apply Wk.fad 13 0 false fd109_2 rfl (lt_of_ble rfl)
      apply Wk.ld (i := 27) 1 false ty3 rfl rfl (by conv => lhs; whnf) (lt_of_ble rfl)
      apply Wk.addi rfl rfl (by decide) (lt_of_ble rfl)
      apply Wk.bin rfl rfl (r := .int .i64 ((0 : Nat) : Int)) (fun w => by simp [go_sem]) (lt_of_ble rfl)
      apply Wk.ld (i := 3) 3 true ty47 rfl rfl (by conv => lhs; whnf) (lt_of_ble rfl)
      apply Wk.nilc rfl (lt_of_ble rfl)
      apply Wk.fad 0 11 true fd109_0 rfl (lt_of_ble rfl)
      apply Wk.iap 3 4 true ua107 ty47 rfl rfl (show 0 < 4 by decide) (lt_of_ble rfl)
      apply Wk.sto (i := 27) 3 true ty47 rfl rfl rfl rfl (Nat.le_of_ble_eq_true rfl) (lt_of_ble rfl)
      refine Wk.nil ?_
      apply AW.list
      apply Wk.mv (by conv => lhs; whnf) (lt_of_ble rfl)
      apply Wk.nilc rfl (lt_of_ble rfl)
      apply Wk.fad 13 0 false fd109_2 rfl (lt_of_ble rfl)
      apply Wk.ld (i := 27) 1 false ty3 rfl rfl (by conv => lhs; whnf) (lt_of_ble rfl)
      apply Wk.addi rfl rfl (by decide) (lt_of_ble rfl)
      apply Wk.nilc rfl (lt_of_ble rfl)
      apply Wk.fad 13 0 false fd109_2 rfl (lt_of_ble rfl)
      apply Wk.sto (i := 27) 1 false ty3 rfl rfl rfl rfl (Nat.le_of_ble_eq_true rfl) (lt_of_ble rfl)
      refine Wk.nil ?_
      exact ⟨[], sndB _ l qu, .nil, ⟨rfl, rfl⟩, kept2 rfl rfl⟩
    · rfl
    · rfl
  · skip
    refine Spec.intro (n := 26) (rv := []) Try.func89 rfl rfl rfl (by simp) fun C hN hX => ?_
    refine AW.seq ?_
    apply AW.list
    apply Wk.bx 3 rfl rfl (lt_of_ble rfl)
    refine Wk.nil ?_
    refine AW.seq ?_
    apply AW.draw (hm := hmix) (cs := _)
    · apply Wk.mv (by conv => lhs; whnf) (lt_of_ble rfl)
      apply Wk.mv (by conv => lhs; whnf) (lt_of_ble rfl)
      apply Wk.nilc rfl (lt_of_ble rfl)
      apply Wk.fad 12 0 false fd109_1 rfl (lt_of_ble rfl)
      apply Wk.ld (i := 27) 1 false ty3 rfl rfl (by conv => lhs; whnf) (lt_of_ble rfl)
      apply Wk.mv (by conv => lhs; whnf) (lt_of_ble rfl)
      apply Wk.nilc rfl (lt_of_ble rfl)
      apply Wk.fad 13 0 false fd109_2 rfl (lt_of_ble rfl)
      apply Wk.ld (i := 27) 1 false ty3 rfl rfl (by conv => lhs; whnf) (lt_of_ble rfl)
      apply Wk.addi rfl rfl (by decide) (lt_of_ble rfl)
      apply Wk.bin rfl rfl (r := .int .i64 ((1 : Nat) : Int)) (fun w => by simp [go_sem]) (lt_of_ble rfl)
      apply Wk.ld (i := 3) 3 true ty47 rfl rfl (by conv => lhs; whnf) (lt_of_ble rfl)
      apply Wk.nilc rfl (lt_of_ble rfl)
      apply Wk.fad 0 11 true fd109_0 rfl (lt_of_ble rfl)
      apply Wk.iap 3 4 true ua107 ty47 rfl rfl (show 1 < 4 by decide) (lt_of_ble rfl)
      apply Wk.sto (i := 27) 3 true ty47 rfl rfl rfl rfl (Nat.le_of_ble_eq_true rfl) (lt_of_ble rfl)
      refine Wk.nil ?_
      apply AW.list
      apply Wk.mv (by conv => lhs; whnf) (lt_of_ble rfl)
      apply Wk.nilc rfl (lt_of_ble rfl)
      apply Wk.fad 13 0 false fd109_2 rfl (lt_of_ble rfl)
      apply Wk.ld (i := 27) 1 false ty3 rfl rfl (by conv => lhs; whnf) (lt_of_ble rfl)
      apply Wk.addi rfl rfl (by decide) (lt_of_ble rfl)
      apply Wk.nilc rfl (lt_of_ble rfl)
      apply Wk.fad 13 0 false fd109_2 rfl (lt_of_ble rfl)
      apply Wk.sto (i := 27) 1 false ty3 rfl rfl rfl rfl (Nat.le_of_ble_eq_true rfl) (lt_of_ble rfl)
      refine Wk.nil ?_
      exact ⟨[], sndB _ l qu, .nil, ⟨rfl, rfl⟩, kept2 rfl rfl⟩
    · rfl
    · rfl
  · skip
    refine Spec.intro (n := 26) (rv := []) Try.func89 rfl rfl rfl (by simp) fun C hN hX => ?_
    refine AW.seq ?_
    apply AW.list
    apply Wk.bx 3 rfl rfl (lt_of_ble rfl)
    refine Wk.nil ?_
    refine AW.seq ?_
    apply AW.draw (hm := hmix) (cs := _)
    · apply Wk.mv (by conv => lhs; whnf) (lt_of_ble rfl)
      apply Wk.mv (by conv => lhs; whnf) (lt_of_ble rfl)
      apply Wk.nilc rfl (lt_of_ble rfl)
      apply Wk.fad 12 0 false fd109_1 rfl (lt_of_ble rfl)
      apply Wk.ld (i := 27) 1 false ty3 rfl rfl (by conv => lhs; whnf) (lt_of_ble rfl)
      apply Wk.mv (by conv => lhs; whnf) (lt_of_ble rfl)
      apply Wk.nilc rfl (lt_of_ble rfl)
      apply Wk.fad 13 0 false fd109_2 rfl (lt_of_ble rfl)
      apply Wk.ld (i := 27) 1 false ty3 rfl rfl (by conv => lhs; whnf) (lt_of_ble rfl)
      apply Wk.addi rfl rfl (by decide) (lt_of_ble rfl)
      apply Wk.bin rfl rfl (r := .int .i64 ((2 : Nat) : Int)) (fun w => by simp [go_sem]) (lt_of_ble rfl)
      apply Wk.ld (i := 3) 3 true ty47 rfl rfl (by conv => lhs; whnf) (lt_of_ble rfl)
      apply Wk.nilc rfl (lt_of_ble rfl)
      apply Wk.fad 0 11 true fd109_0 rfl (lt_of_ble rfl)
      apply Wk.iap 3 4 true ua107 ty47 rfl rfl (show 2 < 4 by decide) (lt_of_ble rfl)
      apply Wk.sto (i := 27) 3 true ty47 rfl rfl rfl rfl (Nat.le_of_ble_eq_true rfl) (lt_of_ble rfl)
      refine Wk.nil ?_
      apply AW.list
      apply Wk.mv (by conv => lhs; whnf) (lt_of_ble rfl)
      apply Wk.nilc rfl (lt_of_ble rfl)
      apply Wk.fad 13 0 false fd109_2 rfl (lt_of_ble rfl)
      apply Wk.ld (i := 27) 1 false ty3 rfl rfl (by conv => lhs; whnf) (lt_of_ble rfl)
      apply Wk.addi rfl rfl (by decide) (lt_of_ble rfl)
      apply Wk.nilc rfl (lt_of_ble rfl)
      apply Wk.fad 13 0 false fd109_2 rfl (lt_of_ble rfl)
      apply Wk.sto (i := 27) 1 false ty3 rfl rfl rfl rfl (Nat.le_of_ble_eq_true rfl) (lt_of_ble rfl)
      refine Wk.nil ?_
      exact ⟨[], sndB _ l qu, .nil, ⟨rfl, rfl⟩, kept2 rfl rfl⟩
    · rfl
    · rfl
  · skip
    refine Spec.intro (n := 26) (rv := []) Try.func89 rfl rfl rfl (by simp) fun C hN hX => ?_
    refine AW.seq ?_
    apply AW.list
    apply Wk.bx 3 rfl rfl (lt_of_ble rfl)
    refine Wk.nil ?_
    refine AW.seq ?_
    apply AW.draw (hm := hmix) (cs := _)
    · apply Wk.mv (by conv => lhs; whnf) (lt_of_ble rfl)
      apply Wk.mv (by conv => lhs; whnf) (lt_of_ble rfl)
      apply Wk.nilc rfl (lt_of_ble rfl)
      apply Wk.fad 12 0 false fd109_1 rfl (lt_of_ble rfl)
      apply Wk.ld (i := 27) 1 false ty3 rfl rfl (by conv => lhs; whnf) (lt_of_ble rfl)
      apply Wk.mv (by conv => lhs; whnf) (lt_of_ble rfl)
      apply Wk.nilc rfl (lt_of_ble rfl)
      apply Wk.fad 13 0 false fd109_2 rfl (lt_of_ble rfl)
      apply Wk.ld (i := 27) 1 false ty3 rfl rfl (by conv => lhs; whnf) (lt_of_ble rfl)
      apply Wk.addi rfl rfl (by decide) (lt_of_ble rfl)
      apply Wk.bin rfl rfl (r := .int .i64 ((3 : Nat) : Int)) (fun w => by simp [go_sem]) (lt_of_ble rfl)
      apply Wk.ld (i := 3) 3 true ty47 rfl rfl (by conv => lhs; whnf) (lt_of_ble rfl)
      apply Wk.nilc rfl (lt_of_ble rfl)
      apply Wk.fad 0 11 true fd109_0 rfl (lt_of_ble rfl)
      apply Wk.iap 3 4 true ua107 ty47 rfl rfl (show 3 < 4 by decide) (lt_of_ble rfl)
      apply Wk.sto (i := 27) 3 true ty47 rfl rfl rfl rfl (Nat.le_of_ble_eq_true rfl) (lt_of_ble rfl)
      refine Wk.nil ?_
      apply AW.list
      apply Wk.mv (by conv => lhs; whnf) (lt_of_ble rfl)
      apply Wk.nilc rfl (lt_of_ble rfl)
      apply Wk.fad 13 0 false fd109_2 rfl (lt_of_ble rfl)
      apply Wk.ld (i := 27) 1 false ty3 rfl rfl (by conv => lhs; whnf) (lt_of_ble rfl)
      apply Wk.addi rfl rfl (by decide) (lt_of_ble rfl)
      apply Wk.nilc rfl (lt_of_ble rfl)
      apply Wk.fad 13 0 false fd109_2 rfl (lt_of_ble rfl)
      apply Wk.sto (i := 27) 1 false ty3 rfl rfl rfl rfl (Nat.le_of_ble_eq_true rfl) (lt_of_ble rfl)
      refine Wk.nil ?_
      exact ⟨[], sndB _ l qu, .nil, ⟨rfl, rfl⟩, kept2 rfl rfl⟩
    · rfl
    · rfl
set_option maxHeartbeats 8000000 in
set_option maxRecDepth 100000 in
theorem iat (m w p u y a : Int) (f : Nat → Sl) (s : Int) (l : Nat) (q : Bool) (t : Int) (hh : Bool) (c : Int) (dd : Bool) (qu : List Dat) (h n : Nat) (k : Int) (hh1 : h ≤ 4) (hn : n ≤ 4) (j : Nat) (hj : (h + n) % 4 = j) : Spec Try.prog 98 [.ptr 27 6, .d (.v (.int .i64 (n : Int)))] (sndB (sndC m w p u y a f (h : Int) k s l q t hh c dd) l qu) (fun r bs => r = .agg [.d (f j).x, .d (f j).y, .d (f j).z] ∧ bs = sndB (sndC m w p u y a f (h : Int) k s l q t hh c dd) l qu) := by
  rcases (show j = 0 ∨ j = 1 ∨ j = 2 ∨ j = 3 by omega) with rfl | rfl | rfl | rfl
  · skip
    refine Spec.intro (n := 17) (rv := [.cell 4 47]) Try.func98 rfl rfl rfl (by simp) fun C hN hX => ?_
    refine AW.seq ?_
    apply AW.list
    apply Wk.alc 4 [.int .i64 0, .int .i64 0, .slice none 0 0] ze47 rfl rfl (lt_of_ble rfl)
    refine Wk.nil ?_
    refine AW.seq ?_
    apply AW.draw (hm := hmix) (cs := _)
    · apply Wk.mv (by conv => lhs; whnf) (lt_of_ble rfl)
      apply Wk.mv (by conv => lhs; whnf) (lt_of_ble rfl)
      apply Wk.nilc rfl (lt_of_ble rfl)
      apply Wk.fad 12 0 false fd109_1 rfl (lt_of_ble rfl)
      apply Wk.ld (i := 27) 1 false ty3 rfl rfl (by conv => lhs; whnf) (lt_of_ble rfl)
      apply Wk.mv (by conv => lhs; whnf) (lt_of_ble rfl)
      apply Wk.addi rfl rfl (by omega) (lt_of_ble rfl)
      apply Wk.bin rfl rfl (r := .int .i64 ((0 : Nat) : Int)) (fun w => by simp [go_sem]; rw [Int.tmod_eq_emod_of_nonneg (by omega)]; omega) (lt_of_ble rfl)
      apply Wk.nilc rfl (lt_of_ble rfl)
      apply Wk.fad 0 11 true fd109_0 rfl (lt_of_ble rfl)
      apply Wk.iap 3 4 true ua107 ty47 rfl rfl (show 0 < 4 by decide) (lt_of_ble rfl)
      apply Wk.ld (i := 27) 3 true ty47 rfl rfl (by conv => lhs; whnf) (lt_of_ble rfl)
      apply Wk.sto (i := 4) 3 true ty47 rfl rfl rfl rfl (Nat.le_of_ble_eq_true rfl) (lt_of_ble rfl)
      refine Wk.nil (AW.ret ?_)
      exact RetQ.ret (sndB _ l qu) (.cons ⟨4, 0, _, _, _, rfl, rfl, ty47, rfl⟩ .nil) ⟨rfl, rfl⟩ (kept2 rfl rfl)
    · rfl
    · rfl
  · skip
    refine Spec.intro (n := 17) (rv := [.cell 4 47]) Try.func98 rfl rfl rfl (by simp) fun C hN hX => ?_
    refine AW.seq ?_
    apply AW.list
    apply Wk.alc 4 [.int .i64 0, .int .i64 0, .slice none 0 0] ze47 rfl rfl (lt_of_ble rfl)
    refine Wk.nil ?_
    refine AW.seq ?_
    apply AW.draw (hm := hmix) (cs := _)
    · apply Wk.mv (by conv => lhs; whnf) (lt_of_ble rfl)
      apply Wk.mv (by conv => lhs; whnf) (lt_of_ble rfl)
      apply Wk.nilc rfl (lt_of_ble rfl)
      apply Wk.fad 12 0 false fd109_1 rfl (lt_of_ble rfl)
      apply Wk.ld (i := 27) 1 false ty3 rfl rfl (by conv => lhs; whnf) (lt_of_ble rfl)
      apply Wk.mv (by conv => lhs; whnf) (lt_of_ble rfl)
      apply Wk.addi rfl rfl (by omega) (lt_of_ble rfl)
      apply Wk.bin rfl rfl (r := .int .i64 ((1 : Nat) : Int)) (fun w => by simp [go_sem]; rw [Int.tmod_eq_emod_of_nonneg (by omega)]; omega) (lt_of_ble rfl)
      apply Wk.nilc rfl (lt_of_ble rfl)
      apply Wk.fad 0 11 true fd109_0 rfl (lt_of_ble rfl)
      apply Wk.iap 3 4 true ua107 ty47 rfl rfl (show 1 < 4 by decide) (lt_of_ble rfl)
      apply Wk.ld (i := 27) 3 true ty47 rfl rfl (by conv => lhs; whnf) (lt_of_ble rfl)
      apply Wk.sto (i := 4) 3 true ty47 rfl rfl rfl rfl (Nat.le_of_ble_eq_true rfl) (lt_of_ble rfl)
      refine Wk.nil (AW.ret ?_)
      exact RetQ.ret (sndB _ l qu) (.cons ⟨4, 0, _, _, _, rfl, rfl, ty47, rfl⟩ .nil) ⟨rfl, rfl⟩ (kept2 rfl rfl)
    · rfl
    · rfl
  · skip
    refine Spec.intro (n := 17) (rv := [.cell 4 47]) Try.func98 rfl rfl rfl (by simp) fun C hN hX => ?_
    refine AW.seq ?_
    apply AW.list
    apply Wk.alc 4 [.int .i64 0, .int .i64 0, .slice none 0 0] ze47 rfl rfl (lt_of_ble rfl)
    refine Wk.nil ?_
    refine AW.seq ?_
    apply AW.draw (hm := hmix) (cs := _)
    · apply Wk.mv (by conv => lhs; whnf) (lt_of_ble rfl)
      apply Wk.mv (by conv => lhs; whnf) (lt_of_ble rfl)
      apply Wk.nilc rfl (lt_of_ble rfl)
      apply Wk.fad 12 0 false fd109_1 rfl (lt_of_ble rfl)
      apply Wk.ld (i := 27) 1 false ty3 rfl rfl (by conv => lhs; whnf) (lt_of_ble rfl)
      apply Wk.mv (by conv => lhs; whnf) (lt_of_ble rfl)
      apply Wk.addi rfl rfl (by omega) (lt_of_ble rfl)
      apply Wk.bin rfl rfl (r := .int .i64 ((2 : Nat) : Int)) (fun w => by simp [go_sem]; rw [Int.tmod_eq_emod_of_nonneg (by omega)]; omega) (lt_of_ble rfl)
      apply Wk.nilc rfl (lt_of_ble rfl)
      apply Wk.fad 0 11 true fd109_0 rfl (lt_of_ble rfl)
      apply Wk.iap 3 4 true ua107 ty47 rfl rfl (show 2 < 4 by decide) (lt_of_ble rfl)
      apply Wk.ld (i := 27) 3 true ty47 rfl rfl (by conv => lhs; whnf) (lt_of_ble rfl)
      apply Wk.sto (i := 4) 3 true ty47 rfl rfl rfl rfl (Nat.le_of_ble_eq_true rfl) (lt_of_ble rfl)
      refine Wk.nil (AW.ret ?_)
      exact RetQ.ret (sndB _ l qu) (.cons ⟨4, 0, _, _, _, rfl, rfl, ty47, rfl⟩ .nil) ⟨rfl, rfl⟩ (kept2 rfl rfl)
    · rfl
    · rfl
  · skip
    refine Spec.intro (n := 17) (rv := [.cell 4 47]) Try.func98 rfl rfl rfl (by simp) fun C hN hX => ?_
    refine AW.seq ?_
    apply AW.list
    apply Wk.alc 4 [.int .i64 0, .int .i64 0, .slice none 0 0] ze47 rfl rfl (lt_of_ble rfl)
    refine Wk.nil ?_
    refine AW.seq ?_
    apply AW.draw (hm := hmix) (cs := _)
    · apply Wk.mv (by conv => lhs; whnf) (lt_of_ble rfl)
      apply Wk.mv (by conv => lhs; whnf) (lt_of_ble rfl)
      apply Wk.nilc rfl (lt_of_ble rfl)
      apply Wk.fad 12 0 false fd109_1 rfl (lt_of_ble rfl)
      apply Wk.ld (i := 27) 1 false ty3 rfl rfl (by conv => lhs; whnf) (lt_of_ble rfl)
      apply Wk.mv (by conv => lhs; whnf) (lt_of_ble rfl)
      apply Wk.addi rfl rfl (by omega) (lt_of_ble rfl)
      apply Wk.bin rfl rfl (r := .int .i64 ((3 : Nat) : Int)) (fun w => by simp [go_sem]; rw [Int.tmod_eq_emod_of_nonneg (by omega)]; omega) (lt_of_ble rfl)
      apply Wk.nilc rfl (lt_of_ble rfl)
      apply Wk.fad 0 11 true fd109_0 rfl (lt_of_ble rfl)
      apply Wk.iap 3 4 true ua107 ty47 rfl rfl (show 3 < 4 by decide) (lt_of_ble rfl)
      apply Wk.ld (i := 27) 3 true ty47 rfl rfl (by conv => lhs; whnf) (lt_of_ble rfl)
      apply Wk.sto (i := 4) 3 true ty47 rfl rfl rfl rfl (Nat.le_of_ble_eq_true rfl) (lt_of_ble rfl)
      refine Wk.nil (AW.ret ?_)
      exact RetQ.ret (sndB _ l qu) (.cons ⟨4, 0, _, _, _, rfl, rfl, ty47, rfl⟩ .nil) ⟨rfl, rfl⟩ (kept2 rfl rfl)
    · rfl
    · rfl
set_option maxHeartbeats 8000000 in
set_option maxRecDepth 100000 in
/-- What is on its way, as the list that the ring answers. -/
def flV (L : List Dat) : A := if L = [] then .d (.v (.slice none 0 0)) else .own 17 (L.length - 1)
def flX (L : List Dat) : List (Nat × Bx) := if L = [] then [] else [(17, .own (L.length - 1) 47 3 (piecesA L))]
set_option maxHeartbeats 8000000 in
set_option maxRecDepth 100000 in
theorem ilist (m w p u y a : Int) (f : Nat → Sl) (s : Int) (l : Nat) (q : Bool) (t : Int) (hh : Bool) (c : Int) (dd : Bool) (qu : List Dat) (h : Nat) (L : List Dat) (hh1 : h ≤ 4) (hn : L.length ≤ 4) (hL : ∀ i d, L[i]? = some d → f ((h + i) % 4) = sl (some d)) : Spec Try.prog 91 [.ptr 27 6] (sndB (sndC m w p u y a f (h : Int) (L.length : Int) s l q t hh c dd) l qu) (fun r bs => r = flV L ∧ bs = sndB (sndC m w p u y a f (h : Int) (L.length : Int) s l q t hh c dd) l qu ++ flX L) := by
  refine Spec.intro (n := 20) (rv := [.tmp 2]) Try.func91 rfl rfl rfl (by simp) fun C hN hX => ?_
  refine AW.seq ?_
  apply AW.list
  apply Wk.asg (by conv => lhs; whnf) (lt_of_ble rfl)
  refine Wk.nil ?_
  refine AW.seq ?_
  apply AW.list
  apply Wk.asg (by conv => lhs; whnf) (lt_of_ble rfl)
  refine Wk.nil ?_
  refine AW.seq (AW.seq ?_)
  apply AW.list
  apply Wk.mv (by conv => lhs; whnf) (lt_of_ble rfl)
  apply Wk.nilc rfl (lt_of_ble rfl)
  apply Wk.fad 13 0 false fd109_2 rfl (lt_of_ble rfl)
  apply Wk.ld (i := 27) 1 false ty3 rfl rfl (by conv => lhs; whnf) (lt_of_ble rfl)
  apply Wk.mv (by conv => lhs; whnf) (lt_of_ble rfl)
  refine Wk.nil (AW.block ?_)
  let inv : Nat → St := fun k => match k with
    | 0 => St.of 20 [(0, .ptr 27 6), (3, .d (.v (.slice none 0 0))), (8, .d (.v (.int .i64 (L.length : Int)))), (9, .d (.v (.int .i64 0)))] [(27, .var (sndC m w p u y a f (h : Int) (L.length : Int) s l q t hh c dd)), (66, .own l 47 3 (piecesA qu))]
    | k + 1 => St.of 20 [(0, .ptr 27 6), (3, .own 17 k), (8, .d (.v (.int .i64 (L.length : Int)))), (9, .d (.v (.int .i64 ((k + 1 : Nat) : Int))))] [(27, .var (sndC m w p u y a f (h : Int) (L.length : Int) s l q t hh c dd)), (66, .own l 47 3 (piecesA qu)), (17, .own k 47 3 (piecesA (L.take (k + 1))))]
  refine AW.loop inv (fun k => k ≤ L.length) (fun k => L.length - k) 0 (Nat.zero_le _) ?_ ?_
  · exact fun a w => Rel.keep ⟨rfl, .cons rfl rfl (.cons rfl rfl (.cons rfl rfl (.cons rfl rfl .nil))), .cons rfl rfl (.cons rfl (by exact within_parts _) .nil), hN.mono (by simp [keys, sndB])⟩
  rintro k hk
  cases k with
  | zero =>
    show AW Try.prog C _ _ (St.of 20 [(0, .ptr 27 6), (3, .d (.v (.slice none 0 0))), (8, .d (.v (.int .i64 (L.length : Int)))), (9, .d (.v (.int .i64 0)))] [(27, .var (sndC m w p u y a f (h : Int) (L.length : Int) s l q t hh c dd)), (66, .own l 47 3 (piecesA qu))])
    refine AW.seq ?_
    by_cases hlt : 0 < L.length
    · obtain ⟨d, hd⟩ : ∃ d, L[0]? = some d := ⟨_, List.getElem?_eq_getElem hlt⟩
      have htk : L.take 1 = L.take 0 ++ [d] := by rw [List.take_add_one, hd]; rfl
      have cat := iat m w p u y a f s l q t hh c dd qu h 0 (L.length : Int) hh1 (by omega) _ rfl
      rw [hL 0 d hd] at cat
      apply AW.list
      apply Wk.bin rfl rfl (r := .bool true) (fun w => by simp [go_sem] <;> omega) (lt_of_ble rfl)
      refine Wk.nil ?_
      refine AW.seq ?_
      refine AW.cond rfl (fun _ => AW.skip ?_) (fun hc => by cases hc)
      repeat (first | refine thenA_normal ?_ | refine inBlockA_normal ?_)
      refine AW.seq (AW.block (AW.seq ?_))
      apply AW.list
      apply Wk.mv (by conv => lhs; whnf) (lt_of_ble rfl)
      apply Wk.asg (by conv => lhs; whnf) (lt_of_ble rfl)
      refine Wk.nil ?_
      repeat (first | refine thenA_normal ?_ | refine inBlockA_normal ?_)
      apply AW.list
      apply Wk.mv (by conv => lhs; whnf) (lt_of_ble rfl)
      apply Wk.mv (by conv => lhs; whnf) (lt_of_ble rfl)
      apply Wk.mv (by conv => lhs; whnf) (lt_of_ble rfl)
      apply Wk.cal [27, 66] [] cat (in_snd _ rfl _ _ _ _ _ _ _ _ _ _ _ _ _ _ _ _ _ _) ⟨_, _, rfl, rfl⟩ Try.func98 rfl rfl rfl rfl (fun i hi => by cases hi) rfl (two_in rfl (by exact within_parts _)) (lt_of_ble rfl)
      rintro r bs' ⟨rfl, rfl⟩
      apply Wk.lst 16 3 true [.int .i64 0, .int .i64 0, .slice none 0 0] un25 ty47 ze47 rfl rfl (by rfl) (by rfl) (by decide) (by decide) rfl rfl (all_len rfl) (lt_of_ble rfl)
      apply Wk.appNO 17 16 3 un25 ap47 rfl rfl rfl rfl (by decide) (all_len rfl) (by simp) (lt_of_ble rfl)
      apply Wk.asg (by conv => lhs; whnf) (lt_of_ble rfl)
      refine Wk.nil ?_
      repeat (first | refine thenA_normal ?_ | refine inBlockA_normal ?_)
      apply AW.list
      apply Wk.addi rfl rfl (by omega) (lt_of_ble rfl)
      apply Wk.mv (by conv => lhs; whnf) (lt_of_ble rfl)
      refine Wk.nil ?_
      refine ⟨1, by omega, by omega, ?_⟩
      refine fun a w => Rel.keep ⟨rfl, .cons rfl rfl (.cons rfl rfl (.cons rfl rfl (.cons rfl rfl .nil))), .cons rfl rfl (.cons rfl (by exact within_parts _) (.cons ?_ (by exact within_parts _) .nil)), hN.mono (by simp [keys, sndB])⟩
      simp only [htk, piecesA, List.map_append]
      rfl
    · have hlen : L.length = 0 := by omega
      apply AW.list
      apply Wk.bin rfl rfl (r := .bool false) (fun w => by rw [hlen]; simp [go_sem]) (lt_of_ble rfl)
      refine Wk.nil ?_
      refine AW.seq ?_
      refine AW.cond rfl (fun hc => by cases hc) (fun _ => AW.exit ?_)
      repeat (first | refine inBlockA_same ?_ | refine thenA_exit ?_)
      repeat (first | refine thenA_normal ?_ | refine inBlockA_normal ?_)
      refine AW.seq ?_
      apply AW.list
      apply Wk.mv (by conv => lhs; whnf) (lt_of_ble rfl)
      apply Wk.asg (by conv => lhs; whnf) (lt_of_ble rfl)
      refine Wk.nil ?_
      refine AW.ret ?_
      repeat (first | refine thenA_ret ?_ | refine inBlockA_ret ?_)
      obtain rfl : L = [] := List.length_eq_zero_iff.1 hlen
      exact RetQ.ret (sndB _ l qu) (.cons rfl .nil) ⟨rfl, rfl⟩ (kept2 rfl rfl)
  | succ k =>
    show AW Try.prog C _ _ (St.of 20 [(0, .ptr 27 6), (3, .own 17 k), (8, .d (.v (.int .i64 (L.length : Int)))), (9, .d (.v (.int .i64 ((k + 1 : Nat) : Int))))] [(27, .var (sndC m w p u y a f (h : Int) (L.length : Int) s l q t hh c dd)), (66, .own l 47 3 (piecesA qu)), (17, .own k 47 3 (piecesA (L.take (k + 1))))])
    refine AW.seq ?_
    by_cases hlt : (k + 1) < L.length
    · obtain ⟨d, hd⟩ : ∃ d, L[(k + 1)]? = some d := ⟨_, List.getElem?_eq_getElem hlt⟩
      have htk : L.take ((k + 1) + 1) = L.take (k + 1) ++ [d] := by rw [List.take_add_one, hd]; rfl
      have cat := iat m w p u y a f s l q t hh c dd qu h (k + 1) (L.length : Int) hh1 (by omega) _ rfl
      rw [hL (k + 1) d hd] at cat
      apply AW.list
      apply Wk.bin rfl rfl (r := .bool true) (fun w => by simp [go_sem] <;> omega) (lt_of_ble rfl)
      refine Wk.nil ?_
      refine AW.seq ?_
      refine AW.cond rfl (fun _ => AW.skip ?_) (fun hc => by cases hc)
      repeat (first | refine thenA_normal ?_ | refine inBlockA_normal ?_)
      refine AW.seq (AW.block (AW.seq ?_))
      apply AW.list
      apply Wk.mv (by conv => lhs; whnf) (lt_of_ble rfl)
      apply Wk.asg (by conv => lhs; whnf) (lt_of_ble rfl)
      refine Wk.nil ?_
      repeat (first | refine thenA_normal ?_ | refine inBlockA_normal ?_)
      apply AW.list
      apply Wk.mv (by conv => lhs; whnf) (lt_of_ble rfl)
      apply Wk.mv (by conv => lhs; whnf) (lt_of_ble rfl)
      apply Wk.mv (by conv => lhs; whnf) (lt_of_ble rfl)
      apply Wk.cal [27, 66] [] cat (in_snd _ rfl _ _ _ _ _ _ _ _ _ _ _ _ _ _ _ _ _ _) ⟨_, _, rfl, rfl⟩ Try.func98 rfl rfl rfl rfl (fun i hi => by cases hi) rfl (two_in rfl (by exact within_parts _)) (lt_of_ble rfl)
      rintro r bs' ⟨rfl, rfl⟩
      apply Wk.lst 16 3 true [.int .i64 0, .int .i64 0, .slice none 0 0] un25 ty47 ze47 rfl rfl (by rfl) (by rfl) (by decide) (by decide) rfl rfl (all_len rfl) (lt_of_ble rfl)
      apply Wk.appOO 17 16 3 un25 ap47 rfl rfl rfl rfl (by decide) (all_len rfl) (three_parts _) (by simp [piecesA]; omega) (lt_of_ble rfl)
      apply Wk.asg (by conv => lhs; whnf) (lt_of_ble rfl)
      refine Wk.nil ?_
      repeat (first | refine thenA_normal ?_ | refine inBlockA_normal ?_)
      apply AW.list
      apply Wk.addi rfl rfl (by omega) (lt_of_ble rfl)
      apply Wk.mv (by conv => lhs; whnf) (lt_of_ble rfl)
      refine Wk.nil ?_
      refine ⟨k + 1 + 1, by omega, by omega, ?_⟩
      refine fun a w => Rel.keep ⟨rfl, .cons rfl rfl (.cons rfl rfl (.cons rfl rfl (.cons rfl rfl .nil))), .cons rfl rfl (.cons rfl (by exact within_parts _) (.cons ?_ (by exact within_parts _) .nil)), hN.mono (by simp [keys, sndB])⟩
      simp only [htk, piecesA, List.map_append]
      rfl
    · have hlen : L.length = k + 1 := by omega
      apply AW.list
      apply Wk.bin rfl rfl (r := .bool false) (fun w => by rw [hlen]; simp [go_sem]) (lt_of_ble rfl)
      refine Wk.nil ?_
      refine AW.seq ?_
      refine AW.cond rfl (fun hc => by cases hc) (fun _ => AW.exit ?_)
      repeat (first | refine inBlockA_same ?_ | refine thenA_exit ?_)
      repeat (first | refine thenA_normal ?_ | refine inBlockA_normal ?_)
      refine AW.seq ?_
      apply AW.list
      apply Wk.mv (by conv => lhs; whnf) (lt_of_ble rfl)
      apply Wk.asg (by conv => lhs; whnf) (lt_of_ble rfl)
      refine Wk.nil ?_
      refine AW.ret ?_
      repeat (first | refine thenA_ret ?_ | refine inBlockA_ret ?_)
      have hne : L ≠ [] := fun e => by rw [e] at hlen; cases hlen
      have e1 : flV L = .own 17 k := by rw [flV, if_neg hne, hlen]; rfl
      have e2 : flX L = [(17, .own k 47 3 (piecesA (L.take (k + 1))))] := by rw [flX, if_neg hne, ← hlen, List.take_length, hlen]; rfl
      rw [e1, e2]
      exact RetQ.ret [(27, .var (sndC m w p u y a f (h : Int) (L.length : Int) s l q t hh c dd)), (66, .own l 47 3 (piecesA qu)), (17, .own k 47 3 (piecesA (L.take (k + 1))))] (.cons rfl .nil) ⟨rfl, rfl⟩ (kept3 rfl rfl rfl)
end Go.Proofs.Ytdojkmjamilllaa
