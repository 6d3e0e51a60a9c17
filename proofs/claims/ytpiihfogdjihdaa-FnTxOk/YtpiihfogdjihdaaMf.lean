/- Laws and contracts that the proof stands on: AbsL20Tx, AbsTxOkI. -/
import Derived.Test.YtpiihfogdjihdaaMa
import Derived.Test.YtpiihfogdjihdaaMb
import Derived.Test.YtpiihfogdjihdaaMc
import Derived.Test.YtpiihfogdjihdaaMd
import Derived.Test.YtpiihfogdjihdaaMe
/- Who sends, drawn; over what values read as. Written by tools/mk_AbsL20Tx.py. -/
namespace Go.Proofs.Ytpiihfogdjihdaa
open Go Go.RowKit
def tx0 : TX := ⟨0, 0, [], 0, [], false, 0, false, 0, false⟩
theorem tx0_good : tx0.good := by simp [TX.good, tx0]
/-- Who sends, drawn: within bounds. -/
def TX.wide (x : TX) : Prop := (-1 ≤ x.n ∧ x.n ≤ 8) ∧ (-1 ≤ x.a ∧ x.a ≤ 8) ∧ (x.fl.length ≤ 11 ∧ ∀ d ∈ x.fl, d.2.2.length ≤ 24) ∧ (-1 ≤ x.s ∧ x.s ≤ 11) ∧ (x.qu.length ≤ 25 ∧ ∀ d ∈ x.qu, d.2.2.length ≤ 24) ∧ (-1 ≤ x.t ∧ x.t ≤ 10) ∧ (-1 ≤ x.c ∧ x.c ≤ 10018)
theorem TX.good.wide {x : TX} (h : x.good) : x.wide := ⟨by have := h.1; omega, by have := h.2.1; omega, ⟨by have := h.2.2.1.1; omega, h.2.2.1.2⟩, by have := h.2.2.2.1; omega, ⟨by have := h.2.2.2.2.1.1; omega, h.2.2.2.2.1.2⟩, by have := h.2.2.2.2.2.1; omega, by have := h.2.2.2.2.2.2; omega⟩
theorem TX.wide.few {x : TX} (h : x.wide) : x.few := ⟨⟨by have := h.2.2.1.1; omega, fun d hd => by have := h.2.2.1.2 d hd; omega⟩, ⟨by have := h.2.2.2.2.1.1; omega, fun d hd => by have := h.2.2.2.2.1.2 d hd; omega⟩⟩
def txPre (rest : List A) : Prop := ∃ m w p u y n : Int, rest = [cfgA m w p u y, .d (.v (.int .i64 n))] ∧ (0 ≤ m ∧ m ≤ 3 ∧ 0 ≤ w ∧ w ≤ 5 ∧ 0 ≤ p ∧ p ≤ 9 ∧ 0 ≤ u ∧ u ≤ 25 ∧ 0 ≤ y ∧ y ≤ 6) ∧ n ≤ 1000000 ∧ -1000000 ≤ n
def txPost (_ : List A) (r : A) : Prop := ∃ x : TX, r = txA x ∧ x.wide
theorem asData_more {es : List (List A)} {ds : List Dat} (h : asData es (ds.map datD)) (d : Dat) (c : List A) (hc : nrms c = (datD d).map A.d) : asData (es ++ [c]) ((ds ++ [d]).map datD) := by
  simp only [asData, List.map_append, List.map_cons, List.map_nil] at h ⊢
  rw [h, hc]
set_option maxHeartbeats 16000000 in
set_option maxRecDepth 100000 in
theorem l20Tx_ok : DrawOk Try.prog 24 txPre txPost 70000 := by
 refine DrawOk.zero ?_ ?_ ?_ ?_
 · rintro zs p rest ⟨m, w, pp, u, y, nn, rfl, hcf, hn, hn'⟩ hp
   refine Spec.intro (n := 158) (rv := [.cell 6 25]) Try.func24 rfl rfl rfl (by simp) fun C hN hX => ?_
   let inv : List (Fin 256) × Nat × Nat × TX → St := fun z => St.of 158 [(0, .ptr 0 0), (2, .d (.v (.int .i64 nn))), (4, .ptr 4 0), (6, .ptr 6 0), (7, .ptr 70 0), (8, .d (.v (.int .i64 (z.2.2.1 : Int))))] [(0, rdr z.1 z.2.1), (4, .var (cfgC m w pp u y)), (5, .own z.2.2.2.fl.length 37 3 (piecesA z.2.2.2.fl)), (6, .var txN), (66, .own z.2.2.2.qu.length 37 3 (piecesA z.2.2.2.qu)), (70, .var (txOC z.2.2.2 5 z.2.2.2.fl.length 66 z.2.2.2.qu.length))]
   let inv2 : List (Fin 256) × Nat × TX → St := fun z => St.of 158 [(0, .ptr 0 0), (6, .ptr 6 0), (7, .ptr 70 0)] [(0, rdr z.1 z.2.1), (6, .var txN), (70, .var (txC z.2.2))]
   have fin1 : ∀ (zs : List (Fin 256)) (p k : Nat) (x : TX) (σ : St), σ.n = 158 → σ.t 0 = .ptr 0 0 → σ.t 2 = .d (.v (.int .i64 nn)) → σ.t 4 = .ptr 4 0 → σ.t 6 = .ptr 6 0 → σ.t 7 = .ptr 70 0 → σ.t 8 = .d (.v (.int .i64 (k : Int))) → σ.b 0 = rdr zs p → σ.b 4 = .var (cfgC m w pp u y) → σ.b 6 = .var txN → σ.b 70 = .var (txOC x 5 x.fl.length 66 x.qu.length) → σ.b 5 = .own x.fl.length 37 3 (piecesA x.fl) → σ.b 66 = .own x.qu.length 37 3 (piecesA x.qu) →
       ∀ a w, Rel C σ a w → Rel C (inv (zs, p, k, x)) a w := fun zs p k x σ h0 h1 h2 h3 h4 h5 h6 h7 h8 h9 h10 h11 h12 a w => Rel.keep ⟨h0.symm, .cons h1 rfl (.cons h2 rfl (.cons h3 rfl (.cons h4 rfl (.cons h5 rfl (.cons h6 rfl .nil))))), .cons h7 rfl (.cons h8 rfl (.cons h11 (within_parts _) (.cons h9 rfl (.cons h12 (within_parts _) (.cons h10 rfl .nil))))), hN.mono (by simp [keys])⟩
   have finN : ∀ (zs : List (Fin 256)) (p k : Nat) (σ : St), σ.n = 158 → σ.t 0 = .ptr 0 0 → σ.t 2 = .d (.v (.int .i64 nn)) → σ.t 4 = .ptr 4 0 → σ.t 6 = .ptr 6 0 → σ.t 7 = .ptr 70 0 → σ.t 8 = .d (.v (.int .i64 (k : Int))) → σ.b 0 = rdr zs p → σ.b 4 = .var (cfgC m w pp u y) → σ.b 6 = .var txN → σ.b 70 = .var txN →
       ∀ a w, Rel C σ a w → Rel C (inv (zs, p, k, tx0)) a w := by
     intro zs p k σ h0 h1 h2 h3 h4 h5 h6 h7 h8 h9 h10 a wd hR
     have g0 := Rel.keep (n := 158) (ts := [(0, .ptr 0 0), (2, .d (.v (.int .i64 nn))), (4, .ptr 4 0), (6, .ptr 6 0), (7, .ptr 70 0), (8, .d (.v (.int .i64 (k : Int))))]) (bs := [(0, rdr zs p), (4, .var (cfgC m w pp u y)), (6, .var txN), (70, .var txN)]) ⟨h0.symm, .cons h1 rfl (.cons h2 rfl (.cons h3 rfl (.cons h4 rfl (.cons h5 rfl (.cons h6 rfl .nil))))), .cons h7 rfl (.cons h8 rfl (.cons h9 rfl (.cons h10 rfl .nil))), hN.mono (by simp [keys])⟩ hR
     have g1 := Rel.nilc (j := 70) (c := 2) (i' := 5) 37 3 rfl rfl rfl g0
     have g2 := Rel.nilc (j := 70) (c := 4) (i' := 66) 37 3 rfl rfl rfl g1
     exact fin1 zs p k tx0 _ rfl rfl rfl rfl rfl rfl rfl rfl rfl rfl rfl rfl rfl a wd g2
   have fin2 : ∀ (zs : List (Fin 256)) (p : Nat) (x : TX) (k l : Nat) (es qs : List (List A)) (σ : St), asData es (x.fl.map datD) → asData qs (x.qu.map datD) → σ.n = 158 → σ.t 0 = .ptr 0 0 → σ.t 6 = .ptr 6 0 → σ.t 7 = .ptr 70 0 → σ.b 0 = rdr zs p → σ.b 6 = .var txN → σ.b 70 = .var (txOC x 5 k 66 l) → σ.b 5 = .own k 37 3 es → σ.b 66 = .own l 37 3 qs →
       ∀ a w, Rel C σ a w → Rel C (inv2 (zs, p, x)) a w := by
     intro zs p x k l es qs σ hes hqs h0 h1 h2 h3 h4 h5 h6 h7 h8 a w hR
     have g1 := Rel.thawc (j := 70) (c := 2) (i := 5) (k := k) _ h6 rfl h7 hes (hX.one (by decide) h4) hR
     have g2 := Rel.thawc (σ := (σ.put (B 70) (.b (.var ((txOC x 5 k 66 l).set 2 (.d (.row (x.fl.map datD))))))).put (B 5) (.b .none)) (j := 70) (c := 4) (i := 66) (k := l) _ rfl rfl h8 hqs (hX.one (by decide) h4) g1
     refine Rel.keep ?_ g2
     exact ⟨h0.symm, .cons h1 rfl (.cons h2 rfl (.cons h3 rfl .nil)), .cons h4 rfl (.cons h5 rfl (.cons rfl rfl .nil)), hN.mono (by simp [keys])⟩
   refine AW.seq ?_
   apply AW.list
   apply Wk.bx 4 rfl rfl (lt_of_ble rfl)
   apply Wk.alc 6 [.int .i64 0, .int .i64 0, .slice none 0 0, .int .i64 0, .slice none 0 0, .bool false, .int .i64 0, .bool false, .int .i64 0, .bool false] ze25 rfl rfl (lt_of_ble rfl)
   refine Wk.nil ?_
   refine AW.seq ?_
   apply AW.list
   apply Wk.bld [.int .i64 0, .int .i64 0, .slice none 0 0, .int .i64 0, .slice none 0 0, .bool false, .int .i64 0, .bool false, .int .i64 0, .bool false] [(0, 1), (1, 1), (2, 1), (3, 1), (4, 1), (5, 1), (6, 1), (7, 1), (8, 1), (9, 1)] bl25 rfl (by conv => lhs; whnf) (lt_of_ble rfl)
   apply Wk.alc 70 [.int .i64 0, .int .i64 0, .slice none 0 0, .int .i64 0, .slice none 0 0, .bool false, .int .i64 0, .bool false, .int .i64 0, .bool false] ze25 rfl rfl (lt_of_ble rfl)
   apply Wk.sto (i := 70) 10 true ty25 rfl rfl rfl rfl (Nat.le_of_ble_eq_true rfl) (lt_of_ble rfl)
   refine Wk.nil ?_
   refine AW.seq (AW.seq ?_)
   apply AW.list
   apply Wk.mv (by conv => lhs; whnf) (lt_of_ble rfl)
   apply Wk.drw 0 pick_ok Try.func38 rfl rfl rfl rfl ⟨_, rfl, by omega⟩ (by omega) rfl (lt_of_ble rfl)
   rintro r1 zs1 p1 ⟨k1, rfl, hk1⟩ hp1
   apply Wk.asg (by conv => lhs; whnf) (lt_of_ble rfl)
   have hk1' : k1 < 20 := by have := hk1 20 rfl; omega
   refine Wk.nil (AW.block ?_)
   refine AW.loop inv (fun z => z.2.2.1 ≤ k1 ∧ z.2.1 + 3100 * z.2.2.1 ≤ p + 1 + 3100 * k1 ∧ z.2.2.2.good) (fun z => z.2.2.1) (zs1, p1, k1, tx0) ⟨Nat.le_refl _, by simp only; omega, tx0_good⟩ (finN zs1 p1 k1 _ rfl rfl rfl rfl rfl rfl rfl rfl rfl rfl rfl) ?_
   rintro ⟨zs2, p2, k2, x2⟩ ⟨hk2, hp2, hx2⟩
   simp only at hk2 hp2 hx2
   show AW Try.prog C _ _ (St.of 158 [(0, .ptr 0 0), (2, .d (.v (.int .i64 nn))), (4, .ptr 4 0), (6, .ptr 6 0), (7, .ptr 70 0), (8, .d (.v (.int .i64 (k2 : Int))))] [(0, rdr zs2 p2), (4, .var (cfgC m w pp u y)), (5, .own x2.fl.length 37 3 (piecesA x2.fl)), (6, .var txN), (66, .own x2.qu.length 37 3 (piecesA x2.qu)), (70, .var (txOC x2 5 x2.fl.length 66 x2.qu.length))])
   refine AW.seq (AW.seq ?_)
   apply AW.list
   apply Wk.mv (by conv => lhs; whnf) (lt_of_ble rfl)
   apply Wk.bin rfl rfl (fun w => by simp [go_sem] <;> rfl) (lt_of_ble rfl)
   refine Wk.nil ?_
   refine AW.cond rfl (fun hc => ?_) (fun hc => ?_)
   · have hpos : 0 < k2 := by simpa using hc
     refine AW.skip ?_
     repeat (first | refine thenA_normal ?_ | refine inBlockA_normal ?_)
     refine AW.via inv (fun z => z.2.2.1 = k2 ∧ z.2.1 ≤ p2 + 3100 ∧ z.2.2.2.good) ?_ ?_
     · refine AW.block ?_
       refine AW.thawc (j := 70) (c := 2) (i := 5) _ rfl rfl rfl (asData_parts x2.fl) (hX.one (by decide) rfl) ?_
       refine AW.thawc (j := 70) (c := 4) (i := 66) _ rfl rfl rfl (asData_parts x2.qu) (hX.one (by decide) rfl) ?_
       refine AW.keep (n := 158) (ts := [(0, .ptr 0 0), (2, .d (.v (.int .i64 nn))), (4, .ptr 4 0), (6, .ptr 6 0), (7, .ptr 70 0), (8, .d (.v (.int .i64 (k2 : Int))))]) (bs := [(0, rdr zs2 p2), (4, .var (cfgC m w pp u y)), (6, .var txN), (70, .var (txC x2))]) ⟨rfl, .cons rfl rfl (.cons rfl rfl (.cons rfl rfl (.cons rfl rfl (.cons rfl rfl (.cons rfl rfl .nil))))), .cons rfl rfl (.cons rfl rfl (.cons rfl rfl (.cons rfl rfl .nil))), hN.mono (by simp [keys])⟩ ?_
       refine AW.seq ?_
       apply AW.list
       apply Wk.mv (by conv => lhs; whnf) (lt_of_ble rfl)
       apply Wk.drw 0 pick_ok Try.func38 rfl rfl rfl rfl ⟨_, rfl, by omega⟩ (by omega) rfl (lt_of_ble rfl)
       rintro r3 zs3 p3 ⟨k3, rfl, hk3⟩ hp3
       have hk3' : k3 < 6 := by have := hk3 6 rfl; omega
       refine Wk.nil (AW.block ?_)
       rcases (show k3 = 0 ∨ k3 = 1 ∨ k3 = 2 ∨ k3 = 3 ∨ k3 = 4 ∨ k3 = 5 by omega) with rfl | rfl | rfl | rfl | rfl | rfl
       · skip
         refine AW.seq (AW.seq ?_)
         apply AW.list
         apply Wk.bin rfl rfl (fun w => by simp [go_sem] <;> rfl) (lt_of_ble rfl)
         apply Wk.asg (by conv => lhs; whnf) (lt_of_ble rfl)
         refine Wk.nil ?_
         refine AW.cond rfl (fun _ => AW.skip ?_) (fun hc => by cases hc)
         repeat (first | refine thenA_normal ?_ | refine inBlockA_normal ?_)
         refine AW.cond rfl (fun _ => ?_) (fun hc => by cases hc)
         apply AW.draw (hm := hmix) (cs := _)
         · apply Wk.ld (i := 4) 5 true ty31 rfl rfl (by conv => lhs; whnf) (lt_of_ble rfl)
           apply Wk.ld (i := 70) 10 true ty25 rfl rfl (by conv => lhs; whnf) (lt_of_ble rfl)
           apply Wk.mv (by conv => lhs; whnf) (lt_of_ble rfl)
           apply Wk.fad 3 0 false fd31_3 rfl (lt_of_ble rfl)
           apply Wk.ld (i := 4) 1 false ty3 rfl rfl (by conv => lhs; whnf) (lt_of_ble rfl)
           apply Wk.drw 0 bytes_ok Try.func49 rfl rfl rfl rfl ⟨_, rfl, by omega⟩ (by omega) rfl (lt_of_ble rfl)
           rintro r4 zs4 p4 ⟨bs4, rfl, hb4⟩ hp4
           have hl4 : bs4.length ≤ 1000 := by rcases hb4 _ rfl with h | h <;> first | omega | (rw [h]; simp)
           apply Wk.fnx [5, 66] putW Try.func48 rfl rfl rfl ⟨m, w, pp, u, y, x2, bs4, rfl, hx2, hl4⟩ rfl (by simp; exact ⟨rfl, rfl⟩) (lt_of_ble rfl)
           rintro r9 ex ⟨T, b9, rfl, ⟨x9, hx9, rfl, rfl⟩ | ⟨rfl, rfl⟩⟩
           · apply Wk.mv (by conv => lhs; whnf) (lt_of_ble rfl)
             apply Wk.ext rfl rfl (lt_of_ble rfl)
             apply Wk.ext rfl rfl (lt_of_ble rfl)
             apply Wk.sto (i := 70) 10 true ty25 rfl rfl rfl rfl (Nat.le_of_ble_eq_true rfl) (lt_of_ble rfl)
             refine Wk.nil ?_
             repeat (first | refine inBlockA_normal ?_ | refine thenA_normal ?_)
             exact ⟨(zs4, p4, k2, x9), ⟨rfl, by simp only; omega, hx9⟩, fin1 zs4 p4 k2 x9 _ rfl rfl rfl rfl rfl rfl rfl rfl rfl rfl rfl rfl rfl⟩
           · apply Wk.mv (by conv => lhs; whnf) (lt_of_ble rfl)
             apply Wk.ext rfl rfl (lt_of_ble rfl)
             apply Wk.ext rfl rfl (lt_of_ble rfl)
             apply Wk.sto (i := 70) 10 true ty25 rfl rfl rfl rfl (Nat.le_of_ble_eq_true rfl) (lt_of_ble rfl)
             refine Wk.nil ?_
             repeat (first | refine inBlockA_normal ?_ | refine thenA_normal ?_)
             exact ⟨(zs4, p4, k2, tx0), ⟨rfl, by simp only; omega, tx0_good⟩, finN zs4 p4 k2 _ rfl rfl rfl rfl rfl rfl rfl rfl rfl rfl rfl⟩
         · rfl
         · rfl
       · skip
         refine AW.seq (AW.seq ?_)
         apply AW.list
         apply Wk.bin rfl rfl (fun w => by simp [go_sem] <;> rfl) (lt_of_ble rfl)
         apply Wk.asg (by conv => lhs; whnf) (lt_of_ble rfl)
         refine Wk.nil ?_
         refine AW.cond rfl (fun hc => by cases hc) (fun _ => ?_)
         apply AW.list
         apply Wk.bin rfl rfl (fun w => by simp [go_sem] <;> rfl) (lt_of_ble rfl)
         apply Wk.asg (by conv => lhs; whnf) (lt_of_ble rfl)
         refine Wk.nil (thenA_normal ?_)
         refine AW.cond rfl (fun _ => ?_) (fun hc => by cases hc)
         apply AW.draw (hm := hmix) (cs := _)
         · apply Wk.ld (i := 4) 5 true ty31 rfl rfl (by conv => lhs; whnf) (lt_of_ble rfl)
           apply Wk.ld (i := 70) 10 true ty25 rfl rfl (by conv => lhs; whnf) (lt_of_ble rfl)
           apply Wk.mv (by conv => lhs; whnf) (lt_of_ble rfl)
           apply Wk.fad 3 0 false fd31_3 rfl (lt_of_ble rfl)
           apply Wk.ld (i := 4) 1 false ty3 rfl rfl (by conv => lhs; whnf) (lt_of_ble rfl)
           apply Wk.drw 0 bytes_ok Try.func49 rfl rfl rfl rfl ⟨_, rfl, by omega⟩ (by omega) rfl (lt_of_ble rfl)
           rintro r4 zs4 p4 ⟨bs4, rfl, hb4⟩ hp4
           have hl4 : bs4.length ≤ 1000 := by rcases hb4 _ rfl with h | h <;> first | omega | (rw [h]; simp)
           apply Wk.fnx [5, 66] putW Try.func48 rfl rfl rfl ⟨m, w, pp, u, y, x2, bs4, rfl, hx2, hl4⟩ rfl (by simp; exact ⟨rfl, rfl⟩) (lt_of_ble rfl)
           rintro r9 ex ⟨T, b9, rfl, ⟨x9, hx9, rfl, rfl⟩ | ⟨rfl, rfl⟩⟩
           · apply Wk.mv (by conv => lhs; whnf) (lt_of_ble rfl)
             apply Wk.ext rfl rfl (lt_of_ble rfl)
             apply Wk.ext rfl rfl (lt_of_ble rfl)
             apply Wk.sto (i := 70) 10 true ty25 rfl rfl rfl rfl (Nat.le_of_ble_eq_true rfl) (lt_of_ble rfl)
             refine Wk.nil ?_
             repeat (first | refine inBlockA_normal ?_ | refine thenA_normal ?_)
             exact ⟨(zs4, p4, k2, x9), ⟨rfl, by simp only; omega, hx9⟩, fin1 zs4 p4 k2 x9 _ rfl rfl rfl rfl rfl rfl rfl rfl rfl rfl rfl rfl rfl⟩
           · apply Wk.mv (by conv => lhs; whnf) (lt_of_ble rfl)
             apply Wk.ext rfl rfl (lt_of_ble rfl)
             apply Wk.ext rfl rfl (lt_of_ble rfl)
             apply Wk.sto (i := 70) 10 true ty25 rfl rfl rfl rfl (Nat.le_of_ble_eq_true rfl) (lt_of_ble rfl)
             refine Wk.nil ?_
             repeat (first | refine inBlockA_normal ?_ | refine thenA_normal ?_)
             exact ⟨(zs4, p4, k2, tx0), ⟨rfl, by simp only; omega, tx0_good⟩, finN zs4 p4 k2 _ rfl rfl rfl rfl rfl rfl rfl rfl rfl rfl rfl⟩
         · rfl
         · rfl
       · skip
         refine AW.seq (AW.seq ?_)
         apply AW.list
         apply Wk.bin rfl rfl (fun w => by simp [go_sem] <;> rfl) (lt_of_ble rfl)
         apply Wk.asg (by conv => lhs; whnf) (lt_of_ble rfl)
         refine Wk.nil ?_
         refine AW.cond rfl (fun hc => by cases hc) (fun _ => ?_)
         apply AW.list
         apply Wk.bin rfl rfl (fun w => by simp [go_sem] <;> rfl) (lt_of_ble rfl)
         apply Wk.asg (by conv => lhs; whnf) (lt_of_ble rfl)
         refine Wk.nil (thenA_normal ?_)
         refine AW.cond rfl (fun hc => by cases hc) (fun _ => ?_)
         refine AW.seq (AW.seq ?_)
         apply AW.list
         apply Wk.bin rfl rfl (fun w => by simp [go_sem] <;> rfl) (lt_of_ble rfl)
         apply Wk.asg (by conv => lhs; whnf) (lt_of_ble rfl)
         refine Wk.nil ?_
         refine AW.cond rfl (fun _ => AW.skip ?_) (fun hc => by cases hc)
         repeat (first | refine thenA_normal ?_ | refine inBlockA_normal ?_)
         refine AW.cond rfl (fun _ => ?_) (fun hc => by cases hc)
         apply AW.list
         apply Wk.ld (i := 4) 5 true ty31 rfl rfl (by conv => lhs; whnf) (lt_of_ble rfl)
         apply Wk.ld (i := 70) 10 true ty25 rfl rfl (by conv => lhs; whnf) (lt_of_ble rfl)
         apply Wk.fnx [5, 66] sendW Try.func50 rfl rfl rfl ⟨m, w, pp, u, y, x2, rfl, hx2⟩ rfl (by simp; exact ⟨rfl, rfl⟩) (lt_of_ble rfl)
         rintro r9 ex ⟨T, i1, i2, i3, b1, b2, i4, i5, i6, z9, b9, rfl, ⟨x9, hx9, rfl, rfl⟩ | ⟨rfl, rfl⟩⟩
         · apply Wk.mv (by conv => lhs; whnf) (lt_of_ble rfl)
           apply Wk.ext rfl rfl (lt_of_ble rfl)
           apply Wk.ext rfl rfl (lt_of_ble rfl)
           apply Wk.ext rfl rfl (lt_of_ble rfl)
           apply Wk.sto (i := 70) 10 true ty25 rfl rfl rfl rfl (Nat.le_of_ble_eq_true rfl) (lt_of_ble rfl)
           refine Wk.nil ?_
           repeat (first | refine inBlockA_normal ?_ | refine thenA_normal ?_)
           exact ⟨(zs3, p3, k2, x9), ⟨rfl, by simp only; omega, hx9⟩, fin1 zs3 p3 k2 x9 _ rfl rfl rfl rfl rfl rfl rfl rfl rfl rfl rfl rfl rfl⟩
         · apply Wk.mv (by conv => lhs; whnf) (lt_of_ble rfl)
           apply Wk.ext rfl rfl (lt_of_ble rfl)
           apply Wk.ext rfl rfl (lt_of_ble rfl)
           apply Wk.ext rfl rfl (lt_of_ble rfl)
           apply Wk.sto (i := 70) 10 true ty25 rfl rfl rfl rfl (Nat.le_of_ble_eq_true rfl) (lt_of_ble rfl)
           refine Wk.nil ?_
           repeat (first | refine inBlockA_normal ?_ | refine thenA_normal ?_)
           exact ⟨(zs3, p3, k2, tx0), ⟨rfl, by simp only; omega, tx0_good⟩, finN zs3 p3 k2 _ rfl rfl rfl rfl rfl rfl rfl rfl rfl rfl rfl⟩
       · skip
         refine AW.seq (AW.seq ?_)
         apply AW.list
         apply Wk.bin rfl rfl (fun w => by simp [go_sem] <;> rfl) (lt_of_ble rfl)
         apply Wk.asg (by conv => lhs; whnf) (lt_of_ble rfl)
         refine Wk.nil ?_
         refine AW.cond rfl (fun hc => by cases hc) (fun _ => ?_)
         apply AW.list
         apply Wk.bin rfl rfl (fun w => by simp [go_sem] <;> rfl) (lt_of_ble rfl)
         apply Wk.asg (by conv => lhs; whnf) (lt_of_ble rfl)
         refine Wk.nil (thenA_normal ?_)
         refine AW.cond rfl (fun hc => by cases hc) (fun _ => ?_)
         refine AW.seq (AW.seq ?_)
         apply AW.list
         apply Wk.bin rfl rfl (fun w => by simp [go_sem] <;> rfl) (lt_of_ble rfl)
         apply Wk.asg (by conv => lhs; whnf) (lt_of_ble rfl)
         refine Wk.nil ?_
         refine AW.cond rfl (fun hc => by cases hc) (fun _ => ?_)
         apply AW.list
         apply Wk.bin rfl rfl (fun w => by simp [go_sem] <;> rfl) (lt_of_ble rfl)
         apply Wk.asg (by conv => lhs; whnf) (lt_of_ble rfl)
         refine Wk.nil (thenA_normal ?_)
         refine AW.cond rfl (fun _ => ?_) (fun hc => by cases hc)
         apply AW.list
         apply Wk.ld (i := 4) 5 true ty31 rfl rfl (by conv => lhs; whnf) (lt_of_ble rfl)
         apply Wk.ld (i := 70) 10 true ty25 rfl rfl (by conv => lhs; whnf) (lt_of_ble rfl)
         apply Wk.fnx [5, 66] sendW Try.func50 rfl rfl rfl ⟨m, w, pp, u, y, x2, rfl, hx2⟩ rfl (by simp; exact ⟨rfl, rfl⟩) (lt_of_ble rfl)
         rintro r9 ex ⟨T, i1, i2, i3, b1, b2, i4, i5, i6, z9, b9, rfl, ⟨x9, hx9, rfl, rfl⟩ | ⟨rfl, rfl⟩⟩
         · apply Wk.mv (by conv => lhs; whnf) (lt_of_ble rfl)
           apply Wk.ext rfl rfl (lt_of_ble rfl)
           apply Wk.ext rfl rfl (lt_of_ble rfl)
           apply Wk.ext rfl rfl (lt_of_ble rfl)
           apply Wk.sto (i := 70) 10 true ty25 rfl rfl rfl rfl (Nat.le_of_ble_eq_true rfl) (lt_of_ble rfl)
           refine Wk.nil ?_
           repeat (first | refine inBlockA_normal ?_ | refine thenA_normal ?_)
           exact ⟨(zs3, p3, k2, x9), ⟨rfl, by simp only; omega, hx9⟩, fin1 zs3 p3 k2 x9 _ rfl rfl rfl rfl rfl rfl rfl rfl rfl rfl rfl rfl rfl⟩
         · apply Wk.mv (by conv => lhs; whnf) (lt_of_ble rfl)
           apply Wk.ext rfl rfl (lt_of_ble rfl)
           apply Wk.ext rfl rfl (lt_of_ble rfl)
           apply Wk.ext rfl rfl (lt_of_ble rfl)
           apply Wk.sto (i := 70) 10 true ty25 rfl rfl rfl rfl (Nat.le_of_ble_eq_true rfl) (lt_of_ble rfl)
           refine Wk.nil ?_
           repeat (first | refine inBlockA_normal ?_ | refine thenA_normal ?_)
           exact ⟨(zs3, p3, k2, tx0), ⟨rfl, by simp only; omega, tx0_good⟩, finN zs3 p3 k2 _ rfl rfl rfl rfl rfl rfl rfl rfl rfl rfl rfl⟩
       · skip
         refine AW.seq (AW.seq ?_)
         apply AW.list
         apply Wk.bin rfl rfl (fun w => by simp [go_sem] <;> rfl) (lt_of_ble rfl)
         apply Wk.asg (by conv => lhs; whnf) (lt_of_ble rfl)
         refine Wk.nil ?_
         refine AW.cond rfl (fun hc => by cases hc) (fun _ => ?_)
         apply AW.list
         apply Wk.bin rfl rfl (fun w => by simp [go_sem] <;> rfl) (lt_of_ble rfl)
         apply Wk.asg (by conv => lhs; whnf) (lt_of_ble rfl)
         refine Wk.nil (thenA_normal ?_)
         refine AW.cond rfl (fun hc => by cases hc) (fun _ => ?_)
         refine AW.seq (AW.seq ?_)
         apply AW.list
         apply Wk.bin rfl rfl (fun w => by simp [go_sem] <;> rfl) (lt_of_ble rfl)
         apply Wk.asg (by conv => lhs; whnf) (lt_of_ble rfl)
         refine Wk.nil ?_
         refine AW.cond rfl (fun hc => by cases hc) (fun _ => ?_)
         apply AW.list
         apply Wk.bin rfl rfl (fun w => by simp [go_sem] <;> rfl) (lt_of_ble rfl)
         apply Wk.asg (by conv => lhs; whnf) (lt_of_ble rfl)
         refine Wk.nil (thenA_normal ?_)
         refine AW.cond rfl (fun hc => by cases hc) (fun _ => ?_)
         refine AW.seq ?_
         apply AW.list
         apply Wk.bin rfl rfl (fun w => by simp [go_sem] <;> rfl) (lt_of_ble rfl)
         apply Wk.asg (by conv => lhs; whnf) (lt_of_ble rfl)
         refine Wk.nil ?_
         refine AW.cond rfl (fun _ => ?_) (fun hc => by cases hc)
         have e2f : (((x2.fl.map datD).length : Nat) : Int) = (x2.fl.length : Int) := by rw [List.length_map]
         have hlf := hx2.2.2.1.1
         have ha2 := hx2.2.1
         apply AW.draw (hm := hmix) (cs := _)
         · apply Wk.ld (i := 4) 5 true ty31 rfl rfl (by conv => lhs; whnf) (lt_of_ble rfl)
           apply Wk.ld (i := 70) 10 true ty25 rfl rfl (by conv => lhs; whnf) (lt_of_ble rfl)
           apply Wk.fad 1 0 false fd25_1 rfl (lt_of_ble rfl)
           apply Wk.ld (i := 70) 1 false ty3 rfl rfl (by conv => lhs; whnf) (lt_of_ble rfl)
           apply Wk.mv (by conv => lhs; whnf) (lt_of_ble rfl)
           apply Wk.fad 2 0 false fd25_2 rfl (lt_of_ble rfl)
           apply Wk.ld (i := 70) 1 false ty23 rfl rfl (by conv => lhs; whnf) (lt_of_ble rfl)
           apply Wk.len un23 rfl (lt_of_ble rfl)
           apply Wk.addi rfl rfl (by rw [e2f]; omega) (lt_of_ble rfl)
           apply Wk.drw 0 pick_ok Try.func38 rfl rfl rfl rfl ⟨_, rfl, by rw [e2f]; omega⟩ (by omega) rfl (lt_of_ble rfl)
           rintro r4 zs4 p4 ⟨k4, rfl, hk4⟩ hp4
           have hk4 : (k4 : Int) ≤ 20 := by have h := hk4 _ rfl; rw [e2f] at h; omega
           apply Wk.addi rfl rfl (by omega) (lt_of_ble rfl)
           apply Wk.bin rfl rfl (r := .int .i64 ((x2.a + (k4 : Int)) % 8)) (fun w => by simp [go_sem]; exact Int.tmod_eq_emod_of_nonneg (by omega)) (lt_of_ble rfl)
           apply Wk.mv (by conv => lhs; whnf) (lt_of_ble rfl)
           apply Wk.drw 0 pick_ok Try.func38 rfl rfl rfl rfl ⟨_, rfl, by omega⟩ (by omega) rfl (lt_of_ble rfl)
           rintro r5 zs5 p5 ⟨k5, rfl, hk5⟩ hp5
           apply Wk.mv (by conv => lhs; whnf) (lt_of_ble rfl)
           apply Wk.drw 0 pick_ok Try.func38 rfl rfl rfl rfl ⟨_, rfl, by omega⟩ (by omega) rfl (lt_of_ble rfl)
           rintro r6 zs6 p6 ⟨k6, rfl, hk6⟩ hp6
           apply Wk.bin rfl rfl (r := .bool ((k6 : Int) == 0)) (fun w => by simp [go_sem]) (lt_of_ble rfl)
           apply Wk.bld [.int .i64 0, .int .i64 0, .int .i64 0, .bool false, .bool false, .int .i64 0, .int .i64 0, .int .i64 0, .slice none 0 0] [(0, 1), (1, 1), (2, 1), (3, 1), (4, 1), (5, 1), (6, 1), (7, 1), (8, 1)] bl41 rfl (by conv => lhs; whnf) (lt_of_ble rfl)
           have hk5' : k5 < 3 := by have := hk5 3 rfl; omega
           apply Wk.fnx [5, 66] hearW Try.func51 rfl rfl rfl ⟨m, w, pp, u, y, x2, (x2.a + (k4 : Int)) % 8, ((k6 : Int) == 0), (k5 : Int), rfl, hx2, by omega, by omega⟩ rfl (by simp; exact ⟨rfl, rfl⟩) (lt_of_ble rfl)
           rintro r9 ex (⟨x9, hx9, rfl, rfl⟩ | ⟨rfl, rfl⟩)
           · apply Wk.sto (i := 70) 10 true ty25 rfl rfl rfl rfl (Nat.le_of_ble_eq_true rfl) (lt_of_ble rfl)
             refine Wk.nil ?_
             repeat (first | refine inBlockA_normal ?_ | refine thenA_normal ?_)
             exact ⟨(zs6, p6, k2, x9), ⟨rfl, by simp only; omega, hx9⟩, fin1 zs6 p6 k2 x9 _ rfl rfl rfl rfl rfl rfl rfl rfl rfl rfl rfl rfl rfl⟩
           · apply Wk.sto (i := 70) 10 true ty25 rfl rfl rfl rfl (Nat.le_of_ble_eq_true rfl) (lt_of_ble rfl)
             refine Wk.nil ?_
             repeat (first | refine inBlockA_normal ?_ | refine thenA_normal ?_)
             exact ⟨(zs6, p6, k2, tx0), ⟨rfl, by simp only; omega, tx0_good⟩, finN zs6 p6 k2 _ rfl rfl rfl rfl rfl rfl rfl rfl rfl rfl rfl⟩
         · rfl
         · rfl
       · skip
         refine AW.seq (AW.seq ?_)
         apply AW.list
         apply Wk.bin rfl rfl (fun w => by simp [go_sem] <;> rfl) (lt_of_ble rfl)
         apply Wk.asg (by conv => lhs; whnf) (lt_of_ble rfl)
         refine Wk.nil ?_
         refine AW.cond rfl (fun hc => by cases hc) (fun _ => ?_)
         apply AW.list
         apply Wk.bin rfl rfl (fun w => by simp [go_sem] <;> rfl) (lt_of_ble rfl)
         apply Wk.asg (by conv => lhs; whnf) (lt_of_ble rfl)
         refine Wk.nil (thenA_normal ?_)
         refine AW.cond rfl (fun hc => by cases hc) (fun _ => ?_)
         refine AW.seq (AW.seq ?_)
         apply AW.list
         apply Wk.bin rfl rfl (fun w => by simp [go_sem] <;> rfl) (lt_of_ble rfl)
         apply Wk.asg (by conv => lhs; whnf) (lt_of_ble rfl)
         refine Wk.nil ?_
         refine AW.cond rfl (fun hc => by cases hc) (fun _ => ?_)
         apply AW.list
         apply Wk.bin rfl rfl (fun w => by simp [go_sem] <;> rfl) (lt_of_ble rfl)
         apply Wk.asg (by conv => lhs; whnf) (lt_of_ble rfl)
         refine Wk.nil (thenA_normal ?_)
         refine AW.cond rfl (fun hc => by cases hc) (fun _ => ?_)
         refine AW.seq ?_
         apply AW.list
         apply Wk.bin rfl rfl (fun w => by simp [go_sem] <;> rfl) (lt_of_ble rfl)
         apply Wk.asg (by conv => lhs; whnf) (lt_of_ble rfl)
         refine Wk.nil ?_
         refine AW.cond rfl (fun hc => by cases hc) (fun _ => ?_)
         apply AW.list
         apply Wk.ld (i := 4) 5 true ty31 rfl rfl (by conv => lhs; whnf) (lt_of_ble rfl)
         apply Wk.ld (i := 70) 10 true ty25 rfl rfl (by conv => lhs; whnf) (lt_of_ble rfl)
         apply Wk.fnx [5, 66] tickW Try.func17 rfl rfl rfl ⟨m, w, pp, u, y, x2, false, rfl, hx2⟩ rfl (by simp; exact ⟨rfl, rfl⟩) (lt_of_ble rfl)
         rintro r9 ex ⟨T, i1, i2, i3, b1, b2, i4, i5, i6, z9, b9, rfl, ⟨x9, hx9, rfl, rfl⟩ | ⟨rfl, rfl⟩⟩
         · apply Wk.mv (by conv => lhs; whnf) (lt_of_ble rfl)
           apply Wk.ext rfl rfl (lt_of_ble rfl)
           apply Wk.ext rfl rfl (lt_of_ble rfl)
           apply Wk.ext rfl rfl (lt_of_ble rfl)
           apply Wk.sto (i := 70) 10 true ty25 rfl rfl rfl rfl (Nat.le_of_ble_eq_true rfl) (lt_of_ble rfl)
           refine Wk.nil ?_
           repeat (first | refine inBlockA_normal ?_ | refine thenA_normal ?_)
           exact ⟨(zs3, p3, k2, x9), ⟨rfl, by simp only; omega, hx9⟩, fin1 zs3 p3 k2 x9 _ rfl rfl rfl rfl rfl rfl rfl rfl rfl rfl rfl rfl rfl⟩
         · apply Wk.mv (by conv => lhs; whnf) (lt_of_ble rfl)
           apply Wk.ext rfl rfl (lt_of_ble rfl)
           apply Wk.ext rfl rfl (lt_of_ble rfl)
           apply Wk.ext rfl rfl (lt_of_ble rfl)
           apply Wk.sto (i := 70) 10 true ty25 rfl rfl rfl rfl (Nat.le_of_ble_eq_true rfl) (lt_of_ble rfl)
           refine Wk.nil ?_
           repeat (first | refine inBlockA_normal ?_ | refine thenA_normal ?_)
           exact ⟨(zs3, p3, k2, tx0), ⟨rfl, by simp only; omega, tx0_good⟩, finN zs3 p3 k2 _ rfl rfl rfl rfl rfl rfl rfl rfl rfl rfl rfl⟩
     · rintro ⟨zs4, p4, k4, x4⟩ ⟨rfl, hp4, hx4⟩
       simp only at hp4 hx4 hk2 hp2 hpos ⊢
       show AW Try.prog C _ _ (St.of 158 [(0, .ptr 0 0), (2, .d (.v (.int .i64 nn))), (4, .ptr 4 0), (6, .ptr 6 0), (7, .ptr 70 0), (8, .d (.v (.int .i64 (k4 : Int))))] [(0, rdr zs4 p4), (4, .var (cfgC m w pp u y)), (5, .own x4.fl.length 37 3 (piecesA x4.fl)), (6, .var txN), (66, .own x4.qu.length 37 3 (piecesA x4.qu)), (70, .var (txOC x4 5 x4.fl.length 66 x4.qu.length))])
       apply AW.list
       apply Wk.mv (by conv => lhs; whnf) (lt_of_ble rfl)
       apply Wk.subn (b := 1) rfl rfl (by omega) (by omega) (lt_of_ble rfl)
       apply Wk.asg (by conv => lhs; whnf) (lt_of_ble rfl)
       refine Wk.nil ?_
       exact ⟨(zs4, p4, k4 - 1, x4), ⟨by simp only; omega, by simp only; omega, hx4⟩, by simp only; omega, fin1 zs4 p4 (k4 - 1) x4 _ rfl rfl rfl rfl rfl rfl rfl rfl rfl rfl rfl rfl rfl⟩
   · obtain rfl : k2 = 0 := by simp at hc; omega
     refine AW.exit ?_
     repeat (first | refine inBlockA_same ?_ | refine thenA_exit ?_)
     repeat (first | refine thenA_normal ?_ | refine inBlockA_normal ?_)
     refine AW.via inv2 (fun z => z.2.1 ≤ p + 69999 ∧ z.2.2.wide) ?_ ?_
     · refine AW.seq ?_
       apply AW.list
       apply Wk.mv (by conv => lhs; whnf) (lt_of_ble rfl)
       apply Wk.mv (by conv => lhs; whnf) (lt_of_ble rfl)
       apply Wk.drw 0 odd_ok Try.func52 rfl rfl rfl rfl ⟨_, rfl, by omega⟩ (by omega) rfl (lt_of_ble rfl)
       rintro r3 zs3 p3 ⟨b3, rfl, _⟩ hp3
       refine Wk.nil ?_
       refine AW.cond rfl (fun hc => ?_) (fun hc => AW.skip (thenA_normal ?_))
       · refine AW.seq ?_
         apply AW.list
         apply Wk.mv (by conv => lhs; whnf) (lt_of_ble rfl)
         apply Wk.drw 0 pick_ok Try.func38 rfl rfl rfl rfl ⟨_, rfl, by omega⟩ (by omega) rfl (lt_of_ble rfl)
         rintro r4 zs4 p4 ⟨k4, rfl, hk4⟩ hp4
         have hk4' : k4 < 8 := by have := hk4 8 rfl; omega
         refine Wk.nil (AW.block ?_)
         rcases (show k4 = 0 ∨ k4 = 1 ∨ k4 = 2 ∨ k4 = 3 ∨ k4 = 4 ∨ k4 = 5 ∨ k4 = 6 ∨ k4 = 7 by omega) with rfl | rfl | rfl | rfl | rfl | rfl | rfl | rfl
         · have hw2 := hx2.wide
           refine AW.seq ?_
           apply AW.list
           apply Wk.bin rfl rfl (fun w => by simp [go_sem] <;> rfl) (lt_of_ble rfl)
           apply Wk.asg (by conv => lhs; whnf) (lt_of_ble rfl)
           refine Wk.nil ?_
           refine AW.cond rfl (fun _ => ?_) (fun hc => by cases hc)
           have cn : DataOk Try.prog 53 [.d (.v (.int .i64 x2.n))] (.d (.v (.int .i64 ((x2.n + 1) % 8)))) := int1 (spec_next x2.n (by have := hx2.1; omega))
           apply AW.list
           apply Wk.fad 0 0 false fd25_0 rfl (lt_of_ble rfl)
           apply Wk.ld (i := 70) 1 false ty3 rfl rfl (by conv => lhs; whnf) (lt_of_ble rfl)
           apply Wk.dat cn Try.func53 rfl rfl rfl rfl rfl (lt_of_ble rfl)
           apply Wk.lst 89 1 false [.int .i64 0] un63 ty3 ze3 rfl rfl (by rfl) (by rfl) (by decide) (by decide) rfl rfl (all_len rfl) (lt_of_ble rfl)
           apply Wk.mv (by conv => lhs; whnf) (lt_of_ble rfl)
           apply Wk.drw 0 pick_ok Try.func38 rfl rfl rfl rfl ⟨_, rfl, by omega⟩ (by omega) rfl (lt_of_ble rfl)
           rintro r9 zs9 p9 ⟨k9, rfl, hk9⟩ hp9
           have hk9' : k9 < 3 := by have := hk9 3 rfl; omega
           obtain ⟨v, hv, hv1, hv2⟩ : ∃ v : Int, partA (List.flatten [[A.d (.v (.int .i64 (-1)))], [A.d (.v (.int .i64 8))], [A.d (.v (.int .i64 ((x2.n + 1) % 8)))]]) (k9 * 1) 1 false = some (.d (.v (.int .i64 v))) ∧ -1 ≤ v ∧ v ≤ 8 := by
             rcases (show k9 = 0 ∨ k9 = 1 ∨ k9 = 2 by omega) with rfl | rfl | rfl
             · exact ⟨_, rfl, by omega, by omega⟩
             · exact ⟨_, rfl, by omega, by omega⟩
             · exact ⟨_, rfl, by omega, by omega⟩
           apply Wk.iado 89 1 false un63 ty3 rfl rfl rfl hk9' (lt_of_ble rfl)
           apply Wk.ldo (i := 89) 1 false ty3 rfl rfl hv (lt_of_ble rfl)
           apply Wk.fad 0 0 false fd25_0 rfl (lt_of_ble rfl)
           apply Wk.sto (i := 70) 1 false ty3 rfl rfl rfl rfl (Nat.le_of_ble_eq_true rfl) (lt_of_ble rfl)
           refine Wk.nil ?_
           repeat (first | refine inBlockA_normal ?_ | refine thenA_normal ?_)
           exact ⟨(zs9, p9, { x2 with n := v }), ⟨by simp only; omega, ⟨⟨hv1, hv2⟩, hw2.2⟩⟩, fin2 zs9 p9 { x2 with n := v } _ _ _ _ _ (asData_parts _) (asData_parts _) rfl rfl rfl rfl rfl rfl rfl rfl rfl⟩
         · have hw2 := hx2.wide
           refine AW.seq ?_
           apply AW.list
           apply Wk.bin rfl rfl (fun w => by simp [go_sem] <;> rfl) (lt_of_ble rfl)
           apply Wk.asg (by conv => lhs; whnf) (lt_of_ble rfl)
           refine Wk.nil ?_
           refine AW.cond rfl (fun hc => by cases hc) (fun _ => ?_)
           refine AW.seq ?_
           apply AW.list
           apply Wk.bin rfl rfl (fun w => by simp [go_sem] <;> rfl) (lt_of_ble rfl)
           apply Wk.asg (by conv => lhs; whnf) (lt_of_ble rfl)
           refine Wk.nil ?_
           refine AW.cond rfl (fun _ => ?_) (fun hc => by cases hc)
           apply AW.list
           apply Wk.lst 97 1 false [.int .i64 0] un63 ty3 ze3 rfl rfl (by rfl) (by rfl) (by decide) (by decide) rfl rfl (all_len rfl) (lt_of_ble rfl)
           apply Wk.mv (by conv => lhs; whnf) (lt_of_ble rfl)
           apply Wk.drw 0 pick_ok Try.func38 rfl rfl rfl rfl ⟨_, rfl, by omega⟩ (by omega) rfl (lt_of_ble rfl)
           rintro r9 zs9 p9 ⟨k9, rfl, hk9⟩ hp9
           have hk9' : k9 < 2 := by have := hk9 2 rfl; omega
           obtain ⟨v, hv, hv1, hv2⟩ : ∃ v : Int, partA (List.flatten [[A.d (.v (.int .i64 (-1)))], [A.d (.v (.int .i64 8))]]) (k9 * 1) 1 false = some (.d (.v (.int .i64 v))) ∧ -1 ≤ v ∧ v ≤ 8 := by
             rcases (show k9 = 0 ∨ k9 = 1 by omega) with rfl | rfl
             · exact ⟨_, rfl, by omega, by omega⟩
             · exact ⟨_, rfl, by omega, by omega⟩
           apply Wk.iado 97 1 false un63 ty3 rfl rfl rfl hk9' (lt_of_ble rfl)
           apply Wk.ldo (i := 97) 1 false ty3 rfl rfl hv (lt_of_ble rfl)
           apply Wk.fad 1 0 false fd25_1 rfl (lt_of_ble rfl)
           apply Wk.sto (i := 70) 1 false ty3 rfl rfl rfl rfl (Nat.le_of_ble_eq_true rfl) (lt_of_ble rfl)
           refine Wk.nil ?_
           repeat (first | refine inBlockA_normal ?_ | refine thenA_normal ?_)
           exact ⟨(zs9, p9, { x2 with a := v }), ⟨by simp only; omega, ⟨hw2.1, ⟨hv1, hv2⟩, hw2.2.2⟩⟩, fin2 zs9 p9 { x2 with a := v } _ _ _ _ _ (asData_parts _) (asData_parts _) rfl rfl rfl rfl rfl rfl rfl rfl rfl⟩
         · have hw2 := hx2.wide
           refine AW.seq ?_
           apply AW.list
           apply Wk.bin rfl rfl (fun w => by simp [go_sem] <;> rfl) (lt_of_ble rfl)
           apply Wk.asg (by conv => lhs; whnf) (lt_of_ble rfl)
           refine Wk.nil ?_
           refine AW.cond rfl (fun hc => by cases hc) (fun _ => ?_)
           refine AW.seq ?_
           apply AW.list
           apply Wk.bin rfl rfl (fun w => by simp [go_sem] <;> rfl) (lt_of_ble rfl)
           apply Wk.asg (by conv => lhs; whnf) (lt_of_ble rfl)
           refine Wk.nil ?_
           refine AW.cond rfl (fun hc => by cases hc) (fun _ => ?_)
           refine AW.seq ?_
           apply AW.list
           apply Wk.bin rfl rfl (fun w => by simp [go_sem] <;> rfl) (lt_of_ble rfl)
           apply Wk.asg (by conv => lhs; whnf) (lt_of_ble rfl)
           refine Wk.nil ?_
           refine AW.cond rfl (fun _ => ?_) (fun hc => by cases hc)
           have e3 : (((piecesA x2.fl).length : Nat) : Int) = (x2.fl.length : Int) := by rw [piecesA, List.length_map]
           have hfl := hx2.2.2.1.1
           apply AW.draw (hm := hmix) (cs := _)
           · apply Wk.fad 2 0 false fd25_2 rfl (lt_of_ble rfl)
             apply Wk.ld (i := 70) 1 false ty23 rfl rfl (by conv => lhs; whnf) (lt_of_ble rfl)
             apply Wk.leno (i := 5) un23 rfl rfl (lt_of_ble rfl)
             apply Wk.addi rfl rfl (by omega) (lt_of_ble rfl)
             apply Wk.lst 109 1 false [.int .i64 0] un63 ty3 ze3 rfl rfl (by rfl) (by rfl) (by decide) (by decide) rfl rfl (all_len rfl) (lt_of_ble rfl)
             apply Wk.mv (by conv => lhs; whnf) (lt_of_ble rfl)
             apply Wk.drw 0 pick_ok Try.func38 rfl rfl rfl rfl ⟨_, rfl, by omega⟩ (by omega) rfl (lt_of_ble rfl)
             rintro r9 zs9 p9 ⟨k9, rfl, hk9⟩ hp9
             have hk9' : k9 < 2 := by have := hk9 2 rfl; omega
             obtain ⟨v, hv, hv1, hv2⟩ : ∃ v : Int, partA (List.flatten [[A.d (.v (.int .i64 (-1)))], [A.d (.v (.int .i64 ((((piecesA x2.fl).length : Nat) : Int) + 1)))]]) (k9 * 1) 1 false = some (.d (.v (.int .i64 v))) ∧ -1 ≤ v ∧ v ≤ 11 := by
               rcases (show k9 = 0 ∨ k9 = 1 by omega) with rfl | rfl
               · exact ⟨_, rfl, by omega, by omega⟩
               · exact ⟨_, rfl, by omega, by omega⟩
             apply Wk.iado 109 1 false un63 ty3 rfl rfl rfl hk9' (lt_of_ble rfl)
             apply Wk.ldo (i := 109) 1 false ty3 rfl rfl hv (lt_of_ble rfl)
             apply Wk.fad 3 0 false fd25_3 rfl (lt_of_ble rfl)
             apply Wk.sto (i := 70) 1 false ty3 rfl rfl rfl rfl (Nat.le_of_ble_eq_true rfl) (lt_of_ble rfl)
             refine Wk.nil ?_
             repeat (first | refine inBlockA_normal ?_ | refine thenA_normal ?_)
             exact ⟨(zs9, p9, { x2 with s := v }), ⟨by simp only; omega, ⟨hw2.1, hw2.2.1, hw2.2.2.1, ⟨hv1, hv2⟩, hw2.2.2.2.2⟩⟩, fin2 zs9 p9 { x2 with s := v } _ _ _ _ _ (asData_parts _) (asData_parts _) rfl rfl rfl rfl rfl rfl rfl rfl rfl⟩
           · rfl
           · rfl
         · have hw2 := hx2.wide
           refine AW.seq ?_
           apply AW.list
           apply Wk.bin rfl rfl (fun w => by simp [go_sem] <;> rfl) (lt_of_ble rfl)
           apply Wk.asg (by conv => lhs; whnf) (lt_of_ble rfl)
           refine Wk.nil ?_
           refine AW.cond rfl (fun hc => by cases hc) (fun _ => ?_)
           refine AW.seq ?_
           apply AW.list
           apply Wk.bin rfl rfl (fun w => by simp [go_sem] <;> rfl) (lt_of_ble rfl)
           apply Wk.asg (by conv => lhs; whnf) (lt_of_ble rfl)
           refine Wk.nil ?_
           refine AW.cond rfl (fun hc => by cases hc) (fun _ => ?_)
           refine AW.seq ?_
           apply AW.list
           apply Wk.bin rfl rfl (fun w => by simp [go_sem] <;> rfl) (lt_of_ble rfl)
           apply Wk.asg (by conv => lhs; whnf) (lt_of_ble rfl)
           refine Wk.nil ?_
           refine AW.cond rfl (fun hc => by cases hc) (fun _ => ?_)
           refine AW.seq ?_
           apply AW.list
           apply Wk.bin rfl rfl (fun w => by simp [go_sem] <;> rfl) (lt_of_ble rfl)
           apply Wk.asg (by conv => lhs; whnf) (lt_of_ble rfl)
           refine Wk.nil ?_
           refine AW.cond rfl (fun _ => ?_) (fun hc => by cases hc)
           apply AW.draw (hm := hmix) (cs := _)
           · apply Wk.fad 4 0 false fd31_4 rfl (lt_of_ble rfl)
             apply Wk.ld (i := 4) 1 false ty3 rfl rfl (by conv => lhs; whnf) (lt_of_ble rfl)
             apply Wk.addi rfl rfl (by omega) (lt_of_ble rfl)
             apply Wk.fad 4 0 false fd31_4 rfl (lt_of_ble rfl)
             apply Wk.ld (i := 4) 1 false ty3 rfl rfl (by conv => lhs; whnf) (lt_of_ble rfl)
             apply Wk.lst 122 1 false [.int .i64 0] un63 ty3 ze3 rfl rfl (by rfl) (by rfl) (by decide) (by decide) rfl rfl (all_len rfl) (lt_of_ble rfl)
             apply Wk.mv (by conv => lhs; whnf) (lt_of_ble rfl)
             apply Wk.drw 0 pick_ok Try.func38 rfl rfl rfl rfl ⟨_, rfl, by omega⟩ (by omega) rfl (lt_of_ble rfl)
             rintro r9 zs9 p9 ⟨k9, rfl, hk9⟩ hp9
             have hk9' : k9 < 3 := by have := hk9 3 rfl; omega
             obtain ⟨v, hv, hv1, hv2⟩ : ∃ v : Int, partA (List.flatten [[A.d (.v (.int .i64 (-1)))], [A.d (.v (.int .i64 (y + 1)))], [A.d (.v (.int .i64 y))]]) (k9 * 1) 1 false = some (.d (.v (.int .i64 v))) ∧ -1 ≤ v ∧ v ≤ 10 := by
               rcases (show k9 = 0 ∨ k9 = 1 ∨ k9 = 2 by omega) with rfl | rfl | rfl
               · exact ⟨_, rfl, by omega, by omega⟩
               · exact ⟨_, rfl, by omega, by omega⟩
               · exact ⟨_, rfl, by omega, by omega⟩
             apply Wk.iado 122 1 false un63 ty3 rfl rfl rfl hk9' (lt_of_ble rfl)
             apply Wk.ldo (i := 122) 1 false ty3 rfl rfl hv (lt_of_ble rfl)
             apply Wk.fad 6 0 false fd25_6 rfl (lt_of_ble rfl)
             apply Wk.sto (i := 70) 1 false ty3 rfl rfl rfl rfl (Nat.le_of_ble_eq_true rfl) (lt_of_ble rfl)
             refine Wk.nil ?_
             repeat (first | refine inBlockA_normal ?_ | refine thenA_normal ?_)
             exact ⟨(zs9, p9, { x2 with t := v }), ⟨by simp only; omega, ⟨hw2.1, hw2.2.1, hw2.2.2.1, hw2.2.2.2.1, hw2.2.2.2.2.1, ⟨hv1, hv2⟩, hw2.2.2.2.2.2.2⟩⟩, fin2 zs9 p9 { x2 with t := v } _ _ _ _ _ (asData_parts _) (asData_parts _) rfl rfl rfl rfl rfl rfl rfl rfl rfl⟩
           · rfl
           · rfl
         · have hw2 := hx2.wide
           refine AW.seq ?_
           apply AW.list
           apply Wk.bin rfl rfl (fun w => by simp [go_sem] <;> rfl) (lt_of_ble rfl)
           apply Wk.asg (by conv => lhs; whnf) (lt_of_ble rfl)
           refine Wk.nil ?_
           refine AW.cond rfl (fun hc => by cases hc) (fun _ => ?_)
           refine AW.seq ?_
           apply AW.list
           apply Wk.bin rfl rfl (fun w => by simp [go_sem] <;> rfl) (lt_of_ble rfl)
           apply Wk.asg (by conv => lhs; whnf) (lt_of_ble rfl)
           refine Wk.nil ?_
           refine AW.cond rfl (fun hc => by cases hc) (fun _ => ?_)
           refine AW.seq ?_
           apply AW.list
           apply Wk.bin rfl rfl (fun w => by simp [go_sem] <;> rfl) (lt_of_ble rfl)
           apply Wk.asg (by conv => lhs; whnf) (lt_of_ble rfl)
           refine Wk.nil ?_
           refine AW.cond rfl (fun hc => by cases hc) (fun _ => ?_)
           refine AW.seq ?_
           apply AW.list
           apply Wk.bin rfl rfl (fun w => by simp [go_sem] <;> rfl) (lt_of_ble rfl)
           apply Wk.asg (by conv => lhs; whnf) (lt_of_ble rfl)
           refine Wk.nil ?_
           refine AW.cond rfl (fun hc => by cases hc) (fun _ => ?_)
           refine AW.seq ?_
           apply AW.list
           apply Wk.bin rfl rfl (fun w => by simp [go_sem] <;> rfl) (lt_of_ble rfl)
           apply Wk.asg (by conv => lhs; whnf) (lt_of_ble rfl)
           refine Wk.nil ?_
           refine AW.cond rfl (fun _ => ?_) (fun hc => by cases hc)
           have hc2 := hx2.2.2.2.2.2.2
           apply AW.draw (hm := hmix) (cs := _)
           · apply Wk.fad 8 0 false fd25_8 rfl (lt_of_ble rfl)
             apply Wk.ld (i := 70) 1 false ty3 rfl rfl (by conv => lhs; whnf) (lt_of_ble rfl)
             apply Wk.addi rfl rfl (by omega) (lt_of_ble rfl)
             apply Wk.lst 133 1 false [.int .i64 0] un63 ty3 ze3 rfl rfl (by rfl) (by rfl) (by decide) (by decide) rfl rfl (all_len rfl) (lt_of_ble rfl)
             apply Wk.mv (by conv => lhs; whnf) (lt_of_ble rfl)
             apply Wk.drw 0 pick_ok Try.func38 rfl rfl rfl rfl ⟨_, rfl, by omega⟩ (by omega) rfl (lt_of_ble rfl)
             rintro r9 zs9 p9 ⟨k9, rfl, hk9⟩ hp9
             have hk9' : k9 < 3 := by have := hk9 3 rfl; omega
             obtain ⟨v, hv, hv1, hv2⟩ : ∃ v : Int, partA (List.flatten [[A.d (.v (.int .i64 (-1)))], [A.d (.v (.int .i64 10000))], [A.d (.v (.int .i64 (x2.c + 8)))]]) (k9 * 1) 1 false = some (.d (.v (.int .i64 v))) ∧ -1 ≤ v ∧ v ≤ 10018 := by
               rcases (show k9 = 0 ∨ k9 = 1 ∨ k9 = 2 by omega) with rfl | rfl | rfl
               · exact ⟨_, rfl, by omega, by omega⟩
               · exact ⟨_, rfl, by omega, by omega⟩
               · exact ⟨_, rfl, by omega, by omega⟩
             apply Wk.iado 133 1 false un63 ty3 rfl rfl rfl hk9' (lt_of_ble rfl)
             apply Wk.ldo (i := 133) 1 false ty3 rfl rfl hv (lt_of_ble rfl)
             apply Wk.fad 8 0 false fd25_8 rfl (lt_of_ble rfl)
             apply Wk.sto (i := 70) 1 false ty3 rfl rfl rfl rfl (Nat.le_of_ble_eq_true rfl) (lt_of_ble rfl)
             refine Wk.nil ?_
             repeat (first | refine inBlockA_normal ?_ | refine thenA_normal ?_)
             exact ⟨(zs9, p9, { x2 with c := v }), ⟨by simp only; omega, ⟨hw2.1, hw2.2.1, hw2.2.2.1, hw2.2.2.2.1, hw2.2.2.2.2.1, hw2.2.2.2.2.2.1, ⟨hv1, hv2⟩⟩⟩, fin2 zs9 p9 { x2 with c := v } _ _ _ _ _ (asData_parts _) (asData_parts _) rfl rfl rfl rfl rfl rfl rfl rfl rfl⟩
           · rfl
           · rfl
         · have hw2 := hx2.wide
           refine AW.seq ?_
           apply AW.list
           apply Wk.bin rfl rfl (fun w => by simp [go_sem] <;> rfl) (lt_of_ble rfl)
           apply Wk.asg (by conv => lhs; whnf) (lt_of_ble rfl)
           refine Wk.nil ?_
           refine AW.cond rfl (fun hc => by cases hc) (fun _ => ?_)
           refine AW.seq ?_
           apply AW.list
           apply Wk.bin rfl rfl (fun w => by simp [go_sem] <;> rfl) (lt_of_ble rfl)
           apply Wk.asg (by conv => lhs; whnf) (lt_of_ble rfl)
           refine Wk.nil ?_
           refine AW.cond rfl (fun hc => by cases hc) (fun _ => ?_)
           refine AW.seq ?_
           apply AW.list
           apply Wk.bin rfl rfl (fun w => by simp [go_sem] <;> rfl) (lt_of_ble rfl)
           apply Wk.asg (by conv => lhs; whnf) (lt_of_ble rfl)
           refine Wk.nil ?_
           refine AW.cond rfl (fun hc => by cases hc) (fun _ => ?_)
           refine AW.seq ?_
           apply AW.list
           apply Wk.bin rfl rfl (fun w => by simp [go_sem] <;> rfl) (lt_of_ble rfl)
           apply Wk.asg (by conv => lhs; whnf) (lt_of_ble rfl)
           refine Wk.nil ?_
           refine AW.cond rfl (fun hc => by cases hc) (fun _ => ?_)
           refine AW.seq ?_
           apply AW.list
           apply Wk.bin rfl rfl (fun w => by simp [go_sem] <;> rfl) (lt_of_ble rfl)
           apply Wk.asg (by conv => lhs; whnf) (lt_of_ble rfl)
           refine Wk.nil ?_
           refine AW.cond rfl (fun hc => by cases hc) (fun _ => ?_)
           refine AW.seq ?_
           apply AW.list
           apply Wk.bin rfl rfl (fun w => by simp [go_sem] <;> rfl) (lt_of_ble rfl)
           apply Wk.asg (by conv => lhs; whnf) (lt_of_ble rfl)
           refine Wk.nil ?_
           refine AW.cond rfl (fun _ => ?_) (fun hc => by cases hc)
           have hlq := hx2.2.2.2.2.1.1
           apply AW.draw (hm := hmix) (cs := _)
           · apply Wk.fad 4 0 false fd25_4 rfl (lt_of_ble rfl)
             apply Wk.ld (i := 70) 1 false ty23 rfl rfl (by conv => lhs; whnf) (lt_of_ble rfl)
             apply Wk.mv (by conv => lhs; whnf) (lt_of_ble rfl)
             apply Wk.drw 0 partOr_ok Try.func54 rfl rfl rfl rfl ⟨_, rfl, by omega⟩ (by omega) rfl (lt_of_ble rfl)
             rintro r9 zs9 p9 ⟨sg, ln, bs, rfl, hs1, hl1, hb1⟩ hp9
             apply Wk.lst 145 3 true [.int .i64 0, .int .i64 0, .slice none 0 0] un23 ty37 ze37 rfl rfl (by rfl) (by rfl) (by decide) (by decide) rfl rfl (all_len rfl) (lt_of_ble rfl)
             apply Wk.appOO 66 145 3 un23 ap37 rfl rfl rfl rfl (by decide) (all_len rfl) (three_parts _) (by simp [piecesA]; omega) (lt_of_ble rfl)
             apply Wk.fad 4 0 false fd25_4 rfl (lt_of_ble rfl)
             apply Wk.sto (i := 70) 1 false ty23 rfl rfl rfl rfl (Nat.le_of_ble_eq_true rfl) (lt_of_ble rfl)
             have ha9 : asData (piecesA x2.qu ++ [[A.d (.v (.int .i64 sg)), A.d (.v (.int .i64 ln)), A.d (fbytes bs)]]) ((x2.qu ++ [(sg, ln, bs.map (·.val))]).map datD) := asData_more (asData_parts _) _ _ rfl
             have hq9 : (x2.qu ++ [(sg, ln, bs.map (·.val))]).length ≤ 25 ∧ ∀ d ∈ x2.qu ++ [(sg, ln, bs.map (·.val))], d.2.2.length ≤ 24 := by
               refine ⟨by simp only [List.length_append, List.length_singleton]; omega, fun d hd => ?_⟩
               rcases List.mem_append.1 hd with hd | hd
               · exact hx2.2.2.2.2.1.2 d hd
               · rw [List.mem_singleton.1 hd]; simp; omega
             refine Wk.nil ?_
             repeat (first | refine inBlockA_normal ?_ | refine thenA_normal ?_)
             exact ⟨(zs9, p9, { x2 with qu := x2.qu ++ [(sg, ln, bs.map (·.val))] }), ⟨by simp only; omega, ⟨hw2.1, hw2.2.1, hw2.2.2.1, hw2.2.2.2.1, hq9, hw2.2.2.2.2.2⟩⟩, fin2 zs9 p9 { x2 with qu := x2.qu ++ [(sg, ln, bs.map (·.val))] } _ _ _ _ _ (asData_parts _) ha9 rfl rfl rfl rfl rfl rfl rfl rfl rfl⟩
           · rfl
           · rfl
         · have hw2 := hx2.wide
           refine AW.seq ?_
           apply AW.list
           apply Wk.bin rfl rfl (fun w => by simp [go_sem] <;> rfl) (lt_of_ble rfl)
           apply Wk.asg (by conv => lhs; whnf) (lt_of_ble rfl)
           refine Wk.nil ?_
           refine AW.cond rfl (fun hc => by cases hc) (fun _ => ?_)
           refine AW.seq ?_
           apply AW.list
           apply Wk.bin rfl rfl (fun w => by simp [go_sem] <;> rfl) (lt_of_ble rfl)
           apply Wk.asg (by conv => lhs; whnf) (lt_of_ble rfl)
           refine Wk.nil ?_
           refine AW.cond rfl (fun hc => by cases hc) (fun _ => ?_)
           refine AW.seq ?_
           apply AW.list
           apply Wk.bin rfl rfl (fun w => by simp [go_sem] <;> rfl) (lt_of_ble rfl)
           apply Wk.asg (by conv => lhs; whnf) (lt_of_ble rfl)
           refine Wk.nil ?_
           refine AW.cond rfl (fun hc => by cases hc) (fun _ => ?_)
           refine AW.seq ?_
           apply AW.list
           apply Wk.bin rfl rfl (fun w => by simp [go_sem] <;> rfl) (lt_of_ble rfl)
           apply Wk.asg (by conv => lhs; whnf) (lt_of_ble rfl)
           refine Wk.nil ?_
           refine AW.cond rfl (fun hc => by cases hc) (fun _ => ?_)
           refine AW.seq ?_
           apply AW.list
           apply Wk.bin rfl rfl (fun w => by simp [go_sem] <;> rfl) (lt_of_ble rfl)
           apply Wk.asg (by conv => lhs; whnf) (lt_of_ble rfl)
           refine Wk.nil ?_
           refine AW.cond rfl (fun hc => by cases hc) (fun _ => ?_)
           refine AW.seq ?_
           apply AW.list
           apply Wk.bin rfl rfl (fun w => by simp [go_sem] <;> rfl) (lt_of_ble rfl)
           apply Wk.asg (by conv => lhs; whnf) (lt_of_ble rfl)
           refine Wk.nil ?_
           refine AW.cond rfl (fun hc => by cases hc) (fun _ => ?_)
           refine AW.seq ?_
           apply AW.list
           apply Wk.bin rfl rfl (fun w => by simp [go_sem] <;> rfl) (lt_of_ble rfl)
           apply Wk.asg (by conv => lhs; whnf) (lt_of_ble rfl)
           refine Wk.nil ?_
           refine AW.cond rfl (fun _ => ?_) (fun hc => by cases hc)
           have hlq := hx2.2.2.1.1
           apply AW.draw (hm := hmix) (cs := _)
           · apply Wk.fad 2 0 false fd25_2 rfl (lt_of_ble rfl)
             apply Wk.ld (i := 70) 1 false ty23 rfl rfl (by conv => lhs; whnf) (lt_of_ble rfl)
             apply Wk.mv (by conv => lhs; whnf) (lt_of_ble rfl)
             apply Wk.drw 0 partD_ok Try.func55 rfl rfl rfl rfl rfl (by omega) rfl (lt_of_ble rfl)
             rintro r9 zs9 p9 ⟨sg, ln, bs, rfl, hs1, hl1, hb1⟩ hp9
             apply Wk.lst 154 3 true [.int .i64 0, .int .i64 0, .slice none 0 0] un23 ty37 ze37 rfl rfl (by rfl) (by rfl) (by decide) (by decide) rfl rfl (all_len rfl) (lt_of_ble rfl)
             apply Wk.appOO 5 154 3 un23 ap37 rfl rfl rfl rfl (by decide) (all_len rfl) (three_parts _) (by simp [piecesA]; omega) (lt_of_ble rfl)
             apply Wk.fad 2 0 false fd25_2 rfl (lt_of_ble rfl)
             apply Wk.sto (i := 70) 1 false ty23 rfl rfl rfl rfl (Nat.le_of_ble_eq_true rfl) (lt_of_ble rfl)
             have ha9 : asData (piecesA x2.fl ++ [[A.d (.v (.int .i64 sg)), A.d (.v (.int .i64 ln)), A.d (fbytes bs)]]) ((x2.fl ++ [(sg, ln, bs.map (·.val))]).map datD) := asData_more (asData_parts _) _ _ rfl
             have hq9 : (x2.fl ++ [(sg, ln, bs.map (·.val))]).length ≤ 11 ∧ ∀ d ∈ x2.fl ++ [(sg, ln, bs.map (·.val))], d.2.2.length ≤ 24 := by
               refine ⟨by simp only [List.length_append, List.length_singleton]; omega, fun d hd => ?_⟩
               rcases List.mem_append.1 hd with hd | hd
               · exact hx2.2.2.1.2 d hd
               · rw [List.mem_singleton.1 hd]; simp; omega
             refine Wk.nil ?_
             repeat (first | refine inBlockA_normal ?_ | refine thenA_normal ?_)
             exact ⟨(zs9, p9, { x2 with fl := x2.fl ++ [(sg, ln, bs.map (·.val))] }), ⟨by simp only; omega, ⟨hw2.1, hw2.2.1, hq9, hw2.2.2.2⟩⟩, fin2 zs9 p9 { x2 with fl := x2.fl ++ [(sg, ln, bs.map (·.val))] } _ _ _ _ _ ha9 (asData_parts _) rfl rfl rfl rfl rfl rfl rfl rfl rfl⟩
           · rfl
           · rfl
         · have hw2 := hx2.wide
           refine AW.seq ?_
           apply AW.list
           apply Wk.bin rfl rfl (fun w => by simp [go_sem] <;> rfl) (lt_of_ble rfl)
           apply Wk.asg (by conv => lhs; whnf) (lt_of_ble rfl)
           refine Wk.nil ?_
           refine AW.cond rfl (fun hc => by cases hc) (fun _ => ?_)
           refine AW.seq ?_
           apply AW.list
           apply Wk.bin rfl rfl (fun w => by simp [go_sem] <;> rfl) (lt_of_ble rfl)
           apply Wk.asg (by conv => lhs; whnf) (lt_of_ble rfl)
           refine Wk.nil ?_
           refine AW.cond rfl (fun hc => by cases hc) (fun _ => ?_)
           refine AW.seq ?_
           apply AW.list
           apply Wk.bin rfl rfl (fun w => by simp [go_sem] <;> rfl) (lt_of_ble rfl)
           apply Wk.asg (by conv => lhs; whnf) (lt_of_ble rfl)
           refine Wk.nil ?_
           refine AW.cond rfl (fun hc => by cases hc) (fun _ => ?_)
           refine AW.seq ?_
           apply AW.list
           apply Wk.bin rfl rfl (fun w => by simp [go_sem] <;> rfl) (lt_of_ble rfl)
           apply Wk.asg (by conv => lhs; whnf) (lt_of_ble rfl)
           refine Wk.nil ?_
           refine AW.cond rfl (fun hc => by cases hc) (fun _ => ?_)
           refine AW.seq ?_
           apply AW.list
           apply Wk.bin rfl rfl (fun w => by simp [go_sem] <;> rfl) (lt_of_ble rfl)
           apply Wk.asg (by conv => lhs; whnf) (lt_of_ble rfl)
           refine Wk.nil ?_
           refine AW.cond rfl (fun hc => by cases hc) (fun _ => ?_)
           refine AW.seq ?_
           apply AW.list
           apply Wk.bin rfl rfl (fun w => by simp [go_sem] <;> rfl) (lt_of_ble rfl)
           apply Wk.asg (by conv => lhs; whnf) (lt_of_ble rfl)
           refine Wk.nil ?_
           refine AW.cond rfl (fun hc => by cases hc) (fun _ => ?_)
           refine AW.seq ?_
           apply AW.list
           apply Wk.bin rfl rfl (fun w => by simp [go_sem] <;> rfl) (lt_of_ble rfl)
           apply Wk.asg (by conv => lhs; whnf) (lt_of_ble rfl)
           refine Wk.nil ?_
           refine AW.cond rfl (fun hc => by cases hc) (fun _ => ?_)
           have hlq := hx2.2.2.2.2.1.1
           refine AW.block ?_
           let inv3 : Nat → St := fun j => St.of 158 [(0, .ptr 0 0), (6, .ptr 6 0), (7, .ptr 70 0)] [(0, rdr zs4 p4), (5, .own x2.fl.length 37 3 (piecesA x2.fl)), (6, .var txN), (66, .own (x2.qu.length + j) 37 3 (piecesA x2.qu ++ List.replicate j [A.d (.v (.int .i64 0)), A.d (.v (.int .i64 0)), A.d (.v (.slice none 0 0))])), (70, .var (txOC x2 5 x2.fl.length 66 (x2.qu.length + j)))]
           have hin3 : ∀ j, (piecesA x2.qu ++ List.replicate j [A.d (.v (.int .i64 0)), A.d (.v (.int .i64 0)), A.d (.v (.slice none 0 0))]).all (A.withins (keys [(0, rdr zs4 p4), (5, .own x2.fl.length 37 3 (piecesA x2.fl)), (6, .var txN), (66, .own (x2.qu.length + j) 37 3 (piecesA x2.qu ++ List.replicate j [A.d (.v (.int .i64 0)), A.d (.v (.int .i64 0)), A.d (.v (.slice none 0 0))])), (70, .var (txOC x2 5 x2.fl.length 66 (x2.qu.length + j)))])) = true := by
             intro j
             rw [List.all_append, within_parts, Bool.true_and, List.all_eq_true]
             intro c hc
             rw [(List.mem_replicate.1 hc).2]; rfl
           refine AW.loop inv3 (fun j => x2.qu.length + j ≤ 25) (fun j => 25 - (x2.qu.length + j)) 0 (by omega) ?_ ?_
           · exact fun a w => Rel.keep ⟨rfl, .cons rfl rfl (.cons rfl rfl (.cons rfl rfl .nil)), .cons rfl rfl (.cons rfl (by exact within_parts _) (.cons rfl rfl (.cons (by rw [List.replicate_zero, List.append_nil]; rfl) (by exact hin3 0) (.cons rfl rfl .nil)))), hN.mono (by simp [keys])⟩
           rintro j hj
           show AW Try.prog C _ _ (St.of 158 [(0, .ptr 0 0), (6, .ptr 6 0), (7, .ptr 70 0)] [(0, rdr zs4 p4), (5, .own x2.fl.length 37 3 (piecesA x2.fl)), (6, .var txN), (66, .own (x2.qu.length + j) 37 3 (piecesA x2.qu ++ List.replicate j [A.d (.v (.int .i64 0)), A.d (.v (.int .i64 0)), A.d (.v (.slice none 0 0))])), (70, .var (txOC x2 5 x2.fl.length 66 (x2.qu.length + j)))])
           have hlj : (piecesA x2.qu ++ List.replicate j [A.d (.v (.int .i64 0)), A.d (.v (.int .i64 0)), A.d (.v (.slice none 0 0))]).length = x2.qu.length + j := by simp [piecesA]
           have hez : ∀ c ∈ piecesA x2.qu ++ List.replicate j [A.d (.v (.int .i64 0)), A.d (.v (.int .i64 0)), A.d (.v (.slice none 0 0))], c.length = 3 := by
             intro c hc
             rcases List.mem_append.1 hc with hc | hc
             · exact three_parts _ c hc
             · rw [(List.mem_replicate.1 hc).2]; rfl
           by_cases hgo : x2.qu.length + j ≤ 24
           · refine AW.seq (AW.seq ?_)
             apply AW.list
             apply Wk.fad 4 0 false fd25_4 rfl (lt_of_ble rfl)
             apply Wk.ld (i := 70) 1 false ty23 rfl rfl (by conv => lhs; whnf) (lt_of_ble rfl)
             apply Wk.leno (i := 66) un23 rfl rfl (lt_of_ble rfl)
             apply Wk.bin rfl rfl (r := .bool true) (fun w => by rw [hlj]; simp [go_sem] <;> omega) (lt_of_ble rfl)
             refine Wk.nil ?_
             refine AW.cond rfl (fun _ => AW.skip ?_) (fun hc => by cases hc)
             repeat (first | refine thenA_normal ?_ | refine inBlockA_normal ?_)
             refine AW.block ?_
             apply AW.list
             apply Wk.fad 4 0 false fd25_4 rfl (lt_of_ble rfl)
             apply Wk.ld (i := 70) 1 false ty23 rfl rfl (by conv => lhs; whnf) (lt_of_ble rfl)
             apply Wk.bld [.int .i64 0, .int .i64 0, .slice none 0 0] [(0, 1), (1, 1), (2, 1)] bl37 rfl (by conv => lhs; whnf) (lt_of_ble rfl)
             apply Wk.lst 81 3 true [.int .i64 0, .int .i64 0, .slice none 0 0] un23 ty37 ze37 rfl rfl (by rfl) (by rfl) (by decide) (by decide) rfl rfl (all_len rfl) (lt_of_ble rfl)
             apply Wk.appOO 66 81 3 un23 ap37 rfl rfl rfl rfl (by decide) (all_len rfl) hez (by simp [piecesA]; omega) (lt_of_ble rfl)
             apply Wk.fad 4 0 false fd25_4 rfl (lt_of_ble rfl)
             apply Wk.sto (i := 70) 1 false ty23 rfl rfl rfl rfl (Nat.le_of_ble_eq_true rfl) (lt_of_ble rfl)
             refine Wk.nil ?_
             repeat (first | refine inBlockA_normal ?_ | refine thenA_normal ?_)
             refine ⟨j + 1, by omega, by omega, ?_⟩
             exact fun a w => Rel.keep ⟨rfl, .cons rfl rfl (.cons rfl rfl (.cons rfl rfl .nil)), .cons rfl rfl (.cons rfl (by exact within_parts _) (.cons rfl rfl (.cons (by simp only [List.replicate_succ', ← List.append_assoc]; rfl) (by exact hin3 (j + 1)) (.cons rfl rfl .nil)))), hN.mono (by simp [keys])⟩
           · refine AW.seq (AW.seq ?_)
             apply AW.list
             apply Wk.fad 4 0 false fd25_4 rfl (lt_of_ble rfl)
             apply Wk.ld (i := 70) 1 false ty23 rfl rfl (by conv => lhs; whnf) (lt_of_ble rfl)
             apply Wk.leno (i := 66) un23 rfl rfl (lt_of_ble rfl)
             apply Wk.bin rfl rfl (r := .bool false) (fun w => by rw [hlj]; simp [go_sem] <;> omega) (lt_of_ble rfl)
             refine Wk.nil ?_
             refine AW.cond rfl (fun hc => by cases hc) (fun _ => ?_)
             refine AW.exit ?_
             repeat (first | refine inBlockA_same ?_ | refine thenA_exit ?_ | refine inBlockA_other (by decide) ?_)
             repeat (first | refine thenA_normal ?_ | refine inBlockA_normal ?_)
             have ha9 : asData (piecesA x2.qu ++ List.replicate j [A.d (.v (.int .i64 0)), A.d (.v (.int .i64 0)), A.d (.v (.slice none 0 0))]) ((x2.qu ++ List.replicate j (0, 0, [])).map datD) := by
               have := asData_parts x2.qu
               simp only [asData, List.map_append, List.map_replicate] at this ⊢
               rw [this]
               rfl
             refine ⟨(zs4, p4, { x2 with qu := x2.qu ++ List.replicate j (0, 0, []) }), ⟨by simp only; omega, ⟨hw2.1, hw2.2.1, hw2.2.2.1, hw2.2.2.2.1, ⟨by simp; omega, fun d hd => ?_⟩, hw2.2.2.2.2.2⟩⟩, fin2 zs4 p4 _ _ _ _ _ _ (asData_parts _) ha9 rfl rfl rfl rfl rfl rfl rfl rfl rfl⟩
             rcases List.mem_append.1 hd with hd | hd
             · exact hw2.2.2.2.2.1.2 d hd
             · rw [(List.mem_replicate.1 hd).2]; simp
       · exact ⟨(zs3, p3, x2), ⟨by simp only; omega, hx2.wide⟩, fin2 zs3 p3 x2 _ _ _ _ _ (asData_parts _) (asData_parts _) rfl rfl rfl rfl rfl rfl rfl rfl rfl⟩
     · rintro ⟨zs9, p9, x9⟩ ⟨hp9, hx9⟩
       simp only at hp9 hx9
       show AW Try.prog C _ _ (St.of 158 [(0, .ptr 0 0), (6, .ptr 6 0), (7, .ptr 70 0)] [(0, rdr zs9 p9), (6, .var txN), (70, .var (txC x9))])
       refine AW.seq ?_
       apply AW.list
       apply Wk.ld (i := 70) 10 true ty25 rfl rfl (by conv => lhs; whnf) (lt_of_ble rfl)
       apply Wk.sto (i := 6) 10 true ty25 rfl rfl rfl rfl (Nat.le_of_ble_eq_true rfl) (lt_of_ble rfl)
       refine Wk.nil (AW.ret ?_)
       exact RetQ.ret [(0, rdr zs9 p9)] (.cons ⟨6, 0, _, _, _, rfl, rfl, ty25, rfl⟩ .nil) ⟨⟨x9, rfl, hx9⟩, _, _, rfl, by omega⟩ (kept1 rfl)
 · rintro rest ⟨m, w, pp, u, y, nn, rfl, _⟩; rfl
 · rintro rest _; exact ⟨_, tx0, rfl, tx0_good.wide⟩
 · rintro rest r ⟨x, rfl, _⟩; rfl
end Go.Proofs.Ytpiihfogdjihdaa

/- TxOk of the program, over what values read as. Written by tools/mk_AbsTxOkI.py. -/
namespace Go.Proofs.Ytpiihfogdjihdaa
open Go Go.RowKit
/-- The number of what is so many on, as the program answers it. -/
def numI (n : Int) : Int := if n < 0 then -1 else n % 8
theorem inum_ok (n : Int) : DataOk Try.prog 28 [.d (.v (.int .i64 n))] (.d (.v (.int .i64 (numI n)))) := by
  by_cases h : n < 0
  · rw [numI, if_pos h]; exact int1 (impl_numof_no n h)
  · rw [numI, if_neg h]; exact int1 (impl_numof n (by omega))
theorem inoneb {n hi : Int} {b : Bool} (h : inB n 0 hi = b) : DataOk Try.prog 29 [.d (.v (.int .i64 n)), .d (.v (.int .i64 hi))] (.d (.v (.bool b))) := by
  subst h
  refine DataOk.lift fun w F E H args _ hs hd => ?_
  obtain ⟨v, u, rfl, hv, hu⟩ := args2 hs hd
  obtain rfl := den_v hv
  obtain rfl := den_v hu
  go_enter Try.func29, Try.ntmps29
  go_wp2
  all_goals
    go_ret
    refine ⟨ret_bool ?_, Below.refl _ _⟩
    go_light
    grind [inB]
theorem icfgb {m n s t y : Int} {b : Bool} (h : Opt.ok ⟨m, n, s, t, y⟩ = b) : DataOk Try.prog 26 [cfgA m n s t y] (.d (.v (.bool b))) := by
  subst h
  refine DataOk.lift fun w F E H args _ hs hd => ?_
  obtain ⟨v, rfl, hv⟩ := arg1 hs hd
  obtain rfl := cfg_args hv
  exact impl_cfg_v _ _ _ _ _ w
theorem ifarb (a b : Int) : DataOk Try.prog 27 [.d (.v (.int .i64 a)), .d (.v (.int .i64 b))] (.d (.v (.int .i64 (farF a b)))) := int2 (impl_far_any a b)
theorem ipartsb (ds : List Dat) (m : Int) {b : Bool} (h : ds.all (partM m) = b) : DataOk Try.prog 30 [.d (partsD ds), .d (.v (.int .i64 m))] (.d (.v (.bool b))) := h ▸ iparts_ok ds m
theorem txOk_parts (o : Opt) (x : TX) : txOkB o x = (o.ok && ((decide (farF x.a x.n = (x.fl.length : Int)) && decide (numI x.c = x.a)) && ((inB (x.fl.length : Int) 0 o.win && (inB x.s 0 (x.fl.length : Int) && (inB (x.qu.length : Int) 0 24 && (inB x.t 0 o.tri && inB x.c 0 9999)))) && (x.fl.all (partM o.mps) && x.qu.all (partM o.mps))))) := by
  apply bool_of_iff
  simp only [txOkB, Bool.and_eq_true, decide_eq_true_eq, inB_iff]
  rcases far_cases x.a x.n with ⟨h1, h2, h3⟩ | ⟨_, h2, h3⟩
  · constructor
    · rintro ⟨k1, k2, k3, k4, k5, k6, k7, k8, k9, k10, k11, k12⟩
      exact ⟨k1, ⟨k5, by rw [numI, if_neg (by omega)]; omega⟩, ⟨⟨by omega, k4⟩, k6, ⟨by omega, by omega⟩, k8, k9⟩, k11, k12⟩
    · rintro ⟨k1, ⟨k2, k3⟩, ⟨k4, k5, k6, k7, k8⟩, k9, k10⟩
      rw [numI, if_neg (by omega)] at k3
      exact ⟨k1, by omega, by omega, k4.2, k2, k5, by omega, k7, k8, by omega, k9, k10⟩
  · constructor
    · rintro ⟨k1, k2, k3, k4, k5, _⟩; omega
    · rintro ⟨k1, ⟨k2, k3⟩, _⟩; omega
set_option maxHeartbeats 16000000 in
set_option maxRecDepth 100000 in
theorem itx_ok (m0 w0 p0 u0 y0 : Int) (x : TX) : DataOk Try.prog 12 [cfgA m0 w0 p0 u0 y0, txA x] (.d (.v (.bool (txOkB ⟨m0, w0, p0, u0, y0⟩ x)))) := by
  rw [txOk_parts]
  obtain ⟨n, a, fl, s, qu, q, t, h, c, d⟩ := x
  have e1 : (((fl.map datD).length : Nat) : Int) = (fl.length : Int) := by rw [List.length_map]
  have e2 : (((qu.map datD).length : Nat) : Int) = (qu.length : Int) := by rw [List.length_map]
  simp only
  rw [← e1, ← e2]
  obtain ⟨nb, hnb⟩ : ∃ nb, nb = (decide (farF a n = (((fl.map datD).length : Nat) : Int)) && decide (numI c = a)) := ⟨_, rfl⟩
  obtain ⟨cb, hcb⟩ : ∃ cb, cb = (inB (((fl.map datD).length : Nat) : Int) 0 w0 && (inB s 0 (((fl.map datD).length : Nat) : Int) && (inB (((qu.map datD).length : Nat) : Int) 0 24 && (inB t 0 y0 && inB c 0 9999)))) := ⟨_, rfl⟩
  rw [← hnb, ← hcb]
  refine Spec.intro (n := 76) (rv := [.tmp 4]) Try.func12 rfl rfl rfl (by simp) fun C hN hX => ?_
  have hL : ∃ L : Nat, L = (fl.map datD).length := ⟨_, rfl⟩
  refine AW.seq ?_
  apply AW.list
  apply Wk.bx 2 rfl rfl (lt_of_ble rfl)
  apply Wk.bx 3 rfl rfl (lt_of_ble rfl)
  apply Wk.asg (by conv => lhs; whnf) (lt_of_ble rfl)
  refine Wk.nil ?_
  refine AW.seq ?_
  apply AW.list
  apply Wk.fad 2 0 false fd25_2 rfl (lt_of_ble rfl)
  apply Wk.ld (i := 3) 1 false ty23 rfl rfl (by conv => lhs; whnf) (lt_of_ble rfl)
  apply Wk.len un23 rfl (lt_of_ble rfl)
  apply Wk.asg (by conv => lhs; whnf) (lt_of_ble rfl)
  refine Wk.nil ?_
  refine AW.via (fun b : Bool => St.of 76 [(2, .ptr 2 0), (3, .ptr 3 0), (5, .d (.v (.int .i64 (((fl.map datD).length : Nat) : Int)))), (6, .d (.v (.bool b)))] [(2, .var [.d (.v (.int .i64 m0)), .d (.v (.int .i64 w0)), .d (.v (.int .i64 p0)), .d (.v (.int .i64 u0)), .d (.v (.int .i64 y0))]), (3, .var [.d (.v (.int .i64 n)), .d (.v (.int .i64 a)), .d (partsD fl), .d (.v (.int .i64 s)), .d (partsD qu), .d (.v (.bool q)), .d (.v (.int .i64 t)), .d (.v (.bool h)), .d (.v (.int .i64 c)), .d (.v (.bool d))])]) (fun b => b = nb) ?_ ?_
  · by_cases c1 : farF a n = (((fl.map datD).length : Nat) : Int)
    · by_cases c2 : numI c = a
      · skip
        apply AW.draw (hm := hmix) (cs := _)
        · apply Wk.fad 1 0 false fd25_1 rfl (lt_of_ble rfl)
          apply Wk.ld (i := 3) 1 false ty3 rfl rfl (by conv => lhs; whnf) (lt_of_ble rfl)
          apply Wk.fad 0 0 false fd25_0 rfl (lt_of_ble rfl)
          apply Wk.ld (i := 3) 1 false ty3 rfl rfl (by conv => lhs; whnf) (lt_of_ble rfl)
          apply Wk.dat (ifarb a n) Try.func27 rfl rfl rfl rfl rfl (lt_of_ble rfl)
          apply Wk.mv (by conv => lhs; whnf) (lt_of_ble rfl)
          apply Wk.bin rfl rfl (r := .bool true) (fun w => by simp [go_sem, -List.length_map, c1]) (lt_of_ble rfl)
          apply Wk.mv (by conv => lhs; whnf) (lt_of_ble rfl)
          apply Wk.gon 18 rfl rfl
          apply Wk.fad 8 0 false fd25_8 rfl (lt_of_ble rfl)
          apply Wk.gon 18 rfl rfl
          apply Wk.ld (i := 3) 1 false ty3 rfl rfl (by conv => lhs; whnf) (lt_of_ble rfl)
          apply Wk.gon 18 rfl rfl
          apply Wk.dat (inum_ok c) Try.func28 rfl rfl rfl rfl rfl (lt_of_ble rfl)
          apply Wk.gon 18 rfl rfl
          apply Wk.fad 1 0 false fd25_1 rfl (lt_of_ble rfl)
          apply Wk.gon 18 rfl rfl
          apply Wk.ld (i := 3) 1 false ty3 rfl rfl (by conv => lhs; whnf) (lt_of_ble rfl)
          apply Wk.gon 18 rfl rfl
          apply Wk.bin rfl rfl (r := .bool true) (fun w => by simp [go_sem, c2]) (lt_of_ble rfl)
          apply Wk.pckT rfl (by conv => lhs; whnf) (lt_of_ble rfl)
          apply Wk.asg (by conv => lhs; whnf) (lt_of_ble rfl)
          refine Wk.nil (thenA_normal ?_)
          exact ⟨true, by rw [hnb, decide_eq_true c1, decide_eq_true c2]; rfl, fun a w => Rel.keep ⟨rfl, (.cons rfl rfl (.cons rfl rfl (.cons rfl rfl (.cons rfl rfl .nil)))), .cons rfl rfl (.cons rfl rfl .nil), hN.mono (by simp [keys])⟩⟩
        · rfl
        · rfl
      · skip
        apply AW.draw (hm := hmix) (cs := _)
        · apply Wk.fad 1 0 false fd25_1 rfl (lt_of_ble rfl)
          apply Wk.ld (i := 3) 1 false ty3 rfl rfl (by conv => lhs; whnf) (lt_of_ble rfl)
          apply Wk.fad 0 0 false fd25_0 rfl (lt_of_ble rfl)
          apply Wk.ld (i := 3) 1 false ty3 rfl rfl (by conv => lhs; whnf) (lt_of_ble rfl)
          apply Wk.dat (ifarb a n) Try.func27 rfl rfl rfl rfl rfl (lt_of_ble rfl)
          apply Wk.mv (by conv => lhs; whnf) (lt_of_ble rfl)
          apply Wk.bin rfl rfl (r := .bool true) (fun w => by simp [go_sem, -List.length_map, c1]) (lt_of_ble rfl)
          apply Wk.mv (by conv => lhs; whnf) (lt_of_ble rfl)
          apply Wk.gon 18 rfl rfl
          apply Wk.fad 8 0 false fd25_8 rfl (lt_of_ble rfl)
          apply Wk.gon 18 rfl rfl
          apply Wk.ld (i := 3) 1 false ty3 rfl rfl (by conv => lhs; whnf) (lt_of_ble rfl)
          apply Wk.gon 18 rfl rfl
          apply Wk.dat (inum_ok c) Try.func28 rfl rfl rfl rfl rfl (lt_of_ble rfl)
          apply Wk.gon 18 rfl rfl
          apply Wk.fad 1 0 false fd25_1 rfl (lt_of_ble rfl)
          apply Wk.gon 18 rfl rfl
          apply Wk.ld (i := 3) 1 false ty3 rfl rfl (by conv => lhs; whnf) (lt_of_ble rfl)
          apply Wk.gon 18 rfl rfl
          apply Wk.bin rfl rfl (r := .bool false) (fun w => by simp [go_sem, c2]) (lt_of_ble rfl)
          apply Wk.pckT rfl (by conv => lhs; whnf) (lt_of_ble rfl)
          apply Wk.asg (by conv => lhs; whnf) (lt_of_ble rfl)
          refine Wk.nil (thenA_normal ?_)
          exact ⟨false, by rw [hnb, decide_eq_true c1, decide_eq_false c2]; rfl, fun a w => Rel.keep ⟨rfl, (.cons rfl rfl (.cons rfl rfl (.cons rfl rfl (.cons rfl rfl .nil)))), .cons rfl rfl (.cons rfl rfl .nil), hN.mono (by simp [keys])⟩⟩
        · rfl
        · rfl
    · skip
      apply AW.draw (hm := hmix) (cs := _)
      · apply Wk.fad 1 0 false fd25_1 rfl (lt_of_ble rfl)
        apply Wk.ld (i := 3) 1 false ty3 rfl rfl (by conv => lhs; whnf) (lt_of_ble rfl)
        apply Wk.fad 0 0 false fd25_0 rfl (lt_of_ble rfl)
        apply Wk.ld (i := 3) 1 false ty3 rfl rfl (by conv => lhs; whnf) (lt_of_ble rfl)
        apply Wk.dat (ifarb a n) Try.func27 rfl rfl rfl rfl rfl (lt_of_ble rfl)
        apply Wk.mv (by conv => lhs; whnf) (lt_of_ble rfl)
        apply Wk.bin rfl rfl (r := .bool false) (fun w => by simp [go_sem, -List.length_map, c1]) (lt_of_ble rfl)
        apply Wk.mv (by conv => lhs; whnf) (lt_of_ble rfl)
        apply Wk.goff 18 (ok_faddr fd25_8) rfl rfl (by simp)
        apply Wk.goff 18 (ok_load 3 ty3) rfl rfl (by simp)
        apply Wk.goff 18 (ok_datw ((inum_ok c).w rfl) Try.func28 rfl rfl) rfl rfl (by simp)
        apply Wk.goff 18 (ok_faddr fd25_1) rfl rfl (by simp)
        apply Wk.goff 18 (ok_load 3 ty3) rfl rfl (by simp)
        apply Wk.goff 18 (ok_bin _ _ _ _ _) rfl rfl (by simp)
        apply Wk.pckF rfl (by conv => lhs; whnf) (lt_of_ble rfl)
        apply Wk.asg (by conv => lhs; whnf) (lt_of_ble rfl)
        refine Wk.nil (thenA_normal ?_)
        exact ⟨false, by rw [hnb, decide_eq_false c1]; rfl, fun a w => Rel.keep ⟨rfl, (.cons rfl rfl (.cons rfl rfl (.cons rfl rfl (.cons rfl rfl .nil)))), .cons rfl rfl (.cons rfl rfl .nil), hN.mono (by simp [keys])⟩⟩
      · rfl
      · rfl
  rintro nb' rfl
  refine AW.via (fun b : Bool => St.of 76 [(2, .ptr 2 0), (3, .ptr 3 0), (5, .d (.v (.int .i64 (((fl.map datD).length : Nat) : Int)))), (6, .d (.v (.bool nb'))), (7, .d (.v (.bool b)))] [(2, .var [.d (.v (.int .i64 m0)), .d (.v (.int .i64 w0)), .d (.v (.int .i64 p0)), .d (.v (.int .i64 u0)), .d (.v (.int .i64 y0))]), (3, .var [.d (.v (.int .i64 n)), .d (.v (.int .i64 a)), .d (partsD fl), .d (.v (.int .i64 s)), .d (partsD qu), .d (.v (.bool q)), .d (.v (.int .i64 t)), .d (.v (.bool h)), .d (.v (.int .i64 c)), .d (.v (.bool d))])]) (fun b => b = cb) ?_ ?_
  · skip
    cases k0 : inB (((fl.map datD).length : Nat) : Int) 0 w0
    · skip
      apply AW.list
      apply Wk.mv (by conv => lhs; whnf) (lt_of_ble rfl)
      apply Wk.fad 1 0 false fd31_1 rfl (lt_of_ble rfl)
      apply Wk.ld (i := 2) 1 false ty3 rfl rfl (by conv => lhs; whnf) (lt_of_ble rfl)
      apply Wk.dat (inoneb k0) Try.func29 rfl rfl rfl rfl rfl (lt_of_ble rfl)
      apply Wk.mv (by conv => lhs; whnf) (lt_of_ble rfl)
      apply Wk.goff 30 (ok_faddr fd25_3) rfl rfl (by simp)
      apply Wk.goff 30 (ok_load 3 ty3) rfl rfl (by simp)
      apply Wk.goff 30 (ok_move _) rfl rfl (by simp)
      apply Wk.goff 30 (ok_datw ((inoneb (n := 0) (hi := 0) rfl).w rfl) Try.func29 rfl rfl) rfl rfl (by simp)
      apply Wk.pckF rfl (by conv => lhs; whnf) (lt_of_ble rfl)
      apply Wk.mv (by conv => lhs; whnf) (lt_of_ble rfl)
      apply Wk.goff 36 (ok_faddr fd25_4) rfl rfl (by simp)
      apply Wk.goff 36 (ok_load 3 ty23) rfl rfl (by simp)
      apply Wk.goff 36 (ok_len un23) rfl rfl (by simp)
      apply Wk.goff 36 (ok_datw ((inoneb (n := 0) (hi := 0) rfl).w rfl) Try.func29 rfl rfl) rfl rfl (by simp)
      apply Wk.pckF rfl (by conv => lhs; whnf) (lt_of_ble rfl)
      apply Wk.mv (by conv => lhs; whnf) (lt_of_ble rfl)
      apply Wk.goff 42 (ok_faddr fd25_6) rfl rfl (by simp)
      apply Wk.goff 42 (ok_load 3 ty3) rfl rfl (by simp)
      apply Wk.goff 42 (ok_faddr fd31_4) rfl rfl (by simp)
      apply Wk.goff 42 (ok_load 2 ty3) rfl rfl (by simp)
      apply Wk.goff 42 (ok_datw ((inoneb (n := 0) (hi := 0) rfl).w rfl) Try.func29 rfl rfl) rfl rfl (by simp)
      apply Wk.pckF rfl (by conv => lhs; whnf) (lt_of_ble rfl)
      apply Wk.mv (by conv => lhs; whnf) (lt_of_ble rfl)
      apply Wk.goff 49 (ok_faddr fd25_8) rfl rfl (by simp)
      apply Wk.goff 49 (ok_load 3 ty3) rfl rfl (by simp)
      apply Wk.goff 49 (ok_datw ((inoneb (n := 0) (hi := 0) rfl).w rfl) Try.func29 rfl rfl) rfl rfl (by simp)
      apply Wk.pckF rfl (by conv => lhs; whnf) (lt_of_ble rfl)
      apply Wk.asg (by conv => lhs; whnf) (lt_of_ble rfl)
      refine Wk.nil (thenA_normal ?_)
      exact ⟨false, by rw [hcb, k0]; rfl, fun a w => Rel.keep ⟨rfl, (.cons rfl rfl (.cons rfl rfl (.cons rfl rfl (.cons rfl rfl (.cons rfl rfl .nil))))), .cons rfl rfl (.cons rfl rfl .nil), hN.mono (by simp [keys])⟩⟩
    · skip
      cases k1 : inB s 0 (((fl.map datD).length : Nat) : Int)
      · skip
        apply AW.list
        apply Wk.mv (by conv => lhs; whnf) (lt_of_ble rfl)
        apply Wk.fad 1 0 false fd31_1 rfl (lt_of_ble rfl)
        apply Wk.ld (i := 2) 1 false ty3 rfl rfl (by conv => lhs; whnf) (lt_of_ble rfl)
        apply Wk.dat (inoneb k0) Try.func29 rfl rfl rfl rfl rfl (lt_of_ble rfl)
        apply Wk.mv (by conv => lhs; whnf) (lt_of_ble rfl)
        apply Wk.gon 30 rfl rfl
        apply Wk.fad 3 0 false fd25_3 rfl (lt_of_ble rfl)
        apply Wk.gon 30 rfl rfl
        apply Wk.ld (i := 3) 1 false ty3 rfl rfl (by conv => lhs; whnf) (lt_of_ble rfl)
        apply Wk.gon 30 rfl rfl
        apply Wk.mv (by conv => lhs; whnf) (lt_of_ble rfl)
        apply Wk.gon 30 rfl rfl
        apply Wk.dat (inoneb k1) Try.func29 rfl rfl rfl rfl rfl (lt_of_ble rfl)
        apply Wk.pckT rfl (by conv => lhs; whnf) (lt_of_ble rfl)
        apply Wk.mv (by conv => lhs; whnf) (lt_of_ble rfl)
        apply Wk.goff 36 (ok_faddr fd25_4) rfl rfl (by simp)
        apply Wk.goff 36 (ok_load 3 ty23) rfl rfl (by simp)
        apply Wk.goff 36 (ok_len un23) rfl rfl (by simp)
        apply Wk.goff 36 (ok_datw ((inoneb (n := 0) (hi := 0) rfl).w rfl) Try.func29 rfl rfl) rfl rfl (by simp)
        apply Wk.pckF rfl (by conv => lhs; whnf) (lt_of_ble rfl)
        apply Wk.mv (by conv => lhs; whnf) (lt_of_ble rfl)
        apply Wk.goff 42 (ok_faddr fd25_6) rfl rfl (by simp)
        apply Wk.goff 42 (ok_load 3 ty3) rfl rfl (by simp)
        apply Wk.goff 42 (ok_faddr fd31_4) rfl rfl (by simp)
        apply Wk.goff 42 (ok_load 2 ty3) rfl rfl (by simp)
        apply Wk.goff 42 (ok_datw ((inoneb (n := 0) (hi := 0) rfl).w rfl) Try.func29 rfl rfl) rfl rfl (by simp)
        apply Wk.pckF rfl (by conv => lhs; whnf) (lt_of_ble rfl)
        apply Wk.mv (by conv => lhs; whnf) (lt_of_ble rfl)
        apply Wk.goff 49 (ok_faddr fd25_8) rfl rfl (by simp)
        apply Wk.goff 49 (ok_load 3 ty3) rfl rfl (by simp)
        apply Wk.goff 49 (ok_datw ((inoneb (n := 0) (hi := 0) rfl).w rfl) Try.func29 rfl rfl) rfl rfl (by simp)
        apply Wk.pckF rfl (by conv => lhs; whnf) (lt_of_ble rfl)
        apply Wk.asg (by conv => lhs; whnf) (lt_of_ble rfl)
        refine Wk.nil (thenA_normal ?_)
        exact ⟨false, by rw [hcb, k0, k1]; rfl, fun a w => Rel.keep ⟨rfl, (.cons rfl rfl (.cons rfl rfl (.cons rfl rfl (.cons rfl rfl (.cons rfl rfl .nil))))), .cons rfl rfl (.cons rfl rfl .nil), hN.mono (by simp [keys])⟩⟩
      · skip
        cases k2 : inB (((qu.map datD).length : Nat) : Int) 0 24
        · skip
          apply AW.list
          apply Wk.mv (by conv => lhs; whnf) (lt_of_ble rfl)
          apply Wk.fad 1 0 false fd31_1 rfl (lt_of_ble rfl)
          apply Wk.ld (i := 2) 1 false ty3 rfl rfl (by conv => lhs; whnf) (lt_of_ble rfl)
          apply Wk.dat (inoneb k0) Try.func29 rfl rfl rfl rfl rfl (lt_of_ble rfl)
          apply Wk.mv (by conv => lhs; whnf) (lt_of_ble rfl)
          apply Wk.gon 30 rfl rfl
          apply Wk.fad 3 0 false fd25_3 rfl (lt_of_ble rfl)
          apply Wk.gon 30 rfl rfl
          apply Wk.ld (i := 3) 1 false ty3 rfl rfl (by conv => lhs; whnf) (lt_of_ble rfl)
          apply Wk.gon 30 rfl rfl
          apply Wk.mv (by conv => lhs; whnf) (lt_of_ble rfl)
          apply Wk.gon 30 rfl rfl
          apply Wk.dat (inoneb k1) Try.func29 rfl rfl rfl rfl rfl (lt_of_ble rfl)
          apply Wk.pckT rfl (by conv => lhs; whnf) (lt_of_ble rfl)
          apply Wk.mv (by conv => lhs; whnf) (lt_of_ble rfl)
          apply Wk.gon 36 rfl rfl
          apply Wk.fad 4 0 false fd25_4 rfl (lt_of_ble rfl)
          apply Wk.gon 36 rfl rfl
          apply Wk.ld (i := 3) 1 false ty23 rfl rfl (by conv => lhs; whnf) (lt_of_ble rfl)
          apply Wk.gon 36 rfl rfl
          apply Wk.len un23 rfl (lt_of_ble rfl)
          apply Wk.gon 36 rfl rfl
          apply Wk.dat (inoneb k2) Try.func29 rfl rfl rfl rfl rfl (lt_of_ble rfl)
          apply Wk.pckT rfl (by conv => lhs; whnf) (lt_of_ble rfl)
          apply Wk.mv (by conv => lhs; whnf) (lt_of_ble rfl)
          apply Wk.goff 42 (ok_faddr fd25_6) rfl rfl (by simp)
          apply Wk.goff 42 (ok_load 3 ty3) rfl rfl (by simp)
          apply Wk.goff 42 (ok_faddr fd31_4) rfl rfl (by simp)
          apply Wk.goff 42 (ok_load 2 ty3) rfl rfl (by simp)
          apply Wk.goff 42 (ok_datw ((inoneb (n := 0) (hi := 0) rfl).w rfl) Try.func29 rfl rfl) rfl rfl (by simp)
          apply Wk.pckF rfl (by conv => lhs; whnf) (lt_of_ble rfl)
          apply Wk.mv (by conv => lhs; whnf) (lt_of_ble rfl)
          apply Wk.goff 49 (ok_faddr fd25_8) rfl rfl (by simp)
          apply Wk.goff 49 (ok_load 3 ty3) rfl rfl (by simp)
          apply Wk.goff 49 (ok_datw ((inoneb (n := 0) (hi := 0) rfl).w rfl) Try.func29 rfl rfl) rfl rfl (by simp)
          apply Wk.pckF rfl (by conv => lhs; whnf) (lt_of_ble rfl)
          apply Wk.asg (by conv => lhs; whnf) (lt_of_ble rfl)
          refine Wk.nil (thenA_normal ?_)
          exact ⟨false, by rw [hcb, k0, k1, k2]; rfl, fun a w => Rel.keep ⟨rfl, (.cons rfl rfl (.cons rfl rfl (.cons rfl rfl (.cons rfl rfl (.cons rfl rfl .nil))))), .cons rfl rfl (.cons rfl rfl .nil), hN.mono (by simp [keys])⟩⟩
        · skip
          cases k3 : inB t 0 y0
          · skip
            apply AW.list
            apply Wk.mv (by conv => lhs; whnf) (lt_of_ble rfl)
            apply Wk.fad 1 0 false fd31_1 rfl (lt_of_ble rfl)
            apply Wk.ld (i := 2) 1 false ty3 rfl rfl (by conv => lhs; whnf) (lt_of_ble rfl)
            apply Wk.dat (inoneb k0) Try.func29 rfl rfl rfl rfl rfl (lt_of_ble rfl)
            apply Wk.mv (by conv => lhs; whnf) (lt_of_ble rfl)
            apply Wk.gon 30 rfl rfl
            apply Wk.fad 3 0 false fd25_3 rfl (lt_of_ble rfl)
            apply Wk.gon 30 rfl rfl
            apply Wk.ld (i := 3) 1 false ty3 rfl rfl (by conv => lhs; whnf) (lt_of_ble rfl)
            apply Wk.gon 30 rfl rfl
            apply Wk.mv (by conv => lhs; whnf) (lt_of_ble rfl)
            apply Wk.gon 30 rfl rfl
            apply Wk.dat (inoneb k1) Try.func29 rfl rfl rfl rfl rfl (lt_of_ble rfl)
            apply Wk.pckT rfl (by conv => lhs; whnf) (lt_of_ble rfl)
            apply Wk.mv (by conv => lhs; whnf) (lt_of_ble rfl)
            apply Wk.gon 36 rfl rfl
            apply Wk.fad 4 0 false fd25_4 rfl (lt_of_ble rfl)
            apply Wk.gon 36 rfl rfl
            apply Wk.ld (i := 3) 1 false ty23 rfl rfl (by conv => lhs; whnf) (lt_of_ble rfl)
            apply Wk.gon 36 rfl rfl
            apply Wk.len un23 rfl (lt_of_ble rfl)
            apply Wk.gon 36 rfl rfl
            apply Wk.dat (inoneb k2) Try.func29 rfl rfl rfl rfl rfl (lt_of_ble rfl)
            apply Wk.pckT rfl (by conv => lhs; whnf) (lt_of_ble rfl)
            apply Wk.mv (by conv => lhs; whnf) (lt_of_ble rfl)
            apply Wk.gon 42 rfl rfl
            apply Wk.fad 6 0 false fd25_6 rfl (lt_of_ble rfl)
            apply Wk.gon 42 rfl rfl
            apply Wk.ld (i := 3) 1 false ty3 rfl rfl (by conv => lhs; whnf) (lt_of_ble rfl)
            apply Wk.gon 42 rfl rfl
            apply Wk.fad 4 0 false fd31_4 rfl (lt_of_ble rfl)
            apply Wk.gon 42 rfl rfl
            apply Wk.ld (i := 2) 1 false ty3 rfl rfl (by conv => lhs; whnf) (lt_of_ble rfl)
            apply Wk.gon 42 rfl rfl
            apply Wk.dat (inoneb k3) Try.func29 rfl rfl rfl rfl rfl (lt_of_ble rfl)
            apply Wk.pckT rfl (by conv => lhs; whnf) (lt_of_ble rfl)
            apply Wk.mv (by conv => lhs; whnf) (lt_of_ble rfl)
            apply Wk.goff 49 (ok_faddr fd25_8) rfl rfl (by simp)
            apply Wk.goff 49 (ok_load 3 ty3) rfl rfl (by simp)
            apply Wk.goff 49 (ok_datw ((inoneb (n := 0) (hi := 0) rfl).w rfl) Try.func29 rfl rfl) rfl rfl (by simp)
            apply Wk.pckF rfl (by conv => lhs; whnf) (lt_of_ble rfl)
            apply Wk.asg (by conv => lhs; whnf) (lt_of_ble rfl)
            refine Wk.nil (thenA_normal ?_)
            exact ⟨false, by rw [hcb, k0, k1, k2, k3]; rfl, fun a w => Rel.keep ⟨rfl, (.cons rfl rfl (.cons rfl rfl (.cons rfl rfl (.cons rfl rfl (.cons rfl rfl .nil))))), .cons rfl rfl (.cons rfl rfl .nil), hN.mono (by simp [keys])⟩⟩
          · skip
            cases k4 : inB c 0 9999
            · skip
              apply AW.list
              apply Wk.mv (by conv => lhs; whnf) (lt_of_ble rfl)
              apply Wk.fad 1 0 false fd31_1 rfl (lt_of_ble rfl)
              apply Wk.ld (i := 2) 1 false ty3 rfl rfl (by conv => lhs; whnf) (lt_of_ble rfl)
              apply Wk.dat (inoneb k0) Try.func29 rfl rfl rfl rfl rfl (lt_of_ble rfl)
              apply Wk.mv (by conv => lhs; whnf) (lt_of_ble rfl)
              apply Wk.gon 30 rfl rfl
              apply Wk.fad 3 0 false fd25_3 rfl (lt_of_ble rfl)
              apply Wk.gon 30 rfl rfl
              apply Wk.ld (i := 3) 1 false ty3 rfl rfl (by conv => lhs; whnf) (lt_of_ble rfl)
              apply Wk.gon 30 rfl rfl
              apply Wk.mv (by conv => lhs; whnf) (lt_of_ble rfl)
              apply Wk.gon 30 rfl rfl
              apply Wk.dat (inoneb k1) Try.func29 rfl rfl rfl rfl rfl (lt_of_ble rfl)
              apply Wk.pckT rfl (by conv => lhs; whnf) (lt_of_ble rfl)
              apply Wk.mv (by conv => lhs; whnf) (lt_of_ble rfl)
              apply Wk.gon 36 rfl rfl
              apply Wk.fad 4 0 false fd25_4 rfl (lt_of_ble rfl)
              apply Wk.gon 36 rfl rfl
              apply Wk.ld (i := 3) 1 false ty23 rfl rfl (by conv => lhs; whnf) (lt_of_ble rfl)
              apply Wk.gon 36 rfl rfl
              apply Wk.len un23 rfl (lt_of_ble rfl)
              apply Wk.gon 36 rfl rfl
              apply Wk.dat (inoneb k2) Try.func29 rfl rfl rfl rfl rfl (lt_of_ble rfl)
              apply Wk.pckT rfl (by conv => lhs; whnf) (lt_of_ble rfl)
              apply Wk.mv (by conv => lhs; whnf) (lt_of_ble rfl)
              apply Wk.gon 42 rfl rfl
              apply Wk.fad 6 0 false fd25_6 rfl (lt_of_ble rfl)
              apply Wk.gon 42 rfl rfl
              apply Wk.ld (i := 3) 1 false ty3 rfl rfl (by conv => lhs; whnf) (lt_of_ble rfl)
              apply Wk.gon 42 rfl rfl
              apply Wk.fad 4 0 false fd31_4 rfl (lt_of_ble rfl)
              apply Wk.gon 42 rfl rfl
              apply Wk.ld (i := 2) 1 false ty3 rfl rfl (by conv => lhs; whnf) (lt_of_ble rfl)
              apply Wk.gon 42 rfl rfl
              apply Wk.dat (inoneb k3) Try.func29 rfl rfl rfl rfl rfl (lt_of_ble rfl)
              apply Wk.pckT rfl (by conv => lhs; whnf) (lt_of_ble rfl)
              apply Wk.mv (by conv => lhs; whnf) (lt_of_ble rfl)
              apply Wk.gon 49 rfl rfl
              apply Wk.fad 8 0 false fd25_8 rfl (lt_of_ble rfl)
              apply Wk.gon 49 rfl rfl
              apply Wk.ld (i := 3) 1 false ty3 rfl rfl (by conv => lhs; whnf) (lt_of_ble rfl)
              apply Wk.gon 49 rfl rfl
              apply Wk.dat (inoneb k4) Try.func29 rfl rfl rfl rfl rfl (lt_of_ble rfl)
              apply Wk.pckT rfl (by conv => lhs; whnf) (lt_of_ble rfl)
              apply Wk.asg (by conv => lhs; whnf) (lt_of_ble rfl)
              refine Wk.nil (thenA_normal ?_)
              exact ⟨false, by rw [hcb, k0, k1, k2, k3, k4]; rfl, fun a w => Rel.keep ⟨rfl, (.cons rfl rfl (.cons rfl rfl (.cons rfl rfl (.cons rfl rfl (.cons rfl rfl .nil))))), .cons rfl rfl (.cons rfl rfl .nil), hN.mono (by simp [keys])⟩⟩
            · skip
              apply AW.list
              apply Wk.mv (by conv => lhs; whnf) (lt_of_ble rfl)
              apply Wk.fad 1 0 false fd31_1 rfl (lt_of_ble rfl)
              apply Wk.ld (i := 2) 1 false ty3 rfl rfl (by conv => lhs; whnf) (lt_of_ble rfl)
              apply Wk.dat (inoneb k0) Try.func29 rfl rfl rfl rfl rfl (lt_of_ble rfl)
              apply Wk.mv (by conv => lhs; whnf) (lt_of_ble rfl)
              apply Wk.gon 30 rfl rfl
              apply Wk.fad 3 0 false fd25_3 rfl (lt_of_ble rfl)
              apply Wk.gon 30 rfl rfl
              apply Wk.ld (i := 3) 1 false ty3 rfl rfl (by conv => lhs; whnf) (lt_of_ble rfl)
              apply Wk.gon 30 rfl rfl
              apply Wk.mv (by conv => lhs; whnf) (lt_of_ble rfl)
              apply Wk.gon 30 rfl rfl
              apply Wk.dat (inoneb k1) Try.func29 rfl rfl rfl rfl rfl (lt_of_ble rfl)
              apply Wk.pckT rfl (by conv => lhs; whnf) (lt_of_ble rfl)
              apply Wk.mv (by conv => lhs; whnf) (lt_of_ble rfl)
              apply Wk.gon 36 rfl rfl
              apply Wk.fad 4 0 false fd25_4 rfl (lt_of_ble rfl)
              apply Wk.gon 36 rfl rfl
              apply Wk.ld (i := 3) 1 false ty23 rfl rfl (by conv => lhs; whnf) (lt_of_ble rfl)
              apply Wk.gon 36 rfl rfl
              apply Wk.len un23 rfl (lt_of_ble rfl)
              apply Wk.gon 36 rfl rfl
              apply Wk.dat (inoneb k2) Try.func29 rfl rfl rfl rfl rfl (lt_of_ble rfl)
              apply Wk.pckT rfl (by conv => lhs; whnf) (lt_of_ble rfl)
              apply Wk.mv (by conv => lhs; whnf) (lt_of_ble rfl)
              apply Wk.gon 42 rfl rfl
              apply Wk.fad 6 0 false fd25_6 rfl (lt_of_ble rfl)
              apply Wk.gon 42 rfl rfl
              apply Wk.ld (i := 3) 1 false ty3 rfl rfl (by conv => lhs; whnf) (lt_of_ble rfl)
              apply Wk.gon 42 rfl rfl
              apply Wk.fad 4 0 false fd31_4 rfl (lt_of_ble rfl)
              apply Wk.gon 42 rfl rfl
              apply Wk.ld (i := 2) 1 false ty3 rfl rfl (by conv => lhs; whnf) (lt_of_ble rfl)
              apply Wk.gon 42 rfl rfl
              apply Wk.dat (inoneb k3) Try.func29 rfl rfl rfl rfl rfl (lt_of_ble rfl)
              apply Wk.pckT rfl (by conv => lhs; whnf) (lt_of_ble rfl)
              apply Wk.mv (by conv => lhs; whnf) (lt_of_ble rfl)
              apply Wk.gon 49 rfl rfl
              apply Wk.fad 8 0 false fd25_8 rfl (lt_of_ble rfl)
              apply Wk.gon 49 rfl rfl
              apply Wk.ld (i := 3) 1 false ty3 rfl rfl (by conv => lhs; whnf) (lt_of_ble rfl)
              apply Wk.gon 49 rfl rfl
              apply Wk.dat (inoneb k4) Try.func29 rfl rfl rfl rfl rfl (lt_of_ble rfl)
              apply Wk.pckT rfl (by conv => lhs; whnf) (lt_of_ble rfl)
              apply Wk.asg (by conv => lhs; whnf) (lt_of_ble rfl)
              refine Wk.nil (thenA_normal ?_)
              exact ⟨true, by rw [hcb, k0, k1, k2, k3, k4]; rfl, fun a w => Rel.keep ⟨rfl, (.cons rfl rfl (.cons rfl rfl (.cons rfl rfl (.cons rfl rfl (.cons rfl rfl .nil))))), .cons rfl rfl (.cons rfl rfl .nil), hN.mono (by simp [keys])⟩⟩
  rintro cb' rfl
  refine AW.seq ?_
  clear hnb hcb
  cases h0 : Opt.ok ⟨m0, w0, p0, u0, y0⟩
  · skip
    apply AW.list
    apply Wk.ld (i := 2) 5 true ty31 rfl rfl (by conv => lhs; whnf) (lt_of_ble rfl)
    apply Wk.dat (icfgb h0) Try.func26 rfl rfl rfl rfl rfl (lt_of_ble rfl)
    apply Wk.mv (by conv => lhs; whnf) (lt_of_ble rfl)
    apply Wk.goff 56 (ok_move _) rfl rfl (by simp)
    apply Wk.pckF rfl (by conv => lhs; whnf) (lt_of_ble rfl)
    apply Wk.mv (by conv => lhs; whnf) (lt_of_ble rfl)
    apply Wk.goff 59 (ok_move _) rfl rfl (by simp)
    apply Wk.pckF rfl (by conv => lhs; whnf) (lt_of_ble rfl)
    apply Wk.mv (by conv => lhs; whnf) (lt_of_ble rfl)
    apply Wk.goff 62 (ok_faddr fd25_2) rfl rfl (by simp)
    apply Wk.goff 62 (ok_load 3 ty23) rfl rfl (by simp)
    apply Wk.goff 62 (ok_faddr fd31_2) rfl rfl (by simp)
    apply Wk.goff 62 (ok_load 2 ty3) rfl rfl (by simp)
    apply Wk.goff 62 (ok_datw ((ipartsb [] 0 rfl).w rfl) Try.func30 rfl rfl) rfl rfl (by simp)
    apply Wk.pckF rfl (by conv => lhs; whnf) (lt_of_ble rfl)
    apply Wk.mv (by conv => lhs; whnf) (lt_of_ble rfl)
    apply Wk.goff 69 (ok_faddr fd25_4) rfl rfl (by simp)
    apply Wk.goff 69 (ok_load 3 ty23) rfl rfl (by simp)
    apply Wk.goff 69 (ok_faddr fd31_2) rfl rfl (by simp)
    apply Wk.goff 69 (ok_load 2 ty3) rfl rfl (by simp)
    apply Wk.goff 69 (ok_datw ((ipartsb [] 0 rfl).w rfl) Try.func30 rfl rfl) rfl rfl (by simp)
    apply Wk.pckF rfl (by conv => lhs; whnf) (lt_of_ble rfl)
    apply Wk.asg (by conv => lhs; whnf) (lt_of_ble rfl)
    refine Wk.nil (AW.ret ?_)
    exact RetQ.ret [] (.cons rfl .nil) ⟨rfl, rfl⟩ none_kept
  · skip
    cases nb'
    · skip
      apply AW.list
      apply Wk.ld (i := 2) 5 true ty31 rfl rfl (by conv => lhs; whnf) (lt_of_ble rfl)
      apply Wk.dat (icfgb h0) Try.func26 rfl rfl rfl rfl rfl (lt_of_ble rfl)
      apply Wk.mv (by conv => lhs; whnf) (lt_of_ble rfl)
      apply Wk.gon 56 rfl rfl
      apply Wk.mv (by conv => lhs; whnf) (lt_of_ble rfl)
      apply Wk.pckT rfl (by conv => lhs; whnf) (lt_of_ble rfl)
      apply Wk.mv (by conv => lhs; whnf) (lt_of_ble rfl)
      apply Wk.goff 59 (ok_move _) rfl rfl (by simp)
      apply Wk.pckF rfl (by conv => lhs; whnf) (lt_of_ble rfl)
      apply Wk.mv (by conv => lhs; whnf) (lt_of_ble rfl)
      apply Wk.goff 62 (ok_faddr fd25_2) rfl rfl (by simp)
      apply Wk.goff 62 (ok_load 3 ty23) rfl rfl (by simp)
      apply Wk.goff 62 (ok_faddr fd31_2) rfl rfl (by simp)
      apply Wk.goff 62 (ok_load 2 ty3) rfl rfl (by simp)
      apply Wk.goff 62 (ok_datw ((ipartsb [] 0 rfl).w rfl) Try.func30 rfl rfl) rfl rfl (by simp)
      apply Wk.pckF rfl (by conv => lhs; whnf) (lt_of_ble rfl)
      apply Wk.mv (by conv => lhs; whnf) (lt_of_ble rfl)
      apply Wk.goff 69 (ok_faddr fd25_4) rfl rfl (by simp)
      apply Wk.goff 69 (ok_load 3 ty23) rfl rfl (by simp)
      apply Wk.goff 69 (ok_faddr fd31_2) rfl rfl (by simp)
      apply Wk.goff 69 (ok_load 2 ty3) rfl rfl (by simp)
      apply Wk.goff 69 (ok_datw ((ipartsb [] 0 rfl).w rfl) Try.func30 rfl rfl) rfl rfl (by simp)
      apply Wk.pckF rfl (by conv => lhs; whnf) (lt_of_ble rfl)
      apply Wk.asg (by conv => lhs; whnf) (lt_of_ble rfl)
      refine Wk.nil (AW.ret ?_)
      exact RetQ.ret [] (.cons rfl .nil) ⟨rfl, rfl⟩ none_kept
    · skip
      cases cb'
      · skip
        apply AW.list
        apply Wk.ld (i := 2) 5 true ty31 rfl rfl (by conv => lhs; whnf) (lt_of_ble rfl)
        apply Wk.dat (icfgb h0) Try.func26 rfl rfl rfl rfl rfl (lt_of_ble rfl)
        apply Wk.mv (by conv => lhs; whnf) (lt_of_ble rfl)
        apply Wk.gon 56 rfl rfl
        apply Wk.mv (by conv => lhs; whnf) (lt_of_ble rfl)
        apply Wk.pckT rfl (by conv => lhs; whnf) (lt_of_ble rfl)
        apply Wk.mv (by conv => lhs; whnf) (lt_of_ble rfl)
        apply Wk.gon 59 rfl rfl
        apply Wk.mv (by conv => lhs; whnf) (lt_of_ble rfl)
        apply Wk.pckT rfl (by conv => lhs; whnf) (lt_of_ble rfl)
        apply Wk.mv (by conv => lhs; whnf) (lt_of_ble rfl)
        apply Wk.goff 62 (ok_faddr fd25_2) rfl rfl (by simp)
        apply Wk.goff 62 (ok_load 3 ty23) rfl rfl (by simp)
        apply Wk.goff 62 (ok_faddr fd31_2) rfl rfl (by simp)
        apply Wk.goff 62 (ok_load 2 ty3) rfl rfl (by simp)
        apply Wk.goff 62 (ok_datw ((ipartsb [] 0 rfl).w rfl) Try.func30 rfl rfl) rfl rfl (by simp)
        apply Wk.pckF rfl (by conv => lhs; whnf) (lt_of_ble rfl)
        apply Wk.mv (by conv => lhs; whnf) (lt_of_ble rfl)
        apply Wk.goff 69 (ok_faddr fd25_4) rfl rfl (by simp)
        apply Wk.goff 69 (ok_load 3 ty23) rfl rfl (by simp)
        apply Wk.goff 69 (ok_faddr fd31_2) rfl rfl (by simp)
        apply Wk.goff 69 (ok_load 2 ty3) rfl rfl (by simp)
        apply Wk.goff 69 (ok_datw ((ipartsb [] 0 rfl).w rfl) Try.func30 rfl rfl) rfl rfl (by simp)
        apply Wk.pckF rfl (by conv => lhs; whnf) (lt_of_ble rfl)
        apply Wk.asg (by conv => lhs; whnf) (lt_of_ble rfl)
        refine Wk.nil (AW.ret ?_)
        exact RetQ.ret [] (.cons rfl .nil) ⟨rfl, rfl⟩ none_kept
      · skip
        cases h3 : fl.all (partM p0)
        · skip
          apply AW.list
          apply Wk.ld (i := 2) 5 true ty31 rfl rfl (by conv => lhs; whnf) (lt_of_ble rfl)
          apply Wk.dat (icfgb h0) Try.func26 rfl rfl rfl rfl rfl (lt_of_ble rfl)
          apply Wk.mv (by conv => lhs; whnf) (lt_of_ble rfl)
          apply Wk.gon 56 rfl rfl
          apply Wk.mv (by conv => lhs; whnf) (lt_of_ble rfl)
          apply Wk.pckT rfl (by conv => lhs; whnf) (lt_of_ble rfl)
          apply Wk.mv (by conv => lhs; whnf) (lt_of_ble rfl)
          apply Wk.gon 59 rfl rfl
          apply Wk.mv (by conv => lhs; whnf) (lt_of_ble rfl)
          apply Wk.pckT rfl (by conv => lhs; whnf) (lt_of_ble rfl)
          apply Wk.mv (by conv => lhs; whnf) (lt_of_ble rfl)
          apply Wk.gon 62 rfl rfl
          apply Wk.fad 2 0 false fd25_2 rfl (lt_of_ble rfl)
          apply Wk.gon 62 rfl rfl
          apply Wk.ld (i := 3) 1 false ty23 rfl rfl (by conv => lhs; whnf) (lt_of_ble rfl)
          apply Wk.gon 62 rfl rfl
          apply Wk.fad 2 0 false fd31_2 rfl (lt_of_ble rfl)
          apply Wk.gon 62 rfl rfl
          apply Wk.ld (i := 2) 1 false ty3 rfl rfl (by conv => lhs; whnf) (lt_of_ble rfl)
          apply Wk.gon 62 rfl rfl
          apply Wk.dat (ipartsb fl p0 h3) Try.func30 rfl rfl rfl rfl rfl (lt_of_ble rfl)
          apply Wk.pckT rfl (by conv => lhs; whnf) (lt_of_ble rfl)
          apply Wk.mv (by conv => lhs; whnf) (lt_of_ble rfl)
          apply Wk.goff 69 (ok_faddr fd25_4) rfl rfl (by simp)
          apply Wk.goff 69 (ok_load 3 ty23) rfl rfl (by simp)
          apply Wk.goff 69 (ok_faddr fd31_2) rfl rfl (by simp)
          apply Wk.goff 69 (ok_load 2 ty3) rfl rfl (by simp)
          apply Wk.goff 69 (ok_datw ((ipartsb [] 0 rfl).w rfl) Try.func30 rfl rfl) rfl rfl (by simp)
          apply Wk.pckF rfl (by conv => lhs; whnf) (lt_of_ble rfl)
          apply Wk.asg (by conv => lhs; whnf) (lt_of_ble rfl)
          refine Wk.nil (AW.ret ?_)
          exact RetQ.ret [] (.cons rfl .nil) ⟨rfl, rfl⟩ none_kept
        · skip
          cases h4 : qu.all (partM p0)
          · skip
            apply AW.list
            apply Wk.ld (i := 2) 5 true ty31 rfl rfl (by conv => lhs; whnf) (lt_of_ble rfl)
            apply Wk.dat (icfgb h0) Try.func26 rfl rfl rfl rfl rfl (lt_of_ble rfl)
            apply Wk.mv (by conv => lhs; whnf) (lt_of_ble rfl)
            apply Wk.gon 56 rfl rfl
            apply Wk.mv (by conv => lhs; whnf) (lt_of_ble rfl)
            apply Wk.pckT rfl (by conv => lhs; whnf) (lt_of_ble rfl)
            apply Wk.mv (by conv => lhs; whnf) (lt_of_ble rfl)
            apply Wk.gon 59 rfl rfl
            apply Wk.mv (by conv => lhs; whnf) (lt_of_ble rfl)
            apply Wk.pckT rfl (by conv => lhs; whnf) (lt_of_ble rfl)
            apply Wk.mv (by conv => lhs; whnf) (lt_of_ble rfl)
            apply Wk.gon 62 rfl rfl
            apply Wk.fad 2 0 false fd25_2 rfl (lt_of_ble rfl)
            apply Wk.gon 62 rfl rfl
            apply Wk.ld (i := 3) 1 false ty23 rfl rfl (by conv => lhs; whnf) (lt_of_ble rfl)
            apply Wk.gon 62 rfl rfl
            apply Wk.fad 2 0 false fd31_2 rfl (lt_of_ble rfl)
            apply Wk.gon 62 rfl rfl
            apply Wk.ld (i := 2) 1 false ty3 rfl rfl (by conv => lhs; whnf) (lt_of_ble rfl)
            apply Wk.gon 62 rfl rfl
            apply Wk.dat (ipartsb fl p0 h3) Try.func30 rfl rfl rfl rfl rfl (lt_of_ble rfl)
            apply Wk.pckT rfl (by conv => lhs; whnf) (lt_of_ble rfl)
            apply Wk.mv (by conv => lhs; whnf) (lt_of_ble rfl)
            apply Wk.gon 69 rfl rfl
            apply Wk.fad 4 0 false fd25_4 rfl (lt_of_ble rfl)
            apply Wk.gon 69 rfl rfl
            apply Wk.ld (i := 3) 1 false ty23 rfl rfl (by conv => lhs; whnf) (lt_of_ble rfl)
            apply Wk.gon 69 rfl rfl
            apply Wk.fad 2 0 false fd31_2 rfl (lt_of_ble rfl)
            apply Wk.gon 69 rfl rfl
            apply Wk.ld (i := 2) 1 false ty3 rfl rfl (by conv => lhs; whnf) (lt_of_ble rfl)
            apply Wk.gon 69 rfl rfl
            apply Wk.dat (ipartsb qu p0 h4) Try.func30 rfl rfl rfl rfl rfl (lt_of_ble rfl)
            apply Wk.pckT rfl (by conv => lhs; whnf) (lt_of_ble rfl)
            apply Wk.asg (by conv => lhs; whnf) (lt_of_ble rfl)
            refine Wk.nil (AW.ret ?_)
            exact RetQ.ret [] (.cons rfl .nil) ⟨rfl, rfl⟩ none_kept
          · skip
            apply AW.list
            apply Wk.ld (i := 2) 5 true ty31 rfl rfl (by conv => lhs; whnf) (lt_of_ble rfl)
            apply Wk.dat (icfgb h0) Try.func26 rfl rfl rfl rfl rfl (lt_of_ble rfl)
            apply Wk.mv (by conv => lhs; whnf) (lt_of_ble rfl)
            apply Wk.gon 56 rfl rfl
            apply Wk.mv (by conv => lhs; whnf) (lt_of_ble rfl)
            apply Wk.pckT rfl (by conv => lhs; whnf) (lt_of_ble rfl)
            apply Wk.mv (by conv => lhs; whnf) (lt_of_ble rfl)
            apply Wk.gon 59 rfl rfl
            apply Wk.mv (by conv => lhs; whnf) (lt_of_ble rfl)
            apply Wk.pckT rfl (by conv => lhs; whnf) (lt_of_ble rfl)
            apply Wk.mv (by conv => lhs; whnf) (lt_of_ble rfl)
            apply Wk.gon 62 rfl rfl
            apply Wk.fad 2 0 false fd25_2 rfl (lt_of_ble rfl)
            apply Wk.gon 62 rfl rfl
            apply Wk.ld (i := 3) 1 false ty23 rfl rfl (by conv => lhs; whnf) (lt_of_ble rfl)
            apply Wk.gon 62 rfl rfl
            apply Wk.fad 2 0 false fd31_2 rfl (lt_of_ble rfl)
            apply Wk.gon 62 rfl rfl
            apply Wk.ld (i := 2) 1 false ty3 rfl rfl (by conv => lhs; whnf) (lt_of_ble rfl)
            apply Wk.gon 62 rfl rfl
            apply Wk.dat (ipartsb fl p0 h3) Try.func30 rfl rfl rfl rfl rfl (lt_of_ble rfl)
            apply Wk.pckT rfl (by conv => lhs; whnf) (lt_of_ble rfl)
            apply Wk.mv (by conv => lhs; whnf) (lt_of_ble rfl)
            apply Wk.gon 69 rfl rfl
            apply Wk.fad 4 0 false fd25_4 rfl (lt_of_ble rfl)
            apply Wk.gon 69 rfl rfl
            apply Wk.ld (i := 3) 1 false ty23 rfl rfl (by conv => lhs; whnf) (lt_of_ble rfl)
            apply Wk.gon 69 rfl rfl
            apply Wk.fad 2 0 false fd31_2 rfl (lt_of_ble rfl)
            apply Wk.gon 69 rfl rfl
            apply Wk.ld (i := 2) 1 false ty3 rfl rfl (by conv => lhs; whnf) (lt_of_ble rfl)
            apply Wk.gon 69 rfl rfl
            apply Wk.dat (ipartsb qu p0 h4) Try.func30 rfl rfl rfl rfl rfl (lt_of_ble rfl)
            apply Wk.pckT rfl (by conv => lhs; whnf) (lt_of_ble rfl)
            apply Wk.asg (by conv => lhs; whnf) (lt_of_ble rfl)
            refine Wk.nil (AW.ret ?_)
            exact RetQ.ret [] (.cons rfl .nil) ⟨rfl, rfl⟩ none_kept
end Go.Proofs.Ytpiihfogdjihdaa
