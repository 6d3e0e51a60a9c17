/- Laws and contracts that the proof stands on: AbsL20Ctx, WFnCrdTxOk. -/
import Derived.Test.YthnlpdjjnfkmeaaDoorMa
import Derived.Test.YthnlpdjjnfkmeaaDoorMb
import Derived.Test.YthnlpdjjnfkmeaaDoorMc
import Derived.Test.YthnlpdjjnfkmeaaDoorMd
import Derived.Test.YthnlpdjjnfkmeaaDoorMe
import Derived.RowKit3
/- Who sends for credits, drawn; over what values read as. Written by tools/mk_AbsL20Ctx.py. -/
namespace Go.Proofs.YthnlpdjjnfkmeaaDoor
open Go Go.RowKit
def CX.good (x : CX) : Prop := (0 ≤ x.v ∧ x.v ≤ 255) ∧ (x.qu.length ≤ 24 ∧ ∀ d ∈ x.qu, (Byt d.2.2 ∧ d.2.2.length ≤ 24)) ∧ (0 ≤ x.g ∧ x.g ≤ 9999) ∧ (0 ≤ x.s ∧ x.s ≤ 9999)
def CX.wide (x : CX) : Prop := (-1 ≤ x.v ∧ x.v ≤ 256) ∧ (x.qu.length ≤ 25 ∧ ∀ d ∈ x.qu, (Byt d.2.2 ∧ d.2.2.length ≤ 24)) ∧ (-1 ≤ x.g ∧ x.g ≤ 10000) ∧ (-1 ≤ x.s ∧ x.s ≤ 10000)
theorem CX.good.wide {x : CX} (h : x.good) : x.wide := ⟨by have := h.1; omega, ⟨by have := h.2.1.1; omega, h.2.1.2⟩, by have := h.2.2.1; omega, by have := h.2.2.2; omega⟩
theorem CX.good.few {x : CX} (h : x.good) : x.few := ⟨by have := h.2.1.1; omega, fun d hd => by have := (h.2.1.2 d hd).2; omega⟩
def cx0 : CX := ⟨0, [], 0, 0, false⟩
theorem cx0_good : cx0.good := by simp [CX.good, cx0]
def CxR (r : A) (bs : List (Nat × Bx)) : Prop := (∃ x : CX, x.good ∧ r = cxO x x.qu.length ∧ bs = cxB x.qu x.qu.length) ∨ (r = cxNil ∧ bs = [])
theorem CxR.in_ {r : A} {bs : List (Nat × Bx)} (h : CxR r bs) : r.within [66] = true ∧ ∀ i x, bs.lookup i = some x → i ∈ [66] ∧ x.within [66] = true := by
  rcases h with ⟨x, _, rfl, rfl⟩ | ⟨rfl, rfl⟩
  · exact ⟨in_cxO _ _, fun i z h => in_cxB h⟩
  · exact ⟨rfl, fun i z h => by cases h⟩
def cputPre (aas : List A) : Prop := ∃ (m w p u y : Int) (x : CX) (bs : List (Fin 256)), aas = [cfgA m w p u y, cxA x, .d (fbytes bs)] ∧ x.good ∧ bs.length ≤ 1000
def cputPost (_ : List A) (r : A) (bs : List (Nat × Bx)) : Prop := ∃ (T : A) (b : Bool), r = .tup [T, .d (.v (.bool b))] ∧ CxR T bs
def csendPre (aas : List A) : Prop := ∃ (m w p u y : Int) (x : CX), aas = [cfgA m w p u y, cxA x] ∧ x.good
def csendPost (_ : List A) (r : A) (bs : List (Nat × Bx)) : Prop := ∃ (T : A) (k s c : Int) (p f : Bool) (y g l : Int) (z : D) (b : Bool), r = .tup [T, frmZ k s c p f y g l z, .d (.v (.bool b))] ∧ CxR T bs
def ctakePre (aas : List A) : Prop := ∃ (m w p u y : Int) (x : CX) (n : Int), aas = [cfgA m w p u y, cxA x, .d (.v (.int .i64 n))] ∧ x.good
theorem cputW : FunX Tryd.prog 56 cputPre cputPost [66] := by
  refine ⟨?_, ?_, ?_⟩
  · rintro aas ⟨m, w, p, u, y, x, bs, rfl, hx, hl⟩
    cases hok : crdOkB ⟨m, w, p, u, y⟩ x
    · refine (scputNo m w p u y x (fbytes bs) hok).imp ?_
      rintro r bs' ⟨rfl, rfl⟩
      exact ⟨_, _, rfl, .inr ⟨rfl, rfl⟩⟩
    · have hcut := scut_ok (bs.map (·.val)) p (fin_byt bs) (by rw [List.length_map]; omega)
      have hcl := cutD_length (bs.map (·.val)) p
      have hcs := cutD_small (bs.map (·.val)) p (fin_byt bs)
      have hlq := hx.2.1.1
      by_cases hfull : fullC u x (bs.map (·.val)).length (cutD (bs.map (·.val)) p).length
      · refine (scputFull m w p u y x (bs.map (·.val)) _ hok hcut (by omega) (by omega) hx.few hfull).imp ?_
        rintro r bs' ⟨rfl, rfl⟩
        exact ⟨_, _, rfl, .inl ⟨x, hx, rfl, rfl⟩⟩
      · have hx' : CX.good { x with qu := x.qu ++ cutD (bs.map (·.val)) p } := by
          simp only [fullC, not_or] at hfull
          refine ⟨hx.1, ⟨by simp only [List.length_append]; omega, fun d hd => ?_⟩, hx.2.2⟩
          rcases List.mem_append.1 hd with hd | hd
          · exact hx.2.1.2 d hd
          · exact hcs d hd
        refine (scputYes m w p u y x (bs.map (·.val)) _ hok hcut hx.few hx'.few hfull).imp ?_
        rintro r bs' ⟨rfl, rfl⟩
        exact ⟨_, _, rfl, .inl ⟨_, hx', rfl, rfl⟩⟩
  · rintro aas _
    exact ⟨_, _, cxNil, false, rfl, .inr ⟨rfl, rfl⟩⟩
  · rintro aas r bs ⟨T, b, rfl, h⟩
    have := h.in_
    exact ⟨by simp [A.within, A.withins, this.1], this.2⟩
theorem csendW : FunX Tryd.prog 59 csendPre csendPost [66] := by
  refine ⟨?_, ?_, ?_⟩
  · rintro aas ⟨m, w, p, u, y, x, rfl, hx⟩
    cases hok : crdOkB ⟨m, w, p, u, y⟩ x
    · refine (scsendNo m w p u y x hok).imp ?_
      rintro r bs' ⟨rfl, rfl⟩
      exact ⟨cxNil, 0, 0, 0, false, false, 0, 0, 0, .v (.slice none 0 0), false, rfl, .inr ⟨rfl, rfl⟩⟩
    · by_cases hi : idleC x
      · refine (scsendIdle m w p u y x hok hx.few hi).imp ?_
        rintro r bs' ⟨rfl, rfl⟩
        exact ⟨_, 0, 0, 0, false, false, 0, 0, 0, .v (.slice none 0 0), false, rfl, .inl ⟨_, hx, rfl, rfl⟩⟩
      · obtain ⟨v, qu, g, s, d⟩ := x
        simp only [idleC, not_or, Bool.not_eq_true] at hi
        obtain ⟨rfl, h2, h3, h4⟩ := hi
        obtain ⟨e, qs, rfl⟩ : ∃ e qs, qu = e :: qs := by
          cases qu with
          | nil => exact absurd rfl h3
          | cons e qs => exact ⟨e, qs, rfl⟩
        obtain ⟨g1, g2, g3, g4⟩ := hx
        simp only [List.length_cons] at g1 g2 g3 g4
        have hx' : CX.good ⟨v - 1, qs, g, s + 1, false⟩ := ⟨by simp only; omega, ⟨by simp only; omega, fun d hd => g2.2 d (List.mem_cons_of_mem _ hd)⟩, g3, by simp only; omega⟩
        refine (scsendOn m w p u y v (e :: qs) g s e qs rfl hok ⟨by simp only [List.length_cons]; omega, fun d hd => by have := (g2.2 d hd).2; omega⟩ h2 h4).imp ?_
        rintro r bs' ⟨rfl, rfl⟩
        exact ⟨_, _, _, _, _, _, _, _, _, _, _, rfl, .inl ⟨_, hx', rfl, rfl⟩⟩
  · rintro aas _
    exact ⟨_, _, cxNil, 0, 0, 0, false, false, 0, 0, 0, .v (.slice none 0 0), false, rfl, .inr ⟨rfl, rfl⟩⟩
  · rintro aas r bs ⟨T, k, s, c, p, f, y, g, l, z, b, rfl, h⟩
    have := h.in_
    exact ⟨by simp [A.within, A.withins, this.1, frmZ, frmZC], this.2⟩
theorem ctakeW : FunX Tryd.prog 58 ctakePre (fun _ => CxR) [66] := by
  refine ⟨?_, ?_, fun aas r bs h => h.in_⟩
  · rintro aas ⟨m, w, p, u, y, x, n, rfl, hx⟩
    by_cases hno : crdOkB ⟨m, w, p, u, y⟩ x = false ∨ inB n 1 255 = false
    · refine (sctakeNo m w p u y x n hno).imp ?_
      rintro r bs' ⟨rfl, rfl⟩
      exact .inr ⟨rfl, rfl⟩
    · simp only [not_or, Bool.not_eq_false] at hno
      have hn := (inB_iff _ _ _).1 hno.2
      have hx' : (takeX x n).good := by
        unfold takeX
        split
        · exact hx
        · split
          · exact hx
          · rename_i h1 h2
            have g1 := hx.1
            have g3 := hx.2.2.1
            exact ⟨by simp only; omega, hx.2.1, by simp only; omega, hx.2.2.2⟩
      have e : (takeX x n).qu = x.qu := by unfold takeX; split <;> (try split) <;> rfl
      refine (sctakeYes m w p u y x n hno.1 hno.2 hx.few).imp ?_
      rintro r bs' ⟨rfl, rfl⟩
      exact .inl ⟨_, hx', by rw [e], by rw [e]⟩
  · rintro aas _
    exact ⟨_, _, .inr ⟨rfl, rfl⟩⟩
def cxPost (_ : List A) (r : A) : Prop := ∃ x : CX, r = cxA x ∧ x.wide
set_option maxHeartbeats 16000000 in
set_option maxRecDepth 100000 in
theorem l20Ctx_ok : DrawOk Tryd.prog 38 txPre cxPost 60000 := by
 refine DrawOk.zero ?_ ?_ ?_ ?_
 · rintro zs p rest ⟨m, w, pp, u, y, nn, rfl, hcf, hn, hn'⟩ hp
   refine Spec.intro (n := 97) (rv := [.cell 6 38]) Tryd.func38 rfl rfl rfl (by simp) fun C hN hX => ?_
   let inv : List (Fin 256) × Nat × Nat × CX → St := fun z => St.of 97 [(0, .ptr 0 0), (2, .d (.v (.int .i64 nn))), (4, .ptr 4 0), (6, .ptr 6 0), (7, .ptr 70 0), (8, .d (.v (.int .i64 (z.2.2.1 : Int))))] [(0, rdr z.1 z.2.1), (4, .var (cfgC m w pp u y)), (6, .var cxN), (66, .own z.2.2.2.qu.length 77 3 (piecesA z.2.2.2.qu)), (70, .var (cxOC z.2.2.2 z.2.2.2.qu.length))]
   let inv2 : List (Fin 256) × Nat × CX → St := fun z => St.of 97 [(0, .ptr 0 0), (6, .ptr 6 0), (7, .ptr 70 0)] [(0, rdr z.1 z.2.1), (6, .var cxN), (70, .var (cxC z.2.2))]
   have fin1 : ∀ (zs : List (Fin 256)) (p k : Nat) (x : CX) (σ : St), σ.n = 97 → σ.t 0 = .ptr 0 0 → σ.t 2 = .d (.v (.int .i64 nn)) → σ.t 4 = .ptr 4 0 → σ.t 6 = .ptr 6 0 → σ.t 7 = .ptr 70 0 → σ.t 8 = .d (.v (.int .i64 (k : Int))) → σ.b 0 = rdr zs p → σ.b 4 = .var (cfgC m w pp u y) → σ.b 6 = .var cxN → σ.b 70 = .var (cxOC x x.qu.length) → σ.b 66 = .own x.qu.length 77 3 (piecesA x.qu) →
       ∀ a w, Rel C σ a w → Rel C (inv (zs, p, k, x)) a w := fun zs p k x σ h0 h1 h2 h3 h4 h5 h6 h7 h8 h9 h10 h12 a w => Rel.keep ⟨h0.symm, .cons h1 rfl (.cons h2 rfl (.cons h3 rfl (.cons h4 rfl (.cons h5 rfl (.cons h6 rfl .nil))))), .cons h7 rfl (.cons h8 rfl (.cons h9 rfl (.cons h12 (within_parts _) (.cons h10 rfl .nil)))), hN.mono (by simp [keys])⟩
   have finN : ∀ (zs : List (Fin 256)) (p k : Nat) (σ : St), σ.n = 97 → σ.t 0 = .ptr 0 0 → σ.t 2 = .d (.v (.int .i64 nn)) → σ.t 4 = .ptr 4 0 → σ.t 6 = .ptr 6 0 → σ.t 7 = .ptr 70 0 → σ.t 8 = .d (.v (.int .i64 (k : Int))) → σ.b 0 = rdr zs p → σ.b 4 = .var (cfgC m w pp u y) → σ.b 6 = .var cxN → σ.b 70 = .var cxN →
       ∀ a w, Rel C σ a w → Rel C (inv (zs, p, k, cx0)) a w := by
     intro zs p k σ h0 h1 h2 h3 h4 h5 h6 h7 h8 h9 h10 a wd hR
     have g0 := Rel.keep (n := 97) (ts := [(0, .ptr 0 0), (2, .d (.v (.int .i64 nn))), (4, .ptr 4 0), (6, .ptr 6 0), (7, .ptr 70 0), (8, .d (.v (.int .i64 (k : Int))))]) (bs := [(0, rdr zs p), (4, .var (cfgC m w pp u y)), (6, .var cxN), (70, .var cxN)]) ⟨h0.symm, .cons h1 rfl (.cons h2 rfl (.cons h3 rfl (.cons h4 rfl (.cons h5 rfl (.cons h6 rfl .nil))))), .cons h7 rfl (.cons h8 rfl (.cons h9 rfl (.cons h10 rfl .nil))), hN.mono (by simp [keys])⟩ hR
     have g1 := Rel.nilc (j := 70) (c := 1) (i' := 66) 77 3 rfl rfl rfl g0
     exact fin1 zs p k cx0 _ rfl rfl rfl rfl rfl rfl rfl rfl rfl rfl rfl rfl a wd g1
   have fin2 : ∀ (zs : List (Fin 256)) (p : Nat) (x : CX) (l : Nat) (qs : List (List A)) (σ : St), asData qs (x.qu.map datD) → σ.n = 97 → σ.t 0 = .ptr 0 0 → σ.t 6 = .ptr 6 0 → σ.t 7 = .ptr 70 0 → σ.b 0 = rdr zs p → σ.b 6 = .var cxN → σ.b 70 = .var (cxOC x l) → σ.b 66 = .own l 77 3 qs →
       ∀ a w, Rel C σ a w → Rel C (inv2 (zs, p, x)) a w := by
     intro zs p x l qs σ hqs h0 h1 h2 h3 h4 h5 h6 h8 a w hR
     have g2 := Rel.thawc (j := 70) (c := 1) (i := 66) (k := l) _ h6 rfl h8 hqs (hX.one (by decide) h4) hR
     refine Rel.keep ?_ g2
     exact ⟨h0.symm, .cons h1 rfl (.cons h2 rfl (.cons h3 rfl .nil)), .cons h4 rfl (.cons h5 rfl (.cons rfl rfl .nil)), hN.mono (by simp [keys])⟩
   refine AW.seq ?_
   apply AW.list
   apply Wk.bx 4 rfl rfl (lt_of_ble rfl)
   apply Wk.alc 6 [.int .i64 0, .slice none 0 0, .int .i64 0, .int .i64 0, .bool false] ze38 rfl rfl (lt_of_ble rfl)
   refine Wk.nil ?_
   refine AW.seq ?_
   apply AW.list
   apply Wk.bld [.int .i64 0, .slice none 0 0, .int .i64 0, .int .i64 0, .bool false] [(0, 1), (1, 1), (2, 1), (3, 1), (4, 1)] bl38 rfl (by conv => lhs; whnf) (lt_of_ble rfl)
   apply Wk.alc 70 [.int .i64 0, .slice none 0 0, .int .i64 0, .int .i64 0, .bool false] ze38 rfl rfl (lt_of_ble rfl)
   apply Wk.sto (i := 70) 5 true ty38 rfl rfl rfl rfl (Nat.le_of_ble_eq_true rfl) (lt_of_ble rfl)
   refine Wk.nil ?_
   refine AW.seq (AW.seq ?_)
   apply AW.list
   apply Wk.mv (by conv => lhs; whnf) (lt_of_ble rfl)
   apply Wk.drw 0 pick_ok Tryd.func22 rfl rfl rfl rfl ⟨_, rfl, by omega⟩ (by omega) rfl (lt_of_ble rfl)
   rintro r1 zs1 p1 ⟨k1, rfl, hk1⟩ hp1
   apply Wk.asg (by conv => lhs; whnf) (lt_of_ble rfl)
   have hk1' : k1 < 16 := by have := hk1 16 rfl; omega
   refine Wk.nil (AW.block ?_)
   refine AW.loop inv (fun z => z.2.2.1 ≤ k1 ∧ z.2.1 + 3100 * z.2.2.1 ≤ p + 1 + 3100 * k1 ∧ z.2.2.2.good) (fun z => z.2.2.1) (zs1, p1, k1, cx0) ⟨Nat.le_refl _, by simp only; omega, cx0_good⟩ (finN zs1 p1 k1 _ rfl rfl rfl rfl rfl rfl rfl rfl rfl rfl rfl) ?_
   rintro ⟨zs2, p2, k2, x2⟩ ⟨hk2, hp2, hx2⟩
   simp only at hk2 hp2 hx2
   show AW Tryd.prog C _ _ (St.of 97 [(0, .ptr 0 0), (2, .d (.v (.int .i64 nn))), (4, .ptr 4 0), (6, .ptr 6 0), (7, .ptr 70 0), (8, .d (.v (.int .i64 (k2 : Int))))] [(0, rdr zs2 p2), (4, .var (cfgC m w pp u y)), (6, .var cxN), (66, .own x2.qu.length 77 3 (piecesA x2.qu)), (70, .var (cxOC x2 x2.qu.length))])
   refine AW.seq (AW.seq ?_)
   apply AW.list
   apply Wk.mv (by conv => lhs; whnf) (lt_of_ble rfl)
   apply Wk.bin rfl rfl (fun w => by simp [go_sem] <;> rfl) (lt_of_ble rfl)
   refine Wk.nil ?_
   refine AW.cond rfl (fun hc => ?_) (fun hc => ?_)
   · have hpos : 0 < k2 := by simpa using hc
     refine AW.skip ?_
     repeat (first | refine thenA_normal ?_ | refine inBlockA_normal ?_)
     refine AW.via inv (fun z => z.2.2.1 = k2 ∧ z.2.1 ≤ p2 + 3100 ∧ z.2.2.2.good) ?_ ?_
     · refine AW.block ?_
       refine AW.thawc (j := 70) (c := 1) (i := 66) _ rfl rfl rfl (asData_parts x2.qu) (hX.one (by decide) rfl) ?_
       refine AW.keep (n := 97) (ts := [(0, .ptr 0 0), (2, .d (.v (.int .i64 nn))), (4, .ptr 4 0), (6, .ptr 6 0), (7, .ptr 70 0), (8, .d (.v (.int .i64 (k2 : Int))))]) (bs := [(0, rdr zs2 p2), (4, .var (cfgC m w pp u y)), (6, .var cxN), (70, .var (cxC x2))]) ⟨rfl, .cons rfl rfl (.cons rfl rfl (.cons rfl rfl (.cons rfl rfl (.cons rfl rfl (.cons rfl rfl .nil))))), .cons rfl rfl (.cons rfl rfl (.cons rfl rfl (.cons rfl rfl .nil))), hN.mono (by simp [keys])⟩ ?_
       refine AW.seq ?_
       apply AW.list
       apply Wk.mv (by conv => lhs; whnf) (lt_of_ble rfl)
       apply Wk.drw 0 pick_ok Tryd.func22 rfl rfl rfl rfl ⟨_, rfl, by omega⟩ (by omega) rfl (lt_of_ble rfl)
       rintro r3 zs3 p3 ⟨k3, rfl, hk3⟩ hp3
       have hk3' : k3 < 4 := by have := hk3 4 rfl; omega
       refine Wk.nil (AW.block ?_)
       rcases (show k3 = 0 ∨ k3 = 1 ∨ k3 = 2 ∨ k3 = 3 by omega) with rfl | rfl | rfl | rfl
       · skip
         refine AW.seq (AW.seq ?_)
         apply AW.list
         apply Wk.bin rfl rfl (fun w => by simp [go_sem] <;> rfl) (lt_of_ble rfl)
         apply Wk.asg (by conv => lhs; whnf) (lt_of_ble rfl)
         refine Wk.nil ?_
         refine AW.cond rfl (fun _ => AW.skip ?_) (fun hc => by cases hc)
         repeat (first | refine thenA_normal ?_ | refine inBlockA_normal ?_)
         refine AW.cond rfl (fun _ => ?_) (fun hc => by cases hc)
         apply AW.draw (hm := hmix) (cs := _)
         · apply Wk.ld (i := 4) 5 true ty35 rfl rfl (by conv => lhs; whnf) (lt_of_ble rfl)
           apply Wk.ld (i := 70) 5 true ty38 rfl rfl (by conv => lhs; whnf) (lt_of_ble rfl)
           apply Wk.mv (by conv => lhs; whnf) (lt_of_ble rfl)
           apply Wk.fad 3 0 false fd35_3 rfl (lt_of_ble rfl)
           apply Wk.ld (i := 4) 1 false ty3 rfl rfl (by conv => lhs; whnf) (lt_of_ble rfl)
           apply Wk.drw 0 bytes_ok Tryd.func57 rfl rfl rfl rfl ⟨_, rfl, by omega⟩ (by omega) rfl (lt_of_ble rfl)
           rintro r4 zs4 p4 ⟨bs4, rfl, hb4⟩ hp4
           have hl4 : bs4.length ≤ 1000 := by rcases hb4 _ rfl with h | h <;> first | omega | (rw [h]; simp)
           apply Wk.fnx [66] cputW Tryd.func56 rfl rfl rfl ⟨m, w, pp, u, y, x2, bs4, rfl, hx2, hl4⟩ rfl (by simp; rfl) (lt_of_ble rfl)
           rintro r9 ex ⟨T, b9, rfl, ⟨x9, hx9, rfl, rfl⟩ | ⟨rfl, rfl⟩⟩
           · apply Wk.mv (by conv => lhs; whnf) (lt_of_ble rfl)
             apply Wk.ext rfl rfl (lt_of_ble rfl)
             apply Wk.ext rfl rfl (lt_of_ble rfl)
             apply Wk.sto (i := 70) 5 true ty38 rfl rfl rfl rfl (Nat.le_of_ble_eq_true rfl) (lt_of_ble rfl)
             refine Wk.nil ?_
             repeat (first | refine inBlockA_normal ?_ | refine thenA_normal ?_)
             exact ⟨(zs4, p4, k2, x9), ⟨rfl, by simp only; omega, hx9⟩, fin1 zs4 p4 k2 x9 _ rfl rfl rfl rfl rfl rfl rfl rfl rfl rfl rfl rfl⟩
           · apply Wk.mv (by conv => lhs; whnf) (lt_of_ble rfl)
             apply Wk.ext rfl rfl (lt_of_ble rfl)
             apply Wk.ext rfl rfl (lt_of_ble rfl)
             apply Wk.sto (i := 70) 5 true ty38 rfl rfl rfl rfl (Nat.le_of_ble_eq_true rfl) (lt_of_ble rfl)
             refine Wk.nil ?_
             repeat (first | refine inBlockA_normal ?_ | refine thenA_normal ?_)
             exact ⟨(zs4, p4, k2, cx0), ⟨rfl, by simp only; omega, cx0_good⟩, finN zs4 p4 k2 _ rfl rfl rfl rfl rfl rfl rfl rfl rfl rfl rfl⟩
         · rfl
         · rfl
       · skip
         refine AW.seq (AW.seq ?_)
         apply AW.list
         apply Wk.bin rfl rfl (fun w => by simp [go_sem] <;> rfl) (lt_of_ble rfl)
         apply Wk.asg (by conv => lhs; whnf) (lt_of_ble rfl)
         refine Wk.nil ?_
         refine AW.cond rfl (fun hc => by cases hc) (fun _ => ?_)
         apply AW.list
         apply Wk.bin rfl rfl (fun w => by simp [go_sem] <;> rfl) (lt_of_ble rfl)
         apply Wk.asg (by conv => lhs; whnf) (lt_of_ble rfl)
         refine Wk.nil (thenA_normal ?_)
         refine AW.cond rfl (fun _ => ?_) (fun hc => by cases hc)
         apply AW.draw (hm := hmix) (cs := _)
         · apply Wk.ld (i := 4) 5 true ty35 rfl rfl (by conv => lhs; whnf) (lt_of_ble rfl)
           apply Wk.ld (i := 70) 5 true ty38 rfl rfl (by conv => lhs; whnf) (lt_of_ble rfl)
           apply Wk.mv (by conv => lhs; whnf) (lt_of_ble rfl)
           apply Wk.fad 3 0 false fd35_3 rfl (lt_of_ble rfl)
           apply Wk.ld (i := 4) 1 false ty3 rfl rfl (by conv => lhs; whnf) (lt_of_ble rfl)
           apply Wk.drw 0 bytes_ok Tryd.func57 rfl rfl rfl rfl ⟨_, rfl, by omega⟩ (by omega) rfl (lt_of_ble rfl)
           rintro r4 zs4 p4 ⟨bs4, rfl, hb4⟩ hp4
           have hl4 : bs4.length ≤ 1000 := by rcases hb4 _ rfl with h | h <;> first | omega | (rw [h]; simp)
           apply Wk.fnx [66] cputW Tryd.func56 rfl rfl rfl ⟨m, w, pp, u, y, x2, bs4, rfl, hx2, hl4⟩ rfl (by simp; rfl) (lt_of_ble rfl)
           rintro r9 ex ⟨T, b9, rfl, ⟨x9, hx9, rfl, rfl⟩ | ⟨rfl, rfl⟩⟩
           · apply Wk.mv (by conv => lhs; whnf) (lt_of_ble rfl)
             apply Wk.ext rfl rfl (lt_of_ble rfl)
             apply Wk.ext rfl rfl (lt_of_ble rfl)
             apply Wk.sto (i := 70) 5 true ty38 rfl rfl rfl rfl (Nat.le_of_ble_eq_true rfl) (lt_of_ble rfl)
             refine Wk.nil ?_
             repeat (first | refine inBlockA_normal ?_ | refine thenA_normal ?_)
             exact ⟨(zs4, p4, k2, x9), ⟨rfl, by simp only; omega, hx9⟩, fin1 zs4 p4 k2 x9 _ rfl rfl rfl rfl rfl rfl rfl rfl rfl rfl rfl rfl⟩
           · apply Wk.mv (by conv => lhs; whnf) (lt_of_ble rfl)
             apply Wk.ext rfl rfl (lt_of_ble rfl)
             apply Wk.ext rfl rfl (lt_of_ble rfl)
             apply Wk.sto (i := 70) 5 true ty38 rfl rfl rfl rfl (Nat.le_of_ble_eq_true rfl) (lt_of_ble rfl)
             refine Wk.nil ?_
             repeat (first | refine inBlockA_normal ?_ | refine thenA_normal ?_)
             exact ⟨(zs4, p4, k2, cx0), ⟨rfl, by simp only; omega, cx0_good⟩, finN zs4 p4 k2 _ rfl rfl rfl rfl rfl rfl rfl rfl rfl rfl rfl⟩
         · rfl
         · rfl
       · skip
         refine AW.seq (AW.seq ?_)
         apply AW.list
         apply Wk.bin rfl rfl (fun w => by simp [go_sem] <;> rfl) (lt_of_ble rfl)
         apply Wk.asg (by conv => lhs; whnf) (lt_of_ble rfl)
         refine Wk.nil ?_
         refine AW.cond rfl (fun hc => by cases hc) (fun _ => ?_)
         apply AW.list
         apply Wk.bin rfl rfl (fun w => by simp [go_sem] <;> rfl) (lt_of_ble rfl)
         apply Wk.asg (by conv => lhs; whnf) (lt_of_ble rfl)
         refine Wk.nil (thenA_normal ?_)
         refine AW.cond rfl (fun hc => by cases hc) (fun _ => ?_)
         refine AW.seq ?_
         apply AW.list
         apply Wk.bin rfl rfl (fun w => by simp [go_sem] <;> rfl) (lt_of_ble rfl)
         apply Wk.asg (by conv => lhs; whnf) (lt_of_ble rfl)
         refine Wk.nil ?_
         refine AW.cond rfl (fun _ => ?_) (fun hc => by cases hc)
         apply AW.draw (hm := hmix) (cs := _)
         · apply Wk.ld (i := 4) 5 true ty35 rfl rfl (by conv => lhs; whnf) (lt_of_ble rfl)
           apply Wk.ld (i := 70) 5 true ty38 rfl rfl (by conv => lhs; whnf) (lt_of_ble rfl)
           apply Wk.mv (by conv => lhs; whnf) (lt_of_ble rfl)
           apply Wk.drw 0 pick_ok Tryd.func22 rfl rfl rfl rfl ⟨_, rfl, by omega⟩ (by omega) rfl (lt_of_ble rfl)
           rintro r4 zs4 p4 ⟨k4, rfl, hk4⟩ hp4
           have hk4i : (k4 : Int) < 6 := by have := hk4 6 rfl; omega
           apply Wk.addi rfl rfl (by omega) (lt_of_ble rfl)
           apply Wk.mv (by conv => lhs; whnf) (lt_of_ble rfl)
           apply Wk.drw 0 pick_ok Tryd.func22 rfl rfl rfl rfl ⟨_, rfl, by omega⟩ (by omega) rfl (lt_of_ble rfl)
           rintro r5 zs5 p5 ⟨k5, rfl, hk5⟩ hp5
           have hk5i : (k5 : Int) < 250 := by have := hk5 250 rfl; omega
           apply Wk.addi rfl rfl (by omega) (lt_of_ble rfl)
           apply Wk.lst 48 1 false [.int .i64 0] un80 ty3 ze3 rfl rfl (by rfl) (by rfl) (by decide) (by decide) rfl rfl (all_len rfl) (lt_of_ble rfl)
           apply Wk.mv (by conv => lhs; whnf) (lt_of_ble rfl)
           apply Wk.drw 0 pick_ok Tryd.func22 rfl rfl rfl rfl ⟨_, rfl, by omega⟩ (by omega) rfl (lt_of_ble rfl)
           rintro r6 zs6 p6 ⟨k9, rfl, hk9⟩ hp6
           have hk9' : k9 < 2 := by have := hk9 2 rfl; omega
           obtain ⟨v, hv⟩ : ∃ v : Int, partA (List.flatten [[A.d (.v (.int .i64 (1 + (k4 : Int))))], [A.d (.v (.int .i64 (1 + (k5 : Int))))]]) (k9 * 1) 1 false = some (.d (.v (.int .i64 v))) := by
             rcases (show k9 = 0 ∨ k9 = 1 by omega) with rfl | rfl <;> exact ⟨_, rfl⟩
           apply Wk.iado 48 1 false un80 ty3 rfl rfl rfl hk9' (lt_of_ble rfl)
           apply Wk.ldo (i := 48) 1 false ty3 rfl rfl hv (lt_of_ble rfl)
           apply Wk.fnx [66] ctakeW Tryd.func58 rfl rfl rfl ⟨m, w, pp, u, y, x2, v, rfl, hx2⟩ rfl (by simp; rfl) (lt_of_ble rfl)
           rintro r9 ex (⟨x9, hx9, rfl, rfl⟩ | ⟨rfl, rfl⟩)
           · apply Wk.sto (i := 70) 5 true ty38 rfl rfl rfl rfl (Nat.le_of_ble_eq_true rfl) (lt_of_ble rfl)
             refine Wk.nil ?_
             repeat (first | refine inBlockA_normal ?_ | refine thenA_normal ?_)
             exact ⟨(zs6, p6, k2, x9), ⟨rfl, by simp only; omega, hx9⟩, fin1 zs6 p6 k2 x9 _ rfl rfl rfl rfl rfl rfl rfl rfl rfl rfl rfl rfl⟩
           · apply Wk.sto (i := 70) 5 true ty38 rfl rfl rfl rfl (Nat.le_of_ble_eq_true rfl) (lt_of_ble rfl)
             refine Wk.nil ?_
             repeat (first | refine inBlockA_normal ?_ | refine thenA_normal ?_)
             exact ⟨(zs6, p6, k2, cx0), ⟨rfl, by simp only; omega, cx0_good⟩, finN zs6 p6 k2 _ rfl rfl rfl rfl rfl rfl rfl rfl rfl rfl rfl⟩
         · rfl
         · rfl
       · skip
         refine AW.seq (AW.seq ?_)
         apply AW.list
         apply Wk.bin rfl rfl (fun w => by simp [go_sem] <;> rfl) (lt_of_ble rfl)
         apply Wk.asg (by conv => lhs; whnf) (lt_of_ble rfl)
         refine Wk.nil ?_
         refine AW.cond rfl (fun hc => by cases hc) (fun _ => ?_)
         apply AW.list
         apply Wk.bin rfl rfl (fun w => by simp [go_sem] <;> rfl) (lt_of_ble rfl)
         apply Wk.asg (by conv => lhs; whnf) (lt_of_ble rfl)
         refine Wk.nil (thenA_normal ?_)
         refine AW.cond rfl (fun hc => by cases hc) (fun _ => ?_)
         refine AW.seq ?_
         apply AW.list
         apply Wk.bin rfl rfl (fun w => by simp [go_sem] <;> rfl) (lt_of_ble rfl)
         apply Wk.asg (by conv => lhs; whnf) (lt_of_ble rfl)
         refine Wk.nil ?_
         refine AW.cond rfl (fun hc => by cases hc) (fun _ => ?_)
         apply AW.list
         apply Wk.ld (i := 4) 5 true ty35 rfl rfl (by conv => lhs; whnf) (lt_of_ble rfl)
         apply Wk.ld (i := 70) 5 true ty38 rfl rfl (by conv => lhs; whnf) (lt_of_ble rfl)
         apply Wk.fnx [66] csendW Tryd.func59 rfl rfl rfl ⟨m, w, pp, u, y, x2, rfl, hx2⟩ rfl (by simp; rfl) (lt_of_ble rfl)
         rintro r9 ex ⟨T, i1, i2, i3, b1, b2, i4, i5, i6, z9, b9, rfl, ⟨x9, hx9, rfl, rfl⟩ | ⟨rfl, rfl⟩⟩
         · apply Wk.mv (by conv => lhs; whnf) (lt_of_ble rfl)
           apply Wk.ext rfl rfl (lt_of_ble rfl)
           apply Wk.ext rfl rfl (lt_of_ble rfl)
           apply Wk.ext rfl rfl (lt_of_ble rfl)
           apply Wk.sto (i := 70) 5 true ty38 rfl rfl rfl rfl (Nat.le_of_ble_eq_true rfl) (lt_of_ble rfl)
           refine Wk.nil ?_
           repeat (first | refine inBlockA_normal ?_ | refine thenA_normal ?_)
           exact ⟨(zs3, p3, k2, x9), ⟨rfl, by simp only; omega, hx9⟩, fin1 zs3 p3 k2 x9 _ rfl rfl rfl rfl rfl rfl rfl rfl rfl rfl rfl rfl⟩
         · apply Wk.mv (by conv => lhs; whnf) (lt_of_ble rfl)
           apply Wk.ext rfl rfl (lt_of_ble rfl)
           apply Wk.ext rfl rfl (lt_of_ble rfl)
           apply Wk.ext rfl rfl (lt_of_ble rfl)
           apply Wk.sto (i := 70) 5 true ty38 rfl rfl rfl rfl (Nat.le_of_ble_eq_true rfl) (lt_of_ble rfl)
           refine Wk.nil ?_
           repeat (first | refine inBlockA_normal ?_ | refine thenA_normal ?_)
           exact ⟨(zs3, p3, k2, cx0), ⟨rfl, by simp only; omega, cx0_good⟩, finN zs3 p3 k2 _ rfl rfl rfl rfl rfl rfl rfl rfl rfl rfl rfl⟩
     · rintro ⟨zs4, p4, k4, x4⟩ ⟨rfl, hp4, hx4⟩
       simp only at hp4 hx4 hk2 hp2 hpos ⊢
       show AW Tryd.prog C _ _ (St.of 97 [(0, .ptr 0 0), (2, .d (.v (.int .i64 nn))), (4, .ptr 4 0), (6, .ptr 6 0), (7, .ptr 70 0), (8, .d (.v (.int .i64 (k4 : Int))))] [(0, rdr zs4 p4), (4, .var (cfgC m w pp u y)), (6, .var cxN), (66, .own x4.qu.length 77 3 (piecesA x4.qu)), (70, .var (cxOC x4 x4.qu.length))])
       apply AW.list
       apply Wk.mv (by conv => lhs; whnf) (lt_of_ble rfl)
       apply Wk.subn (b := 1) rfl rfl (by omega) (by omega) (lt_of_ble rfl)
       apply Wk.asg (by conv => lhs; whnf) (lt_of_ble rfl)
       refine Wk.nil ?_
       exact ⟨(zs4, p4, k4 - 1, x4), ⟨by simp only; omega, by simp only; omega, hx4⟩, by simp only; omega, fin1 zs4 p4 (k4 - 1) x4 _ rfl rfl rfl rfl rfl rfl rfl rfl rfl rfl rfl rfl⟩
   · obtain rfl : k2 = 0 := by simp at hc; omega
     refine AW.exit ?_
     repeat (first | refine inBlockA_same ?_ | refine thenA_exit ?_)
     repeat (first | refine thenA_normal ?_ | refine inBlockA_normal ?_)
     refine AW.via inv2 (fun z => z.2.1 ≤ p + 59999 ∧ z.2.2.wide) ?_ ?_
     · refine AW.seq ?_
       apply AW.list
       apply Wk.mv (by conv => lhs; whnf) (lt_of_ble rfl)
       apply Wk.mv (by conv => lhs; whnf) (lt_of_ble rfl)
       apply Wk.drw 0 odd_ok Tryd.func48 rfl rfl rfl rfl ⟨_, rfl, by omega⟩ (by omega) rfl (lt_of_ble rfl)
       rintro r3 zs3 p3 ⟨b3, rfl, _⟩ hp3
       refine Wk.nil ?_
       refine AW.cond rfl (fun hc => ?_) (fun hc => AW.skip (thenA_normal ?_))
       · refine AW.seq ?_
         apply AW.list
         apply Wk.mv (by conv => lhs; whnf) (lt_of_ble rfl)
         apply Wk.drw 0 pick_ok Tryd.func22 rfl rfl rfl rfl ⟨_, rfl, by omega⟩ (by omega) rfl (lt_of_ble rfl)
         rintro r4 zs4 p4 ⟨k4, rfl, hk4⟩ hp4
         have hk4' : k4 < 4 := by have := hk4 4 rfl; omega
         refine Wk.nil (AW.block ?_)
         rcases (show k4 = 0 ∨ k4 = 1 ∨ k4 = 2 ∨ k4 = 3 by omega) with rfl | rfl | rfl | rfl
         · have hw2 := hx2.wide
           refine AW.seq ?_
           apply AW.list
           apply Wk.bin rfl rfl (fun w => by simp [go_sem] <;> rfl) (lt_of_ble rfl)
           apply Wk.asg (by conv => lhs; whnf) (lt_of_ble rfl)
           refine Wk.nil ?_
           refine AW.cond rfl (fun _ => ?_) (fun hc => by cases hc)
           have hv0 := hx2.1
           apply AW.draw (hm := hmix) (cs := _)
           · apply Wk.fad 0 0 false fd38_0 rfl (lt_of_ble rfl)
             apply Wk.ld (i := 70) 1 false ty3 rfl rfl (by conv => lhs; whnf) (lt_of_ble rfl)
             apply Wk.addi rfl rfl (by omega) (lt_of_ble rfl)
             apply Wk.lst 71 1 false [.int .i64 0] un80 ty3 ze3 rfl rfl (by rfl) (by rfl) (by decide) (by decide) rfl rfl (all_len rfl) (lt_of_ble rfl)
             apply Wk.mv (by conv => lhs; whnf) (lt_of_ble rfl)
             apply Wk.drw 0 pick_ok Tryd.func22 rfl rfl rfl rfl ⟨_, rfl, by omega⟩ (by omega) rfl (lt_of_ble rfl)
             rintro r9 zs9 p9 ⟨k9, rfl, hk9⟩ hp9
             have hk9' : k9 < 3 := by have := hk9 3 rfl; omega
             obtain ⟨v, hv, hv1, hv2⟩ : ∃ v : Int, partA (List.flatten [[A.d (.v (.int .i64 (-1)))], [A.d (.v (.int .i64 256))], [A.d (.v (.int .i64 (x2.v + 1)))]]) (k9 * 1) 1 false = some (.d (.v (.int .i64 v))) ∧ -1 ≤ v ∧ v ≤ 256 := by
               rcases (show k9 = 0 ∨ k9 = 1 ∨ k9 = 2 by omega) with rfl | rfl | rfl
               · exact ⟨_, rfl, by omega, by omega⟩
               · exact ⟨_, rfl, by omega, by omega⟩
               · exact ⟨_, rfl, by omega, by omega⟩
             apply Wk.iado 71 1 false un80 ty3 rfl rfl rfl hk9' (lt_of_ble rfl)
             apply Wk.ldo (i := 71) 1 false ty3 rfl rfl hv (lt_of_ble rfl)
             apply Wk.fad 0 0 false fd38_0 rfl (lt_of_ble rfl)
             apply Wk.sto (i := 70) 1 false ty3 rfl rfl rfl rfl (Nat.le_of_ble_eq_true rfl) (lt_of_ble rfl)
             refine Wk.nil ?_
             repeat (first | refine inBlockA_normal ?_ | refine thenA_normal ?_)
             exact ⟨(zs9, p9, { x2 with v := v }), ⟨by simp only; omega, ⟨⟨hv1, hv2⟩, hw2.2⟩⟩, fin2 zs9 p9 { x2 with v := v } _ _ _ (asData_parts _) rfl rfl rfl rfl rfl rfl rfl rfl⟩
           · rfl
           · rfl
         · have hw2 := hx2.wide
           refine AW.seq ?_
           apply AW.list
           apply Wk.bin rfl rfl (fun w => by simp [go_sem] <;> rfl) (lt_of_ble rfl)
           apply Wk.asg (by conv => lhs; whnf) (lt_of_ble rfl)
           refine Wk.nil ?_
           refine AW.cond rfl (fun hc => by cases hc) (fun _ => ?_)
           refine AW.seq ?_
           apply AW.list
           apply Wk.bin rfl rfl (fun w => by simp [go_sem] <;> rfl) (lt_of_ble rfl)
           apply Wk.asg (by conv => lhs; whnf) (lt_of_ble rfl)
           refine Wk.nil ?_
           refine AW.cond rfl (fun _ => ?_) (fun hc => by cases hc)
           have hv0 := hx2.2.2.2
           apply AW.draw (hm := hmix) (cs := _)
           · apply Wk.fad 3 0 false fd38_3 rfl (lt_of_ble rfl)
             apply Wk.ld (i := 70) 1 false ty3 rfl rfl (by conv => lhs; whnf) (lt_of_ble rfl)
             apply Wk.addi rfl rfl (by omega) (lt_of_ble rfl)
             apply Wk.lst 81 1 false [.int .i64 0] un80 ty3 ze3 rfl rfl (by rfl) (by rfl) (by decide) (by decide) rfl rfl (all_len rfl) (lt_of_ble rfl)
             apply Wk.mv (by conv => lhs; whnf) (lt_of_ble rfl)
             apply Wk.drw 0 pick_ok Tryd.func22 rfl rfl rfl rfl ⟨_, rfl, by omega⟩ (by omega) rfl (lt_of_ble rfl)
             rintro r9 zs9 p9 ⟨k9, rfl, hk9⟩ hp9
             have hk9' : k9 < 3 := by have := hk9 3 rfl; omega
             obtain ⟨v, hv, hv1, hv2⟩ : ∃ v : Int, partA (List.flatten [[A.d (.v (.int .i64 (-1)))], [A.d (.v (.int .i64 10000))], [A.d (.v (.int .i64 (x2.s + 1)))]]) (k9 * 1) 1 false = some (.d (.v (.int .i64 v))) ∧ -1 ≤ v ∧ v ≤ 10000 := by
               rcases (show k9 = 0 ∨ k9 = 1 ∨ k9 = 2 by omega) with rfl | rfl | rfl
               · exact ⟨_, rfl, by omega, by omega⟩
               · exact ⟨_, rfl, by omega, by omega⟩
               · exact ⟨_, rfl, by omega, by omega⟩
             apply Wk.iado 81 1 false un80 ty3 rfl rfl rfl hk9' (lt_of_ble rfl)
             apply Wk.ldo (i := 81) 1 false ty3 rfl rfl hv (lt_of_ble rfl)
             apply Wk.fad 3 0 false fd38_3 rfl (lt_of_ble rfl)
             apply Wk.sto (i := 70) 1 false ty3 rfl rfl rfl rfl (Nat.le_of_ble_eq_true rfl) (lt_of_ble rfl)
             refine Wk.nil ?_
             repeat (first | refine inBlockA_normal ?_ | refine thenA_normal ?_)
             exact ⟨(zs9, p9, { x2 with s := v }), ⟨by simp only; omega, ⟨hw2.1, hw2.2.1, hw2.2.2.1, ⟨hv1, hv2⟩⟩⟩, fin2 zs9 p9 { x2 with s := v } _ _ _ (asData_parts _) rfl rfl rfl rfl rfl rfl rfl rfl⟩
           · rfl
           · rfl
         · have hw2 := hx2.wide
           refine AW.seq ?_
           apply AW.list
           apply Wk.bin rfl rfl (fun w => by simp [go_sem] <;> rfl) (lt_of_ble rfl)
           apply Wk.asg (by conv => lhs; whnf) (lt_of_ble rfl)
           refine Wk.nil ?_
           refine AW.cond rfl (fun hc => by cases hc) (fun _ => ?_)
           refine AW.seq ?_
           apply AW.list
           apply Wk.bin rfl rfl (fun w => by simp [go_sem] <;> rfl) (lt_of_ble rfl)
           apply Wk.asg (by conv => lhs; whnf) (lt_of_ble rfl)
           refine Wk.nil ?_
           refine AW.cond rfl (fun hc => by cases hc) (fun _ => ?_)
           refine AW.seq ?_
           apply AW.list
           apply Wk.bin rfl rfl (fun w => by simp [go_sem] <;> rfl) (lt_of_ble rfl)
           apply Wk.asg (by conv => lhs; whnf) (lt_of_ble rfl)
           refine Wk.nil ?_
           refine AW.cond rfl (fun _ => ?_) (fun hc => by cases hc)
           have hlq := hx2.2.1.1
           apply AW.draw (hm := hmix) (cs := _)
           · apply Wk.fad 1 0 false fd38_1 rfl (lt_of_ble rfl)
             apply Wk.ld (i := 70) 1 false ty36 rfl rfl (by conv => lhs; whnf) (lt_of_ble rfl)
             apply Wk.mv (by conv => lhs; whnf) (lt_of_ble rfl)
             apply Wk.drw 0 partOr_ok Tryd.func60 rfl rfl rfl rfl ⟨_, rfl, by omega⟩ (by omega) rfl (lt_of_ble rfl)
             rintro r9 zs9 p9 ⟨sg, ln, bs, rfl, hs1, hl1, hb1⟩ hp9
             apply Wk.lst 93 3 true [.int .i64 0, .int .i64 0, .slice none 0 0] un36 ty77 ze77 rfl rfl (by rfl) (by rfl) (by decide) (by decide) rfl rfl (all_len rfl) (lt_of_ble rfl)
             apply Wk.appOO 66 93 3 un36 ap77 rfl rfl rfl rfl (by decide) (all_len rfl) (three_parts _) (by simp [piecesA]; omega) (lt_of_ble rfl)
             apply Wk.fad 1 0 false fd38_1 rfl (lt_of_ble rfl)
             apply Wk.sto (i := 70) 1 false ty36 rfl rfl rfl rfl (Nat.le_of_ble_eq_true rfl) (lt_of_ble rfl)
             have ha9 : asData (piecesA x2.qu ++ [[A.d (.v (.int .i64 sg)), A.d (.v (.int .i64 ln)), A.d (fbytes bs)]]) ((x2.qu ++ [(sg, ln, bs.map (·.val))]).map datD) := asData_more (asData_parts _) _ _ rfl
             have hq9 : (x2.qu ++ [(sg, ln, bs.map (·.val))]).length ≤ 25 ∧ ∀ d ∈ x2.qu ++ [(sg, ln, bs.map (·.val))], (Byt d.2.2 ∧ d.2.2.length ≤ 24) := by
               refine ⟨by simp only [List.length_append, List.length_singleton]; omega, fun d hd => ?_⟩
               rcases List.mem_append.1 hd with hd | hd
               · exact hx2.2.1.2 d hd
               · rw [List.mem_singleton.1 hd]; exact ⟨fin_byt bs, by simp; omega⟩
             refine Wk.nil ?_
             repeat (first | refine inBlockA_normal ?_ | refine thenA_normal ?_)
             exact ⟨(zs9, p9, { x2 with qu := x2.qu ++ [(sg, ln, bs.map (·.val))] }), ⟨by simp only; omega, ⟨hw2.1, hq9, hw2.2.2⟩⟩, fin2 zs9 p9 { x2 with qu := x2.qu ++ [(sg, ln, bs.map (·.val))] } _ _ _ ha9 rfl rfl rfl rfl rfl rfl rfl rfl⟩
           · rfl
           · rfl
         · have hw2 := hx2.wide
           refine AW.seq ?_
           apply AW.list
           apply Wk.bin rfl rfl (fun w => by simp [go_sem] <;> rfl) (lt_of_ble rfl)
           apply Wk.asg (by conv => lhs; whnf) (lt_of_ble rfl)
           refine Wk.nil ?_
           refine AW.cond rfl (fun hc => by cases hc) (fun _ => ?_)
           refine AW.seq ?_
           apply AW.list
           apply Wk.bin rfl rfl (fun w => by simp [go_sem] <;> rfl) (lt_of_ble rfl)
           apply Wk.asg (by conv => lhs; whnf) (lt_of_ble rfl)
           refine Wk.nil ?_
           refine AW.cond rfl (fun hc => by cases hc) (fun _ => ?_)
           refine AW.seq ?_
           apply AW.list
           apply Wk.bin rfl rfl (fun w => by simp [go_sem] <;> rfl) (lt_of_ble rfl)
           apply Wk.asg (by conv => lhs; whnf) (lt_of_ble rfl)
           refine Wk.nil ?_
           refine AW.cond rfl (fun hc => by cases hc) (fun _ => ?_)
           apply AW.list
           apply Wk.lst 59 1 false [.int .i64 0] un80 ty3 ze3 rfl rfl (by rfl) (by rfl) (by decide) (by decide) rfl rfl (all_len rfl) (lt_of_ble rfl)
           apply Wk.mv (by conv => lhs; whnf) (lt_of_ble rfl)
           apply Wk.drw 0 pick_ok Tryd.func22 rfl rfl rfl rfl ⟨_, rfl, by omega⟩ (by omega) rfl (lt_of_ble rfl)
           rintro r9 zs9 p9 ⟨k9, rfl, hk9⟩ hp9
           have hk9' : k9 < 2 := by have := hk9 2 rfl; omega
           obtain ⟨v, hv, hv1, hv2⟩ : ∃ v : Int, partA (List.flatten [[A.d (.v (.int .i64 (-1)))], [A.d (.v (.int .i64 10000))]]) (k9 * 1) 1 false = some (.d (.v (.int .i64 v))) ∧ -1 ≤ v ∧ v ≤ 10000 := by
             rcases (show k9 = 0 ∨ k9 = 1 by omega) with rfl | rfl
             · exact ⟨_, rfl, by omega, by omega⟩
             · exact ⟨_, rfl, by omega, by omega⟩
           apply Wk.iado 59 1 false un80 ty3 rfl rfl rfl hk9' (lt_of_ble rfl)
           apply Wk.ldo (i := 59) 1 false ty3 rfl rfl hv (lt_of_ble rfl)
           apply Wk.fad 2 0 false fd38_2 rfl (lt_of_ble rfl)
           apply Wk.sto (i := 70) 1 false ty3 rfl rfl rfl rfl (Nat.le_of_ble_eq_true rfl) (lt_of_ble rfl)
           refine Wk.nil ?_
           repeat (first | refine inBlockA_normal ?_ | refine thenA_normal ?_)
           exact ⟨(zs9, p9, { x2 with g := v }), ⟨by simp only; omega, ⟨hw2.1, hw2.2.1, ⟨hv1, hv2⟩, hw2.2.2.2⟩⟩, fin2 zs9 p9 { x2 with g := v } _ _ _ (asData_parts _) rfl rfl rfl rfl rfl rfl rfl rfl⟩
       · exact ⟨(zs3, p3, x2), ⟨by simp only; omega, hx2.wide⟩, fin2 zs3 p3 x2 _ _ _ (asData_parts _) rfl rfl rfl rfl rfl rfl rfl rfl⟩
     · rintro ⟨zs9, p9, x9⟩ ⟨hp9, hx9⟩
       simp only at hp9 hx9
       show AW Tryd.prog C _ _ (St.of 97 [(0, .ptr 0 0), (6, .ptr 6 0), (7, .ptr 70 0)] [(0, rdr zs9 p9), (6, .var cxN), (70, .var (cxC x9))])
       refine AW.seq ?_
       apply AW.list
       apply Wk.ld (i := 70) 5 true ty38 rfl rfl (by conv => lhs; whnf) (lt_of_ble rfl)
       apply Wk.sto (i := 6) 5 true ty38 rfl rfl rfl rfl (Nat.le_of_ble_eq_true rfl) (lt_of_ble rfl)
       refine Wk.nil (AW.ret ?_)
       exact RetQ.ret [(0, rdr zs9 p9)] (.cons ⟨6, 0, _, _, _, rfl, rfl, ty38, rfl⟩ .nil) ⟨⟨x9, rfl, hx9⟩, _, _, rfl, by omega⟩ (kept1 rfl)
 · rintro rest ⟨m, w, pp, u, y, nn, rfl, _⟩; rfl
 · rintro rest _; exact ⟨_, cx0, rfl, cx0_good.wide⟩
 · rintro rest r ⟨x, rfl, _⟩; rfl
end Go.Proofs.YthnlpdjjnfkmeaaDoor

/- The law of CrdTxOk, promise 43, returns true at every code. -/
namespace Go.Proofs.YthnlpdjjnfkmeaaDoor
open Go Go.RowKit
def ccxPost (_ : List A) (r : A) : Prop := ∃ (m w p u y : Int) (x : CX), r = .tup [cfgA m w p u y, cxA x] ∧ x.wide
set_option maxRecDepth 100000 in
theorem drawCrdTxOk_ok (zs : List (Fin 256)) : DataW Tryd.prog 16 [.d (bytesD (zs.map (·.val)))] (ccxPost []) := by
  refine ⟨?_, ⟨_, 0, 0, 0, 0, 0, cx0, rfl, cx0_good.wide⟩, ?_⟩
  · refine id ?_
    refine Spec.intro (n := 14) (rv := [.cell 2 35, .cell 3 38]) Tryd.func16 rfl rfl rfl (by simp) fun C hN hX => ?_
    refine AW.seq ?_
    apply AW.list
    apply Wk.alc 2 [.int .i64 0, .int .i64 0, .int .i64 0, .int .i64 0, .int .i64 0] ze35 rfl rfl (lt_of_ble rfl)
    apply Wk.alc 3 [.int .i64 0, .slice none 0 0, .int .i64 0, .int .i64 0, .bool false] ze38 rfl rfl (lt_of_ble rfl)
    refine Wk.nil ?_
    refine AW.seq ?_
    apply AW.list
    apply Wk.mv (by conv => lhs; whnf) (lt_of_ble rfl)
    apply Wk.opn open_ok Tryd.func21 rfl rfl rfl rfl (lt_of_ble rfl)
    rintro zs1
    apply Wk.asg (by conv => lhs; whnf) (lt_of_ble rfl)
    refine Wk.nil ?_
    refine AW.seq ?_
    apply AW.list
    apply Wk.mv (by conv => lhs; whnf) (lt_of_ble rfl)
    apply Wk.drw 0 cfg_ok Tryd.func37 rfl rfl rfl rfl ⟨12, rfl, by omega, by omega⟩ (by omega) rfl (lt_of_ble rfl)
    rintro r2 zs2 p2 ⟨m, w, s, t, y, rfl, hb, _⟩ hp2
    apply Wk.alc 50 [.int .i64 0, .int .i64 0, .int .i64 0, .int .i64 0, .int .i64 0] ze35 rfl rfl (lt_of_ble rfl)
    apply Wk.sto (i := 50) 5 true ty35 rfl rfl rfl rfl (Nat.le_of_ble_eq_true rfl) (lt_of_ble rfl)
    refine Wk.nil ?_
    refine AW.seq ?_
    apply AW.draw (hm := hmix) (cs := _)
    · apply Wk.ld (i := 50) 5 true ty35 rfl rfl (by conv => lhs; whnf) (lt_of_ble rfl)
      apply Wk.mv (by conv => lhs; whnf) (lt_of_ble rfl)
      apply Wk.ld (i := 50) 5 true ty35 rfl rfl (by conv => lhs; whnf) (lt_of_ble rfl)
      apply Wk.drw 0 l20Ctx_ok Tryd.func38 rfl rfl rfl rfl ⟨m, w, s, t, y, 2, rfl, hb, by omega, by omega⟩ (by omega) rfl (lt_of_ble rfl)
      rintro r3 zs3 p3 ⟨x, rfl, hx⟩ hp3
      apply Wk.sto (i := 2) 5 true ty35 rfl rfl rfl rfl (Nat.le_of_ble_eq_true rfl) (lt_of_ble rfl)
      apply Wk.sto (i := 3) 5 true ty38 rfl rfl rfl rfl (Nat.le_of_ble_eq_true rfl) (lt_of_ble rfl)
      refine Wk.nil (AW.ret ?_)
      exact RetQ.ret [] (.cons ⟨2, 0, _, _, _, rfl, rfl, ty35, rfl⟩ (.cons ⟨3, 0, _, _, _, rfl, rfl, ty38, rfl⟩ .nil)) ⟨⟨m, w, s, t, y, x, rfl, hx⟩, rfl⟩ none_kept
    · rfl
    · rfl
  · rintro r ⟨m, w, p, u, y, x, rfl, _⟩; rfl
theorem cx_more {o : Opt} {x : CX} (h : crdOkB o x = true) : crdOkB o { x with v := x.v + 1 } = false := by
  have f := crdOk_facts h
  cases hc : crdOkB o { x with v := x.v + 1 } with
  | false => rfl
  | true =>
    have f' := (crdOk_facts hc).2.2.2.2.2.1
    have f2 := f.2.2.2.2.2.1
    simp only at f'
    omega
theorem cx_sent {o : Opt} {x : CX} (h : crdOkB o x = true) (hg : x.g + 1 ≤ 9999) : crdOkB o { x with g := x.g + 1, s := x.s + 1 } = true := by
  simp only [crdOkB, Bool.and_eq_true, decide_eq_true_eq, inB_iff] at h ⊢
  obtain ⟨h1, h2, h3, h4, h5, h6, h7⟩ := h
  exact ⟨h1, h2, h3, by omega, by omega, by omega, h7⟩
theorem cx_sent_no {o : Opt} {x : CX} (hg : ¬ x.g + 1 ≤ 9999) : crdOkB o { x with g := x.g + 1, s := x.s + 1 } = false := by
  cases hc : crdOkB o { x with g := x.g + 1, s := x.s + 1 } with
  | false => rfl
  | true =>
    have f' := (crdOk_facts hc).2.2.2.1
    simp only at f'
    omega
namespace fnCrdTxOk
end fnCrdTxOk
end Go.Proofs.YthnlpdjjnfkmeaaDoor
