/- Laws and contracts that the proof stands on: AbsL20Ctx, AbsArr, AbsCopyI, AbsSender, AbsSender2, AbsTickI, AbsPutI. -/
import Derived.Test.YtdojkmjamilllaaMa
import Derived.Test.YtdojkmjamilllaaMb
import Derived.Test.YtdojkmjamilllaaMc
import Derived.Test.YtdojkmjamilllaaMd
import Derived.Test.YtdojkmjamilllaaMe
import Derived.Test.YtdojkmjamilllaaMf
import Derived.Laws.MakeOwn
/- Who sends for credits, drawn; over what values read as. Written by tools/mk_AbsL20Ctx.py. -/
namespace Go.Proofs.Ytdojkmjamilllaa
open Go Go.RowKit
def CX.good (x : CX) : Prop := (0 ≤ x.v ∧ x.v ≤ 255) ∧ (x.qu.length ≤ 24 ∧ ∀ d ∈ x.qu, d.2.2.length ≤ 24) ∧ (0 ≤ x.g ∧ x.g ≤ 9999) ∧ (0 ≤ x.s ∧ x.s ≤ 9999)
def CX.wide (x : CX) : Prop := (-1 ≤ x.v ∧ x.v ≤ 256) ∧ (x.qu.length ≤ 25 ∧ ∀ d ∈ x.qu, d.2.2.length ≤ 24) ∧ (-1 ≤ x.g ∧ x.g ≤ 10000) ∧ (-1 ≤ x.s ∧ x.s ≤ 10000)
theorem CX.good.wide {x : CX} (h : x.good) : x.wide := ⟨by have := h.1; omega, ⟨by have := h.2.1.1; omega, h.2.1.2⟩, by have := h.2.2.1; omega, by have := h.2.2.2; omega⟩
theorem CX.good.few {x : CX} (h : x.good) : x.few := ⟨by have := h.2.1.1; omega, fun d hd => by have := h.2.1.2 d hd; omega⟩
def cx0 : CX := ⟨0, [], 0, 0, false⟩
theorem cx0_good : cx0.good := by simp [CX.good, cx0]
def CxR (r : A) (bs : List (Nat × Bx)) : Prop := (∃ x : CX, x.good ∧ r = cxO x x.qu.length ∧ bs = cxB x.qu x.qu.length) ∨ (r = cxNil ∧ bs = [])
theorem CxR.in_ {r : A} {bs : List (Nat × Bx)} (h : CxR r bs) : r.within [66] = true ∧ ∀ i x, bs.lookup i = some x → i ∈ [66] ∧ x.within [66] = true := by
  rcases h with ⟨x, _, rfl, rfl⟩ | ⟨rfl, rfl⟩
  · exact ⟨in_cxO _ _, fun i z h => in_cxB h⟩
  · exact ⟨rfl, fun i z h => by cases h⟩
def cputPre (aas : List A) : Prop := ∃ (m w p u y : Int) (x : CX) (bs : List (Fin 256)), aas = [cfgA m w p u y, cxA x, .d (fbytes bs)] ∧ x.good ∧ bs.length ≤ 1000
def cputPost (_ : List A) (r : A) (bs : List (Nat × Bx)) : Prop := ∃ (T : A) (b : Bool), r = .tup [T, .d (.v (.bool b))] ∧ CxR T bs
def csendPre (aas : List A) : Prop := ∃ (m w p u y : Int) (x : CX), aas = [cfgA m w p u y, cxA x] ∧ x.good
def csendPost (_ : List A) (r : A) (bs : List (Nat × Bx)) : Prop := ∃ (T : A) (k s c : Int) (p f : Bool) (y g l : Int) (z : D) (b : Bool), r = .tup [T, frmZ k s c p f y g l z, .d (.v (.bool b))] ∧ CxR T bs
def ctakePre (aas : List A) : Prop := ∃ (m w p u y : Int) (x : CX) (n : Int), aas = [cfgA m w p u y, cxA x, .d (.v (.int .i64 n))] ∧ x.good
theorem cputW : FunX Try.prog 43 cputPre cputPost [66] := by
  refine ⟨?_, ?_, ?_⟩
  · rintro aas ⟨m, w, p, u, y, x, bs, rfl, hx, hl⟩
    cases hok : crdOkB ⟨m, w, p, u, y⟩ x
    · refine (scputNo m w p u y x (fbytes bs) hok).imp ?_
      rintro r bs' ⟨rfl, rfl⟩
      exact ⟨_, _, rfl, .inr ⟨rfl, rfl⟩⟩
    · have hcut := scut_ok (bs.map (·.val)) p (fin_byt bs) (by rw [List.length_map]; omega)
      have hcl := cutD_length (bs.map (·.val)) p
      have hcs := cutD_small (bs.map (·.val)) p (fin_byt bs)
      have hlq := hx.2.1.1
      by_cases hfull : fullC u x (bs.map (·.val)).length (cutD (bs.map (·.val)) p).length
      · refine (scputFull m w p u y x (bs.map (·.val)) _ hok hcut (by omega) (by omega) hx.few hfull).imp ?_
        rintro r bs' ⟨rfl, rfl⟩
        exact ⟨_, _, rfl, .inl ⟨x, hx, rfl, rfl⟩⟩
      · have hx' : CX.good { x with qu := x.qu ++ cutD (bs.map (·.val)) p } := by
          simp only [fullC, not_or] at hfull
          refine ⟨hx.1, ⟨by simp only [List.length_append]; omega, fun d hd => ?_⟩, hx.2.2⟩
          rcases List.mem_append.1 hd with hd | hd
          · exact hx.2.1.2 d hd
          · exact (hcs d hd).2
        refine (scputYes m w p u y x (bs.map (·.val)) _ hok hcut hx.few hx'.few hfull).imp ?_
        rintro r bs' ⟨rfl, rfl⟩
        exact ⟨_, _, rfl, .inl ⟨_, hx', rfl, rfl⟩⟩
  · rintro aas _
    exact ⟨_, _, cxNil, false, rfl, .inr ⟨rfl, rfl⟩⟩
  · rintro aas r bs ⟨T, b, rfl, h⟩
    have := h.in_
    exact ⟨by simp [A.within, A.withins, this.1], this.2⟩
theorem csendW : FunX Try.prog 107 csendPre csendPost [66] := by
  refine ⟨?_, ?_, ?_⟩
  · rintro aas ⟨m, w, p, u, y, x, rfl, hx⟩
    cases hok : crdOkB ⟨m, w, p, u, y⟩ x
    · refine (scsendNo m w p u y x hok).imp ?_
      rintro r bs' ⟨rfl, rfl⟩
      exact ⟨cxNil, 0, 0, 0, false, false, 0, 0, 0, .v (.slice none 0 0), false, rfl, .inr ⟨rfl, rfl⟩⟩
    · by_cases hi : idleC x
      · refine (scsendIdle m w p u y x hok hx.few hi).imp ?_
        rintro r bs' ⟨rfl, rfl⟩
        exact ⟨_, 0, 0, 0, false, false, 0, 0, 0, .v (.slice none 0 0), false, rfl, .inl ⟨_, hx, rfl, rfl⟩⟩
      · obtain ⟨v, qu, g, s, d⟩ := x
        simp only [idleC, not_or, Bool.not_eq_true] at hi
        obtain ⟨rfl, h2, h3, h4⟩ := hi
        obtain ⟨e, qs, rfl⟩ : ∃ e qs, qu = e :: qs := by
          cases qu with
          | nil => exact absurd rfl h3
          | cons e qs => exact ⟨e, qs, rfl⟩
        obtain ⟨g1, g2, g3, g4⟩ := hx
        simp only [List.length_cons] at g1 g2 g3 g4
        have hx' : CX.good ⟨v - 1, qs, g, s + 1, false⟩ := ⟨by simp only; omega, ⟨by simp only; omega, fun d hd => g2.2 d (List.mem_cons_of_mem _ hd)⟩, g3, by simp only; omega⟩
        refine (scsendOn m w p u y v (e :: qs) g s e qs rfl hok ⟨by simp only [List.length_cons]; omega, fun d hd => by have := g2.2 d hd; omega⟩ h2 h4).imp ?_
        rintro r bs' ⟨rfl, rfl⟩
        exact ⟨_, _, _, _, _, _, _, _, _, _, _, rfl, .inl ⟨_, hx', rfl, rfl⟩⟩
  · rintro aas _
    exact ⟨_, _, cxNil, 0, 0, 0, false, false, 0, 0, 0, .v (.slice none 0 0), false, rfl, .inr ⟨rfl, rfl⟩⟩
  · rintro aas r bs ⟨T, k, s, c, p, f, y, g, l, z, b, rfl, h⟩
    have := h.in_
    exact ⟨by simp [A.within, A.withins, this.1, frmZ, frmZC], this.2⟩
theorem ctakeW : FunX Try.prog 106 ctakePre (fun _ => CxR) [66] := by
  refine ⟨?_, ?_, fun aas r bs h => h.in_⟩
  · rintro aas ⟨m, w, p, u, y, x, n, rfl, hx⟩
    by_cases hno : crdOkB ⟨m, w, p, u, y⟩ x = false ∨ inB n 1 255 = false
    · refine (sctakeNo m w p u y x n hno).imp ?_
      rintro r bs' ⟨rfl, rfl⟩
      exact .inr ⟨rfl, rfl⟩
    · simp only [not_or, Bool.not_eq_false] at hno
      have hn := (inB_iff _ _ _).1 hno.2
      have hx' : (takeX x n).good := by
        unfold takeX
        split
        · exact hx
        · split
          · exact hx
          · rename_i h1 h2
            have g1 := hx.1
            have g3 := hx.2.2.1
            exact ⟨by simp only; omega, hx.2.1, by simp only; omega, hx.2.2.2⟩
      have e : (takeX x n).qu = x.qu := by unfold takeX; split <;> (try split) <;> rfl
      refine (sctakeYes m w p u y x n hno.1 hno.2 hx.few).imp ?_
      rintro r bs' ⟨rfl, rfl⟩
      exact .inl ⟨_, hx', by rw [e], by rw [e]⟩
  · rintro aas _
    exact ⟨_, _, .inr ⟨rfl, rfl⟩⟩
def cxPost (_ : List A) (r : A) : Prop := ∃ x : CX, r = cxA x ∧ x.wide
set_option maxHeartbeats 16000000 in
set_option maxRecDepth 100000 in
theorem l20Ctx_ok : DrawOk Try.prog 81 txPre cxPost 60000 := by
 refine DrawOk.zero ?_ ?_ ?_ ?_
 · rintro zs p rest ⟨m, w, pp, u, y, nn, rfl, hcf, hn, hn'⟩ hp
   refine Spec.intro (n := 97) (rv := [.cell 6 62]) Try.func81 rfl rfl rfl (by simp) fun C hN hX => ?_
   let inv : List (Fin 256) × Nat × Nat × CX → St := fun z => St.of 97 [(0, .ptr 0 0), (2, .d (.v (.int .i64 nn))), (4, .ptr 4 0), (6, .ptr 6 0), (7, .ptr 70 0), (8, .d (.v (.int .i64 (z.2.2.1 : Int))))] [(0, rdr z.1 z.2.1), (4, .var (cfgC m w pp u y)), (6, .var cxN), (66, .own z.2.2.2.qu.length 47 3 (piecesA z.2.2.2.qu)), (70, .var (cxOC z.2.2.2 z.2.2.2.qu.length))]
   let inv2 : List (Fin 256) × Nat × CX → St := fun z => St.of 97 [(0, .ptr 0 0), (6, .ptr 6 0), (7, .ptr 70 0)] [(0, rdr z.1 z.2.1), (6, .var cxN), (70, .var (cxC z.2.2))]
   have fin1 : ∀ (zs : List (Fin 256)) (p k : Nat) (x : CX) (σ : St), σ.n = 97 → σ.t 0 = .ptr 0 0 → σ.t 2 = .d (.v (.int .i64 nn)) → σ.t 4 = .ptr 4 0 → σ.t 6 = .ptr 6 0 → σ.t 7 = .ptr 70 0 → σ.t 8 = .d (.v (.int .i64 (k : Int))) → σ.b 0 = rdr zs p → σ.b 4 = .var (cfgC m w pp u y) → σ.b 6 = .var cxN → σ.b 70 = .var (cxOC x x.qu.length) → σ.b 66 = .own x.qu.length 47 3 (piecesA x.qu) →
       ∀ a w, Rel C σ a w → Rel C (inv (zs, p, k, x)) a w := fun zs p k x σ h0 h1 h2 h3 h4 h5 h6 h7 h8 h9 h10 h12 a w => Rel.keep ⟨h0.symm, .cons h1 rfl (.cons h2 rfl (.cons h3 rfl (.cons h4 rfl (.cons h5 rfl (.cons h6 rfl .nil))))), .cons h7 rfl (.cons h8 rfl (.cons h9 rfl (.cons h12 (within_parts _) (.cons h10 rfl .nil)))), hN.mono (by simp [keys])⟩
   have finN : ∀ (zs : List (Fin 256)) (p k : Nat) (σ : St), σ.n = 97 → σ.t 0 = .ptr 0 0 → σ.t 2 = .d (.v (.int .i64 nn)) → σ.t 4 = .ptr 4 0 → σ.t 6 = .ptr 6 0 → σ.t 7 = .ptr 70 0 → σ.t 8 = .d (.v (.int .i64 (k : Int))) → σ.b 0 = rdr zs p → σ.b 4 = .var (cfgC m w pp u y) → σ.b 6 = .var cxN → σ.b 70 = .var cxN →
       ∀ a w, Rel C σ a w → Rel C (inv (zs, p, k, cx0)) a w := by
     intro zs p k σ h0 h1 h2 h3 h4 h5 h6 h7 h8 h9 h10 a wd hR
     have g0 := Rel.keep (n := 97) (ts := [(0, .ptr 0 0), (2, .d (.v (.int .i64 nn))), (4, .ptr 4 0), (6, .ptr 6 0), (7, .ptr 70 0), (8, .d (.v (.int .i64 (k : Int))))]) (bs := [(0, rdr zs p), (4, .var (cfgC m w pp u y)), (6, .var cxN), (70, .var cxN)]) ⟨h0.symm, .cons h1 rfl (.cons h2 rfl (.cons h3 rfl (.cons h4 rfl (.cons h5 rfl (.cons h6 rfl .nil))))), .cons h7 rfl (.cons h8 rfl (.cons h9 rfl (.cons h10 rfl .nil))), hN.mono (by simp [keys])⟩ hR
     have g1 := Rel.nilc (j := 70) (c := 1) (i' := 66) 47 3 rfl rfl rfl g0
     exact fin1 zs p k cx0 _ rfl rfl rfl rfl rfl rfl rfl rfl rfl rfl rfl rfl a wd g1
   have fin2 : ∀ (zs : List (Fin 256)) (p : Nat) (x : CX) (l : Nat) (qs : List (List A)) (σ : St), asData qs (x.qu.map datD) → σ.n = 97 → σ.t 0 = .ptr 0 0 → σ.t 6 = .ptr 6 0 → σ.t 7 = .ptr 70 0 → σ.b 0 = rdr zs p → σ.b 6 = .var cxN → σ.b 70 = .var (cxOC x l) → σ.b 66 = .own l 47 3 qs →
       ∀ a w, Rel C σ a w → Rel C (inv2 (zs, p, x)) a w := by
     intro zs p x l qs σ hqs h0 h1 h2 h3 h4 h5 h6 h8 a w hR
     have g2 := Rel.thawc (j := 70) (c := 1) (i := 66) (k := l) _ h6 rfl h8 hqs (hX.one (by decide) h4) hR
     refine Rel.keep ?_ g2
     exact ⟨h0.symm, .cons h1 rfl (.cons h2 rfl (.cons h3 rfl .nil)), .cons h4 rfl (.cons h5 rfl (.cons rfl rfl .nil)), hN.mono (by simp [keys])⟩
   refine AW.seq ?_
   apply AW.list
   apply Wk.bx 4 rfl rfl (lt_of_ble rfl)
   apply Wk.alc 6 [.int .i64 0, .slice none 0 0, .int .i64 0, .int .i64 0, .bool false] ze62 rfl rfl (lt_of_ble rfl)
   refine Wk.nil ?_
   refine AW.seq ?_
   apply AW.list
   apply Wk.bld [.int .i64 0, .slice none 0 0, .int .i64 0, .int .i64 0, .bool false] [(0, 1), (1, 1), (2, 1), (3, 1), (4, 1)] bl62 rfl (by conv => lhs; whnf) (lt_of_ble rfl)
   apply Wk.alc 70 [.int .i64 0, .slice none 0 0, .int .i64 0, .int .i64 0, .bool false] ze62 rfl rfl (lt_of_ble rfl)
   apply Wk.sto (i := 70) 5 true ty62 rfl rfl rfl rfl (Nat.le_of_ble_eq_true rfl) (lt_of_ble rfl)
   refine Wk.nil ?_
   refine AW.seq (AW.seq ?_)
   apply AW.list
   apply Wk.mv (by conv => lhs; whnf) (lt_of_ble rfl)
   apply Wk.drw 0 pick_ok Try.func65 rfl rfl rfl rfl ⟨_, rfl, by omega⟩ (by omega) rfl (lt_of_ble rfl)
   rintro r1 zs1 p1 ⟨k1, rfl, hk1⟩ hp1
   apply Wk.asg (by conv => lhs; whnf) (lt_of_ble rfl)
   have hk1' : k1 < 16 := by have := hk1 16 rfl; omega
   refine Wk.nil (AW.block ?_)
   refine AW.loop inv (fun z => z.2.2.1 ≤ k1 ∧ z.2.1 + 3100 * z.2.2.1 ≤ p + 1 + 3100 * k1 ∧ z.2.2.2.good) (fun z => z.2.2.1) (zs1, p1, k1, cx0) ⟨Nat.le_refl _, by simp only; omega, cx0_good⟩ (finN zs1 p1 k1 _ rfl rfl rfl rfl rfl rfl rfl rfl rfl rfl rfl) ?_
   rintro ⟨zs2, p2, k2, x2⟩ ⟨hk2, hp2, hx2⟩
   simp only at hk2 hp2 hx2
   show AW Try.prog C _ _ (St.of 97 [(0, .ptr 0 0), (2, .d (.v (.int .i64 nn))), (4, .ptr 4 0), (6, .ptr 6 0), (7, .ptr 70 0), (8, .d (.v (.int .i64 (k2 : Int))))] [(0, rdr zs2 p2), (4, .var (cfgC m w pp u y)), (6, .var cxN), (66, .own x2.qu.length 47 3 (piecesA x2.qu)), (70, .var (cxOC x2 x2.qu.length))])
   refine AW.seq (AW.seq ?_)
   apply AW.list
   apply Wk.mv (by conv => lhs; whnf) (lt_of_ble rfl)
   apply Wk.bin rfl rfl (fun w => by simp [go_sem] <;> rfl) (lt_of_ble rfl)
   refine Wk.nil ?_
   refine AW.cond rfl (fun hc => ?_) (fun hc => ?_)
   · have hpos : 0 < k2 := by simpa using hc
     refine AW.skip ?_
     repeat (first | refine thenA_normal ?_ | refine inBlockA_normal ?_)
     refine AW.via inv (fun z => z.2.2.1 = k2 ∧ z.2.1 ≤ p2 + 3100 ∧ z.2.2.2.good) ?_ ?_
     · refine AW.block ?_
       refine AW.thawc (j := 70) (c := 1) (i := 66) _ rfl rfl rfl (asData_parts x2.qu) (hX.one (by decide) rfl) ?_
       refine AW.keep (n := 97) (ts := [(0, .ptr 0 0), (2, .d (.v (.int .i64 nn))), (4, .ptr 4 0), (6, .ptr 6 0), (7, .ptr 70 0), (8, .d (.v (.int .i64 (k2 : Int))))]) (bs := [(0, rdr zs2 p2), (4, .var (cfgC m w pp u y)), (6, .var cxN), (70, .var (cxC x2))]) ⟨rfl, .cons rfl rfl (.cons rfl rfl (.cons rfl rfl (.cons rfl rfl (.cons rfl rfl (.cons rfl rfl .nil))))), .cons rfl rfl (.cons rfl rfl (.cons rfl rfl (.cons rfl rfl .nil))), hN.mono (by simp [keys])⟩ ?_
       refine AW.seq ?_
       apply AW.list
       apply Wk.mv (by conv => lhs; whnf) (lt_of_ble rfl)
       apply Wk.drw 0 pick_ok Try.func65 rfl rfl rfl rfl ⟨_, rfl, by omega⟩ (by omega) rfl (lt_of_ble rfl)
       rintro r3 zs3 p3 ⟨k3, rfl, hk3⟩ hp3
       have hk3' : k3 < 4 := by have := hk3 4 rfl; omega
       refine Wk.nil (AW.block ?_)
       rcases (show k3 = 0 ∨ k3 = 1 ∨ k3 = 2 ∨ k3 = 3 by omega) with rfl | rfl | rfl | rfl
       · skip
         refine AW.seq (AW.seq ?_)
         apply AW.list
         apply Wk.bin rfl rfl (fun w => by simp [go_sem] <;> rfl) (lt_of_ble rfl)
         apply Wk.asg (by conv => lhs; whnf) (lt_of_ble rfl)
         refine Wk.nil ?_
         refine AW.cond rfl (fun _ => AW.skip ?_) (fun hc => by cases hc)
         repeat (first | refine thenA_normal ?_ | refine inBlockA_normal ?_)
         refine AW.cond rfl (fun _ => ?_) (fun hc => by cases hc)
         apply AW.draw (hm := hmix) (cs := _)
         · apply Wk.ld (i := 4) 5 true ty24 rfl rfl (by conv => lhs; whnf) (lt_of_ble rfl)
           apply Wk.ld (i := 70) 5 true ty62 rfl rfl (by conv => lhs; whnf) (lt_of_ble rfl)
           apply Wk.mv (by conv => lhs; whnf) (lt_of_ble rfl)
           apply Wk.fad 3 0 false fd24_3 rfl (lt_of_ble rfl)
           apply Wk.ld (i := 4) 1 false ty3 rfl rfl (by conv => lhs; whnf) (lt_of_ble rfl)
           apply Wk.drw 0 bytes_ok Try.func50 rfl rfl rfl rfl ⟨_, rfl, by omega⟩ (by omega) rfl (lt_of_ble rfl)
           rintro r4 zs4 p4 ⟨bs4, rfl, hb4⟩ hp4
           have hl4 : bs4.length ≤ 1000 := by rcases hb4 _ rfl with h | h <;> first | omega | (rw [h]; simp)
           apply Wk.fnx [66] cputW Try.func43 rfl rfl rfl ⟨m, w, pp, u, y, x2, bs4, rfl, hx2, hl4⟩ rfl (by simp; rfl) (lt_of_ble rfl)
           rintro r9 ex ⟨T, b9, rfl, ⟨x9, hx9, rfl, rfl⟩ | ⟨rfl, rfl⟩⟩
           · apply Wk.mv (by conv => lhs; whnf) (lt_of_ble rfl)
             apply Wk.ext rfl rfl (lt_of_ble rfl)
             apply Wk.ext rfl rfl (lt_of_ble rfl)
             apply Wk.sto (i := 70) 5 true ty62 rfl rfl rfl rfl (Nat.le_of_ble_eq_true rfl) (lt_of_ble rfl)
             refine Wk.nil ?_
             repeat (first | refine inBlockA_normal ?_ | refine thenA_normal ?_)
             exact ⟨(zs4, p4, k2, x9), ⟨rfl, by simp only; omega, hx9⟩, fin1 zs4 p4 k2 x9 _ rfl rfl rfl rfl rfl rfl rfl rfl rfl rfl rfl rfl⟩
           · apply Wk.mv (by conv => lhs; whnf) (lt_of_ble rfl)
             apply Wk.ext rfl rfl (lt_of_ble rfl)
             apply Wk.ext rfl rfl (lt_of_ble rfl)
             apply Wk.sto (i := 70) 5 true ty62 rfl rfl rfl rfl (Nat.le_of_ble_eq_true rfl) (lt_of_ble rfl)
             refine Wk.nil ?_
             repeat (first | refine inBlockA_normal ?_ | refine thenA_normal ?_)
             exact ⟨(zs4, p4, k2, cx0), ⟨rfl, by simp only; omega, cx0_good⟩, finN zs4 p4 k2 _ rfl rfl rfl rfl rfl rfl rfl rfl rfl rfl rfl⟩
         · rfl
         · rfl
       · skip
         refine AW.seq (AW.seq ?_)
         apply AW.list
         apply Wk.bin rfl rfl (fun w => by simp [go_sem] <;> rfl) (lt_of_ble rfl)
         apply Wk.asg (by conv => lhs; whnf) (lt_of_ble rfl)
         refine Wk.nil ?_
         refine AW.cond rfl (fun hc => by cases hc) (fun _ => ?_)
         apply AW.list
         apply Wk.bin rfl rfl (fun w => by simp [go_sem] <;> rfl) (lt_of_ble rfl)
         apply Wk.asg (by conv => lhs; whnf) (lt_of_ble rfl)
         refine Wk.nil (thenA_normal ?_)
         refine AW.cond rfl (fun _ => ?_) (fun hc => by cases hc)
         apply AW.draw (hm := hmix) (cs := _)
         · apply Wk.ld (i := 4) 5 true ty24 rfl rfl (by conv => lhs; whnf) (lt_of_ble rfl)
           apply Wk.ld (i := 70) 5 true ty62 rfl rfl (by conv => lhs; whnf) (lt_of_ble rfl)
           apply Wk.mv (by conv => lhs; whnf) (lt_of_ble rfl)
           apply Wk.fad 3 0 false fd24_3 rfl (lt_of_ble rfl)
           apply Wk.ld (i := 4) 1 false ty3 rfl rfl (by conv => lhs; whnf) (lt_of_ble rfl)
           apply Wk.drw 0 bytes_ok Try.func50 rfl rfl rfl rfl ⟨_, rfl, by omega⟩ (by omega) rfl (lt_of_ble rfl)
           rintro r4 zs4 p4 ⟨bs4, rfl, hb4⟩ hp4
           have hl4 : bs4.length ≤ 1000 := by rcases hb4 _ rfl with h | h <;> first | omega | (rw [h]; simp)
           apply Wk.fnx [66] cputW Try.func43 rfl rfl rfl ⟨m, w, pp, u, y, x2, bs4, rfl, hx2, hl4⟩ rfl (by simp; rfl) (lt_of_ble rfl)
           rintro r9 ex ⟨T, b9, rfl, ⟨x9, hx9, rfl, rfl⟩ | ⟨rfl, rfl⟩⟩
           · apply Wk.mv (by conv => lhs; whnf) (lt_of_ble rfl)
             apply Wk.ext rfl rfl (lt_of_ble rfl)
             apply Wk.ext rfl rfl (lt_of_ble rfl)
             apply Wk.sto (i := 70) 5 true ty62 rfl rfl rfl rfl (Nat.le_of_ble_eq_true rfl) (lt_of_ble rfl)
             refine Wk.nil ?_
             repeat (first | refine inBlockA_normal ?_ | refine thenA_normal ?_)
             exact ⟨(zs4, p4, k2, x9), ⟨rfl, by simp only; omega, hx9⟩, fin1 zs4 p4 k2 x9 _ rfl rfl rfl rfl rfl rfl rfl rfl rfl rfl rfl rfl⟩
           · apply Wk.mv (by conv => lhs; whnf) (lt_of_ble rfl)
             apply Wk.ext rfl rfl (lt_of_ble rfl)
             apply Wk.ext rfl rfl (lt_of_ble rfl)
             apply Wk.sto (i := 70) 5 true ty62 rfl rfl rfl rfl (Nat.le_of_ble_eq_true rfl) (lt_of_ble rfl)
             refine Wk.nil ?_
             repeat (first | refine inBlockA_normal ?_ | refine thenA_normal ?_)
             exact ⟨(zs4, p4, k2, cx0), ⟨rfl, by simp only; omega, cx0_good⟩, finN zs4 p4 k2 _ rfl rfl rfl rfl rfl rfl rfl rfl rfl rfl rfl⟩
         · rfl
         · rfl
       · skip
         refine AW.seq (AW.seq ?_)
         apply AW.list
         apply Wk.bin rfl rfl (fun w => by simp [go_sem] <;> rfl) (lt_of_ble rfl)
         apply Wk.asg (by conv => lhs; whnf) (lt_of_ble rfl)
         refine Wk.nil ?_
         refine AW.cond rfl (fun hc => by cases hc) (fun _ => ?_)
         apply AW.list
         apply Wk.bin rfl rfl (fun w => by simp [go_sem] <;> rfl) (lt_of_ble rfl)
         apply Wk.asg (by conv => lhs; whnf) (lt_of_ble rfl)
         refine Wk.nil (thenA_normal ?_)
         refine AW.cond rfl (fun hc => by cases hc) (fun _ => ?_)
         refine AW.seq ?_
         apply AW.list
         apply Wk.bin rfl rfl (fun w => by simp [go_sem] <;> rfl) (lt_of_ble rfl)
         apply Wk.asg (by conv => lhs; whnf) (lt_of_ble rfl)
         refine Wk.nil ?_
         refine AW.cond rfl (fun _ => ?_) (fun hc => by cases hc)
         apply AW.draw (hm := hmix) (cs := _)
         · apply Wk.ld (i := 4) 5 true ty24 rfl rfl (by conv => lhs; whnf) (lt_of_ble rfl)
           apply Wk.ld (i := 70) 5 true ty62 rfl rfl (by conv => lhs; whnf) (lt_of_ble rfl)
           apply Wk.mv (by conv => lhs; whnf) (lt_of_ble rfl)
           apply Wk.drw 0 pick_ok Try.func65 rfl rfl rfl rfl ⟨_, rfl, by omega⟩ (by omega) rfl (lt_of_ble rfl)
           rintro r4 zs4 p4 ⟨k4, rfl, hk4⟩ hp4
           have hk4i : (k4 : Int) < 6 := by have := hk4 6 rfl; omega
           apply Wk.addi rfl rfl (by omega) (lt_of_ble rfl)
           apply Wk.mv (by conv => lhs; whnf) (lt_of_ble rfl)
           apply Wk.drw 0 pick_ok Try.func65 rfl rfl rfl rfl ⟨_, rfl, by omega⟩ (by omega) rfl (lt_of_ble rfl)
           rintro r5 zs5 p5 ⟨k5, rfl, hk5⟩ hp5
           have hk5i : (k5 : Int) < 250 := by have := hk5 250 rfl; omega
           apply Wk.addi rfl rfl (by omega) (lt_of_ble rfl)
           apply Wk.lst 48 1 false [.int .i64 0] un83 ty3 ze3 rfl rfl (by rfl) (by rfl) (by decide) (by decide) rfl rfl (all_len rfl) (lt_of_ble rfl)
           apply Wk.mv (by conv => lhs; whnf) (lt_of_ble rfl)
           apply Wk.drw 0 pick_ok Try.func65 rfl rfl rfl rfl ⟨_, rfl, by omega⟩ (by omega) rfl (lt_of_ble rfl)
           rintro r6 zs6 p6 ⟨k9, rfl, hk9⟩ hp6
           have hk9' : k9 < 2 := by have := hk9 2 rfl; omega
           obtain ⟨v, hv⟩ : ∃ v : Int, partA (List.flatten [[A.d (.v (.int .i64 (1 + (k4 : Int))))], [A.d (.v (.int .i64 (1 + (k5 : Int))))]]) (k9 * 1) 1 false = some (.d (.v (.int .i64 v))) := by
             rcases (show k9 = 0 ∨ k9 = 1 by omega) with rfl | rfl <;> exact ⟨_, rfl⟩
           apply Wk.iado 48 1 false un83 ty3 rfl rfl rfl hk9' (lt_of_ble rfl)
           apply Wk.ldo (i := 48) 1 false ty3 rfl rfl hv (lt_of_ble rfl)
           apply Wk.fnx [66] ctakeW Try.func106 rfl rfl rfl ⟨m, w, pp, u, y, x2, v, rfl, hx2⟩ rfl (by simp; rfl) (lt_of_ble rfl)
           rintro r9 ex (⟨x9, hx9, rfl, rfl⟩ | ⟨rfl, rfl⟩)
           · apply Wk.sto (i := 70) 5 true ty62 rfl rfl rfl rfl (Nat.le_of_ble_eq_true rfl) (lt_of_ble rfl)
             refine Wk.nil ?_
             repeat (first | refine inBlockA_normal ?_ | refine thenA_normal ?_)
             exact ⟨(zs6, p6, k2, x9), ⟨rfl, by simp only; omega, hx9⟩, fin1 zs6 p6 k2 x9 _ rfl rfl rfl rfl rfl rfl rfl rfl rfl rfl rfl rfl⟩
           · apply Wk.sto (i := 70) 5 true ty62 rfl rfl rfl rfl (Nat.le_of_ble_eq_true rfl) (lt_of_ble rfl)
             refine Wk.nil ?_
             repeat (first | refine inBlockA_normal ?_ | refine thenA_normal ?_)
             exact ⟨(zs6, p6, k2, cx0), ⟨rfl, by simp only; omega, cx0_good⟩, finN zs6 p6 k2 _ rfl rfl rfl rfl rfl rfl rfl rfl rfl rfl rfl⟩
         · rfl
         · rfl
       · skip
         refine AW.seq (AW.seq ?_)
         apply AW.list
         apply Wk.bin rfl rfl (fun w => by simp [go_sem] <;> rfl) (lt_of_ble rfl)
         apply Wk.asg (by conv => lhs; whnf) (lt_of_ble rfl)
         refine Wk.nil ?_
         refine AW.cond rfl (fun hc => by cases hc) (fun _ => ?_)
         apply AW.list
         apply Wk.bin rfl rfl (fun w => by simp [go_sem] <;> rfl) (lt_of_ble rfl)
         apply Wk.asg (by conv => lhs; whnf) (lt_of_ble rfl)
         refine Wk.nil (thenA_normal ?_)
         refine AW.cond rfl (fun hc => by cases hc) (fun _ => ?_)
         refine AW.seq ?_
         apply AW.list
         apply Wk.bin rfl rfl (fun w => by simp [go_sem] <;> rfl) (lt_of_ble rfl)
         apply Wk.asg (by conv => lhs; whnf) (lt_of_ble rfl)
         refine Wk.nil ?_
         refine AW.cond rfl (fun hc => by cases hc) (fun _ => ?_)
         apply AW.list
         apply Wk.ld (i := 4) 5 true ty24 rfl rfl (by conv => lhs; whnf) (lt_of_ble rfl)
         apply Wk.ld (i := 70) 5 true ty62 rfl rfl (by conv => lhs; whnf) (lt_of_ble rfl)
         apply Wk.fnx [66] csendW Try.func107 rfl rfl rfl ⟨m, w, pp, u, y, x2, rfl, hx2⟩ rfl (by simp; rfl) (lt_of_ble rfl)
         rintro r9 ex ⟨T, i1, i2, i3, b1, b2, i4, i5, i6, z9, b9, rfl, ⟨x9, hx9, rfl, rfl⟩ | ⟨rfl, rfl⟩⟩
         · apply Wk.mv (by conv => lhs; whnf) (lt_of_ble rfl)
           apply Wk.ext rfl rfl (lt_of_ble rfl)
           apply Wk.ext rfl rfl (lt_of_ble rfl)
           apply Wk.ext rfl rfl (lt_of_ble rfl)
           apply Wk.sto (i := 70) 5 true ty62 rfl rfl rfl rfl (Nat.le_of_ble_eq_true rfl) (lt_of_ble rfl)
           refine Wk.nil ?_
           repeat (first | refine inBlockA_normal ?_ | refine thenA_normal ?_)
           exact ⟨(zs3, p3, k2, x9), ⟨rfl, by simp only; omega, hx9⟩, fin1 zs3 p3 k2 x9 _ rfl rfl rfl rfl rfl rfl rfl rfl rfl rfl rfl rfl⟩
         · apply Wk.mv (by conv => lhs; whnf) (lt_of_ble rfl)
           apply Wk.ext rfl rfl (lt_of_ble rfl)
           apply Wk.ext rfl rfl (lt_of_ble rfl)
           apply Wk.ext rfl rfl (lt_of_ble rfl)
           apply Wk.sto (i := 70) 5 true ty62 rfl rfl rfl rfl (Nat.le_of_ble_eq_true rfl) (lt_of_ble rfl)
           refine Wk.nil ?_
           repeat (first | refine inBlockA_normal ?_ | refine thenA_normal ?_)
           exact ⟨(zs3, p3, k2, cx0), ⟨rfl, by simp only; omega, cx0_good⟩, finN zs3 p3 k2 _ rfl rfl rfl rfl rfl rfl rfl rfl rfl rfl rfl⟩
     · rintro ⟨zs4, p4, k4, x4⟩ ⟨rfl, hp4, hx4⟩
       simp only at hp4 hx4 hk2 hp2 hpos ⊢
       show AW Try.prog C _ _ (St.of 97 [(0, .ptr 0 0), (2, .d (.v (.int .i64 nn))), (4, .ptr 4 0), (6, .ptr 6 0), (7, .ptr 70 0), (8, .d (.v (.int .i64 (k4 : Int))))] [(0, rdr zs4 p4), (4, .var (cfgC m w pp u y)), (6, .var cxN), (66, .own x4.qu.length 47 3 (piecesA x4.qu)), (70, .var (cxOC x4 x4.qu.length))])
       apply AW.list
       apply Wk.mv (by conv => lhs; whnf) (lt_of_ble rfl)
       apply Wk.subn (b := 1) rfl rfl (by omega) (by omega) (lt_of_ble rfl)
       apply Wk.asg (by conv => lhs; whnf) (lt_of_ble rfl)
       refine Wk.nil ?_
       exact ⟨(zs4, p4, k4 - 1, x4), ⟨by simp only; omega, by simp only; omega, hx4⟩, by simp only; omega, fin1 zs4 p4 (k4 - 1) x4 _ rfl rfl rfl rfl rfl rfl rfl rfl rfl rfl rfl rfl⟩
   · obtain rfl : k2 = 0 := by simp at hc; omega
     refine AW.exit ?_
     repeat (first | refine inBlockA_same ?_ | refine thenA_exit ?_)
     repeat (first | refine thenA_normal ?_ | refine inBlockA_normal ?_)
     refine AW.via inv2 (fun z => z.2.1 ≤ p + 59999 ∧ z.2.2.wide) ?_ ?_
     · refine AW.seq ?_
       apply AW.list
       apply Wk.mv (by conv => lhs; whnf) (lt_of_ble rfl)
       apply Wk.mv (by conv => lhs; whnf) (lt_of_ble rfl)
       apply Wk.drw 0 odd_ok Try.func84 rfl rfl rfl rfl ⟨_, rfl, by omega⟩ (by omega) rfl (lt_of_ble rfl)
       rintro r3 zs3 p3 ⟨b3, rfl, _⟩ hp3
       refine Wk.nil ?_
       refine AW.cond rfl (fun hc => ?_) (fun hc => AW.skip (thenA_normal ?_))
       · refine AW.seq ?_
         apply AW.list
         apply Wk.mv (by conv => lhs; whnf) (lt_of_ble rfl)
         apply Wk.drw 0 pick_ok Try.func65 rfl rfl rfl rfl ⟨_, rfl, by omega⟩ (by omega) rfl (lt_of_ble rfl)
         rintro r4 zs4 p4 ⟨k4, rfl, hk4⟩ hp4
         have hk4' : k4 < 4 := by have := hk4 4 rfl; omega
         refine Wk.nil (AW.block ?_)
         rcases (show k4 = 0 ∨ k4 = 1 ∨ k4 = 2 ∨ k4 = 3 by omega) with rfl | rfl | rfl | rfl
         · have hw2 := hx2.wide
           refine AW.seq ?_
           apply AW.list
           apply Wk.bin rfl rfl (fun w => by simp [go_sem] <;> rfl) (lt_of_ble rfl)
           apply Wk.asg (by conv => lhs; whnf) (lt_of_ble rfl)
           refine Wk.nil ?_
           refine AW.cond rfl (fun _ => ?_) (fun hc => by cases hc)
           have hv0 := hx2.1
           apply AW.draw (hm := hmix) (cs := _)
           · apply Wk.fad 0 0 false fd62_0 rfl (lt_of_ble rfl)
             apply Wk.ld (i := 70) 1 false ty3 rfl rfl (by conv => lhs; whnf) (lt_of_ble rfl)
             apply Wk.addi rfl rfl (by omega) (lt_of_ble rfl)
             apply Wk.lst 71 1 false [.int .i64 0] un83 ty3 ze3 rfl rfl (by rfl) (by rfl) (by decide) (by decide) rfl rfl (all_len rfl) (lt_of_ble rfl)
             apply Wk.mv (by conv => lhs; whnf) (lt_of_ble rfl)
             apply Wk.drw 0 pick_ok Try.func65 rfl rfl rfl rfl ⟨_, rfl, by omega⟩ (by omega) rfl (lt_of_ble rfl)
             rintro r9 zs9 p9 ⟨k9, rfl, hk9⟩ hp9
             have hk9' : k9 < 3 := by have := hk9 3 rfl; omega
             obtain ⟨v, hv, hv1, hv2⟩ : ∃ v : Int, partA (List.flatten [[A.d (.v (.int .i64 (-1)))], [A.d (.v (.int .i64 256))], [A.d (.v (.int .i64 (x2.v + 1)))]]) (k9 * 1) 1 false = some (.d (.v (.int .i64 v))) ∧ -1 ≤ v ∧ v ≤ 256 := by
               rcases (show k9 = 0 ∨ k9 = 1 ∨ k9 = 2 by omega) with rfl | rfl | rfl
               · exact ⟨_, rfl, by omega, by omega⟩
               · exact ⟨_, rfl, by omega, by omega⟩
               · exact ⟨_, rfl, by omega, by omega⟩
             apply Wk.iado 71 1 false un83 ty3 rfl rfl rfl hk9' (lt_of_ble rfl)
             apply Wk.ldo (i := 71) 1 false ty3 rfl rfl hv (lt_of_ble rfl)
             apply Wk.fad 0 0 false fd62_0 rfl (lt_of_ble rfl)
             apply Wk.sto (i := 70) 1 false ty3 rfl rfl rfl rfl (Nat.le_of_ble_eq_true rfl) (lt_of_ble rfl)
             refine Wk.nil ?_
             repeat (first | refine inBlockA_normal ?_ | refine thenA_normal ?_)
             exact ⟨(zs9, p9, { x2 with v := v }), ⟨by simp only; omega, ⟨⟨hv1, hv2⟩, hw2.2⟩⟩, fin2 zs9 p9 { x2 with v := v } _ _ _ (asData_parts _) rfl rfl rfl rfl rfl rfl rfl rfl⟩
           · rfl
           · rfl
         · have hw2 := hx2.wide
           refine AW.seq ?_
           apply AW.list
           apply Wk.bin rfl rfl (fun w => by simp [go_sem] <;> rfl) (lt_of_ble rfl)
           apply Wk.asg (by conv => lhs; whnf) (lt_of_ble rfl)
           refine Wk.nil ?_
           refine AW.cond rfl (fun hc => by cases hc) (fun _ => ?_)
           refine AW.seq ?_
           apply AW.list
           apply Wk.bin rfl rfl (fun w => by simp [go_sem] <;> rfl) (lt_of_ble rfl)
           apply Wk.asg (by conv => lhs; whnf) (lt_of_ble rfl)
           refine Wk.nil ?_
           refine AW.cond rfl (fun _ => ?_) (fun hc => by cases hc)
           have hv0 := hx2.2.2.2
           apply AW.draw (hm := hmix) (cs := _)
           · apply Wk.fad 3 0 false fd62_3 rfl (lt_of_ble rfl)
             apply Wk.ld (i := 70) 1 false ty3 rfl rfl (by conv => lhs; whnf) (lt_of_ble rfl)
             apply Wk.addi rfl rfl (by omega) (lt_of_ble rfl)
             apply Wk.lst 81 1 false [.int .i64 0] un83 ty3 ze3 rfl rfl (by rfl) (by rfl) (by decide) (by decide) rfl rfl (all_len rfl) (lt_of_ble rfl)
             apply Wk.mv (by conv => lhs; whnf) (lt_of_ble rfl)
             apply Wk.drw 0 pick_ok Try.func65 rfl rfl rfl rfl ⟨_, rfl, by omega⟩ (by omega) rfl (lt_of_ble rfl)
             rintro r9 zs9 p9 ⟨k9, rfl, hk9⟩ hp9
             have hk9' : k9 < 3 := by have := hk9 3 rfl; omega
             obtain ⟨v, hv, hv1, hv2⟩ : ∃ v : Int, partA (List.flatten [[A.d (.v (.int .i64 (-1)))], [A.d (.v (.int .i64 10000))], [A.d (.v (.int .i64 (x2.s + 1)))]]) (k9 * 1) 1 false = some (.d (.v (.int .i64 v))) ∧ -1 ≤ v ∧ v ≤ 10000 := by
               rcases (show k9 = 0 ∨ k9 = 1 ∨ k9 = 2 by omega) with rfl | rfl | rfl
               · exact ⟨_, rfl, by omega, by omega⟩
               · exact ⟨_, rfl, by omega, by omega⟩
               · exact ⟨_, rfl, by omega, by omega⟩
             apply Wk.iado 81 1 false un83 ty3 rfl rfl rfl hk9' (lt_of_ble rfl)
             apply Wk.ldo (i := 81) 1 false ty3 rfl rfl hv (lt_of_ble rfl)
             apply Wk.fad 3 0 false fd62_3 rfl (lt_of_ble rfl)
             apply Wk.sto (i := 70) 1 false ty3 rfl rfl rfl rfl (Nat.le_of_ble_eq_true rfl) (lt_of_ble rfl)
             refine Wk.nil ?_
             repeat (first | refine inBlockA_normal ?_ | refine thenA_normal ?_)
             exact ⟨(zs9, p9, { x2 with s := v }), ⟨by simp only; omega, ⟨hw2.1, hw2.2.1, hw2.2.2.1, ⟨hv1, hv2⟩⟩⟩, fin2 zs9 p9 { x2 with s := v } _ _ _ (asData_parts _) rfl rfl rfl rfl rfl rfl rfl rfl⟩
           · rfl
           · rfl
         · have hw2 := hx2.wide
           refine AW.seq ?_
           apply AW.list
           apply Wk.bin rfl rfl (fun w => by simp [go_sem] <;> rfl) (lt_of_ble rfl)
           apply Wk.asg (by conv => lhs; whnf) (lt_of_ble rfl)
           refine Wk.nil ?_
           refine AW.cond rfl (fun hc => by cases hc) (fun _ => ?_)
           refine AW.seq ?_
           apply AW.list
           apply Wk.bin rfl rfl (fun w => by simp [go_sem] <;> rfl) (lt_of_ble rfl)
           apply Wk.asg (by conv => lhs; whnf) (lt_of_ble rfl)
           refine Wk.nil ?_
           refine AW.cond rfl (fun hc => by cases hc) (fun _ => ?_)
           refine AW.seq ?_
           apply AW.list
           apply Wk.bin rfl rfl (fun w => by simp [go_sem] <;> rfl) (lt_of_ble rfl)
           apply Wk.asg (by conv => lhs; whnf) (lt_of_ble rfl)
           refine Wk.nil ?_
           refine AW.cond rfl (fun _ => ?_) (fun hc => by cases hc)
           have hlq := hx2.2.1.1
           apply AW.draw (hm := hmix) (cs := _)
           · apply Wk.fad 1 0 false fd62_1 rfl (lt_of_ble rfl)
             apply Wk.ld (i := 70) 1 false ty25 rfl rfl (by conv => lhs; whnf) (lt_of_ble rfl)
             apply Wk.mv (by conv => lhs; whnf) (lt_of_ble rfl)
             apply Wk.drw 0 partOr_ok Try.func86 rfl rfl rfl rfl ⟨_, rfl, by omega⟩ (by omega) rfl (lt_of_ble rfl)
             rintro r9 zs9 p9 ⟨sg, ln, bs, rfl, hs1, hl1, hb1⟩ hp9
             apply Wk.lst 93 3 true [.int .i64 0, .int .i64 0, .slice none 0 0] un25 ty47 ze47 rfl rfl (by rfl) (by rfl) (by decide) (by decide) rfl rfl (all_len rfl) (lt_of_ble rfl)
             apply Wk.appOO 66 93 3 un25 ap47 rfl rfl rfl rfl (by decide) (all_len rfl) (three_parts _) (by simp [piecesA]; omega) (lt_of_ble rfl)
             apply Wk.fad 1 0 false fd62_1 rfl (lt_of_ble rfl)
             apply Wk.sto (i := 70) 1 false ty25 rfl rfl rfl rfl (Nat.le_of_ble_eq_true rfl) (lt_of_ble rfl)
             have ha9 : asData (piecesA x2.qu ++ [[A.d (.v (.int .i64 sg)), A.d (.v (.int .i64 ln)), A.d (fbytes bs)]]) ((x2.qu ++ [(sg, ln, bs.map (·.val))]).map datD) := asData_more (asData_parts _) _ _ rfl
             have hq9 : (x2.qu ++ [(sg, ln, bs.map (·.val))]).length ≤ 25 ∧ ∀ d ∈ x2.qu ++ [(sg, ln, bs.map (·.val))], d.2.2.length ≤ 24 := by
               refine ⟨by simp only [List.length_append, List.length_singleton]; omega, fun d hd => ?_⟩
               rcases List.mem_append.1 hd with hd | hd
               · exact hx2.2.1.2 d hd
               · rw [List.mem_singleton.1 hd]; simp; omega
             refine Wk.nil ?_
             repeat (first | refine inBlockA_normal ?_ | refine thenA_normal ?_)
             exact ⟨(zs9, p9, { x2 with qu := x2.qu ++ [(sg, ln, bs.map (·.val))] }), ⟨by simp only; omega, ⟨hw2.1, hq9, hw2.2.2⟩⟩, fin2 zs9 p9 { x2 with qu := x2.qu ++ [(sg, ln, bs.map (·.val))] } _ _ _ ha9 rfl rfl rfl rfl rfl rfl rfl rfl⟩
           · rfl
           · rfl
         · have hw2 := hx2.wide
           refine AW.seq ?_
           apply AW.list
           apply Wk.bin rfl rfl (fun w => by simp [go_sem] <;> rfl) (lt_of_ble rfl)
           apply Wk.asg (by conv => lhs; whnf) (lt_of_ble rfl)
           refine Wk.nil ?_
           refine AW.cond rfl (fun hc => by cases hc) (fun _ => ?_)
           refine AW.seq ?_
           apply AW.list
           apply Wk.bin rfl rfl (fun w => by simp [go_sem] <;> rfl) (lt_of_ble rfl)
           apply Wk.asg (by conv => lhs; whnf) (lt_of_ble rfl)
           refine Wk.nil ?_
           refine AW.cond rfl (fun hc => by cases hc) (fun _ => ?_)
           refine AW.seq ?_
           apply AW.list
           apply Wk.bin rfl rfl (fun w => by simp [go_sem] <;> rfl) (lt_of_ble rfl)
           apply Wk.asg (by conv => lhs; whnf) (lt_of_ble rfl)
           refine Wk.nil ?_
           refine AW.cond rfl (fun hc => by cases hc) (fun _ => ?_)
           apply AW.list
           apply Wk.lst 59 1 false [.int .i64 0] un83 ty3 ze3 rfl rfl (by rfl) (by rfl) (by decide) (by decide) rfl rfl (all_len rfl) (lt_of_ble rfl)
           apply Wk.mv (by conv => lhs; whnf) (lt_of_ble rfl)
           apply Wk.drw 0 pick_ok Try.func65 rfl rfl rfl rfl ⟨_, rfl, by omega⟩ (by omega) rfl (lt_of_ble rfl)
           rintro r9 zs9 p9 ⟨k9, rfl, hk9⟩ hp9
           have hk9' : k9 < 2 := by have := hk9 2 rfl; omega
           obtain ⟨v, hv, hv1, hv2⟩ : ∃ v : Int, partA (List.flatten [[A.d (.v (.int .i64 (-1)))], [A.d (.v (.int .i64 10000))]]) (k9 * 1) 1 false = some (.d (.v (.int .i64 v))) ∧ -1 ≤ v ∧ v ≤ 10000 := by
             rcases (show k9 = 0 ∨ k9 = 1 by omega) with rfl | rfl
             · exact ⟨_, rfl, by omega, by omega⟩
             · exact ⟨_, rfl, by omega, by omega⟩
           apply Wk.iado 59 1 false un83 ty3 rfl rfl rfl hk9' (lt_of_ble rfl)
           apply Wk.ldo (i := 59) 1 false ty3 rfl rfl hv (lt_of_ble rfl)
           apply Wk.fad 2 0 false fd62_2 rfl (lt_of_ble rfl)
           apply Wk.sto (i := 70) 1 false ty3 rfl rfl rfl rfl (Nat.le_of_ble_eq_true rfl) (lt_of_ble rfl)
           refine Wk.nil ?_
           repeat (first | refine inBlockA_normal ?_ | refine thenA_normal ?_)
           exact ⟨(zs9, p9, { x2 with g := v }), ⟨by simp only; omega, ⟨hw2.1, hw2.2.1, ⟨hv1, hv2⟩, hw2.2.2.2⟩⟩, fin2 zs9 p9 { x2 with g := v } _ _ _ (asData_parts _) rfl rfl rfl rfl rfl rfl rfl rfl⟩
       · exact ⟨(zs3, p3, x2), ⟨by simp only; omega, hx2.wide⟩, fin2 zs3 p3 x2 _ _ _ (asData_parts _) rfl rfl rfl rfl rfl rfl rfl rfl⟩
     · rintro ⟨zs9, p9, x9⟩ ⟨hp9, hx9⟩
       simp only at hp9 hx9
       show AW Try.prog C _ _ (St.of 97 [(0, .ptr 0 0), (6, .ptr 6 0), (7, .ptr 70 0)] [(0, rdr zs9 p9), (6, .var cxN), (70, .var (cxC x9))])
       refine AW.seq ?_
       apply AW.list
       apply Wk.ld (i := 70) 5 true ty62 rfl rfl (by conv => lhs; whnf) (lt_of_ble rfl)
       apply Wk.sto (i := 6) 5 true ty62 rfl rfl rfl rfl (Nat.le_of_ble_eq_true rfl) (lt_of_ble rfl)
       refine Wk.nil (AW.ret ?_)
       exact RetQ.ret [(0, rdr zs9 p9)] (.cons ⟨6, 0, _, _, _, rfl, rfl, ty62, rfl⟩ .nil) ⟨⟨x9, rfl, hx9⟩, _, _, rfl, by omega⟩ (kept1 rfl)
 · rintro rest ⟨m, w, pp, u, y, nn, rfl, _⟩; rfl
 · rintro rest _; exact ⟨_, cx0, rfl, cx0_good.wide⟩
 · rintro rest r ⟨x, rfl, _⟩; rfl
end Go.Proofs.Ytdojkmjamilllaa

/- An element's address in an array that lies in a variable; a list of pieces is made, with room. -/
namespace Go.Proofs.Ytdojkmjamilllaa
open Go Go.RowKit
section
variable {P : Program} {C : Ctx} {ops : Array Oper} {os : List Oper} {cs : List Cert} {σ : St} {K : St → Prop} {d : Nat} {ty : TypeId} {pos : String} {af : Array Edge}
def rIArr (x y : Operand) (sz len : Nat) (σ : St) : Option A :=
  match aev σ x, aev σ y with
  | .ptr i o, .d (.v (.int _ n)) => if 0 ≤ n ∧ n < (len : Int) then some (.ptr i (o + n.toNat * sz)) else none
  | _, _ => none
theorem ok_iarr {xt e : TypeId} {x y : Operand} {sz len : Nat} {row : Bool} (hu : P.underlying xt = some (.array len e)) (ht : tyOf P e = some (sz, row)) :
    OpOk P C ops ⟨some d, .indexAddr xt x y, ty, pos, af, none⟩ ⟨kof x ++ kof y, [T d], beh1 (rIArr x y sz len) d⟩ :=
  OpOk.read rfl rfl (fun σ => by unfold rIArr; rw [aev_mask (fun k h => List.mem_append_left _ h), aev_mask (fun k h => List.mem_append_right _ h)]) fun σ a w F E H r hR h => by
    unfold rIArr at h
    split at h
    · rename_i i o kd n he hi
      split at h
      · rename_i hc
        obtain rfl := Option.some.inj h
        have hd2 := hR.ev y
        rw [hi] at hd2
        have e2 := den_v hd2
        have hd1 := hR.ev x
        rw [he] at hd1
        obtain ⟨b, hE, hv⟩ := den_ptr hd1
        refine ⟨.pointer (some ⟨b, o + n.toNat * sz, none⟩), ?_, .ptr i _ b hE⟩
        simp [execOp, hv, e2, Instr.indexAt, asIntOf, run_underlying hu, run_size ht, hc, Instr.sureAddr, add_at']
      · cases h
    · cases h
theorem Wk.iap {xt e : TypeId} {x y : Operand} (sz len : Nat) (row : Bool) {kd : IntKind} {i o k : Nat} (hu : P.underlying xt = some (.array len e)) (ht : tyOf P e = some (sz, row)) (hx : aev σ x = .ptr i o) (hy : aev σ y = .d (.v (.int kd (k : Int))))
    (hk : k < len) (hd : d < σ.n) (h : Wk P C ops os cs (σ.put (T d) (.a (.ptr i (o + k * sz)))) K) :
    Wk P C ops (⟨some d, .indexAddr xt x y, ty, pos, af, none⟩ :: os) (⟨kof x ++ kof y, [T d], beh1 (rIArr x y sz len) d⟩ :: cs) σ K :=
  Wk.read (ok_iarr hu ht) _ hd (by simp only [rIArr, hx, hy]; rw [if_pos ⟨by omega, by omega⟩]; simp) h
end
section
variable {C : Ctx} {ops : Array Oper} {os : List Oper} {cs : List Cert} {σ : St} {K : St → Prop} {d : Nat} {ty : TypeId} {pos : String} {af : Array Edge}
def rMkP (x y : Operand) (i : Nat) (e : TypeId) (σ : St) : Option (List V) :=
  match aev σ x, aev σ y, σ.b i with
  | .d (.v (.int .i64 m)), .d (.v (.int .i64 n)), .fresh => if m = 0 ∧ 0 ≤ n ∧ n ≤ 1000 then some [.a (.own i 0), .b (.own 0 e 3 [])] else none
  | _, _, _ => none
set_option maxRecDepth 100000 in
theorem ok_mkp {x y : Operand} (i : Nat) : OpOk Try.prog C ops ⟨some d, .makeSlice 25 x y, ty, pos, af, none⟩ ⟨(kof x ++ kof y) ++ [B i], [T d, B i], behs (rMkP x y i 47) d⟩ :=
  OpOk.turn rfl (by simp [dstIn]) (fun σ => by unfold rMkP; rw [aev_mask fun k hk => List.mem_append_left _ (List.mem_append_left _ hk), aev_mask fun k hk => List.mem_append_left _ (List.mem_append_right _ hk), bx_mask (by simp)]) fun σ a w F E H K Q us hR hd h hK => by
    unfold rMkP at h
    split at h
    · rename_i m n hx hy hb
      split at h
      · rename_i hn
        obtain ⟨rfl, hn0, hn1⟩ := hn
        obtain rfl := Option.some.inj h
        obtain ⟨c, rfl⟩ := Int.eq_ofNat_of_zero_le hn0
        have hvx : a.eval x = .int .i64 0 := by
          have := hR.ev x
          rw [hx] at this
          exact den_v this
        have hvy : a.eval y = .int .i64 (c : Int) := by
          have := hR.ev y
          rw [hy] at this
          exact den_v this
        obtain ⟨i0, hi, hz0, hz1, hz2⟩ := info_parts Try.infoP
        obtain ⟨w', hr, ho, hg⟩ := run_makeSlice_owned (P := Try.prog) w 0 25 47 i0 _ 3 Try.underlying25 hi hz0 hz1 .i64 .i64 c (by omega) (by rw [hz2]; omega) (by unfold maxLen; omega) (Nat.zero_le _)
        have hfr := hR.env.box i
        rw [hb] at hfr
        have hset := hR.setown (i := i) (k := 0) (sz := 3) (e := 47) (es := []) (v := .slice (some ⟨w.heap.size, 0, none⟩) 0 c) (w' := w') (fun b hbk => by rw [hb] at hbk; cases hbk) (fun q _ => hfr.2 q) (by rw [hb]; exact hg)
          ho (by intro c hc; cases hc) Pw.nil (.inr (.inr rfl))
        unfold Oper.wp
        have hrun : (execOp a.eval ⟨some d, .makeSlice 25 x y, ty, pos, af, none⟩).run Try.prog w = .ok (.value (.slice (some ⟨w.heap.size, 0, none⟩) 0 c)) w' := by simp only [execOp, Sem.run_bind, hvx, hvy, hr, Result.andThen_ok, Sem.run_pure]
        rw [hrun, Oper.upon_value]
        refine hK _ _ ?_
        exact (RelE.put (d := d) (r := .own i 0) hset hd (.own i 0 _ (upd2_same _ _ _ _) rfl)).r
      · cases h
    · cases h
set_option maxRecDepth 100000 in
theorem Wk.mkp {x y : Operand} (i n : Nat) (hx : aev σ x = .d (.v (.int .i64 0))) (hy : aev σ y = .d (.v (.int .i64 (n : Int)))) (hb : σ.b i = .fresh) (hn : n ≤ 1000) (hd : d < σ.n) (h : Wk Try.prog C ops os cs ((σ.put (T d) (.a (.own i 0))).put (B i) (.b (.own 0 47 3 []))) K) :
    Wk Try.prog C ops (⟨some d, .makeSlice 25 x y, ty, pos, af, none⟩ :: os) (⟨(kof x ++ kof y) ++ [B i], [T d, B i], behs (rMkP x y i 47) d⟩ :: cs) σ K :=
  Wk.turn (ok_mkp i) [.a (.own i 0), .b (.own 0 47 3 [])] hd (by simp only [rMkP, hx, hy, hb]; rw [if_pos ⟨trivial, by omega, by omega⟩]) h
end
theorem ua107 : Try.prog.underlying 107 = some (.array 4 47) := by kernel_rfl
end Go.Proofs.Ytdojkmjamilllaa

/- Copies of pieces, in new memory: the program's. Written by tools/mk_AbsCopyI.py. -/
namespace Go.Proofs.Ytdojkmjamilllaa
open Go Go.RowKit
theorem asData_rows' (zs : List Nat) : asData ((zs.map fun z : Nat => [D.v (.int .u8 (z : Int))]).map (·.map A.d)) (zs.map fun z : Nat => [.v (.int .u8 (z : Int))]) := by
  simp [asData, nrms, nrm]
set_option maxRecDepth 100000 in
theorem inew_ok (d : Dat) (hd : d.2.2.length ≤ 1000) : DataOk Try.prog 64 [.d (.v (.int .i64 d.1)), .d (.v (.int .i64 d.2.1)), .d (bytesD d.2.2)] (partN d) := by
  obtain ⟨g, l, ys⟩ := d
  have as9 := asData_rows' ys
  simp only at hd
  refine Spec.intro (n := 12) (rv := [.cell 6 47]) Try.func64 rfl rfl rfl (by simp) fun C hN hX => ?_
  refine AW.seq ?_
  apply AW.list
  apply Wk.alc 6 [.int .i64 0, .int .i64 0, .slice none 0 0] ze47 rfl rfl (lt_of_ble rfl)
  refine Wk.nil ?_
  refine AW.seq ?_
  apply AW.list
  apply Wk.mv (by conv => lhs; whnf) (lt_of_ble rfl)
  apply Wk.mv (by conv => lhs; whnf) (lt_of_ble rfl)
  apply Wk.mv (by conv => lhs; whnf) (lt_of_ble rfl)
  apply Wk.appNR 10 1000 1 un22 ap5 rfl rfl rfl (.inr rfl) (by decide) (one_bytes _) (by simp; omega) (lt_of_ble rfl)
  apply Wk.thaw 10 10 _ hX rfl (by rfl) as9
  apply Wk.bld [.int .i64 0, .int .i64 0, .slice none 0 0] [(0, 1), (1, 1), (2, 1)] bl47 rfl (by conv => lhs; whnf) (lt_of_ble rfl)
  apply Wk.sto (i := 6) 3 true ty47 rfl rfl rfl rfl (Nat.le_of_ble_eq_true rfl) (lt_of_ble rfl)
  refine Wk.nil (AW.ret ?_)
  exact RetQ.ret [] (.cons ⟨6, 0, _, _, _, rfl, rfl, ty47, rfl⟩ .nil) ⟨rfl, rfl⟩ none_kept
set_option maxRecDepth 100000 in
theorem icpart_ok (d : Dat) (hd : d.2.2.length ≤ 1000) : DataOk Try.prog 97 [partN d] (partN d) := by
  have h := inew_ok d hd
  obtain ⟨g, l, ys⟩ := d
  refine Spec.intro (n := 10) (rv := [.cell 2 47]) Try.func97 rfl rfl rfl (by simp) fun C hN hX => ?_
  refine AW.seq ?_
  apply AW.list
  apply Wk.bx 1 rfl rfl (lt_of_ble rfl)
  apply Wk.alc 2 [.int .i64 0, .int .i64 0, .slice none 0 0] ze47 rfl rfl (lt_of_ble rfl)
  refine Wk.nil ?_
  refine AW.seq ?_
  apply AW.list
  apply Wk.fad 0 0 false fd47_0 rfl (lt_of_ble rfl)
  apply Wk.ld (i := 1) 1 false ty3 rfl rfl (by conv => lhs; whnf) (lt_of_ble rfl)
  apply Wk.fad 1 0 false fd47_1 rfl (lt_of_ble rfl)
  apply Wk.ld (i := 1) 1 false ty3 rfl rfl (by conv => lhs; whnf) (lt_of_ble rfl)
  apply Wk.fad 2 0 false fd47_2 rfl (lt_of_ble rfl)
  apply Wk.ld (i := 1) 1 false ty22 rfl rfl (by conv => lhs; whnf) (lt_of_ble rfl)
  apply Wk.dat h Try.func64 rfl rfl rfl rfl rfl (lt_of_ble rfl)
  apply Wk.sto (i := 2) 3 true ty47 rfl rfl rfl rfl (Nat.le_of_ble_eq_true rfl) (lt_of_ble rfl)
  refine Wk.nil (AW.ret ?_)
  exact RetQ.ret [] (.cons ⟨2, 0, _, _, _, rfl, rfl, ty47, rfl⟩ .nil) ⟨rfl, rfl⟩ none_kept
theorem Spec.arg {P : Program} {f : FuncId} {ls ls' : List A} {bs : List (Nat × Bx)} {post : A → List (Nat × Bx) → Prop} (h : Spec P f ls bs post) (hl : ls'.length = ls.length) (hd : ∀ (w : World) (F : Nat → Prop) (E : Nat → Option Nat) (H : Nat → Nat → Option Value) (i : Nat) (a a' : A) (v : Value), ls[i]? = some a → ls'[i]? = some a' → Den w F E H a' v → Den w F E H a v) : Spec P f ls' bs post := by
  intro w F E H args hpo hs hda
  refine h w F E H args hpo (by rw [hs, hl]) (fun i a ha => ?_)
  have hi : i < ls'.length := by rw [hl]; exact (List.getElem?_eq_some_iff.1 ha).1
  exact hd w F E H i a _ _ ha (List.getElem?_eq_getElem hi) (hda i _ (List.getElem?_eq_getElem hi))
theorem Spec.fnc {P : Program} {f g : FuncId} {x : A} {bs : List (Nat × Bx)} {post : A → List (Nat × Bx) → Prop} (h : Spec P f [x, .fn (.func g) [] []] bs post) : Spec P f [x, .d (.v (.func (.func g) #[] #[]))] bs post := by
  refine h.arg rfl fun w F E H i a a' v ha ha' hd => ?_
  match i with
  | 0 => obtain rfl := Option.some.inj ha; obtain rfl := Option.some.inj ha'; exact hd
  | 1 =>
    obtain rfl := Option.some.inj ha
    obtain rfl := Option.some.inj ha'
    obtain rfl := den_v hd
    exact .fn _ _ _ _ _ rfl rfl (fun i a h => by simp at h) (fun i a h => by simp at h)
  | n + 2 => simp at ha
theorem in_cpart (d : Dat) : PostIn ([] ++ []) (fun r bs => r = partN d ∧ bs = []) := by
  rintro r bs ⟨rfl, rfl⟩
  exact ⟨rfl, fun i x h => by cases h⟩
set_option maxHeartbeats 4000000 in
set_option maxRecDepth 100000 in
theorem ieach_ok (ds : List Dat) (h0 : ds ≠ []) (hn : ds.length ≤ 1000) (hs : ∀ d ∈ ds, d.2.2.length ≤ 1000) : DataOk Try.prog 108 [.d (partsD ds), .fn (.func 97) [] []] (.d (partsD ds)) := by
  have e1 : (((ds.map datD).length : Nat) : Int) = (ds.length : Int) := by rw [List.length_map]
  have hpos : ds.length ≠ 0 := fun h => h0 (List.length_eq_zero_iff.1 h)
  refine Spec.intro (n := 28) (rv := [.tmp 4]) Try.func108 rfl rfl rfl (by simp) fun C hN hX => ?_
  refine AW.seq ?_
  apply AW.list
  apply Wk.asg (by conv => lhs; whnf) (lt_of_ble rfl)
  refine Wk.nil ?_
  refine AW.seq (AW.seq ?_)
  apply AW.list
  apply Wk.mv (by conv => lhs; whnf) (lt_of_ble rfl)
  apply Wk.len un25 rfl (lt_of_ble rfl)
  apply Wk.bin rfl rfl (r := .bool false) (fun w => by rw [e1]; simp [go_sem, h0]) (lt_of_ble rfl)
  refine Wk.nil ?_
  refine AW.cond rfl (fun hc => by cases hc) (fun _ => AW.skip (thenA_normal ?_))
  refine AW.seq ?_
  apply AW.list
  apply Wk.mv (by conv => lhs; whnf) (lt_of_ble rfl)
  apply Wk.len un25 rfl (lt_of_ble rfl)
  apply Wk.mkp 66 (ds.map datD).length rfl rfl rfl (by rw [List.length_map]; exact hn) (lt_of_ble rfl)
  apply Wk.asg (by conv => lhs; whnf) (lt_of_ble rfl)
  refine Wk.nil ?_
  refine AW.seq (AW.seq ?_)
  apply AW.list
  apply Wk.mv (by conv => lhs; whnf) (lt_of_ble rfl)
  apply Wk.len un25 rfl (lt_of_ble rfl)
  apply Wk.mv (by conv => lhs; whnf) (lt_of_ble rfl)
  refine Wk.nil (AW.block ?_)
  refine AW.loop (fun k : Nat => St.of 28 [(1, .fn (.func 97) [] []), (5, .own 66 k), (14, .d (partsD ds)), (15, .d (.v (.int .i64 (((ds.map datD).length : Nat) : Int)))), (16, .d (.v (.int .i64 (k : Int))))] [(66, .own k 47 3 (piecesA (ds.take k)))]) (fun k => k ≤ ds.length) (fun k => ds.length - k) 0 (Nat.zero_le _) ?_ ?_
  · exact fun a w => Rel.keep ⟨rfl, .cons rfl rfl (.cons rfl rfl (.cons rfl rfl (.cons rfl rfl (.cons rfl rfl .nil)))), .cons rfl rfl .nil, hN.mono (by simp [keys])⟩
  rintro k hk
  show AW Try.prog C _ _ (St.of 28 [(1, .fn (.func 97) [] []), (5, .own 66 k), (14, .d (partsD ds)), (15, .d (.v (.int .i64 (((ds.map datD).length : Nat) : Int)))), (16, .d (.v (.int .i64 (k : Int))))] [(66, .own k 47 3 (piecesA (ds.take k)))])
  refine AW.seq ?_
  apply AW.list
  apply Wk.bin rfl rfl (fun w => by simp [go_sem] <;> rfl) (lt_of_ble rfl)
  refine Wk.nil ?_
  refine AW.seq ?_
  refine AW.cond rfl (fun hc => ?_) (fun hc => ?_)
  · have hlt : k < ds.length := by simpa using hc
    obtain ⟨d, hd⟩ : ∃ d, ds[k]? = some d := ⟨_, List.getElem?_eq_getElem hlt⟩
    have hds := hs d (List.mem_of_getElem? hd)
    have hget : (ds.map datD)[k]? = some (datD d) := by simp [hd]
    have hklt : k < (ds.map datD).length := by simpa using hlt
    have htk : ds.take (k + 1) = ds.take k ++ [d] := by rw [List.take_add_one, hd]; rfl
    have cd := icpart_ok d hds
    refine AW.skip ?_
    repeat (first | refine thenA_normal ?_ | refine inBlockA_normal ?_)
    refine AW.seq (AW.block (AW.seq ?_))
    apply AW.list
    apply Wk.iad 3 true un25 ty47 rfl rfl hklt (datD_len _) (lt_of_ble rfl)
    apply Wk.ldr 3 true ty47 rfl hget (by conv => lhs; whnf) (lt_of_ble rfl)
    apply Wk.alc 7 [.int .i64 0, .int .i64 0, .slice none 0 0] ze47 rfl rfl (lt_of_ble rfl)
    apply Wk.sto (i := 7) 3 true ty47 rfl rfl rfl rfl (Nat.le_of_ble_eq_true rfl) (lt_of_ble rfl)
    refine Wk.nil ?_
    apply AW.list
    apply Wk.mv (by conv => lhs; whnf) (lt_of_ble rfl)
    apply Wk.mv (by conv => lhs; whnf) (lt_of_ble rfl)
    apply Wk.ld (i := 7) 3 true ty47 rfl rfl (by conv => lhs; whnf) (lt_of_ble rfl)
    apply Wk.clf [] [] cd (in_cpart d) ⟨_, _, rfl, rfl⟩ Try.func97 rfl rfl rfl rfl (fun i hi => by cases hi) rfl (fun i hi => by cases hi) (lt_of_ble rfl)
    rintro r bs' ⟨rfl, rfl⟩
    apply Wk.lst 24 3 true [.int .i64 0, .int .i64 0, .slice none 0 0] un25 ty47 ze47 rfl rfl (by rfl) (by rfl) (by decide) (by decide) rfl rfl (all_len rfl) (lt_of_ble rfl)
    apply Wk.appOO 66 24 3 un25 ap47 rfl rfl rfl rfl (by decide) (all_len rfl) (three_parts _) (by simp [piecesA]; omega) (lt_of_ble rfl)
    apply Wk.asg (by conv => lhs; whnf) (lt_of_ble rfl)
    refine Wk.nil ?_
    repeat (first | refine thenA_normal ?_ | refine inBlockA_normal ?_)
    apply AW.list
    apply Wk.addi rfl rfl (by omega) (lt_of_ble rfl)
    apply Wk.mv (by conv => lhs; whnf) (lt_of_ble rfl)
    refine Wk.nil ?_
    refine ⟨k + 1, by omega, by omega, ?_⟩
    refine fun a w => Rel.keep ⟨rfl, .cons rfl rfl (.cons rfl rfl (.cons rfl rfl (.cons rfl rfl (.cons rfl rfl .nil)))), .cons ?_ (by exact within_parts _) .nil, hN.mono (by simp [keys])⟩
    simp only [htk, piecesA, List.map_append]
    rfl
  · have hke : k = ds.length := by
      simp at hc
      omega
    subst hke
    refine AW.exit ?_
    repeat (first | refine inBlockA_same ?_ | refine thenA_exit ?_)
    repeat (first | refine thenA_normal ?_ | refine inBlockA_normal ?_)
    rw [List.take_length]
    refine AW.seq ?_
    apply AW.list
    apply Wk.mv (by conv => lhs; whnf) (lt_of_ble rfl)
    apply Wk.asg (by conv => lhs; whnf) (lt_of_ble rfl)
    refine Wk.nil ?_
    refine AW.thaw (t := 4) (i := 66) _ rfl rfl (asData_parts ds) hX.none ?_
    refine AW.ret ?_
    repeat (first | refine thenA_ret ?_ | refine inBlockA_ret ?_)
    exact RetQ.ret [] (.cons rfl .nil) ⟨rfl, rfl⟩ none_kept
set_option maxHeartbeats 4000000 in
set_option maxRecDepth 100000 in
theorem ieachO (ds : List Dat) (h0 : ds ≠ []) (hn : ds.length ≤ 1000) (hs : ∀ d ∈ ds, d.2.2.length ≤ 1000) : Spec Try.prog 108 [.d (partsD ds), .fn (.func 97) [] []] [] (fun r bs => r = .own 66 ds.length ∧ bs = [(66, .own ds.length 47 3 (piecesA ds))]) := by
  have e1 : (((ds.map datD).length : Nat) : Int) = (ds.length : Int) := by rw [List.length_map]
  have hpos : ds.length ≠ 0 := fun h => h0 (List.length_eq_zero_iff.1 h)
  refine Spec.intro (n := 28) (rv := [.tmp 4]) Try.func108 rfl rfl rfl (by simp) fun C hN hX => ?_
  refine AW.seq ?_
  apply AW.list
  apply Wk.asg (by conv => lhs; whnf) (lt_of_ble rfl)
  refine Wk.nil ?_
  refine AW.seq (AW.seq ?_)
  apply AW.list
  apply Wk.mv (by conv => lhs; whnf) (lt_of_ble rfl)
  apply Wk.len un25 rfl (lt_of_ble rfl)
  apply Wk.bin rfl rfl (r := .bool false) (fun w => by rw [e1]; simp [go_sem, h0]) (lt_of_ble rfl)
  refine Wk.nil ?_
  refine AW.cond rfl (fun hc => by cases hc) (fun _ => AW.skip (thenA_normal ?_))
  refine AW.seq ?_
  apply AW.list
  apply Wk.mv (by conv => lhs; whnf) (lt_of_ble rfl)
  apply Wk.len un25 rfl (lt_of_ble rfl)
  apply Wk.mkp 66 (ds.map datD).length rfl rfl rfl (by rw [List.length_map]; exact hn) (lt_of_ble rfl)
  apply Wk.asg (by conv => lhs; whnf) (lt_of_ble rfl)
  refine Wk.nil ?_
  refine AW.seq (AW.seq ?_)
  apply AW.list
  apply Wk.mv (by conv => lhs; whnf) (lt_of_ble rfl)
  apply Wk.len un25 rfl (lt_of_ble rfl)
  apply Wk.mv (by conv => lhs; whnf) (lt_of_ble rfl)
  refine Wk.nil (AW.block ?_)
  refine AW.loop (fun k : Nat => St.of 28 [(1, .fn (.func 97) [] []), (5, .own 66 k), (14, .d (partsD ds)), (15, .d (.v (.int .i64 (((ds.map datD).length : Nat) : Int)))), (16, .d (.v (.int .i64 (k : Int))))] [(66, .own k 47 3 (piecesA (ds.take k)))]) (fun k => k ≤ ds.length) (fun k => ds.length - k) 0 (Nat.zero_le _) ?_ ?_
  · exact fun a w => Rel.keep ⟨rfl, .cons rfl rfl (.cons rfl rfl (.cons rfl rfl (.cons rfl rfl (.cons rfl rfl .nil)))), .cons rfl rfl .nil, hN.mono (by simp [keys])⟩
  rintro k hk
  show AW Try.prog C _ _ (St.of 28 [(1, .fn (.func 97) [] []), (5, .own 66 k), (14, .d (partsD ds)), (15, .d (.v (.int .i64 (((ds.map datD).length : Nat) : Int)))), (16, .d (.v (.int .i64 (k : Int))))] [(66, .own k 47 3 (piecesA (ds.take k)))])
  refine AW.seq ?_
  apply AW.list
  apply Wk.bin rfl rfl (fun w => by simp [go_sem] <;> rfl) (lt_of_ble rfl)
  refine Wk.nil ?_
  refine AW.seq ?_
  refine AW.cond rfl (fun hc => ?_) (fun hc => ?_)
  · have hlt : k < ds.length := by simpa using hc
    obtain ⟨d, hd⟩ : ∃ d, ds[k]? = some d := ⟨_, List.getElem?_eq_getElem hlt⟩
    have hds := hs d (List.mem_of_getElem? hd)
    have hget : (ds.map datD)[k]? = some (datD d) := by simp [hd]
    have hklt : k < (ds.map datD).length := by simpa using hlt
    have htk : ds.take (k + 1) = ds.take k ++ [d] := by rw [List.take_add_one, hd]; rfl
    have cd := icpart_ok d hds
    refine AW.skip ?_
    repeat (first | refine thenA_normal ?_ | refine inBlockA_normal ?_)
    refine AW.seq (AW.block (AW.seq ?_))
    apply AW.list
    apply Wk.iad 3 true un25 ty47 rfl rfl hklt (datD_len _) (lt_of_ble rfl)
    apply Wk.ldr 3 true ty47 rfl hget (by conv => lhs; whnf) (lt_of_ble rfl)
    apply Wk.alc 7 [.int .i64 0, .int .i64 0, .slice none 0 0] ze47 rfl rfl (lt_of_ble rfl)
    apply Wk.sto (i := 7) 3 true ty47 rfl rfl rfl rfl (Nat.le_of_ble_eq_true rfl) (lt_of_ble rfl)
    refine Wk.nil ?_
    apply AW.list
    apply Wk.mv (by conv => lhs; whnf) (lt_of_ble rfl)
    apply Wk.mv (by conv => lhs; whnf) (lt_of_ble rfl)
    apply Wk.ld (i := 7) 3 true ty47 rfl rfl (by conv => lhs; whnf) (lt_of_ble rfl)
    apply Wk.clf [] [] cd (in_cpart d) ⟨_, _, rfl, rfl⟩ Try.func97 rfl rfl rfl rfl (fun i hi => by cases hi) rfl (fun i hi => by cases hi) (lt_of_ble rfl)
    rintro r bs' ⟨rfl, rfl⟩
    apply Wk.lst 24 3 true [.int .i64 0, .int .i64 0, .slice none 0 0] un25 ty47 ze47 rfl rfl (by rfl) (by rfl) (by decide) (by decide) rfl rfl (all_len rfl) (lt_of_ble rfl)
    apply Wk.appOO 66 24 3 un25 ap47 rfl rfl rfl rfl (by decide) (all_len rfl) (three_parts _) (by simp [piecesA]; omega) (lt_of_ble rfl)
    apply Wk.asg (by conv => lhs; whnf) (lt_of_ble rfl)
    refine Wk.nil ?_
    repeat (first | refine thenA_normal ?_ | refine inBlockA_normal ?_)
    apply AW.list
    apply Wk.addi rfl rfl (by omega) (lt_of_ble rfl)
    apply Wk.mv (by conv => lhs; whnf) (lt_of_ble rfl)
    refine Wk.nil ?_
    refine ⟨k + 1, by omega, by omega, ?_⟩
    refine fun a w => Rel.keep ⟨rfl, .cons rfl rfl (.cons rfl rfl (.cons rfl rfl (.cons rfl rfl (.cons rfl rfl .nil)))), .cons ?_ (by exact within_parts _) .nil, hN.mono (by simp [keys])⟩
    simp only [htk, piecesA, List.map_append]
    rfl
  · have hke : k = ds.length := by
      simp at hc
      omega
    subst hke
    refine AW.exit ?_
    repeat (first | refine inBlockA_same ?_ | refine thenA_exit ?_)
    repeat (first | refine thenA_normal ?_ | refine inBlockA_normal ?_)
    rw [List.take_length]
    refine AW.seq ?_
    apply AW.list
    apply Wk.mv (by conv => lhs; whnf) (lt_of_ble rfl)
    apply Wk.asg (by conv => lhs; whnf) (lt_of_ble rfl)
    refine Wk.nil ?_
    refine AW.ret ?_
    repeat (first | refine thenA_ret ?_ | refine inBlockA_ret ?_)
    exact RetQ.ret [(66, .own ds.length 47 3 (piecesA ds))] (.cons rfl .nil) ⟨rfl, rfl⟩ (kept1 rfl)
set_option maxRecDepth 100000 in
theorem ieachNil : DataOk Try.prog 108 [.d (partsD []), .fn (.func 97) [] []] (.d (.v (.slice none 0 0))) := by
  refine Spec.intro (n := 28) (rv := [.tmp 4]) Try.func108 rfl rfl rfl (by simp) fun C hN hX => ?_
  refine AW.seq ?_
  apply AW.list
  apply Wk.asg (by conv => lhs; whnf) (lt_of_ble rfl)
  refine Wk.nil ?_
  refine AW.seq (AW.seq ?_)
  apply AW.list
  apply Wk.mv (by conv => lhs; whnf) (lt_of_ble rfl)
  apply Wk.len un25 rfl (lt_of_ble rfl)
  apply Wk.bin rfl rfl (r := .bool true) (fun w => by simp [go_sem]) (lt_of_ble rfl)
  refine Wk.nil ?_
  refine AW.cond rfl (fun _ => ?_) (fun hc => by cases hc)
  refine AW.seq ?_
  apply AW.list
  apply Wk.asg (by conv => lhs; whnf) (lt_of_ble rfl)
  refine Wk.nil (AW.ret ?_)
  repeat (first | refine thenA_ret ?_ | refine inBlockA_ret ?_)
  exact RetQ.ret [] (.cons rfl .nil) ⟨rfl, rfl⟩ none_kept
set_option maxRecDepth 100000 in
theorem icopyNil : DataOk Try.prog 88 [.d (partsD [])] (.d (.v (.slice none 0 0))) := by
  have h : DataOk Try.prog 108 [.d (partsD []), .d (.v (.func (.func 97) #[] #[]))] (.d (.v (.slice none 0 0))) := Spec.fnc ieachNil
  refine Spec.intro (n := 5) (rv := [.tmp 2]) Try.func88 rfl rfl rfl (by simp) fun C hN hX => ?_
  refine AW.seq ?_
  apply AW.list
  apply Wk.asg (by conv => lhs; whnf) (lt_of_ble rfl)
  refine Wk.nil ?_
  refine AW.seq ?_
  apply AW.list
  apply Wk.mv (by conv => lhs; whnf) (lt_of_ble rfl)
  apply Wk.dat h Try.func108 rfl rfl rfl rfl rfl (lt_of_ble rfl)
  apply Wk.asg (by conv => lhs; whnf) (lt_of_ble rfl)
  refine Wk.nil (AW.ret ?_)
  exact RetQ.ret [] (.cons rfl .nil) ⟨rfl, rfl⟩ none_kept
set_option maxRecDepth 100000 in
theorem icopy_ok (ds : List Dat) (hn : ds.length ≤ 1000) (hs : ∀ d ∈ ds, d.2.2.length ≤ 1000) : DataOk Try.prog 88 [.d (partsD ds)] (.d (partsD ds)) := by
  by_cases h0 : ds = []
  · subst h0
    exact icopyNil.nrm
  have h : DataOk Try.prog 108 [.d (partsD ds), .d (.v (.func (.func 97) #[] #[]))] (.d (partsD ds)) := Spec.fnc (ieach_ok ds h0 hn hs)
  refine Spec.intro (n := 5) (rv := [.tmp 2]) Try.func88 rfl rfl rfl (by simp) fun C hN hX => ?_
  refine AW.seq ?_
  apply AW.list
  apply Wk.asg (by conv => lhs; whnf) (lt_of_ble rfl)
  refine Wk.nil ?_
  refine AW.seq ?_
  apply AW.list
  apply Wk.mv (by conv => lhs; whnf) (lt_of_ble rfl)
  apply Wk.dat h Try.func108 rfl rfl rfl rfl rfl (lt_of_ble rfl)
  apply Wk.asg (by conv => lhs; whnf) (lt_of_ble rfl)
  refine Wk.nil (AW.ret ?_)
  exact RetQ.ret [] (.cons rfl .nil) ⟨rfl, rfl⟩ none_kept
set_option maxRecDepth 100000 in
theorem icopyO (ds : List Dat) (h0 : ds ≠ []) (hn : ds.length ≤ 1000) (hs : ∀ d ∈ ds, d.2.2.length ≤ 1000) : Spec Try.prog 88 [.d (partsD ds)] [] (fun r bs => r = .own 66 ds.length ∧ bs = [(66, .own ds.length 47 3 (piecesA ds))]) := by
  have h := (ieachO ds h0 hn hs).fnc
  have i1 := in_slist (L := [] ++ [66]) (i := 66) (k := ds.length) (e := 47) (sz := 3) (by simp) (within_parts ds)
  refine Spec.intro (n := 5) (rv := [.tmp 2]) Try.func88 rfl rfl rfl (by simp) fun C hN hX => ?_
  refine AW.seq ?_
  apply AW.list
  apply Wk.asg (by conv => lhs; whnf) (lt_of_ble rfl)
  refine Wk.nil ?_
  refine AW.seq ?_
  apply AW.list
  apply Wk.mv (by conv => lhs; whnf) (lt_of_ble rfl)
  apply Wk.cal [] [66] h i1 ⟨_, _, rfl, rfl⟩ Try.func108 rfl rfl rfl rfl (by simp; rfl) rfl (fun i hi => by cases hi) (lt_of_ble rfl)
  rintro r bs' ⟨rfl, rfl⟩
  apply Wk.asg (by conv => lhs; whnf) (lt_of_ble rfl)
  refine Wk.nil (AW.ret ?_)
  exact RetQ.ret [(66, .own ds.length 47 3 (piecesA ds))] (.cons rfl .nil) ⟨rfl, rfl⟩ (kept1 rfl)
end Go.Proofs.Ytdojkmjamilllaa

/- Who sends, the program's: its ring of pieces, made of a state, its state. Written by tools/mk_AbsSender.py. -/
namespace Go.Proofs.Ytdojkmjamilllaa
open Go Go.RowKit
/-- A place of the ring. -/
structure Sl where
  x : D
  y : D
  z : D
def sl : Option Dat → Sl
  | some d => ⟨.v (.int .i64 d.1), .v (.int .i64 d.2.1), bytesD d.2.2⟩
  | none => ⟨.v (.int .i64 0), .v (.int .i64 0), .v (.slice none 0 0)⟩
def ringF (fl : List Dat) (i : Nat) : Sl := sl (fl[i]?)
theorem ring_push {fl : List Dat} {k : Nat} {d : Dat} (h : fl[k]? = some d) : upd (ringF (fl.take k)) k (sl (some d)) = ringF (fl.take (k + 1)) := by
  have hk := (List.getElem?_eq_some_iff.1 h).1
  funext i
  unfold upd ringF
  by_cases hi : i = k
  · subst hi
    rw [if_pos rfl, List.getElem?_take_of_lt (by omega), h]
  · rw [if_neg hi]
    by_cases hl : i < k
    · rw [List.getElem?_take_of_lt hl, List.getElem?_take_of_lt (by omega)]
    · rw [List.getElem?_eq_none (by rw [List.length_take]; omega), List.getElem?_eq_none (by rw [List.length_take]; omega)]
/-- Who sends: its cells. -/
def sndC (m w p u y a : Int) (f : Nat → Sl) (h k s : Int) (l : Nat) (q : Bool) (t : Int) (hh : Bool) (c : Int) (d : Bool) : List A :=
  [.d (.v (.int .i64 m)), .d (.v (.int .i64 w)), .d (.v (.int .i64 p)), .d (.v (.int .i64 u)), .d (.v (.int .i64 y)), .d (.v (.int .i64 a)), .d (f 0).x, .d (f 0).y, .d (f 0).z, .d (f 1).x, .d (f 1).y, .d (f 1).z, .d (f 2).x, .d (f 2).y, .d (f 2).z, .d (f 3).x, .d (f 3).y, .d (f 3).z, .d (.v (.int .i64 h)), .d (.v (.int .i64 k)), .d (.v (.int .i64 s)), .own 66 l, .d (.v (.bool q)), .d (.v (.int .i64 t)), .d (.v (.bool hh)), .d (.v (.int .i64 c)), .d (.v (.bool d))]
def sndB (cs : List A) (l : Nat) (qu : List Dat) : List (Nat × Bx) := [(27, .var cs), (66, .own l 47 3 (piecesA qu))]
theorem in_sndB {m w p u y a : Int} {f : Nat → Sl} {h k s : Int} {l : Nat} {q : Bool} {t : Int} {hh : Bool} {c : Int} {d : Bool} {l' : Nat} {qu : List Dat} {i : Nat} {z : Bx} (hz : (sndB (sndC m w p u y a f h k s l q t hh c d) l' qu).lookup i = some z) : i ∈ [27, 66] ∧ z.within [27, 66] = true := by
  rcases lookup2 hz with ⟨rfl, rfl⟩ | ⟨rfl, rfl⟩
  · exact ⟨by simp, by simp [Bx.within, sndC, A.withins, A.within]⟩
  · exact ⟨by simp, by simp [Bx.within, within_parts]⟩
theorem in_snd (r0 : A) (hr : r0.within [27, 66] = true) (m w p u y a : Int) (f : Nat → Sl) (h k s : Int) (l : Nat) (q : Bool) (t : Int) (hh : Bool) (c : Int) (d : Bool) (l' : Nat) (qu : List Dat) : PostIn [27, 66] (fun r bs => r = r0 ∧ bs = sndB (sndC m w p u y a f h k s l q t hh c d) l' qu) := by
  rintro r bs ⟨rfl, rfl⟩
  exact ⟨hr, fun i z hz => in_sndB hz⟩
set_option maxHeartbeats 8000000 in
set_option maxRecDepth 100000 in
theorem ipush (m w p u y a : Int) (f : Nat → Sl) (s : Int) (l : Nat) (q : Bool) (t : Int) (hh : Bool) (c : Int) (dd : Bool) (qu : List Dat) (k : Nat) (hk : k < 4) (d : Dat) : Spec Try.prog 89 [.ptr 27 6, partN d] (sndB (sndC m w p u y a f 0 (k : Int) s l q t hh c dd) l qu) (fun r bs => r = .tup [] ∧ bs = sndB (sndC m w p u y a (upd f k (sl (some d))) 0 ((k : Int) + 1) s l q t hh c dd) l qu) := by
  obtain ⟨g, n, ys⟩ := d
  rcases (show k = 0 ∨ k = 1 ∨ k = 2 ∨ k = 3 by omega) with rfl | rfl | rfl | rfl
  · skip
    refine Spec.intro (n := 26) (rv := []) Try.func89 rfl rfl rfl (by simp) fun C hN hX => ?_
    refine AW.seq ?_
    apply AW.list
    apply Wk.bx 3 rfl rfl (lt_of_ble rfl)
    refine Wk.nil ?_
    refine AW.seq ?_
    apply AW.draw (hm := hmix) (cs := _)
    · apply Wk.mv (by conv => lhs; whnf) (lt_of_ble rfl)
      apply Wk.mv (by conv => lhs; whnf) (lt_of_ble rfl)
      apply Wk.nilc rfl (lt_of_ble rfl)
      apply Wk.fad 12 0 false fd109_1 rfl (lt_of_ble rfl)
      apply Wk.ld (i := 27) 1 false ty3 rfl rfl (by conv => lhs; whnf) (lt_of_ble rfl)
      apply Wk.mv (by conv => lhs; whnf) (lt_of_ble rfl)
      apply Wk.nilc rfl (lt_of_ble rfl)
      apply Wk.fad 13 0 false fd109_2 rfl (lt_of_ble rfl)
      apply Wk.ld (i := 27) 1 false ty3 rfl rfl (by conv => lhs; whnf) (lt_of_ble rfl)
      apply Wk.addi rfl rfl (by decide) (lt_of_ble rfl)
      apply Wk.bin rfl rfl (r := .int .i64 ((0 : Nat) : Int)) (fun w => by simp [go_sem]) (lt_of_ble rfl)
      apply Wk.ld (i := 3) 3 true ty47 rfl rfl (by conv => lhs; whnf) (lt_of_ble rfl)
      apply Wk.nilc rfl (lt_of_ble rfl)
      apply Wk.fad 0 11 true fd109_0 rfl (lt_of_ble rfl)
      apply Wk.iap 3 4 true ua107 ty47 rfl rfl (show 0 < 4 by decide) (lt_of_ble rfl)
      apply Wk.sto (i := 27) 3 true ty47 rfl rfl rfl rfl (Nat.le_of_ble_eq_true rfl) (lt_of_ble rfl)
      refine Wk.nil ?_
      apply AW.list
      apply Wk.mv (by conv => lhs; whnf) (lt_of_ble rfl)
      apply Wk.nilc rfl (lt_of_ble rfl)
      apply Wk.fad 13 0 false fd109_2 rfl (lt_of_ble rfl)
      apply Wk.ld (i := 27) 1 false ty3 rfl rfl (by conv => lhs; whnf) (lt_of_ble rfl)
      apply Wk.addi rfl rfl (by decide) (lt_of_ble rfl)
      apply Wk.nilc rfl (lt_of_ble rfl)
      apply Wk.fad 13 0 false fd109_2 rfl (lt_of_ble rfl)
      apply Wk.sto (i := 27) 1 false ty3 rfl rfl rfl rfl (Nat.le_of_ble_eq_true rfl) (lt_of_ble rfl)
      refine Wk.nil ?_
      exact ⟨[], sndB _ l qu, .nil, ⟨rfl, rfl⟩, kept2 rfl rfl⟩
    · rfl
    · rfl
  · skip
    refine Spec.intro (n := 26) (rv := []) Try.func89 rfl rfl rfl (by simp) fun C hN hX => ?_
    refine AW.seq ?_
    apply AW.list
    apply Wk.bx 3 rfl rfl (lt_of_ble rfl)
    refine Wk.nil ?_
    refine AW.seq ?_
    apply AW.draw (hm := hmix) (cs := _)
    · apply Wk.mv (by conv => lhs; whnf) (lt_of_ble rfl)
      apply Wk.mv (by conv => lhs; whnf) (lt_of_ble rfl)
      apply Wk.nilc rfl (lt_of_ble rfl)
      apply Wk.fad 12 0 false fd109_1 rfl (lt_of_ble rfl)
      apply Wk.ld (i := 27) 1 false ty3 rfl rfl (by conv => lhs; whnf) (lt_of_ble rfl)
      apply Wk.mv (by conv => lhs; whnf) (lt_of_ble rfl)
      apply Wk.nilc rfl (lt_of_ble rfl)
      apply Wk.fad 13 0 false fd109_2 rfl (lt_of_ble rfl)
      apply Wk.ld (i := 27) 1 false ty3 rfl rfl (by conv => lhs; whnf) (lt_of_ble rfl)
      apply Wk.addi rfl rfl (by decide) (lt_of_ble rfl)
      apply Wk.bin rfl rfl (r := .int .i64 ((1 : Nat) : Int)) (fun w => by simp [go_sem]) (lt_of_ble rfl)
      apply Wk.ld (i := 3) 3 true ty47 rfl rfl (by conv => lhs; whnf) (lt_of_ble rfl)
      apply Wk.nilc rfl (lt_of_ble rfl)
      apply Wk.fad 0 11 true fd109_0 rfl (lt_of_ble rfl)
      apply Wk.iap 3 4 true ua107 ty47 rfl rfl (show 1 < 4 by decide) (lt_of_ble rfl)
      apply Wk.sto (i := 27) 3 true ty47 rfl rfl rfl rfl (Nat.le_of_ble_eq_true rfl) (lt_of_ble rfl)
      refine Wk.nil ?_
      apply AW.list
      apply Wk.mv (by conv => lhs; whnf) (lt_of_ble rfl)
      apply Wk.nilc rfl (lt_of_ble rfl)
      apply Wk.fad 13 0 false fd109_2 rfl (lt_of_ble rfl)
      apply Wk.ld (i := 27) 1 false ty3 rfl rfl (by conv => lhs; whnf) (lt_of_ble rfl)
      apply Wk.addi rfl rfl (by decide) (lt_of_ble rfl)
      apply Wk.nilc rfl (lt_of_ble rfl)
      apply Wk.fad 13 0 false fd109_2 rfl (lt_of_ble rfl)
      apply Wk.sto (i := 27) 1 false ty3 rfl rfl rfl rfl (Nat.le_of_ble_eq_true rfl) (lt_of_ble rfl)
      refine Wk.nil ?_
      exact ⟨[], sndB _ l qu, .nil, ⟨rfl, rfl⟩, kept2 rfl rfl⟩
    · rfl
    · rfl
  · skip
    refine Spec.intro (n := 26) (rv := []) Try.func89 rfl rfl rfl (by simp) fun C hN hX => ?_
    refine AW.seq ?_
    apply AW.list
    apply Wk.bx 3 rfl rfl (lt_of_ble rfl)
    refine Wk.nil ?_
    refine AW.seq ?_
    apply AW.draw (hm := hmix) (cs := _)
    · apply Wk.mv (by conv => lhs; whnf) (lt_of_ble rfl)
      apply Wk.mv (by conv => lhs; whnf) (lt_of_ble rfl)
      apply Wk.nilc rfl (lt_of_ble rfl)
      apply Wk.fad 12 0 false fd109_1 rfl (lt_of_ble rfl)
      apply Wk.ld (i := 27) 1 false ty3 rfl rfl (by conv => lhs; whnf) (lt_of_ble rfl)
      apply Wk.mv (by conv => lhs; whnf) (lt_of_ble rfl)
      apply Wk.nilc rfl (lt_of_ble rfl)
      apply Wk.fad 13 0 false fd109_2 rfl (lt_of_ble rfl)
      apply Wk.ld (i := 27) 1 false ty3 rfl rfl (by conv => lhs; whnf) (lt_of_ble rfl)
      apply Wk.addi rfl rfl (by decide) (lt_of_ble rfl)
      apply Wk.bin rfl rfl (r := .int .i64 ((2 : Nat) : Int)) (fun w => by simp [go_sem]) (lt_of_ble rfl)
      apply Wk.ld (i := 3) 3 true ty47 rfl rfl (by conv => lhs; whnf) (lt_of_ble rfl)
      apply Wk.nilc rfl (lt_of_ble rfl)
      apply Wk.fad 0 11 true fd109_0 rfl (lt_of_ble rfl)
      apply Wk.iap 3 4 true ua107 ty47 rfl rfl (show 2 < 4 by decide) (lt_of_ble rfl)
      apply Wk.sto (i := 27) 3 true ty47 rfl rfl rfl rfl (Nat.le_of_ble_eq_true rfl) (lt_of_ble rfl)
      refine Wk.nil ?_
      apply AW.list
      apply Wk.mv (by conv => lhs; whnf) (lt_of_ble rfl)
      apply Wk.nilc rfl (lt_of_ble rfl)
      apply Wk.fad 13 0 false fd109_2 rfl (lt_of_ble rfl)
      apply Wk.ld (i := 27) 1 false ty3 rfl rfl (by conv => lhs; whnf) (lt_of_ble rfl)
      apply Wk.addi rfl rfl (by decide) (lt_of_ble rfl)
      apply Wk.nilc rfl (lt_of_ble rfl)
      apply Wk.fad 13 0 false fd109_2 rfl (lt_of_ble rfl)
      apply Wk.sto (i := 27) 1 false ty3 rfl rfl rfl rfl (Nat.le_of_ble_eq_true rfl) (lt_of_ble rfl)
      refine Wk.nil ?_
      exact ⟨[], sndB _ l qu, .nil, ⟨rfl, rfl⟩, kept2 rfl rfl⟩
    · rfl
    · rfl
  · skip
    refine Spec.intro (n := 26) (rv := []) Try.func89 rfl rfl rfl (by simp) fun C hN hX => ?_
    refine AW.seq ?_
    apply AW.list
    apply Wk.bx 3 rfl rfl (lt_of_ble rfl)
    refine Wk.nil ?_
    refine AW.seq ?_
    apply AW.draw (hm := hmix) (cs := _)
    · apply Wk.mv (by conv => lhs; whnf) (lt_of_ble rfl)
      apply Wk.mv (by conv => lhs; whnf) (lt_of_ble rfl)
      apply Wk.nilc rfl (lt_of_ble rfl)
      apply Wk.fad 12 0 false fd109_1 rfl (lt_of_ble rfl)
      apply Wk.ld (i := 27) 1 false ty3 rfl rfl (by conv => lhs; whnf) (lt_of_ble rfl)
      apply Wk.mv (by conv => lhs; whnf) (lt_of_ble rfl)
      apply Wk.nilc rfl (lt_of_ble rfl)
      apply Wk.fad 13 0 false fd109_2 rfl (lt_of_ble rfl)
      apply Wk.ld (i := 27) 1 false ty3 rfl rfl (by conv => lhs; whnf) (lt_of_ble rfl)
      apply Wk.addi rfl rfl (by decide) (lt_of_ble rfl)
      apply Wk.bin rfl rfl (r := .int .i64 ((3 : Nat) : Int)) (fun w => by simp [go_sem]) (lt_of_ble rfl)
      apply Wk.ld (i := 3) 3 true ty47 rfl rfl (by conv => lhs; whnf) (lt_of_ble rfl)
      apply Wk.nilc rfl (lt_of_ble rfl)
      apply Wk.fad 0 11 true fd109_0 rfl (lt_of_ble rfl)
      apply Wk.iap 3 4 true ua107 ty47 rfl rfl (show 3 < 4 by decide) (lt_of_ble rfl)
      apply Wk.sto (i := 27) 3 true ty47 rfl rfl rfl rfl (Nat.le_of_ble_eq_true rfl) (lt_of_ble rfl)
      refine Wk.nil ?_
      apply AW.list
      apply Wk.mv (by conv => lhs; whnf) (lt_of_ble rfl)
      apply Wk.nilc rfl (lt_of_ble rfl)
      apply Wk.fad 13 0 false fd109_2 rfl (lt_of_ble rfl)
      apply Wk.ld (i := 27) 1 false ty3 rfl rfl (by conv => lhs; whnf) (lt_of_ble rfl)
      apply Wk.addi rfl rfl (by decide) (lt_of_ble rfl)
      apply Wk.nilc rfl (lt_of_ble rfl)
      apply Wk.fad 13 0 false fd109_2 rfl (lt_of_ble rfl)
      apply Wk.sto (i := 27) 1 false ty3 rfl rfl rfl rfl (Nat.le_of_ble_eq_true rfl) (lt_of_ble rfl)
      refine Wk.nil ?_
      exact ⟨[], sndB _ l qu, .nil, ⟨rfl, rfl⟩, kept2 rfl rfl⟩
    · rfl
    · rfl
set_option maxHeartbeats 8000000 in
set_option maxRecDepth 100000 in
theorem iat (m w p u y a : Int) (f : Nat → Sl) (s : Int) (l : Nat) (q : Bool) (t : Int) (hh : Bool) (c : Int) (dd : Bool) (qu : List Dat) (h n : Nat) (k : Int) (hh1 : h ≤ 4) (hn : n ≤ 4) (j : Nat) (hj : (h + n) % 4 = j) : Spec Try.prog 98 [.ptr 27 6, .d (.v (.int .i64 (n : Int)))] (sndB (sndC m w p u y a f (h : Int) k s l q t hh c dd) l qu) (fun r bs => r = .agg [.d (f j).x, .d (f j).y, .d (f j).z] ∧ bs = sndB (sndC m w p u y a f (h : Int) k s l q t hh c dd) l qu) := by
  rcases (show j = 0 ∨ j = 1 ∨ j = 2 ∨ j = 3 by omega) with rfl | rfl | rfl | rfl
  · skip
    refine Spec.intro (n := 17) (rv := [.cell 4 47]) Try.func98 rfl rfl rfl (by simp) fun C hN hX => ?_
    refine AW.seq ?_
    apply AW.list
    apply Wk.alc 4 [.int .i64 0, .int .i64 0, .slice none 0 0] ze47 rfl rfl (lt_of_ble rfl)
    refine Wk.nil ?_
    refine AW.seq ?_
    apply AW.draw (hm := hmix) (cs := _)
    · apply Wk.mv (by conv => lhs; whnf) (lt_of_ble rfl)
      apply Wk.mv (by conv => lhs; whnf) (lt_of_ble rfl)
      apply Wk.nilc rfl (lt_of_ble rfl)
      apply Wk.fad 12 0 false fd109_1 rfl (lt_of_ble rfl)
      apply Wk.ld (i := 27) 1 false ty3 rfl rfl (by conv => lhs; whnf) (lt_of_ble rfl)
      apply Wk.mv (by conv => lhs; whnf) (lt_of_ble rfl)
      apply Wk.addi rfl rfl (by omega) (lt_of_ble rfl)
      apply Wk.bin rfl rfl (r := .int .i64 ((0 : Nat) : Int)) (fun w => by simp [go_sem]; rw [Int.tmod_eq_emod_of_nonneg (by omega)]; omega) (lt_of_ble rfl)
      apply Wk.nilc rfl (lt_of_ble rfl)
      apply Wk.fad 0 11 true fd109_0 rfl (lt_of_ble rfl)
      apply Wk.iap 3 4 true ua107 ty47 rfl rfl (show 0 < 4 by decide) (lt_of_ble rfl)
      apply Wk.ld (i := 27) 3 true ty47 rfl rfl (by conv => lhs; whnf) (lt_of_ble rfl)
      apply Wk.sto (i := 4) 3 true ty47 rfl rfl rfl rfl (Nat.le_of_ble_eq_true rfl) (lt_of_ble rfl)
      refine Wk.nil (AW.ret ?_)
      exact RetQ.ret (sndB _ l qu) (.cons ⟨4, 0, _, _, _, rfl, rfl, ty47, rfl⟩ .nil) ⟨rfl, rfl⟩ (kept2 rfl rfl)
    · rfl
    · rfl
  · skip
    refine Spec.intro (n := 17) (rv := [.cell 4 47]) Try.func98 rfl rfl rfl (by simp) fun C hN hX => ?_
    refine AW.seq ?_
    apply AW.list
    apply Wk.alc 4 [.int .i64 0, .int .i64 0, .slice none 0 0] ze47 rfl rfl (lt_of_ble rfl)
    refine Wk.nil ?_
    refine AW.seq ?_
    apply AW.draw (hm := hmix) (cs := _)
    · apply Wk.mv (by conv => lhs; whnf) (lt_of_ble rfl)
      apply Wk.mv (by conv => lhs; whnf) (lt_of_ble rfl)
      apply Wk.nilc rfl (lt_of_ble rfl)
      apply Wk.fad 12 0 false fd109_1 rfl (lt_of_ble rfl)
      apply Wk.ld (i := 27) 1 false ty3 rfl rfl (by conv => lhs; whnf) (lt_of_ble rfl)
      apply Wk.mv (by conv => lhs; whnf) (lt_of_ble rfl)
      apply Wk.addi rfl rfl (by omega) (lt_of_ble rfl)
      apply Wk.bin rfl rfl (r := .int .i64 ((1 : Nat) : Int)) (fun w => by simp [go_sem]; rw [Int.tmod_eq_emod_of_nonneg (by omega)]; omega) (lt_of_ble rfl)
      apply Wk.nilc rfl (lt_of_ble rfl)
      apply Wk.fad 0 11 true fd109_0 rfl (lt_of_ble rfl)
      apply Wk.iap 3 4 true ua107 ty47 rfl rfl (show 1 < 4 by decide) (lt_of_ble rfl)
      apply Wk.ld (i := 27) 3 true ty47 rfl rfl (by conv => lhs; whnf) (lt_of_ble rfl)
      apply Wk.sto (i := 4) 3 true ty47 rfl rfl rfl rfl (Nat.le_of_ble_eq_true rfl) (lt_of_ble rfl)
      refine Wk.nil (AW.ret ?_)
      exact RetQ.ret (sndB _ l qu) (.cons ⟨4, 0, _, _, _, rfl, rfl, ty47, rfl⟩ .nil) ⟨rfl, rfl⟩ (kept2 rfl rfl)
    · rfl
    · rfl
  · skip
    refine Spec.intro (n := 17) (rv := [.cell 4 47]) Try.func98 rfl rfl rfl (by simp) fun C hN hX => ?_
    refine AW.seq ?_
    apply AW.list
    apply Wk.alc 4 [.int .i64 0, .int .i64 0, .slice none 0 0] ze47 rfl rfl (lt_of_ble rfl)
    refine Wk.nil ?_
    refine AW.seq ?_
    apply AW.draw (hm := hmix) (cs := _)
    · apply Wk.mv (by conv => lhs; whnf) (lt_of_ble rfl)
      apply Wk.mv (by conv => lhs; whnf) (lt_of_ble rfl)
      apply Wk.nilc rfl (lt_of_ble rfl)
      apply Wk.fad 12 0 false fd109_1 rfl (lt_of_ble rfl)
      apply Wk.ld (i := 27) 1 false ty3 rfl rfl (by conv => lhs; whnf) (lt_of_ble rfl)
      apply Wk.mv (by conv => lhs; whnf) (lt_of_ble rfl)
      apply Wk.addi rfl rfl (by omega) (lt_of_ble rfl)
      apply Wk.bin rfl rfl (r := .int .i64 ((2 : Nat) : Int)) (fun w => by simp [go_sem]; rw [Int.tmod_eq_emod_of_nonneg (by omega)]; omega) (lt_of_ble rfl)
      apply Wk.nilc rfl (lt_of_ble rfl)
      apply Wk.fad 0 11 true fd109_0 rfl (lt_of_ble rfl)
      apply Wk.iap 3 4 true ua107 ty47 rfl rfl (show 2 < 4 by decide) (lt_of_ble rfl)
      apply Wk.ld (i := 27) 3 true ty47 rfl rfl (by conv => lhs; whnf) (lt_of_ble rfl)
      apply Wk.sto (i := 4) 3 true ty47 rfl rfl rfl rfl (Nat.le_of_ble_eq_true rfl) (lt_of_ble rfl)
      refine Wk.nil (AW.ret ?_)
      exact RetQ.ret (sndB _ l qu) (.cons ⟨4, 0, _, _, _, rfl, rfl, ty47, rfl⟩ .nil) ⟨rfl, rfl⟩ (kept2 rfl rfl)
    · rfl
    · rfl
  · skip
    refine Spec.intro (n := 17) (rv := [.cell 4 47]) Try.func98 rfl rfl rfl (by simp) fun C hN hX => ?_
    refine AW.seq ?_
    apply AW.list
    apply Wk.alc 4 [.int .i64 0, .int .i64 0, .slice none 0 0] ze47 rfl rfl (lt_of_ble rfl)
    refine Wk.nil ?_
    refine AW.seq ?_
    apply AW.draw (hm := hmix) (cs := _)
    · apply Wk.mv (by conv => lhs; whnf) (lt_of_ble rfl)
      apply Wk.mv (by conv => lhs; whnf) (lt_of_ble rfl)
      apply Wk.nilc rfl (lt_of_ble rfl)
      apply Wk.fad 12 0 false fd109_1 rfl (lt_of_ble rfl)
      apply Wk.ld (i := 27) 1 false ty3 rfl rfl (by conv => lhs; whnf) (lt_of_ble rfl)
      apply Wk.mv (by conv => lhs; whnf) (lt_of_ble rfl)
      apply Wk.addi rfl rfl (by omega) (lt_of_ble rfl)
      apply Wk.bin rfl rfl (r := .int .i64 ((3 : Nat) : Int)) (fun w => by simp [go_sem]; rw [Int.tmod_eq_emod_of_nonneg (by omega)]; omega) (lt_of_ble rfl)
      apply Wk.nilc rfl (lt_of_ble rfl)
      apply Wk.fad 0 11 true fd109_0 rfl (lt_of_ble rfl)
      apply Wk.iap 3 4 true ua107 ty47 rfl rfl (show 3 < 4 by decide) (lt_of_ble rfl)
      apply Wk.ld (i := 27) 3 true ty47 rfl rfl (by conv => lhs; whnf) (lt_of_ble rfl)
      apply Wk.sto (i := 4) 3 true ty47 rfl rfl rfl rfl (Nat.le_of_ble_eq_true rfl) (lt_of_ble rfl)
      refine Wk.nil (AW.ret ?_)
      exact RetQ.ret (sndB _ l qu) (.cons ⟨4, 0, _, _, _, rfl, rfl, ty47, rfl⟩ .nil) ⟨rfl, rfl⟩ (kept2 rfl rfl)
    · rfl
    · rfl
set_option maxHeartbeats 8000000 in
set_option maxRecDepth 100000 in
/-- What is on its way, as the list that the ring answers. -/
def flV (L : List Dat) : A := if L = [] then .d (.v (.slice none 0 0)) else .own 17 (L.length - 1)
def flX (L : List Dat) : List (Nat × Bx) := if L = [] then [] else [(17, .own (L.length - 1) 47 3 (piecesA L))]
set_option maxHeartbeats 8000000 in
set_option maxRecDepth 100000 in
theorem ilist (m w p u y a : Int) (f : Nat → Sl) (s : Int) (l : Nat) (q : Bool) (t : Int) (hh : Bool) (c : Int) (dd : Bool) (qu : List Dat) (h : Nat) (L : List Dat) (hh1 : h ≤ 4) (hn : L.length ≤ 4) (hL : ∀ i d, L[i]? = some d → f ((h + i) % 4) = sl (some d)) : Spec Try.prog 91 [.ptr 27 6] (sndB (sndC m w p u y a f (h : Int) (L.length : Int) s l q t hh c dd) l qu) (fun r bs => r = flV L ∧ bs = sndB (sndC m w p u y a f (h : Int) (L.length : Int) s l q t hh c dd) l qu ++ flX L) := by
  refine Spec.intro (n := 20) (rv := [.tmp 2]) Try.func91 rfl rfl rfl (by simp) fun C hN hX => ?_
  refine AW.seq ?_
  apply AW.list
  apply Wk.asg (by conv => lhs; whnf) (lt_of_ble rfl)
  refine Wk.nil ?_
  refine AW.seq ?_
  apply AW.list
  apply Wk.asg (by conv => lhs; whnf) (lt_of_ble rfl)
  refine Wk.nil ?_
  refine AW.seq (AW.seq ?_)
  apply AW.list
  apply Wk.mv (by conv => lhs; whnf) (lt_of_ble rfl)
  apply Wk.nilc rfl (lt_of_ble rfl)
  apply Wk.fad 13 0 false fd109_2 rfl (lt_of_ble rfl)
  apply Wk.ld (i := 27) 1 false ty3 rfl rfl (by conv => lhs; whnf) (lt_of_ble rfl)
  apply Wk.mv (by conv => lhs; whnf) (lt_of_ble rfl)
  refine Wk.nil (AW.block ?_)
  let inv : Nat → St := fun k => match k with
    | 0 => St.of 20 [(0, .ptr 27 6), (3, .d (.v (.slice none 0 0))), (8, .d (.v (.int .i64 (L.length : Int)))), (9, .d (.v (.int .i64 0)))] [(27, .var (sndC m w p u y a f (h : Int) (L.length : Int) s l q t hh c dd)), (66, .own l 47 3 (piecesA qu))]
    | k + 1 => St.of 20 [(0, .ptr 27 6), (3, .own 17 k), (8, .d (.v (.int .i64 (L.length : Int)))), (9, .d (.v (.int .i64 ((k + 1 : Nat) : Int))))] [(27, .var (sndC m w p u y a f (h : Int) (L.length : Int) s l q t hh c dd)), (66, .own l 47 3 (piecesA qu)), (17, .own k 47 3 (piecesA (L.take (k + 1))))]
  refine AW.loop inv (fun k => k ≤ L.length) (fun k => L.length - k) 0 (Nat.zero_le _) ?_ ?_
  · exact fun a w => Rel.keep ⟨rfl, .cons rfl rfl (.cons rfl rfl (.cons rfl rfl (.cons rfl rfl .nil))), .cons rfl rfl (.cons rfl (by exact within_parts _) .nil), hN.mono (by simp [keys, sndB])⟩
  rintro k hk
  cases k with
  | zero =>
    show AW Try.prog C _ _ (St.of 20 [(0, .ptr 27 6), (3, .d (.v (.slice none 0 0))), (8, .d (.v (.int .i64 (L.length : Int)))), (9, .d (.v (.int .i64 0)))] [(27, .var (sndC m w p u y a f (h : Int) (L.length : Int) s l q t hh c dd)), (66, .own l 47 3 (piecesA qu))])
    refine AW.seq ?_
    by_cases hlt : 0 < L.length
    · obtain ⟨d, hd⟩ : ∃ d, L[0]? = some d := ⟨_, List.getElem?_eq_getElem hlt⟩
      have htk : L.take 1 = L.take 0 ++ [d] := by rw [List.take_add_one, hd]; rfl
      have cat := iat m w p u y a f s l q t hh c dd qu h 0 (L.length : Int) hh1 (by omega) _ rfl
      rw [hL 0 d hd] at cat
      apply AW.list
      apply Wk.bin rfl rfl (r := .bool true) (fun w => by simp [go_sem] <;> omega) (lt_of_ble rfl)
      refine Wk.nil ?_
      refine AW.seq ?_
      refine AW.cond rfl (fun _ => AW.skip ?_) (fun hc => by cases hc)
      repeat (first | refine thenA_normal ?_ | refine inBlockA_normal ?_)
      refine AW.seq (AW.block (AW.seq ?_))
      apply AW.list
      apply Wk.mv (by conv => lhs; whnf) (lt_of_ble rfl)
      apply Wk.asg (by conv => lhs; whnf) (lt_of_ble rfl)
      refine Wk.nil ?_
      repeat (first | refine thenA_normal ?_ | refine inBlockA_normal ?_)
      apply AW.list
      apply Wk.mv (by conv => lhs; whnf) (lt_of_ble rfl)
      apply Wk.mv (by conv => lhs; whnf) (lt_of_ble rfl)
      apply Wk.mv (by conv => lhs; whnf) (lt_of_ble rfl)
      apply Wk.cal [27, 66] [] cat (in_snd _ rfl _ _ _ _ _ _ _ _ _ _ _ _ _ _ _ _ _ _) ⟨_, _, rfl, rfl⟩ Try.func98 rfl rfl rfl rfl (fun i hi => by cases hi) rfl (two_in rfl (by exact within_parts _)) (lt_of_ble rfl)
      rintro r bs' ⟨rfl, rfl⟩
      apply Wk.lst 16 3 true [.int .i64 0, .int .i64 0, .slice none 0 0] un25 ty47 ze47 rfl rfl (by rfl) (by rfl) (by decide) (by decide) rfl rfl (all_len rfl) (lt_of_ble rfl)
      apply Wk.appNO 17 16 3 un25 ap47 rfl rfl rfl rfl (by decide) (all_len rfl) (by simp) (lt_of_ble rfl)
      apply Wk.asg (by conv => lhs; whnf) (lt_of_ble rfl)
      refine Wk.nil ?_
      repeat (first | refine thenA_normal ?_ | refine inBlockA_normal ?_)
      apply AW.list
      apply Wk.addi rfl rfl (by omega) (lt_of_ble rfl)
      apply Wk.mv (by conv => lhs; whnf) (lt_of_ble rfl)
      refine Wk.nil ?_
      refine ⟨1, by omega, by omega, ?_⟩
      refine fun a w => Rel.keep ⟨rfl, .cons rfl rfl (.cons rfl rfl (.cons rfl rfl (.cons rfl rfl .nil))), .cons rfl rfl (.cons rfl (by exact within_parts _) (.cons ?_ (by exact within_parts _) .nil)), hN.mono (by simp [keys, sndB])⟩
      simp only [htk, piecesA, List.map_append]
      rfl
    · have hlen : L.length = 0 := by omega
      apply AW.list
      apply Wk.bin rfl rfl (r := .bool false) (fun w => by rw [hlen]; simp [go_sem]) (lt_of_ble rfl)
      refine Wk.nil ?_
      refine AW.seq ?_
      refine AW.cond rfl (fun hc => by cases hc) (fun _ => AW.exit ?_)
      repeat (first | refine inBlockA_same ?_ | refine thenA_exit ?_)
      repeat (first | refine thenA_normal ?_ | refine inBlockA_normal ?_)
      refine AW.seq ?_
      apply AW.list
      apply Wk.mv (by conv => lhs; whnf) (lt_of_ble rfl)
      apply Wk.asg (by conv => lhs; whnf) (lt_of_ble rfl)
      refine Wk.nil ?_
      refine AW.ret ?_
      repeat (first | refine thenA_ret ?_ | refine inBlockA_ret ?_)
      obtain rfl : L = [] := List.length_eq_zero_iff.1 hlen
      exact RetQ.ret (sndB _ l qu) (.cons rfl .nil) ⟨rfl, rfl⟩ (kept2 rfl rfl)
  | succ k =>
    show AW Try.prog C _ _ (St.of 20 [(0, .ptr 27 6), (3, .own 17 k), (8, .d (.v (.int .i64 (L.length : Int)))), (9, .d (.v (.int .i64 ((k + 1 : Nat) : Int))))] [(27, .var (sndC m w p u y a f (h : Int) (L.length : Int) s l q t hh c dd)), (66, .own l 47 3 (piecesA qu)), (17, .own k 47 3 (piecesA (L.take (k + 1))))])
    refine AW.seq ?_
    by_cases hlt : (k + 1) < L.length
    · obtain ⟨d, hd⟩ : ∃ d, L[(k + 1)]? = some d := ⟨_, List.getElem?_eq_getElem hlt⟩
      have htk : L.take ((k + 1) + 1) = L.take (k + 1) ++ [d] := by rw [List.take_add_one, hd]; rfl
      have cat := iat m w p u y a f s l q t hh c dd qu h (k + 1) (L.length : Int) hh1 (by omega) _ rfl
      rw [hL (k + 1) d hd] at cat
      apply AW.list
      apply Wk.bin rfl rfl (r := .bool true) (fun w => by simp [go_sem] <;> omega) (lt_of_ble rfl)
      refine Wk.nil ?_
      refine AW.seq ?_
      refine AW.cond rfl (fun _ => AW.skip ?_) (fun hc => by cases hc)
      repeat (first | refine thenA_normal ?_ | refine inBlockA_normal ?_)
      refine AW.seq (AW.block (AW.seq ?_))
      apply AW.list
      apply Wk.mv (by conv => lhs; whnf) (lt_of_ble rfl)
      apply Wk.asg (by conv => lhs; whnf) (lt_of_ble rfl)
      refine Wk.nil ?_
      repeat (first | refine thenA_normal ?_ | refine inBlockA_normal ?_)
      apply AW.list
      apply Wk.mv (by conv => lhs; whnf) (lt_of_ble rfl)
      apply Wk.mv (by conv => lhs; whnf) (lt_of_ble rfl)
      apply Wk.mv (by conv => lhs; whnf) (lt_of_ble rfl)
      apply Wk.cal [27, 66] [] cat (in_snd _ rfl _ _ _ _ _ _ _ _ _ _ _ _ _ _ _ _ _ _) ⟨_, _, rfl, rfl⟩ Try.func98 rfl rfl rfl rfl (fun i hi => by cases hi) rfl (two_in rfl (by exact within_parts _)) (lt_of_ble rfl)
      rintro r bs' ⟨rfl, rfl⟩
      apply Wk.lst 16 3 true [.int .i64 0, .int .i64 0, .slice none 0 0] un25 ty47 ze47 rfl rfl (by rfl) (by rfl) (by decide) (by decide) rfl rfl (all_len rfl) (lt_of_ble rfl)
      apply Wk.appOO 17 16 3 un25 ap47 rfl rfl rfl rfl (by decide) (all_len rfl) (three_parts _) (by simp [piecesA]; omega) (lt_of_ble rfl)
      apply Wk.asg (by conv => lhs; whnf) (lt_of_ble rfl)
      refine Wk.nil ?_
      repeat (first | refine thenA_normal ?_ | refine inBlockA_normal ?_)
      apply AW.list
      apply Wk.addi rfl rfl (by omega) (lt_of_ble rfl)
      apply Wk.mv (by conv => lhs; whnf) (lt_of_ble rfl)
      refine Wk.nil ?_
      refine ⟨k + 1 + 1, by omega, by omega, ?_⟩
      refine fun a w => Rel.keep ⟨rfl, .cons rfl rfl (.cons rfl rfl (.cons rfl rfl (.cons rfl rfl .nil))), .cons rfl rfl (.cons rfl (by exact within_parts _) (.cons ?_ (by exact within_parts _) .nil)), hN.mono (by simp [keys, sndB])⟩
      simp only [htk, piecesA, List.map_append]
      rfl
    · have hlen : L.length = k + 1 := by omega
      apply AW.list
      apply Wk.bin rfl rfl (r := .bool false) (fun w => by rw [hlen]; simp [go_sem]) (lt_of_ble rfl)
      refine Wk.nil ?_
      refine AW.seq ?_
      refine AW.cond rfl (fun hc => by cases hc) (fun _ => AW.exit ?_)
      repeat (first | refine inBlockA_same ?_ | refine thenA_exit ?_)
      repeat (first | refine thenA_normal ?_ | refine inBlockA_normal ?_)
      refine AW.seq ?_
      apply AW.list
      apply Wk.mv (by conv => lhs; whnf) (lt_of_ble rfl)
      apply Wk.asg (by conv => lhs; whnf) (lt_of_ble rfl)
      refine Wk.nil ?_
      refine AW.ret ?_
      repeat (first | refine thenA_ret ?_ | refine inBlockA_ret ?_)
      have hne : L ≠ [] := fun e => by rw [e] at hlen; cases hlen
      have e1 : flV L = .own 17 k := by rw [flV, if_neg hne, hlen]; rfl
      have e2 : flX L = [(17, .own k 47 3 (piecesA (L.take (k + 1))))] := by rw [flX, if_neg hne, ← hlen, List.take_length, hlen]; rfl
      rw [e1, e2]
      exact RetQ.ret [(27, .var (sndC m w p u y a f (h : Int) (L.length : Int) s l q t hh c dd)), (66, .own l 47 3 (piecesA qu)), (17, .own k 47 3 (piecesA (L.take (k + 1))))] (.cons rfl .nil) ⟨rfl, rfl⟩ (kept3 rfl rfl rfl)
end Go.Proofs.Ytdojkmjamilllaa

/- Who sends, the program's: made of a state; its state; what asks for an answer. Written by tools/mk_AbsSender2.py. -/
namespace Go.Proofs.Ytdojkmjamilllaa
open Go Go.RowKit
theorem snd_fillO (m w p u y a s : Int) (l : Nat) (q : Bool) (t : Int) (hh : Bool) (c : Int) (dd : Bool) : fillA ([(0, 5), (5, 1), (6, 14), (20, 1), (21, 1), (22, 1), (23, 1), (24, 1), (25, 1), (26, 1)][·]?) (([.int .i64 0, .int .i64 0, .int .i64 0, .int .i64 0, .int .i64 0, .int .i64 0, .int .i64 0, .int .i64 0, .slice none 0 0, .int .i64 0, .int .i64 0, .slice none 0 0, .int .i64 0, .int .i64 0, .slice none 0 0, .int .i64 0, .int .i64 0, .slice none 0 0, .int .i64 0, .int .i64 0, .int .i64 0, .slice none 0 0, .bool false, .int .i64 0, .bool false, .int .i64 0, .bool false] : List Value).map fun x => .d (.v x)) [(0, cfgA m w p u y), (1, .d (.v (.int .i64 a))), (3, .d (.v (.int .i64 s))), (4, .own 66 l), (5, .d (.v (.bool q))), (6, .d (.v (.int .i64 t))), (7, .d (.v (.bool hh))), (8, .d (.v (.int .i64 c))), (9, .d (.v (.bool dd)))] = some [.d (.v (.int .i64 m)), .d (.v (.int .i64 w)), .d (.v (.int .i64 p)), .d (.v (.int .i64 u)), .d (.v (.int .i64 y)), .d (.v (.int .i64 a)), .d (.v (.int .i64 0)), .d (.v (.int .i64 0)), .d (.v (.slice none 0 0)), .d (.v (.int .i64 0)), .d (.v (.int .i64 0)), .d (.v (.slice none 0 0)), .d (.v (.int .i64 0)), .d (.v (.int .i64 0)), .d (.v (.slice none 0 0)), .d (.v (.int .i64 0)), .d (.v (.int .i64 0)), .d (.v (.slice none 0 0)), .d (.v (.int .i64 0)), .d (.v (.int .i64 0)), .d (.v (.int .i64 s)), .own 66 l, .d (.v (.bool q)), .d (.v (.int .i64 t)), .d (.v (.bool hh)), .d (.v (.int .i64 c)), .d (.v (.bool dd))] := by
  simp [fillA, setA, cellsA, cfgA, Value.oneCell']
theorem snd_fillN (m w p u y a s : Int) (q : Bool) (t : Int) (hh : Bool) (c : Int) (dd : Bool) : fillA ([(0, 5), (5, 1), (6, 14), (20, 1), (21, 1), (22, 1), (23, 1), (24, 1), (25, 1), (26, 1)][·]?) (([.int .i64 0, .int .i64 0, .int .i64 0, .int .i64 0, .int .i64 0, .int .i64 0, .int .i64 0, .int .i64 0, .slice none 0 0, .int .i64 0, .int .i64 0, .slice none 0 0, .int .i64 0, .int .i64 0, .slice none 0 0, .int .i64 0, .int .i64 0, .slice none 0 0, .int .i64 0, .int .i64 0, .int .i64 0, .slice none 0 0, .bool false, .int .i64 0, .bool false, .int .i64 0, .bool false] : List Value).map fun x => .d (.v x)) [(0, cfgA m w p u y), (1, .d (.v (.int .i64 a))), (3, .d (.v (.int .i64 s))), (4, .d (.v (.slice none 0 0))), (5, .d (.v (.bool q))), (6, .d (.v (.int .i64 t))), (7, .d (.v (.bool hh))), (8, .d (.v (.int .i64 c))), (9, .d (.v (.bool dd)))] = some [.d (.v (.int .i64 m)), .d (.v (.int .i64 w)), .d (.v (.int .i64 p)), .d (.v (.int .i64 u)), .d (.v (.int .i64 y)), .d (.v (.int .i64 a)), .d (.v (.int .i64 0)), .d (.v (.int .i64 0)), .d (.v (.slice none 0 0)), .d (.v (.int .i64 0)), .d (.v (.int .i64 0)), .d (.v (.slice none 0 0)), .d (.v (.int .i64 0)), .d (.v (.int .i64 0)), .d (.v (.slice none 0 0)), .d (.v (.int .i64 0)), .d (.v (.int .i64 0)), .d (.v (.slice none 0 0)), .d (.v (.int .i64 0)), .d (.v (.int .i64 0)), .d (.v (.int .i64 s)), .d (.v (.slice none 0 0)), .d (.v (.bool q)), .d (.v (.int .i64 t)), .d (.v (.bool hh)), .d (.v (.int .i64 c)), .d (.v (.bool dd))] := by
  simp [fillA, setA, cellsA, cfgA, Value.oneCell']
set_option maxHeartbeats 1000000 in
set_option maxRecDepth 100000 in
theorem inewO (m w p u y : Int) (n a : Int) (fl : List Dat) (s : Int) (qu : List Dat) (q : Bool) (t : Int) (hh : Bool) (c : Int) (dd : Bool) (hq : qu ≠ []) (h4 : fl.length ≤ 4) (hx : TX.few ⟨n, a, fl, s, qu, q, t, hh, c, dd⟩) :
    Spec Try.prog 51 [cfgA m w p u y, txA ⟨n, a, fl, s, qu, q, t, hh, c, dd⟩] [] (fun r bs => r = .ptr 27 0 ∧ bs = sndB (sndC m w p u y a (ringF fl) 0 (fl.length : Int) s qu.length q t hh c dd) qu.length qu) := by
  have e1 : (((fl.map datD).length : Nat) : Int) = (fl.length : Int) := by rw [List.length_map]
  have cf := icopy_ok fl hx.1.1 hx.1.2
  have cq := icopyO qu hq hx.2.1 hx.2.2
  have i1 := in_slist (L := [] ++ [66]) (i := 66) (k := qu.length) (e := 47) (sz := 3) (by simp) (within_parts qu)
  refine Spec.intro (n := 43) (rv := [.tmp 4]) Try.func51 rfl rfl rfl (by simp) fun C hN hX => ?_
  refine AW.seq ?_
  apply AW.list
  apply Wk.bx 2 rfl rfl (lt_of_ble rfl)
  apply Wk.bx 3 rfl rfl (lt_of_ble rfl)
  apply Wk.asg (by conv => lhs; whnf) (lt_of_ble rfl)
  refine Wk.nil ?_
  refine AW.seq ?_
  apply AW.draw (hm := hmix) (cs := _)
  · apply Wk.ld (i := 2) 5 true ty24 rfl rfl (by conv => lhs; whnf) (lt_of_ble rfl)
    apply Wk.fad 1 0 false fd27_1 rfl (lt_of_ble rfl)
    apply Wk.ld (i := 3) 1 false ty3 rfl rfl (by conv => lhs; whnf) (lt_of_ble rfl)
    apply Wk.fad 3 0 false fd27_3 rfl (lt_of_ble rfl)
    apply Wk.ld (i := 3) 1 false ty3 rfl rfl (by conv => lhs; whnf) (lt_of_ble rfl)
    apply Wk.fad 4 0 false fd27_4 rfl (lt_of_ble rfl)
    apply Wk.ld (i := 3) 1 false ty25 rfl rfl (by conv => lhs; whnf) (lt_of_ble rfl)
    apply Wk.cal [] [66] cq i1 ⟨_, _, rfl, rfl⟩ Try.func88 rfl rfl rfl rfl (by simp; rfl) rfl (fun i hi => by cases hi) (lt_of_ble rfl)
    rintro r bs' ⟨rfl, rfl⟩
    apply Wk.fad 5 0 false fd27_5 rfl (lt_of_ble rfl)
    apply Wk.ld (i := 3) 1 false ty4 rfl rfl (by conv => lhs; whnf) (lt_of_ble rfl)
    apply Wk.fad 6 0 false fd27_6 rfl (lt_of_ble rfl)
    apply Wk.ld (i := 3) 1 false ty3 rfl rfl (by conv => lhs; whnf) (lt_of_ble rfl)
    apply Wk.fad 7 0 false fd27_7 rfl (lt_of_ble rfl)
    apply Wk.ld (i := 3) 1 false ty4 rfl rfl (by conv => lhs; whnf) (lt_of_ble rfl)
    apply Wk.fad 8 0 false fd27_8 rfl (lt_of_ble rfl)
    apply Wk.ld (i := 3) 1 false ty3 rfl rfl (by conv => lhs; whnf) (lt_of_ble rfl)
    apply Wk.fad 9 0 false fd27_9 rfl (lt_of_ble rfl)
    apply Wk.ld (i := 3) 1 false ty4 rfl rfl (by conv => lhs; whnf) (lt_of_ble rfl)
    apply Wk.bld [.int .i64 0, .int .i64 0, .int .i64 0, .int .i64 0, .int .i64 0, .int .i64 0, .int .i64 0, .int .i64 0, .slice none 0 0, .int .i64 0, .int .i64 0, .slice none 0 0, .int .i64 0, .int .i64 0, .slice none 0 0, .int .i64 0, .int .i64 0, .slice none 0 0, .int .i64 0, .int .i64 0, .int .i64 0, .slice none 0 0, .bool false, .int .i64 0, .bool false, .int .i64 0, .bool false] [(0, 5), (5, 1), (6, 14), (20, 1), (21, 1), (22, 1), (23, 1), (24, 1), (25, 1), (26, 1)] bl111 rfl (by exact snd_fillO m w p u y a s qu.length q t hh c dd) (lt_of_ble rfl)
    apply Wk.bx 27 rfl rfl (lt_of_ble rfl)
    apply Wk.asg (by conv => lhs; whnf) (lt_of_ble rfl)
    refine Wk.nil ?_
    refine AW.seq (AW.seq ?_)
    apply AW.list
    apply Wk.fad 2 0 false fd27_2 rfl (lt_of_ble rfl)
    apply Wk.ld (i := 3) 1 false ty25 rfl rfl (by conv => lhs; whnf) (lt_of_ble rfl)
    apply Wk.dat cf Try.func88 rfl rfl rfl rfl rfl (lt_of_ble rfl)
    apply Wk.len un25 rfl (lt_of_ble rfl)
    apply Wk.mv (by conv => lhs; whnf) (lt_of_ble rfl)
    refine Wk.nil (AW.block ?_)
    refine AW.loop (fun k : Nat => St.of 43 [(5, .ptr 27 0), (30, .d (partsD fl)), (31, .d (.v (.int .i64 (((fl.map datD).length : Nat) : Int)))), (32, .d (.v (.int .i64 (k : Int))))] [(27, .var (sndC m w p u y a (ringF (fl.take k)) 0 (k : Int) s qu.length q t hh c dd)), (66, .own qu.length 47 3 (piecesA qu))]) (fun k => k ≤ fl.length) (fun k => fl.length - k) 0 (Nat.zero_le _) ?_ ?_
    · exact fun a w => Rel.keep ⟨rfl, .cons rfl rfl (.cons rfl rfl (.cons rfl rfl (.cons rfl rfl .nil))), .cons rfl rfl (.cons rfl (by exact within_parts _) .nil), hN.mono (by simp [keys])⟩
    rintro k hk
    show AW Try.prog C _ _ (St.of 43 [(5, .ptr 27 0), (30, .d (partsD fl)), (31, .d (.v (.int .i64 (((fl.map datD).length : Nat) : Int)))), (32, .d (.v (.int .i64 (k : Int))))] [(27, .var (sndC m w p u y a (ringF (fl.take k)) 0 (k : Int) s qu.length q t hh c dd)), (66, .own qu.length 47 3 (piecesA qu))])
    refine AW.seq ?_
    apply AW.list
    apply Wk.bin rfl rfl (fun w => by simp [go_sem] <;> rfl) (lt_of_ble rfl)
    refine Wk.nil ?_
    refine AW.seq ?_
    refine AW.cond rfl (fun hc => ?_) (fun hc => ?_)
    · have hlt : k < fl.length := by simpa using hc
      obtain ⟨d, hd⟩ : ∃ d, fl[k]? = some d := ⟨_, List.getElem?_eq_getElem hlt⟩
      have hget : (fl.map datD)[k]? = some (datD d) := by simp [hd]
      have hklt : k < (fl.map datD).length := by simpa using hlt
      have cp := ipush m w p u y a (ringF (fl.take k)) s qu.length q t hh c dd qu k (by omega) d
      rw [ring_push hd] at cp
      refine AW.skip ?_
      repeat (first | refine thenA_normal ?_ | refine inBlockA_normal ?_)
      refine AW.seq (AW.block (AW.seq ?_))
      apply AW.list
      apply Wk.iad 3 true un25 ty47 rfl rfl hklt (datD_len _) (lt_of_ble rfl)
      apply Wk.ldr 3 true ty47 rfl hget (by conv => lhs; whnf) (lt_of_ble rfl)
      apply Wk.alc 7 [.int .i64 0, .int .i64 0, .slice none 0 0] ze47 rfl rfl (lt_of_ble rfl)
      apply Wk.sto (i := 7) 3 true ty47 rfl rfl rfl rfl (Nat.le_of_ble_eq_true rfl) (lt_of_ble rfl)
      refine Wk.nil ?_
      repeat (first | refine thenA_normal ?_ | refine inBlockA_normal ?_)
      apply AW.draw (hm := hmix) (cs := _)
      · apply Wk.mv (by conv => lhs; whnf) (lt_of_ble rfl)
        apply Wk.nilc rfl (lt_of_ble rfl)
        apply Wk.fad 6 13 true fd111_2 rfl (lt_of_ble rfl)
        apply Wk.ld (i := 7) 3 true ty47 rfl rfl (by conv => lhs; whnf) (lt_of_ble rfl)
        apply Wk.cal [27, 66] [] cp (in_snd _ rfl _ _ _ _ _ _ _ _ _ _ _ _ _ _ _ _ _ _) ⟨_, _, rfl, rfl⟩ Try.func89 rfl rfl rfl rfl (fun i hi => by cases hi) rfl (two_in rfl (by exact within_parts _)) (lt_of_ble rfl)
        rintro r bs' ⟨rfl, rfl⟩
        refine Wk.nil ?_
        repeat (first | refine thenA_normal ?_ | refine inBlockA_normal ?_)
        apply AW.list
        apply Wk.addi rfl rfl (by omega) (lt_of_ble rfl)
        apply Wk.mv (by conv => lhs; whnf) (lt_of_ble rfl)
        refine Wk.nil ?_
        refine ⟨k + 1, by omega, by omega, ?_⟩
        exact fun a w => Rel.keep ⟨rfl, .cons rfl rfl (.cons rfl rfl (.cons rfl rfl (.cons rfl rfl .nil))), .cons rfl rfl (.cons rfl (by exact within_parts _) .nil), hN.mono (by simp [keys])⟩
      · rfl
      · rfl
    · have hke : k = fl.length := by
        simp at hc
        omega
      subst hke
      refine AW.exit ?_
      repeat (first | refine inBlockA_same ?_ | refine thenA_exit ?_)
      repeat (first | refine thenA_normal ?_ | refine inBlockA_normal ?_)
      rw [List.take_length]
      refine AW.seq ?_
      apply AW.list
      apply Wk.mv (by conv => lhs; whnf) (lt_of_ble rfl)
      apply Wk.asg (by conv => lhs; whnf) (lt_of_ble rfl)
      refine Wk.nil (AW.ret ?_)
      repeat (first | refine thenA_ret ?_ | refine inBlockA_ret ?_)
      exact RetQ.ret (sndB _ qu.length qu) (.cons rfl .nil) ⟨rfl, rfl⟩ (kept2 rfl rfl)
  · rfl
  · rfl
set_option maxHeartbeats 1000000 in
set_option maxRecDepth 100000 in
theorem inewN (m w p u y : Int) (n a : Int) (fl : List Dat) (s : Int) (q : Bool) (t : Int) (hh : Bool) (c : Int) (dd : Bool) (h4 : fl.length ≤ 4) (hx : TX.few ⟨n, a, fl, s, [], q, t, hh, c, dd⟩) :
    Spec Try.prog 51 [cfgA m w p u y, txA ⟨n, a, fl, s, [], q, t, hh, c, dd⟩] [] (fun r bs => r = .ptr 27 0 ∧ bs = sndB (sndC m w p u y a (ringF fl) 0 (fl.length : Int) s 0 q t hh c dd) 0 []) := by
  have e1 : (((fl.map datD).length : Nat) : Int) = (fl.length : Int) := by rw [List.length_map]
  have cf := icopy_ok fl hx.1.1 hx.1.2
  have cq := icopyNil
  refine Spec.intro (n := 43) (rv := [.tmp 4]) Try.func51 rfl rfl rfl (by simp) fun C hN hX => ?_
  refine AW.seq ?_
  apply AW.list
  apply Wk.bx 2 rfl rfl (lt_of_ble rfl)
  apply Wk.bx 3 rfl rfl (lt_of_ble rfl)
  apply Wk.asg (by conv => lhs; whnf) (lt_of_ble rfl)
  refine Wk.nil ?_
  refine AW.seq ?_
  apply AW.draw (hm := hmix) (cs := _)
  · apply Wk.ld (i := 2) 5 true ty24 rfl rfl (by conv => lhs; whnf) (lt_of_ble rfl)
    apply Wk.fad 1 0 false fd27_1 rfl (lt_of_ble rfl)
    apply Wk.ld (i := 3) 1 false ty3 rfl rfl (by conv => lhs; whnf) (lt_of_ble rfl)
    apply Wk.fad 3 0 false fd27_3 rfl (lt_of_ble rfl)
    apply Wk.ld (i := 3) 1 false ty3 rfl rfl (by conv => lhs; whnf) (lt_of_ble rfl)
    apply Wk.fad 4 0 false fd27_4 rfl (lt_of_ble rfl)
    apply Wk.ld (i := 3) 1 false ty25 rfl rfl (by conv => lhs; whnf) (lt_of_ble rfl)
    apply Wk.dat cq Try.func88 rfl rfl rfl rfl rfl (lt_of_ble rfl)
    apply Wk.fad 5 0 false fd27_5 rfl (lt_of_ble rfl)
    apply Wk.ld (i := 3) 1 false ty4 rfl rfl (by conv => lhs; whnf) (lt_of_ble rfl)
    apply Wk.fad 6 0 false fd27_6 rfl (lt_of_ble rfl)
    apply Wk.ld (i := 3) 1 false ty3 rfl rfl (by conv => lhs; whnf) (lt_of_ble rfl)
    apply Wk.fad 7 0 false fd27_7 rfl (lt_of_ble rfl)
    apply Wk.ld (i := 3) 1 false ty4 rfl rfl (by conv => lhs; whnf) (lt_of_ble rfl)
    apply Wk.fad 8 0 false fd27_8 rfl (lt_of_ble rfl)
    apply Wk.ld (i := 3) 1 false ty3 rfl rfl (by conv => lhs; whnf) (lt_of_ble rfl)
    apply Wk.fad 9 0 false fd27_9 rfl (lt_of_ble rfl)
    apply Wk.ld (i := 3) 1 false ty4 rfl rfl (by conv => lhs; whnf) (lt_of_ble rfl)
    apply Wk.bld [.int .i64 0, .int .i64 0, .int .i64 0, .int .i64 0, .int .i64 0, .int .i64 0, .int .i64 0, .int .i64 0, .slice none 0 0, .int .i64 0, .int .i64 0, .slice none 0 0, .int .i64 0, .int .i64 0, .slice none 0 0, .int .i64 0, .int .i64 0, .slice none 0 0, .int .i64 0, .int .i64 0, .int .i64 0, .slice none 0 0, .bool false, .int .i64 0, .bool false, .int .i64 0, .bool false] [(0, 5), (5, 1), (6, 14), (20, 1), (21, 1), (22, 1), (23, 1), (24, 1), (25, 1), (26, 1)] bl111 rfl (by exact snd_fillN m w p u y a s q t hh c dd) (lt_of_ble rfl)
    apply Wk.bx 27 rfl rfl (lt_of_ble rfl)
    apply Wk.asg (by conv => lhs; whnf) (lt_of_ble rfl)
    refine Wk.nil ?_
    refine AW.nilc (j := 27) (n := 21) (i' := 66) 47 3 rfl rfl rfl ?_
    refine AW.seq (AW.seq ?_)
    apply AW.list
    apply Wk.fad 2 0 false fd27_2 rfl (lt_of_ble rfl)
    apply Wk.ld (i := 3) 1 false ty25 rfl rfl (by conv => lhs; whnf) (lt_of_ble rfl)
    apply Wk.dat cf Try.func88 rfl rfl rfl rfl rfl (lt_of_ble rfl)
    apply Wk.len un25 rfl (lt_of_ble rfl)
    apply Wk.mv (by conv => lhs; whnf) (lt_of_ble rfl)
    refine Wk.nil (AW.block ?_)
    refine AW.loop (fun k : Nat => St.of 43 [(5, .ptr 27 0), (30, .d (partsD fl)), (31, .d (.v (.int .i64 (((fl.map datD).length : Nat) : Int)))), (32, .d (.v (.int .i64 (k : Int))))] [(27, .var (sndC m w p u y a (ringF (fl.take k)) 0 (k : Int) s 0 q t hh c dd)), (66, .own 0 47 3 (piecesA []))]) (fun k => k ≤ fl.length) (fun k => fl.length - k) 0 (Nat.zero_le _) ?_ ?_
    · exact fun a w => Rel.keep ⟨rfl, .cons rfl rfl (.cons rfl rfl (.cons rfl rfl (.cons rfl rfl .nil))), .cons rfl rfl (.cons rfl rfl .nil), hN.mono (by simp [keys])⟩
    rintro k hk
    show AW Try.prog C _ _ (St.of 43 [(5, .ptr 27 0), (30, .d (partsD fl)), (31, .d (.v (.int .i64 (((fl.map datD).length : Nat) : Int)))), (32, .d (.v (.int .i64 (k : Int))))] [(27, .var (sndC m w p u y a (ringF (fl.take k)) 0 (k : Int) s 0 q t hh c dd)), (66, .own 0 47 3 (piecesA []))])
    refine AW.seq ?_
    apply AW.list
    apply Wk.bin rfl rfl (fun w => by simp [go_sem] <;> rfl) (lt_of_ble rfl)
    refine Wk.nil ?_
    refine AW.seq ?_
    refine AW.cond rfl (fun hc => ?_) (fun hc => ?_)
    · have hlt : k < fl.length := by simpa using hc
      obtain ⟨d, hd⟩ : ∃ d, fl[k]? = some d := ⟨_, List.getElem?_eq_getElem hlt⟩
      have hget : (fl.map datD)[k]? = some (datD d) := by simp [hd]
      have hklt : k < (fl.map datD).length := by simpa using hlt
      have cp := ipush m w p u y a (ringF (fl.take k)) s 0 q t hh c dd [] k (by omega) d
      rw [ring_push hd] at cp
      refine AW.skip ?_
      repeat (first | refine thenA_normal ?_ | refine inBlockA_normal ?_)
      refine AW.seq (AW.block (AW.seq ?_))
      apply AW.list
      apply Wk.iad 3 true un25 ty47 rfl rfl hklt (datD_len _) (lt_of_ble rfl)
      apply Wk.ldr 3 true ty47 rfl hget (by conv => lhs; whnf) (lt_of_ble rfl)
      apply Wk.alc 7 [.int .i64 0, .int .i64 0, .slice none 0 0] ze47 rfl rfl (lt_of_ble rfl)
      apply Wk.sto (i := 7) 3 true ty47 rfl rfl rfl rfl (Nat.le_of_ble_eq_true rfl) (lt_of_ble rfl)
      refine Wk.nil ?_
      repeat (first | refine thenA_normal ?_ | refine inBlockA_normal ?_)
      apply AW.draw (hm := hmix) (cs := _)
      · apply Wk.mv (by conv => lhs; whnf) (lt_of_ble rfl)
        apply Wk.nilc rfl (lt_of_ble rfl)
        apply Wk.fad 6 13 true fd111_2 rfl (lt_of_ble rfl)
        apply Wk.ld (i := 7) 3 true ty47 rfl rfl (by conv => lhs; whnf) (lt_of_ble rfl)
        apply Wk.cal [27, 66] [] cp (in_snd _ rfl _ _ _ _ _ _ _ _ _ _ _ _ _ _ _ _ _ _) ⟨_, _, rfl, rfl⟩ Try.func89 rfl rfl rfl rfl (fun i hi => by cases hi) rfl (two_in rfl (by exact within_parts _)) (lt_of_ble rfl)
        rintro r bs' ⟨rfl, rfl⟩
        refine Wk.nil ?_
        repeat (first | refine thenA_normal ?_ | refine inBlockA_normal ?_)
        apply AW.list
        apply Wk.addi rfl rfl (by omega) (lt_of_ble rfl)
        apply Wk.mv (by conv => lhs; whnf) (lt_of_ble rfl)
        refine Wk.nil ?_
        refine ⟨k + 1, by omega, by omega, ?_⟩
        exact fun a w => Rel.keep ⟨rfl, .cons rfl rfl (.cons rfl rfl (.cons rfl rfl (.cons rfl rfl .nil))), .cons rfl rfl (.cons rfl rfl .nil), hN.mono (by simp [keys])⟩
      · rfl
      · rfl
    · have hke : k = fl.length := by
        simp at hc
        omega
      subst hke
      refine AW.exit ?_
      repeat (first | refine inBlockA_same ?_ | refine thenA_exit ?_)
      repeat (first | refine thenA_normal ?_ | refine inBlockA_normal ?_)
      rw [List.take_length]
      refine AW.seq ?_
      apply AW.list
      apply Wk.mv (by conv => lhs; whnf) (lt_of_ble rfl)
      apply Wk.asg (by conv => lhs; whnf) (lt_of_ble rfl)
      refine Wk.nil (AW.ret ?_)
      repeat (first | refine thenA_ret ?_ | refine inBlockA_ret ?_)
      exact RetQ.ret (sndB _ 0 []) (.cons rfl .nil) ⟨rfl, rfl⟩ (kept2 rfl rfl)
  · rfl
  · rfl
/-- Who sends, made of a state. -/
theorem inew (m w p u y : Int) (x : TX) (h4 : x.fl.length ≤ 4) (hx : x.few) : Spec Try.prog 51 [cfgA m w p u y, txA x] [] (fun r bs => r = .ptr 27 0 ∧ bs = sndB (sndC m w p u y x.a (ringF x.fl) 0 (x.fl.length : Int) x.s x.qu.length x.q x.t x.h x.c x.d) x.qu.length x.qu) := by
  obtain ⟨n, a, fl, s, qu, q, t, hh, c, dd⟩ := x
  by_cases hq : qu = []
  · subst hq
    exact inewN m w p u y n a fl s q t hh c dd h4 hx
  · exact inewO m w p u y n a fl s qu q t hh c dd hq h4 hx
theorem ion_ok (n s : Int) (hn : 0 ≤ n ∧ n < 8) (hs : 0 ≤ s ∧ s < 100) : DataOk Try.prog 90 [.d (.v (.int .i64 n)), .d (.v (.int .i64 s))] (.d (.v (.int .i64 ((n + s) % 8)))) := int2 (impl_on n s hn hs)
theorem st_fillO (n a s : Int) (k : Nat) (l : Nat) (q : Bool) (t : Int) (hh : Bool) (c : Int) (dd : Bool) : fillA ([(0, 1), (1, 1), (2, 1), (3, 1), (4, 1), (5, 1), (6, 1), (7, 1), (8, 1), (9, 1)][·]?) (([.int .i64 0, .int .i64 0, .slice none 0 0, .int .i64 0, .slice none 0 0, .bool false, .int .i64 0, .bool false, .int .i64 0, .bool false] : List Value).map fun x => .d (.v x)) [(0, .d (.v (.int .i64 n))), (1, .d (.v (.int .i64 a))), (2, .own 17 k), (3, .d (.v (.int .i64 s))), (4, .own 66 l), (5, .d (.v (.bool q))), (6, .d (.v (.int .i64 t))), (7, .d (.v (.bool hh))), (8, .d (.v (.int .i64 c))), (9, .d (.v (.bool dd)))] = some [.d (.v (.int .i64 n)), .d (.v (.int .i64 a)), .own 17 k, .d (.v (.int .i64 s)), .own 66 l, .d (.v (.bool q)), .d (.v (.int .i64 t)), .d (.v (.bool hh)), .d (.v (.int .i64 c)), .d (.v (.bool dd))] := by
  simp [fillA, setA, cellsA, Value.oneCell']
theorem st_fillN (n a s : Int) (l : Nat) (q : Bool) (t : Int) (hh : Bool) (c : Int) (dd : Bool) : fillA ([(0, 1), (1, 1), (2, 1), (3, 1), (4, 1), (5, 1), (6, 1), (7, 1), (8, 1), (9, 1)][·]?) (([.int .i64 0, .int .i64 0, .slice none 0 0, .int .i64 0, .slice none 0 0, .bool false, .int .i64 0, .bool false, .int .i64 0, .bool false] : List Value).map fun x => .d (.v x)) [(0, .d (.v (.int .i64 n))), (1, .d (.v (.int .i64 a))), (2, .d (.v (.slice none 0 0))), (3, .d (.v (.int .i64 s))), (4, .own 66 l), (5, .d (.v (.bool q))), (6, .d (.v (.int .i64 t))), (7, .d (.v (.bool hh))), (8, .d (.v (.int .i64 c))), (9, .d (.v (.bool dd)))] = some [.d (.v (.int .i64 n)), .d (.v (.int .i64 a)), .d (.v (.slice none 0 0)), .d (.v (.int .i64 s)), .own 66 l, .d (.v (.bool q)), .d (.v (.int .i64 t)), .d (.v (.bool hh)), .d (.v (.int .i64 c)), .d (.v (.bool dd))] := by
  simp [fillA, setA, cellsA, Value.oneCell']
def stA0 (n a : Int) (F : A) (s : Int) (l : Nat) (q : Bool) (t : Int) (hh : Bool) (c : Int) (dd : Bool) : A := .agg [.d (.v (.int .i64 n)), .d (.v (.int .i64 a)), F, .d (.v (.int .i64 s)), .own 66 l, .d (.v (.bool q)), .d (.v (.int .i64 t)), .d (.v (.bool hh)), .d (.v (.int .i64 c)), .d (.v (.bool dd))]
theorem flX_in {L : List Dat} {i : Nat} {z : Bx} (h : (flX L).lookup i = some z) : i ∈ [17] ∧ z.within [17] = true := by
  unfold flX at h
  split at h
  · cases h
  · obtain ⟨rfl, rfl⟩ : i = 17 ∧ z = .own (L.length - 1) 47 3 (piecesA L) := by
      rw [List.lookup_cons] at h
      split at h
      · rename_i e; exact ⟨eq_of_beq e, (Option.some.inj h).symm⟩
      · cases h
    exact ⟨by simp, by simp [Bx.within, within_parts]⟩
theorem within_up {K K' : List Nat} {z : Bx} (h : z.within K = true) (hk : ∀ i ∈ K, i ∈ K') : z.within K' = true := by
  cases z with
  | none => rfl
  | fresh => rfl
  | var cs => exact withins_mono (fun i hi => by simp at hi ⊢; exact hk i hi) cs h
  | own k e sz es =>
    simp only [Bx.within, List.all_eq_true] at h ⊢
    exact fun c hc => withins_mono (fun i hi => by simp at hi ⊢; exact hk i hi) c (h c hc)
theorem lookup_app {l1 l2 : List (Nat × Bx)} {i : Nat} {z : Bx} (h : (l1 ++ l2).lookup i = some z) : l1.lookup i = some z ∨ l2.lookup i = some z := by
  induction l1 with
  | nil => exact .inr h
  | cons x l1 ih =>
    rw [List.cons_append, List.lookup_cons] at h
    rw [List.lookup_cons]
    split
    · rename_i e; rw [e] at h; exact .inl h
    · rename_i e; rw [e] at h; exact ih h
theorem in_sndF (r0 : A) (hr : r0.within [27, 66, 17] = true) (m w p u y a : Int) (f : Nat → Sl) (h k s : Int) (l : Nat) (q : Bool) (t : Int) (hh : Bool) (c : Int) (d : Bool) (l' : Nat) (qu L : List Dat) : PostIn [27, 66, 17] (fun r bs => r = r0 ∧ bs = sndB (sndC m w p u y a f h k s l q t hh c d) l' qu ++ flX L) := by
  rintro r bs ⟨rfl, rfl⟩
  refine ⟨hr, fun i z hz => ?_⟩
  rcases lookup_app hz with h | h
  · have := in_sndB h
    exact ⟨by have h1 := this.1; simp at h1 ⊢; omega, within_up this.2 (fun i hi => by simp at hi ⊢; omega)⟩
  · have := flX_in h
    exact ⟨by have h1 := this.1; simp at h1 ⊢; omega, within_up this.2 (fun i hi => by simp at hi ⊢; omega)⟩
theorem flV_in (L : List Dat) : (flV L).within [27, 66, 17] = true := by
  unfold flV
  split <;> simp [A.within]
set_option maxHeartbeats 1000000 in
set_option maxRecDepth 100000 in
theorem istateN (m w p u y a : Int) (f : Nat → Sl) (s : Int) (l : Nat) (q : Bool) (t : Int) (hh : Bool) (c : Int) (dd : Bool) (qu : List Dat) (h : Nat) (hh1 : h ≤ 4) (hn : ([] : List Dat).length ≤ 4) (hL : ∀ i d, ([] : List Dat)[i]? = some d → f ((h + i) % 4) = sl (some d)) (ha : 0 ≤ a ∧ a < 8) :
    Spec Try.prog 53 [.ptr 27 0] (sndB (sndC m w p u y a f (h : Int) (([] : List Dat).length : Int) s l q t hh c dd) l qu) (fun r bs => r = stA0 ((a + (([] : List Dat).length : Int)) % 8) a (flV []) s l q t hh c dd ∧ bs = sndB (sndC m w p u y a f (h : Int) (([] : List Dat).length : Int) s l q t hh c dd) l qu ++ flX []) := by
  have c1 := ion_ok a (([] : List Dat).length : Int) ha (by omega)
  have c2 := ilist m w p u y a f s l q t hh c dd qu h [] hh1 hn hL
  refine Spec.intro (n := 50) (rv := [.cell 2 27]) Try.func53 rfl rfl rfl (by simp) fun C hN hX => ?_
  refine AW.seq ?_
  apply AW.list
  apply Wk.alc 2 [.int .i64 0, .int .i64 0, .slice none 0 0, .int .i64 0, .slice none 0 0, .bool false, .int .i64 0, .bool false, .int .i64 0, .bool false] ze27 rfl rfl (lt_of_ble rfl)
  refine Wk.nil ?_
  refine AW.seq ?_
  apply AW.draw (hm := hmix) (cs := _)
  · apply Wk.mv (by conv => lhs; whnf) (lt_of_ble rfl)
    apply Wk.nilc rfl (lt_of_ble rfl)
    apply Wk.fad 5 0 false fd111_1 rfl (lt_of_ble rfl)
    apply Wk.ld (i := 27) 1 false ty92 rfl rfl (by conv => lhs; whnf) (lt_of_ble rfl)
    apply Wk.mv (by conv => lhs; whnf) (lt_of_ble rfl)
    apply Wk.nilc rfl (lt_of_ble rfl)
    apply Wk.fad 6 13 true fd111_2 rfl (lt_of_ble rfl)
    apply Wk.fad 13 0 false fd109_2 rfl (lt_of_ble rfl)
    apply Wk.ld (i := 27) 1 false ty3 rfl rfl (by conv => lhs; whnf) (lt_of_ble rfl)
    apply Wk.dat c1 Try.func90 rfl rfl rfl rfl rfl (lt_of_ble rfl)
    apply Wk.mv (by conv => lhs; whnf) (lt_of_ble rfl)
    apply Wk.nilc rfl (lt_of_ble rfl)
    apply Wk.fad 5 0 false fd111_1 rfl (lt_of_ble rfl)
    apply Wk.ld (i := 27) 1 false ty92 rfl rfl (by conv => lhs; whnf) (lt_of_ble rfl)
    apply Wk.mv (by conv => lhs; whnf) (lt_of_ble rfl)
    apply Wk.nilc rfl (lt_of_ble rfl)
    apply Wk.fad 6 13 true fd111_2 rfl (lt_of_ble rfl)
    apply Wk.calr [27, 66] [17] c2 (in_sndF _ rfl _ _ _ _ _ _ _ _ _ _ _ _ _ _ _ _ _ _ []) (by rintro r bs' ⟨rfl, rfl⟩; exact keep2) ⟨_, _, rfl, rfl⟩ Try.func91 rfl rfl rfl rfl (by simp; rfl) rfl (two_in rfl (by exact within_parts _)) (lt_of_ble rfl)
    rintro r bs' ⟨rfl, rfl⟩
    apply Wk.mv (by conv => lhs; whnf) (lt_of_ble rfl)
    apply Wk.nilc rfl (lt_of_ble rfl)
    apply Wk.fad 20 0 false fd111_3 rfl (lt_of_ble rfl)
    apply Wk.ld (i := 27) 1 false ty3 rfl rfl (by conv => lhs; whnf) (lt_of_ble rfl)
    apply Wk.mv (by conv => lhs; whnf) (lt_of_ble rfl)
    apply Wk.nilc rfl (lt_of_ble rfl)
    apply Wk.fad 21 0 false fd111_4 rfl (lt_of_ble rfl)
    apply Wk.ld (i := 27) 1 false ty25 rfl rfl (by conv => lhs; whnf) (lt_of_ble rfl)
    apply Wk.mv (by conv => lhs; whnf) (lt_of_ble rfl)
    apply Wk.nilc rfl (lt_of_ble rfl)
    apply Wk.fad 22 0 false fd111_5 rfl (lt_of_ble rfl)
    apply Wk.ld (i := 27) 1 false ty4 rfl rfl (by conv => lhs; whnf) (lt_of_ble rfl)
    apply Wk.mv (by conv => lhs; whnf) (lt_of_ble rfl)
    apply Wk.nilc rfl (lt_of_ble rfl)
    apply Wk.fad 23 0 false fd111_6 rfl (lt_of_ble rfl)
    apply Wk.ld (i := 27) 1 false ty3 rfl rfl (by conv => lhs; whnf) (lt_of_ble rfl)
    apply Wk.mv (by conv => lhs; whnf) (lt_of_ble rfl)
    apply Wk.nilc rfl (lt_of_ble rfl)
    apply Wk.fad 24 0 false fd111_7 rfl (lt_of_ble rfl)
    apply Wk.ld (i := 27) 1 false ty4 rfl rfl (by conv => lhs; whnf) (lt_of_ble rfl)
    apply Wk.mv (by conv => lhs; whnf) (lt_of_ble rfl)
    apply Wk.nilc rfl (lt_of_ble rfl)
    apply Wk.fad 25 0 false fd111_8 rfl (lt_of_ble rfl)
    apply Wk.ld (i := 27) 1 false ty3 rfl rfl (by conv => lhs; whnf) (lt_of_ble rfl)
    apply Wk.mv (by conv => lhs; whnf) (lt_of_ble rfl)
    apply Wk.nilc rfl (lt_of_ble rfl)
    apply Wk.fad 26 0 false fd111_9 rfl (lt_of_ble rfl)
    apply Wk.ld (i := 27) 1 false ty4 rfl rfl (by conv => lhs; whnf) (lt_of_ble rfl)
    apply Wk.bld [.int .i64 0, .int .i64 0, .slice none 0 0, .int .i64 0, .slice none 0 0, .bool false, .int .i64 0, .bool false, .int .i64 0, .bool false] [(0, 1), (1, 1), (2, 1), (3, 1), (4, 1), (5, 1), (6, 1), (7, 1), (8, 1), (9, 1)] bl27 rfl (by exact st_fillN ((a + (([] : List Dat).length : Int)) % 8) a s l q t hh c dd) (lt_of_ble rfl)
    apply Wk.sto (i := 2) 10 true ty27 rfl rfl rfl rfl (Nat.le_of_ble_eq_true rfl) (lt_of_ble rfl)
    refine Wk.nil (AW.ret ?_)
    exact RetQ.ret (sndB _ l qu) (.cons ⟨2, 0, _, _, _, rfl, rfl, ty27, rfl⟩ .nil) ⟨rfl, rfl⟩ (kept2 rfl rfl)
  · rfl
  · rfl
set_option maxHeartbeats 1000000 in
set_option maxRecDepth 100000 in
theorem istateO (m w p u y a : Int) (f : Nat → Sl) (s : Int) (l : Nat) (q : Bool) (t : Int) (hh : Bool) (c : Int) (dd : Bool) (qu : List Dat) (h : Nat) (L : List Dat) (hne : L ≠ []) (hh1 : h ≤ 4) (hn : (L : List Dat).length ≤ 4) (hL : ∀ i d, (L : List Dat)[i]? = some d → f ((h + i) % 4) = sl (some d)) (ha : 0 ≤ a ∧ a < 8) :
    Spec Try.prog 53 [.ptr 27 0] (sndB (sndC m w p u y a f (h : Int) ((L : List Dat).length : Int) s l q t hh c dd) l qu) (fun r bs => r = stA0 ((a + ((L : List Dat).length : Int)) % 8) a (flV L) s l q t hh c dd ∧ bs = sndB (sndC m w p u y a f (h : Int) ((L : List Dat).length : Int) s l q t hh c dd) l qu ++ flX L) := by
  have c1 := ion_ok a ((L : List Dat).length : Int) ha (by omega)
  have c2 := ilist m w p u y a f s l q t hh c dd qu h L hh1 hn hL
  have ev : flV L = .own 17 (L.length - 1) := if_neg hne
  have ex : flX L = [(17, .own (L.length - 1) 47 3 (piecesA L))] := if_neg hne
  have ip := in_sndF (flV L) (flV_in L) m w p u y a f (h : Int) (L.length : Int) s l q t hh c dd l qu L
  rw [ev, ex] at c2 ip
  rw [ev, ex]
  refine Spec.intro (n := 50) (rv := [.cell 2 27]) Try.func53 rfl rfl rfl (by simp) fun C hN hX => ?_
  refine AW.seq ?_
  apply AW.list
  apply Wk.alc 2 [.int .i64 0, .int .i64 0, .slice none 0 0, .int .i64 0, .slice none 0 0, .bool false, .int .i64 0, .bool false, .int .i64 0, .bool false] ze27 rfl rfl (lt_of_ble rfl)
  refine Wk.nil ?_
  refine AW.seq ?_
  apply AW.draw (hm := hmix) (cs := _)
  · apply Wk.mv (by conv => lhs; whnf) (lt_of_ble rfl)
    apply Wk.nilc rfl (lt_of_ble rfl)
    apply Wk.fad 5 0 false fd111_1 rfl (lt_of_ble rfl)
    apply Wk.ld (i := 27) 1 false ty92 rfl rfl (by conv => lhs; whnf) (lt_of_ble rfl)
    apply Wk.mv (by conv => lhs; whnf) (lt_of_ble rfl)
    apply Wk.nilc rfl (lt_of_ble rfl)
    apply Wk.fad 6 13 true fd111_2 rfl (lt_of_ble rfl)
    apply Wk.fad 13 0 false fd109_2 rfl (lt_of_ble rfl)
    apply Wk.ld (i := 27) 1 false ty3 rfl rfl (by conv => lhs; whnf) (lt_of_ble rfl)
    apply Wk.dat c1 Try.func90 rfl rfl rfl rfl rfl (lt_of_ble rfl)
    apply Wk.mv (by conv => lhs; whnf) (lt_of_ble rfl)
    apply Wk.nilc rfl (lt_of_ble rfl)
    apply Wk.fad 5 0 false fd111_1 rfl (lt_of_ble rfl)
    apply Wk.ld (i := 27) 1 false ty92 rfl rfl (by conv => lhs; whnf) (lt_of_ble rfl)
    apply Wk.mv (by conv => lhs; whnf) (lt_of_ble rfl)
    apply Wk.nilc rfl (lt_of_ble rfl)
    apply Wk.fad 6 13 true fd111_2 rfl (lt_of_ble rfl)
    apply Wk.calr [27, 66] [17] c2 ip (by rintro r bs' ⟨rfl, rfl⟩; exact keep2) ⟨_, _, rfl, rfl⟩ Try.func91 rfl rfl rfl rfl (by simp; rfl) rfl (two_in rfl (by exact within_parts _)) (lt_of_ble rfl)
    rintro r bs' ⟨rfl, rfl⟩
    apply Wk.mv (by conv => lhs; whnf) (lt_of_ble rfl)
    apply Wk.nilc rfl (lt_of_ble rfl)
    apply Wk.fad 20 0 false fd111_3 rfl (lt_of_ble rfl)
    apply Wk.ld (i := 27) 1 false ty3 rfl rfl (by conv => lhs; whnf) (lt_of_ble rfl)
    apply Wk.mv (by conv => lhs; whnf) (lt_of_ble rfl)
    apply Wk.nilc rfl (lt_of_ble rfl)
    apply Wk.fad 21 0 false fd111_4 rfl (lt_of_ble rfl)
    apply Wk.ld (i := 27) 1 false ty25 rfl rfl (by conv => lhs; whnf) (lt_of_ble rfl)
    apply Wk.mv (by conv => lhs; whnf) (lt_of_ble rfl)
    apply Wk.nilc rfl (lt_of_ble rfl)
    apply Wk.fad 22 0 false fd111_5 rfl (lt_of_ble rfl)
    apply Wk.ld (i := 27) 1 false ty4 rfl rfl (by conv => lhs; whnf) (lt_of_ble rfl)
    apply Wk.mv (by conv => lhs; whnf) (lt_of_ble rfl)
    apply Wk.nilc rfl (lt_of_ble rfl)
    apply Wk.fad 23 0 false fd111_6 rfl (lt_of_ble rfl)
    apply Wk.ld (i := 27) 1 false ty3 rfl rfl (by conv => lhs; whnf) (lt_of_ble rfl)
    apply Wk.mv (by conv => lhs; whnf) (lt_of_ble rfl)
    apply Wk.nilc rfl (lt_of_ble rfl)
    apply Wk.fad 24 0 false fd111_7 rfl (lt_of_ble rfl)
    apply Wk.ld (i := 27) 1 false ty4 rfl rfl (by conv => lhs; whnf) (lt_of_ble rfl)
    apply Wk.mv (by conv => lhs; whnf) (lt_of_ble rfl)
    apply Wk.nilc rfl (lt_of_ble rfl)
    apply Wk.fad 25 0 false fd111_8 rfl (lt_of_ble rfl)
    apply Wk.ld (i := 27) 1 false ty3 rfl rfl (by conv => lhs; whnf) (lt_of_ble rfl)
    apply Wk.mv (by conv => lhs; whnf) (lt_of_ble rfl)
    apply Wk.nilc rfl (lt_of_ble rfl)
    apply Wk.fad 26 0 false fd111_9 rfl (lt_of_ble rfl)
    apply Wk.ld (i := 27) 1 false ty4 rfl rfl (by conv => lhs; whnf) (lt_of_ble rfl)
    apply Wk.bld [.int .i64 0, .int .i64 0, .slice none 0 0, .int .i64 0, .slice none 0 0, .bool false, .int .i64 0, .bool false, .int .i64 0, .bool false] [(0, 1), (1, 1), (2, 1), (3, 1), (4, 1), (5, 1), (6, 1), (7, 1), (8, 1), (9, 1)] bl27 rfl (by exact st_fillO ((a + (L.length : Int)) % 8) a s (L.length - 1) l q t hh c dd) (lt_of_ble rfl)
    apply Wk.sto (i := 2) 10 true ty27 rfl rfl rfl rfl (Nat.le_of_ble_eq_true rfl) (lt_of_ble rfl)
    refine Wk.nil (AW.ret ?_)
    exact RetQ.ret [(27, .var (sndC m w p u y a f (h : Int) (L.length : Int) s l q t hh c dd)), (66, .own l 47 3 (piecesA qu)), (17, .own (L.length - 1) 47 3 (piecesA L))] (.cons ⟨2, 0, _, _, _, rfl, rfl, ty27, rfl⟩ .nil) ⟨rfl, rfl⟩ (kept3 rfl rfl rfl)
  · rfl
  · rfl
theorem iwait_ok (b : Bool) : DataOk Try.prog 104 [.d (.v (.bool b))] (.d (.v (.int .i64 (2 * bitZ b)))) := by
  cases b
  · skip
    refine Spec.intro (n := 4) (rv := [.tmp 2]) Try.func104 rfl rfl rfl (by simp) fun C hN hX => ?_
    refine AW.seq ?_
    apply AW.list
    apply Wk.asg (by conv => lhs; whnf) (lt_of_ble rfl)
    refine Wk.nil ?_
    refine AW.seq (AW.seq ?_)
    apply AW.list
    apply Wk.mv (by conv => lhs; whnf) (lt_of_ble rfl)
    refine Wk.nil ?_
    refine AW.cond rfl (fun hc => by cases hc) (fun _ => AW.skip (thenA_normal ?_))
    refine AW.seq ?_
    apply AW.list
    apply Wk.asg (by conv => lhs; whnf) (lt_of_ble rfl)
    refine Wk.nil (AW.ret ?_)
    exact RetQ.ret [] (.cons rfl .nil) ⟨rfl, rfl⟩ none_kept
  · skip
    refine Spec.intro (n := 4) (rv := [.tmp 2]) Try.func104 rfl rfl rfl (by simp) fun C hN hX => ?_
    refine AW.seq ?_
    apply AW.list
    apply Wk.asg (by conv => lhs; whnf) (lt_of_ble rfl)
    refine Wk.nil ?_
    refine AW.seq (AW.seq ?_)
    apply AW.list
    apply Wk.mv (by conv => lhs; whnf) (lt_of_ble rfl)
    refine Wk.nil ?_
    refine AW.cond rfl (fun _ => ?_) (fun hc => by cases hc)
    refine AW.seq ?_
    apply AW.list
    apply Wk.asg (by conv => lhs; whnf) (lt_of_ble rfl)
    refine Wk.nil (AW.ret ?_)
    repeat (first | refine thenA_ret ?_ | refine inBlockA_ret ?_)
    exact RetQ.ret [] (.cons rfl .nil) ⟨rfl, rfl⟩ none_kept
set_option maxHeartbeats 1000000 in
set_option maxRecDepth 100000 in
theorem itickIdle (m w p u y a : Int) (f : Nat → Sl) (k : Nat) (s : Int) (l : Nat) (q : Bool) (t : Int) (hh : Bool) (c : Int) (dd : Bool) (qu : List Dat) (ack : Int) (bu : Bool) (hi : dd = true ∨ (k = 0 ∧ hh = false ∧ q = false)) : Spec Try.prog 78 [.ptr 27 0, .d (.v (.int .i64 ack)), .d (.v (.bool bu))] (sndB (sndC m w p u y a f 0 (k : Int) s l q t hh c dd) l qu) (fun r bs => r = .tup [frmNo, .d (.v (.bool false))] ∧ bs = (sndB (sndC m w p u y a f 0 (k : Int) s l q t hh c dd) l qu)) := by
  cases dd
  · obtain ⟨rfl, rfl, rfl⟩ : k = 0 ∧ hh = false ∧ q = false := by simpa using hi
    refine Spec.intro (n := 65) (rv := [.cell 6 42, .tmp 7]) Try.func78 rfl rfl rfl (by simp) fun C hN hX => ?_
    refine AW.seq ?_
    apply AW.list
    apply Wk.alc 6 [.int .i64 0, .int .i64 0, .int .i64 0, .bool false, .bool false, .int .i64 0, .int .i64 0, .int .i64 0, .slice none 0 0] ze42 rfl rfl (lt_of_ble rfl)
    apply Wk.asg (by conv => lhs; whnf) (lt_of_ble rfl)
    refine Wk.nil ?_
    refine AW.seq ?_
    apply AW.list
    apply Wk.mv (by conv => lhs; whnf) (lt_of_ble rfl)
    apply Wk.nilc rfl (lt_of_ble rfl)
    apply Wk.fad 6 13 true fd111_2 rfl (lt_of_ble rfl)
    apply Wk.fad 13 0 false fd109_2 rfl (lt_of_ble rfl)
    apply Wk.ld (i := 27) 1 false ty3 rfl rfl (by conv => lhs; whnf) (lt_of_ble rfl)
    apply Wk.bin rfl rfl (r := .bool true) (fun w => by simp [go_sem]) (lt_of_ble rfl)
    apply Wk.mv (by conv => lhs; whnf) (lt_of_ble rfl)
    apply Wk.gon 15 rfl rfl
    apply Wk.mv (by conv => lhs; whnf) (lt_of_ble rfl)
    apply Wk.gon 15 rfl rfl
    apply Wk.nilc rfl (lt_of_ble rfl)
    apply Wk.gon 15 rfl rfl
    apply Wk.fad 24 0 false fd111_7 rfl (lt_of_ble rfl)
    apply Wk.gon 15 rfl rfl
    apply Wk.ld (i := 27) 1 false ty4 rfl rfl (by conv => lhs; whnf) (lt_of_ble rfl)
    apply Wk.gon 15 rfl rfl
    apply Wk.un rfl (fun w => by simp [go_sem] <;> rfl) (lt_of_ble rfl)
    apply Wk.pckT rfl (by conv => lhs; whnf) (lt_of_ble rfl)
    apply Wk.mv (by conv => lhs; whnf) (lt_of_ble rfl)
    apply Wk.gon 22 rfl rfl
    apply Wk.mv (by conv => lhs; whnf) (lt_of_ble rfl)
    apply Wk.gon 22 rfl rfl
    apply Wk.nilc rfl (lt_of_ble rfl)
    apply Wk.gon 22 rfl rfl
    apply Wk.fad 22 0 false fd111_5 rfl (lt_of_ble rfl)
    apply Wk.gon 22 rfl rfl
    apply Wk.ld (i := 27) 1 false ty4 rfl rfl (by conv => lhs; whnf) (lt_of_ble rfl)
    apply Wk.gon 22 rfl rfl
    apply Wk.un rfl (fun w => by simp [go_sem] <;> rfl) (lt_of_ble rfl)
    apply Wk.pckT rfl (by conv => lhs; whnf) (lt_of_ble rfl)
    apply Wk.asg (by conv => lhs; whnf) (lt_of_ble rfl)
    refine Wk.nil ?_
    refine AW.seq (AW.seq ?_)
    apply AW.list
    apply Wk.mv (by conv => lhs; whnf) (lt_of_ble rfl)
    apply Wk.nilc rfl (lt_of_ble rfl)
    apply Wk.fad 26 0 false fd111_9 rfl (lt_of_ble rfl)
    apply Wk.ld (i := 27) 1 false ty4 rfl rfl (by conv => lhs; whnf) (lt_of_ble rfl)
    apply Wk.mv (by conv => lhs; whnf) (lt_of_ble rfl)
    apply Wk.gon 33 rfl rfl
    apply Wk.mv (by conv => lhs; whnf) (lt_of_ble rfl)
    apply Wk.pckF rfl (by conv => lhs; whnf) (lt_of_ble rfl)
    refine Wk.nil ?_
    refine AW.cond rfl (fun _ => ?_) (fun hc => by cases hc)
    refine AW.seq ?_
    apply AW.list
    apply Wk.bld [.int .i64 0, .int .i64 0, .int .i64 0, .bool false, .bool false, .int .i64 0, .int .i64 0, .int .i64 0, .slice none 0 0] [(0, 1), (1, 1), (2, 1), (3, 1), (4, 1), (5, 1), (6, 1), (7, 1), (8, 1)] bl42 rfl (by conv => lhs; whnf) (lt_of_ble rfl)
    apply Wk.sto (i := 6) 9 true ty42 rfl rfl rfl rfl (Nat.le_of_ble_eq_true rfl) (lt_of_ble rfl)
    apply Wk.asg (by conv => lhs; whnf) (lt_of_ble rfl)
    refine Wk.nil (AW.ret ?_)
    repeat (first | refine thenA_ret ?_ | refine inBlockA_ret ?_)
    exact RetQ.ret (sndB _ l qu) (.cons ⟨6, 0, _, _, _, rfl, rfl, ty42, rfl⟩ (.cons rfl .nil)) ⟨rfl, rfl⟩ (kept2 rfl rfl)
  · by_cases hk : k = 0
    · subst hk
      cases hh
      · skip
        refine Spec.intro (n := 65) (rv := [.cell 6 42, .tmp 7]) Try.func78 rfl rfl rfl (by simp) fun C hN hX => ?_
        refine AW.seq ?_
        apply AW.list
        apply Wk.alc 6 [.int .i64 0, .int .i64 0, .int .i64 0, .bool false, .bool false, .int .i64 0, .int .i64 0, .int .i64 0, .slice none 0 0] ze42 rfl rfl (lt_of_ble rfl)
        apply Wk.asg (by conv => lhs; whnf) (lt_of_ble rfl)
        refine Wk.nil ?_
        refine AW.seq ?_
        apply AW.list
        apply Wk.mv (by conv => lhs; whnf) (lt_of_ble rfl)
        apply Wk.nilc rfl (lt_of_ble rfl)
        apply Wk.fad 6 13 true fd111_2 rfl (lt_of_ble rfl)
        apply Wk.fad 13 0 false fd109_2 rfl (lt_of_ble rfl)
        apply Wk.ld (i := 27) 1 false ty3 rfl rfl (by conv => lhs; whnf) (lt_of_ble rfl)
        apply Wk.bin rfl rfl (r := .bool true) (fun w => by simp [go_sem]) (lt_of_ble rfl)
        apply Wk.mv (by conv => lhs; whnf) (lt_of_ble rfl)
        apply Wk.gon 15 rfl rfl
        apply Wk.mv (by conv => lhs; whnf) (lt_of_ble rfl)
        apply Wk.gon 15 rfl rfl
        apply Wk.nilc rfl (lt_of_ble rfl)
        apply Wk.gon 15 rfl rfl
        apply Wk.fad 24 0 false fd111_7 rfl (lt_of_ble rfl)
        apply Wk.gon 15 rfl rfl
        apply Wk.ld (i := 27) 1 false ty4 rfl rfl (by conv => lhs; whnf) (lt_of_ble rfl)
        apply Wk.gon 15 rfl rfl
        apply Wk.un rfl (fun w => by simp [go_sem] <;> rfl) (lt_of_ble rfl)
        apply Wk.pckT rfl (by conv => lhs; whnf) (lt_of_ble rfl)
        apply Wk.mv (by conv => lhs; whnf) (lt_of_ble rfl)
        apply Wk.gon 22 rfl rfl
        apply Wk.mv (by conv => lhs; whnf) (lt_of_ble rfl)
        apply Wk.gon 22 rfl rfl
        apply Wk.nilc rfl (lt_of_ble rfl)
        apply Wk.gon 22 rfl rfl
        apply Wk.fad 22 0 false fd111_5 rfl (lt_of_ble rfl)
        apply Wk.gon 22 rfl rfl
        apply Wk.ld (i := 27) 1 false ty4 rfl rfl (by conv => lhs; whnf) (lt_of_ble rfl)
        apply Wk.gon 22 rfl rfl
        apply Wk.un rfl (fun w => by simp [go_sem] <;> rfl) (lt_of_ble rfl)
        apply Wk.pckT rfl (by conv => lhs; whnf) (lt_of_ble rfl)
        apply Wk.asg (by conv => lhs; whnf) (lt_of_ble rfl)
        refine Wk.nil ?_
        refine AW.seq (AW.seq ?_)
        apply AW.list
        apply Wk.mv (by conv => lhs; whnf) (lt_of_ble rfl)
        apply Wk.nilc rfl (lt_of_ble rfl)
        apply Wk.fad 26 0 false fd111_9 rfl (lt_of_ble rfl)
        apply Wk.ld (i := 27) 1 false ty4 rfl rfl (by conv => lhs; whnf) (lt_of_ble rfl)
        apply Wk.mv (by conv => lhs; whnf) (lt_of_ble rfl)
        apply Wk.goff 33 (ok_move _) rfl rfl (by simp)
        apply Wk.pckT rfl (by conv => lhs; whnf) (lt_of_ble rfl)
        refine Wk.nil ?_
        refine AW.cond rfl (fun _ => ?_) (fun hc => by cases hc)
        refine AW.seq ?_
        apply AW.list
        apply Wk.bld [.int .i64 0, .int .i64 0, .int .i64 0, .bool false, .bool false, .int .i64 0, .int .i64 0, .int .i64 0, .slice none 0 0] [(0, 1), (1, 1), (2, 1), (3, 1), (4, 1), (5, 1), (6, 1), (7, 1), (8, 1)] bl42 rfl (by conv => lhs; whnf) (lt_of_ble rfl)
        apply Wk.sto (i := 6) 9 true ty42 rfl rfl rfl rfl (Nat.le_of_ble_eq_true rfl) (lt_of_ble rfl)
        apply Wk.asg (by conv => lhs; whnf) (lt_of_ble rfl)
        refine Wk.nil (AW.ret ?_)
        repeat (first | refine thenA_ret ?_ | refine inBlockA_ret ?_)
        exact RetQ.ret (sndB _ l qu) (.cons ⟨6, 0, _, _, _, rfl, rfl, ty42, rfl⟩ (.cons rfl .nil)) ⟨rfl, rfl⟩ (kept2 rfl rfl)
      · skip
        refine Spec.intro (n := 65) (rv := [.cell 6 42, .tmp 7]) Try.func78 rfl rfl rfl (by simp) fun C hN hX => ?_
        refine AW.seq ?_
        apply AW.list
        apply Wk.alc 6 [.int .i64 0, .int .i64 0, .int .i64 0, .bool false, .bool false, .int .i64 0, .int .i64 0, .int .i64 0, .slice none 0 0] ze42 rfl rfl (lt_of_ble rfl)
        apply Wk.asg (by conv => lhs; whnf) (lt_of_ble rfl)
        refine Wk.nil ?_
        refine AW.seq ?_
        apply AW.list
        apply Wk.mv (by conv => lhs; whnf) (lt_of_ble rfl)
        apply Wk.nilc rfl (lt_of_ble rfl)
        apply Wk.fad 6 13 true fd111_2 rfl (lt_of_ble rfl)
        apply Wk.fad 13 0 false fd109_2 rfl (lt_of_ble rfl)
        apply Wk.ld (i := 27) 1 false ty3 rfl rfl (by conv => lhs; whnf) (lt_of_ble rfl)
        apply Wk.bin rfl rfl (r := .bool true) (fun w => by simp [go_sem]) (lt_of_ble rfl)
        apply Wk.mv (by conv => lhs; whnf) (lt_of_ble rfl)
        apply Wk.gon 15 rfl rfl
        apply Wk.mv (by conv => lhs; whnf) (lt_of_ble rfl)
        apply Wk.gon 15 rfl rfl
        apply Wk.nilc rfl (lt_of_ble rfl)
        apply Wk.gon 15 rfl rfl
        apply Wk.fad 24 0 false fd111_7 rfl (lt_of_ble rfl)
        apply Wk.gon 15 rfl rfl
        apply Wk.ld (i := 27) 1 false ty4 rfl rfl (by conv => lhs; whnf) (lt_of_ble rfl)
        apply Wk.gon 15 rfl rfl
        apply Wk.un rfl (fun w => by simp [go_sem] <;> rfl) (lt_of_ble rfl)
        apply Wk.pckT rfl (by conv => lhs; whnf) (lt_of_ble rfl)
        apply Wk.mv (by conv => lhs; whnf) (lt_of_ble rfl)
        apply Wk.goff 22 (ok_move _) rfl rfl (by simp)
        apply Wk.goff 22 (ok_nil _) rfl rfl (by simp)
        apply Wk.goff 22 (ok_faddr fd111_5) rfl rfl (by simp)
        apply Wk.goff 22 (ok_load 27 ty4) rfl rfl (by simp)
        apply Wk.goff 22 (ok_un _ _ _) rfl rfl (by simp)
        apply Wk.pckF rfl (by conv => lhs; whnf) (lt_of_ble rfl)
        apply Wk.asg (by conv => lhs; whnf) (lt_of_ble rfl)
        refine Wk.nil ?_
        refine AW.seq (AW.seq ?_)
        apply AW.list
        apply Wk.mv (by conv => lhs; whnf) (lt_of_ble rfl)
        apply Wk.nilc rfl (lt_of_ble rfl)
        apply Wk.fad 26 0 false fd111_9 rfl (lt_of_ble rfl)
        apply Wk.ld (i := 27) 1 false ty4 rfl rfl (by conv => lhs; whnf) (lt_of_ble rfl)
        apply Wk.mv (by conv => lhs; whnf) (lt_of_ble rfl)
        apply Wk.goff 33 (ok_move _) rfl rfl (by simp)
        apply Wk.pckT rfl (by conv => lhs; whnf) (lt_of_ble rfl)
        refine Wk.nil ?_
        refine AW.cond rfl (fun _ => ?_) (fun hc => by cases hc)
        refine AW.seq ?_
        apply AW.list
        apply Wk.bld [.int .i64 0, .int .i64 0, .int .i64 0, .bool false, .bool false, .int .i64 0, .int .i64 0, .int .i64 0, .slice none 0 0] [(0, 1), (1, 1), (2, 1), (3, 1), (4, 1), (5, 1), (6, 1), (7, 1), (8, 1)] bl42 rfl (by conv => lhs; whnf) (lt_of_ble rfl)
        apply Wk.sto (i := 6) 9 true ty42 rfl rfl rfl rfl (Nat.le_of_ble_eq_true rfl) (lt_of_ble rfl)
        apply Wk.asg (by conv => lhs; whnf) (lt_of_ble rfl)
        refine Wk.nil (AW.ret ?_)
        repeat (first | refine thenA_ret ?_ | refine inBlockA_ret ?_)
        exact RetQ.ret (sndB _ l qu) (.cons ⟨6, 0, _, _, _, rfl, rfl, ty42, rfl⟩ (.cons rfl .nil)) ⟨rfl, rfl⟩ (kept2 rfl rfl)
    · skip
      refine Spec.intro (n := 65) (rv := [.cell 6 42, .tmp 7]) Try.func78 rfl rfl rfl (by simp) fun C hN hX => ?_
      refine AW.seq ?_
      apply AW.list
      apply Wk.alc 6 [.int .i64 0, .int .i64 0, .int .i64 0, .bool false, .bool false, .int .i64 0, .int .i64 0, .int .i64 0, .slice none 0 0] ze42 rfl rfl (lt_of_ble rfl)
      apply Wk.asg (by conv => lhs; whnf) (lt_of_ble rfl)
      refine Wk.nil ?_
      refine AW.seq ?_
      apply AW.list
      apply Wk.mv (by conv => lhs; whnf) (lt_of_ble rfl)
      apply Wk.nilc rfl (lt_of_ble rfl)
      apply Wk.fad 6 13 true fd111_2 rfl (lt_of_ble rfl)
      apply Wk.fad 13 0 false fd109_2 rfl (lt_of_ble rfl)
      apply Wk.ld (i := 27) 1 false ty3 rfl rfl (by conv => lhs; whnf) (lt_of_ble rfl)
      apply Wk.bin rfl rfl (r := .bool false) (fun w => by simp [go_sem]; omega) (lt_of_ble rfl)
      apply Wk.mv (by conv => lhs; whnf) (lt_of_ble rfl)
      apply Wk.goff 15 (ok_move _) rfl rfl (by simp)
      apply Wk.goff 15 (ok_nil _) rfl rfl (by simp)
      apply Wk.goff 15 (ok_faddr fd111_7) rfl rfl (by simp)
      apply Wk.goff 15 (ok_load 27 ty4) rfl rfl (by simp)
      apply Wk.goff 15 (ok_un _ _ _) rfl rfl (by simp)
      apply Wk.pckF rfl (by conv => lhs; whnf) (lt_of_ble rfl)
      apply Wk.mv (by conv => lhs; whnf) (lt_of_ble rfl)
      apply Wk.goff 22 (ok_move _) rfl rfl (by simp)
      apply Wk.goff 22 (ok_nil _) rfl rfl (by simp)
      apply Wk.goff 22 (ok_faddr fd111_5) rfl rfl (by simp)
      apply Wk.goff 22 (ok_load 27 ty4) rfl rfl (by simp)
      apply Wk.goff 22 (ok_un _ _ _) rfl rfl (by simp)
      apply Wk.pckF rfl (by conv => lhs; whnf) (lt_of_ble rfl)
      apply Wk.asg (by conv => lhs; whnf) (lt_of_ble rfl)
      refine Wk.nil ?_
      refine AW.seq (AW.seq ?_)
      apply AW.list
      apply Wk.mv (by conv => lhs; whnf) (lt_of_ble rfl)
      apply Wk.nilc rfl (lt_of_ble rfl)
      apply Wk.fad 26 0 false fd111_9 rfl (lt_of_ble rfl)
      apply Wk.ld (i := 27) 1 false ty4 rfl rfl (by conv => lhs; whnf) (lt_of_ble rfl)
      apply Wk.mv (by conv => lhs; whnf) (lt_of_ble rfl)
      apply Wk.goff 33 (ok_move _) rfl rfl (by simp)
      apply Wk.pckT rfl (by conv => lhs; whnf) (lt_of_ble rfl)
      refine Wk.nil ?_
      refine AW.cond rfl (fun _ => ?_) (fun hc => by cases hc)
      refine AW.seq ?_
      apply AW.list
      apply Wk.bld [.int .i64 0, .int .i64 0, .int .i64 0, .bool false, .bool false, .int .i64 0, .int .i64 0, .int .i64 0, .slice none 0 0] [(0, 1), (1, 1), (2, 1), (3, 1), (4, 1), (5, 1), (6, 1), (7, 1), (8, 1)] bl42 rfl (by conv => lhs; whnf) (lt_of_ble rfl)
      apply Wk.sto (i := 6) 9 true ty42 rfl rfl rfl rfl (Nat.le_of_ble_eq_true rfl) (lt_of_ble rfl)
      apply Wk.asg (by conv => lhs; whnf) (lt_of_ble rfl)
      refine Wk.nil (AW.ret ?_)
      repeat (first | refine thenA_ret ?_ | refine inBlockA_ret ?_)
      exact RetQ.ret (sndB _ l qu) (.cons ⟨6, 0, _, _, _, rfl, rfl, ty42, rfl⟩ (.cons rfl .nil)) ⟨rfl, rfl⟩ (kept2 rfl rfl)
set_option maxHeartbeats 1000000 in
set_option maxRecDepth 100000 in
theorem itickOut (m w p u y a : Int) (f : Nat → Sl) (k : Nat) (s : Int) (l : Nat) (q : Bool) (t : Int) (hh : Bool) (c : Int) (dd : Bool) (qu : List Dat) (ack : Int) (bu : Bool) (hd : dd = false) (hi : ¬ (k = 0 ∧ hh = false ∧ q = false)) (ht : t = y) : Spec Try.prog 78 [.ptr 27 0, .d (.v (.int .i64 ack)), .d (.v (.bool bu))] (sndB (sndC m w p u y a f 0 (k : Int) s l q t hh c dd) l qu) (fun r bs => r = .tup [frmNo, .d (.v (.bool false))] ∧ bs = (sndB (sndC m w p u y a f 0 (k : Int) s l q t hh c true) l qu)) := by
  subst hd
  subst ht
  by_cases hk : k = 0
  · subst hk
    cases hh
    · obtain rfl : q = true := by cases q <;> simp_all
      refine Spec.intro (n := 65) (rv := [.cell 6 42, .tmp 7]) Try.func78 rfl rfl rfl (by simp) fun C hN hX => ?_
      refine AW.seq ?_
      apply AW.list
      apply Wk.alc 6 [.int .i64 0, .int .i64 0, .int .i64 0, .bool false, .bool false, .int .i64 0, .int .i64 0, .int .i64 0, .slice none 0 0] ze42 rfl rfl (lt_of_ble rfl)
      apply Wk.asg (by conv => lhs; whnf) (lt_of_ble rfl)
      refine Wk.nil ?_
      refine AW.seq ?_
      apply AW.list
      apply Wk.mv (by conv => lhs; whnf) (lt_of_ble rfl)
      apply Wk.nilc rfl (lt_of_ble rfl)
      apply Wk.fad 6 13 true fd111_2 rfl (lt_of_ble rfl)
      apply Wk.fad 13 0 false fd109_2 rfl (lt_of_ble rfl)
      apply Wk.ld (i := 27) 1 false ty3 rfl rfl (by conv => lhs; whnf) (lt_of_ble rfl)
      apply Wk.bin rfl rfl (r := .bool true) (fun w => by simp [go_sem]) (lt_of_ble rfl)
      apply Wk.mv (by conv => lhs; whnf) (lt_of_ble rfl)
      apply Wk.gon 15 rfl rfl
      apply Wk.mv (by conv => lhs; whnf) (lt_of_ble rfl)
      apply Wk.gon 15 rfl rfl
      apply Wk.nilc rfl (lt_of_ble rfl)
      apply Wk.gon 15 rfl rfl
      apply Wk.fad 24 0 false fd111_7 rfl (lt_of_ble rfl)
      apply Wk.gon 15 rfl rfl
      apply Wk.ld (i := 27) 1 false ty4 rfl rfl (by conv => lhs; whnf) (lt_of_ble rfl)
      apply Wk.gon 15 rfl rfl
      apply Wk.un rfl (fun w => by simp [go_sem] <;> rfl) (lt_of_ble rfl)
      apply Wk.pckT rfl (by conv => lhs; whnf) (lt_of_ble rfl)
      apply Wk.mv (by conv => lhs; whnf) (lt_of_ble rfl)
      apply Wk.gon 22 rfl rfl
      apply Wk.mv (by conv => lhs; whnf) (lt_of_ble rfl)
      apply Wk.gon 22 rfl rfl
      apply Wk.nilc rfl (lt_of_ble rfl)
      apply Wk.gon 22 rfl rfl
      apply Wk.fad 22 0 false fd111_5 rfl (lt_of_ble rfl)
      apply Wk.gon 22 rfl rfl
      apply Wk.ld (i := 27) 1 false ty4 rfl rfl (by conv => lhs; whnf) (lt_of_ble rfl)
      apply Wk.gon 22 rfl rfl
      apply Wk.un rfl (fun w => by simp [go_sem] <;> rfl) (lt_of_ble rfl)
      apply Wk.pckT rfl (by conv => lhs; whnf) (lt_of_ble rfl)
      apply Wk.asg (by conv => lhs; whnf) (lt_of_ble rfl)
      refine Wk.nil ?_
      refine AW.seq (AW.seq ?_)
      apply AW.list
      apply Wk.mv (by conv => lhs; whnf) (lt_of_ble rfl)
      apply Wk.nilc rfl (lt_of_ble rfl)
      apply Wk.fad 26 0 false fd111_9 rfl (lt_of_ble rfl)
      apply Wk.ld (i := 27) 1 false ty4 rfl rfl (by conv => lhs; whnf) (lt_of_ble rfl)
      apply Wk.mv (by conv => lhs; whnf) (lt_of_ble rfl)
      apply Wk.gon 33 rfl rfl
      apply Wk.mv (by conv => lhs; whnf) (lt_of_ble rfl)
      apply Wk.pckF rfl (by conv => lhs; whnf) (lt_of_ble rfl)
      refine Wk.nil ?_
      refine AW.cond rfl (fun hc => by cases hc) (fun _ => AW.skip (thenA_normal ?_))
      refine AW.seq (AW.seq ?_)
      apply AW.draw (hm := hmix) (cs := _)
      · apply Wk.mv (by conv => lhs; whnf) (lt_of_ble rfl)
        apply Wk.nilc rfl (lt_of_ble rfl)
        apply Wk.fad 23 0 false fd111_6 rfl (lt_of_ble rfl)
        apply Wk.ld (i := 27) 1 false ty3 rfl rfl (by conv => lhs; whnf) (lt_of_ble rfl)
        apply Wk.mv (by conv => lhs; whnf) (lt_of_ble rfl)
        apply Wk.nilc rfl (lt_of_ble rfl)
        apply Wk.fad 0 4 true fd111_0 rfl (lt_of_ble rfl)
        apply Wk.fad 4 0 false fd24_4 rfl (lt_of_ble rfl)
        apply Wk.ld (i := 27) 1 false ty3 rfl rfl (by conv => lhs; whnf) (lt_of_ble rfl)
        apply Wk.bin rfl rfl (r := .bool true) (fun w => by simp [go_sem]) (lt_of_ble rfl)
        refine Wk.nil ?_
        refine AW.cond rfl (fun _ => ?_) (fun hc => by cases hc)
        refine AW.seq ?_
        apply AW.list
        apply Wk.mv (by conv => lhs; whnf) (lt_of_ble rfl)
        apply Wk.nilc rfl (lt_of_ble rfl)
        apply Wk.fad 26 0 false fd111_9 rfl (lt_of_ble rfl)
        apply Wk.sto (i := 27) 1 false ty4 rfl rfl rfl rfl (Nat.le_of_ble_eq_true rfl) (lt_of_ble rfl)
        refine Wk.nil ?_
        refine AW.seq ?_
        apply AW.list
        apply Wk.bld [.int .i64 0, .int .i64 0, .int .i64 0, .bool false, .bool false, .int .i64 0, .int .i64 0, .int .i64 0, .slice none 0 0] [(0, 1), (1, 1), (2, 1), (3, 1), (4, 1), (5, 1), (6, 1), (7, 1), (8, 1)] bl42 rfl (by conv => lhs; whnf) (lt_of_ble rfl)
        apply Wk.sto (i := 6) 9 true ty42 rfl rfl rfl rfl (Nat.le_of_ble_eq_true rfl) (lt_of_ble rfl)
        apply Wk.asg (by conv => lhs; whnf) (lt_of_ble rfl)
        refine Wk.nil (AW.ret ?_)
        repeat (first | refine thenA_ret ?_ | refine inBlockA_ret ?_)
        exact RetQ.ret (sndB _ l qu) (.cons ⟨6, 0, _, _, _, rfl, rfl, ty42, rfl⟩ (.cons rfl .nil)) ⟨rfl, rfl⟩ (kept2 rfl rfl)
      · rfl
      · rfl
    · skip
      refine Spec.intro (n := 65) (rv := [.cell 6 42, .tmp 7]) Try.func78 rfl rfl rfl (by simp) fun C hN hX => ?_
      refine AW.seq ?_
      apply AW.list
      apply Wk.alc 6 [.int .i64 0, .int .i64 0, .int .i64 0, .bool false, .bool false, .int .i64 0, .int .i64 0, .int .i64 0, .slice none 0 0] ze42 rfl rfl (lt_of_ble rfl)
      apply Wk.asg (by conv => lhs; whnf) (lt_of_ble rfl)
      refine Wk.nil ?_
      refine AW.seq ?_
      apply AW.list
      apply Wk.mv (by conv => lhs; whnf) (lt_of_ble rfl)
      apply Wk.nilc rfl (lt_of_ble rfl)
      apply Wk.fad 6 13 true fd111_2 rfl (lt_of_ble rfl)
      apply Wk.fad 13 0 false fd109_2 rfl (lt_of_ble rfl)
      apply Wk.ld (i := 27) 1 false ty3 rfl rfl (by conv => lhs; whnf) (lt_of_ble rfl)
      apply Wk.bin rfl rfl (r := .bool true) (fun w => by simp [go_sem]) (lt_of_ble rfl)
      apply Wk.mv (by conv => lhs; whnf) (lt_of_ble rfl)
      apply Wk.gon 15 rfl rfl
      apply Wk.mv (by conv => lhs; whnf) (lt_of_ble rfl)
      apply Wk.gon 15 rfl rfl
      apply Wk.nilc rfl (lt_of_ble rfl)
      apply Wk.gon 15 rfl rfl
      apply Wk.fad 24 0 false fd111_7 rfl (lt_of_ble rfl)
      apply Wk.gon 15 rfl rfl
      apply Wk.ld (i := 27) 1 false ty4 rfl rfl (by conv => lhs; whnf) (lt_of_ble rfl)
      apply Wk.gon 15 rfl rfl
      apply Wk.un rfl (fun w => by simp [go_sem] <;> rfl) (lt_of_ble rfl)
      apply Wk.pckT rfl (by conv => lhs; whnf) (lt_of_ble rfl)
      apply Wk.mv (by conv => lhs; whnf) (lt_of_ble rfl)
      apply Wk.goff 22 (ok_move _) rfl rfl (by simp)
      apply Wk.goff 22 (ok_nil _) rfl rfl (by simp)
      apply Wk.goff 22 (ok_faddr fd111_5) rfl rfl (by simp)
      apply Wk.goff 22 (ok_load 27 ty4) rfl rfl (by simp)
      apply Wk.goff 22 (ok_un _ _ _) rfl rfl (by simp)
      apply Wk.pckF rfl (by conv => lhs; whnf) (lt_of_ble rfl)
      apply Wk.asg (by conv => lhs; whnf) (lt_of_ble rfl)
      refine Wk.nil ?_
      refine AW.seq (AW.seq ?_)
      apply AW.list
      apply Wk.mv (by conv => lhs; whnf) (lt_of_ble rfl)
      apply Wk.nilc rfl (lt_of_ble rfl)
      apply Wk.fad 26 0 false fd111_9 rfl (lt_of_ble rfl)
      apply Wk.ld (i := 27) 1 false ty4 rfl rfl (by conv => lhs; whnf) (lt_of_ble rfl)
      apply Wk.mv (by conv => lhs; whnf) (lt_of_ble rfl)
      apply Wk.gon 33 rfl rfl
      apply Wk.mv (by conv => lhs; whnf) (lt_of_ble rfl)
      apply Wk.pckF rfl (by conv => lhs; whnf) (lt_of_ble rfl)
      refine Wk.nil ?_
      refine AW.cond rfl (fun hc => by cases hc) (fun _ => AW.skip (thenA_normal ?_))
      refine AW.seq (AW.seq ?_)
      apply AW.draw (hm := hmix) (cs := _)
      · apply Wk.mv (by conv => lhs; whnf) (lt_of_ble rfl)
        apply Wk.nilc rfl (lt_of_ble rfl)
        apply Wk.fad 23 0 false fd111_6 rfl (lt_of_ble rfl)
        apply Wk.ld (i := 27) 1 false ty3 rfl rfl (by conv => lhs; whnf) (lt_of_ble rfl)
        apply Wk.mv (by conv => lhs; whnf) (lt_of_ble rfl)
        apply Wk.nilc rfl (lt_of_ble rfl)
        apply Wk.fad 0 4 true fd111_0 rfl (lt_of_ble rfl)
        apply Wk.fad 4 0 false fd24_4 rfl (lt_of_ble rfl)
        apply Wk.ld (i := 27) 1 false ty3 rfl rfl (by conv => lhs; whnf) (lt_of_ble rfl)
        apply Wk.bin rfl rfl (r := .bool true) (fun w => by simp [go_sem]) (lt_of_ble rfl)
        refine Wk.nil ?_
        refine AW.cond rfl (fun _ => ?_) (fun hc => by cases hc)
        refine AW.seq ?_
        apply AW.list
        apply Wk.mv (by conv => lhs; whnf) (lt_of_ble rfl)
        apply Wk.nilc rfl (lt_of_ble rfl)
        apply Wk.fad 26 0 false fd111_9 rfl (lt_of_ble rfl)
        apply Wk.sto (i := 27) 1 false ty4 rfl rfl rfl rfl (Nat.le_of_ble_eq_true rfl) (lt_of_ble rfl)
        refine Wk.nil ?_
        refine AW.seq ?_
        apply AW.list
        apply Wk.bld [.int .i64 0, .int .i64 0, .int .i64 0, .bool false, .bool false, .int .i64 0, .int .i64 0, .int .i64 0, .slice none 0 0] [(0, 1), (1, 1), (2, 1), (3, 1), (4, 1), (5, 1), (6, 1), (7, 1), (8, 1)] bl42 rfl (by conv => lhs; whnf) (lt_of_ble rfl)
        apply Wk.sto (i := 6) 9 true ty42 rfl rfl rfl rfl (Nat.le_of_ble_eq_true rfl) (lt_of_ble rfl)
        apply Wk.asg (by conv => lhs; whnf) (lt_of_ble rfl)
        refine Wk.nil (AW.ret ?_)
        repeat (first | refine thenA_ret ?_ | refine inBlockA_ret ?_)
        exact RetQ.ret (sndB _ l qu) (.cons ⟨6, 0, _, _, _, rfl, rfl, ty42, rfl⟩ (.cons rfl .nil)) ⟨rfl, rfl⟩ (kept2 rfl rfl)
      · rfl
      · rfl
  · skip
    refine Spec.intro (n := 65) (rv := [.cell 6 42, .tmp 7]) Try.func78 rfl rfl rfl (by simp) fun C hN hX => ?_
    refine AW.seq ?_
    apply AW.list
    apply Wk.alc 6 [.int .i64 0, .int .i64 0, .int .i64 0, .bool false, .bool false, .int .i64 0, .int .i64 0, .int .i64 0, .slice none 0 0] ze42 rfl rfl (lt_of_ble rfl)
    apply Wk.asg (by conv => lhs; whnf) (lt_of_ble rfl)
    refine Wk.nil ?_
    refine AW.seq ?_
    apply AW.list
    apply Wk.mv (by conv => lhs; whnf) (lt_of_ble rfl)
    apply Wk.nilc rfl (lt_of_ble rfl)
    apply Wk.fad 6 13 true fd111_2 rfl (lt_of_ble rfl)
    apply Wk.fad 13 0 false fd109_2 rfl (lt_of_ble rfl)
    apply Wk.ld (i := 27) 1 false ty3 rfl rfl (by conv => lhs; whnf) (lt_of_ble rfl)
    apply Wk.bin rfl rfl (r := .bool false) (fun w => by simp [go_sem]; omega) (lt_of_ble rfl)
    apply Wk.mv (by conv => lhs; whnf) (lt_of_ble rfl)
    apply Wk.goff 15 (ok_move _) rfl rfl (by simp)
    apply Wk.goff 15 (ok_nil _) rfl rfl (by simp)
    apply Wk.goff 15 (ok_faddr fd111_7) rfl rfl (by simp)
    apply Wk.goff 15 (ok_load 27 ty4) rfl rfl (by simp)
    apply Wk.goff 15 (ok_un _ _ _) rfl rfl (by simp)
    apply Wk.pckF rfl (by conv => lhs; whnf) (lt_of_ble rfl)
    apply Wk.mv (by conv => lhs; whnf) (lt_of_ble rfl)
    apply Wk.goff 22 (ok_move _) rfl rfl (by simp)
    apply Wk.goff 22 (ok_nil _) rfl rfl (by simp)
    apply Wk.goff 22 (ok_faddr fd111_5) rfl rfl (by simp)
    apply Wk.goff 22 (ok_load 27 ty4) rfl rfl (by simp)
    apply Wk.goff 22 (ok_un _ _ _) rfl rfl (by simp)
    apply Wk.pckF rfl (by conv => lhs; whnf) (lt_of_ble rfl)
    apply Wk.asg (by conv => lhs; whnf) (lt_of_ble rfl)
    refine Wk.nil ?_
    refine AW.seq (AW.seq ?_)
    apply AW.list
    apply Wk.mv (by conv => lhs; whnf) (lt_of_ble rfl)
    apply Wk.nilc rfl (lt_of_ble rfl)
    apply Wk.fad 26 0 false fd111_9 rfl (lt_of_ble rfl)
    apply Wk.ld (i := 27) 1 false ty4 rfl rfl (by conv => lhs; whnf) (lt_of_ble rfl)
    apply Wk.mv (by conv => lhs; whnf) (lt_of_ble rfl)
    apply Wk.gon 33 rfl rfl
    apply Wk.mv (by conv => lhs; whnf) (lt_of_ble rfl)
    apply Wk.pckF rfl (by conv => lhs; whnf) (lt_of_ble rfl)
    refine Wk.nil ?_
    refine AW.cond rfl (fun hc => by cases hc) (fun _ => AW.skip (thenA_normal ?_))
    refine AW.seq (AW.seq ?_)
    apply AW.draw (hm := hmix) (cs := _)
    · apply Wk.mv (by conv => lhs; whnf) (lt_of_ble rfl)
      apply Wk.nilc rfl (lt_of_ble rfl)
      apply Wk.fad 23 0 false fd111_6 rfl (lt_of_ble rfl)
      apply Wk.ld (i := 27) 1 false ty3 rfl rfl (by conv => lhs; whnf) (lt_of_ble rfl)
      apply Wk.mv (by conv => lhs; whnf) (lt_of_ble rfl)
      apply Wk.nilc rfl (lt_of_ble rfl)
      apply Wk.fad 0 4 true fd111_0 rfl (lt_of_ble rfl)
      apply Wk.fad 4 0 false fd24_4 rfl (lt_of_ble rfl)
      apply Wk.ld (i := 27) 1 false ty3 rfl rfl (by conv => lhs; whnf) (lt_of_ble rfl)
      apply Wk.bin rfl rfl (r := .bool true) (fun w => by simp [go_sem]) (lt_of_ble rfl)
      refine Wk.nil ?_
      refine AW.cond rfl (fun _ => ?_) (fun hc => by cases hc)
      refine AW.seq ?_
      apply AW.list
      apply Wk.mv (by conv => lhs; whnf) (lt_of_ble rfl)
      apply Wk.nilc rfl (lt_of_ble rfl)
      apply Wk.fad 26 0 false fd111_9 rfl (lt_of_ble rfl)
      apply Wk.sto (i := 27) 1 false ty4 rfl rfl rfl rfl (Nat.le_of_ble_eq_true rfl) (lt_of_ble rfl)
      refine Wk.nil ?_
      refine AW.seq ?_
      apply AW.list
      apply Wk.bld [.int .i64 0, .int .i64 0, .int .i64 0, .bool false, .bool false, .int .i64 0, .int .i64 0, .int .i64 0, .slice none 0 0] [(0, 1), (1, 1), (2, 1), (3, 1), (4, 1), (5, 1), (6, 1), (7, 1), (8, 1)] bl42 rfl (by conv => lhs; whnf) (lt_of_ble rfl)
      apply Wk.sto (i := 6) 9 true ty42 rfl rfl rfl rfl (Nat.le_of_ble_eq_true rfl) (lt_of_ble rfl)
      apply Wk.asg (by conv => lhs; whnf) (lt_of_ble rfl)
      refine Wk.nil (AW.ret ?_)
      repeat (first | refine thenA_ret ?_ | refine inBlockA_ret ?_)
      exact RetQ.ret (sndB _ l qu) (.cons ⟨6, 0, _, _, _, rfl, rfl, ty42, rfl⟩ (.cons rfl .nil)) ⟨rfl, rfl⟩ (kept2 rfl rfl)
    · rfl
    · rfl
set_option maxHeartbeats 1000000 in
set_option maxRecDepth 100000 in
theorem itickAsk (m w p u y a : Int) (f : Nat → Sl) (k : Nat) (s : Int) (l : Nat) (q : Bool) (t : Int) (hh : Bool) (c : Int) (dd : Bool) (qu : List Dat) (ack : Int) (bu : Bool) (hd : dd = false) (hi : ¬ (k = 0 ∧ hh = false ∧ q = false)) (ht : t ≠ y) (hb : 0 ≤ t ∧ t ≤ 1000000) : Spec Try.prog 78 [.ptr 27 0, .d (.v (.int .i64 ack)), .d (.v (.bool bu))] (sndB (sndC m w p u y a f 0 (k : Int) s l q t hh c dd) l qu) (fun r bs => r = .tup [frmQ ack bu, .d (.v (.bool true))] ∧ bs = (sndB (sndC m w p u y a f 0 (k : Int) s l true (t + 1) hh c dd) l qu)) := by
  subst hd
  by_cases hk : k = 0
  · subst hk
    cases hh
    · obtain rfl : q = true := by cases q <;> simp_all
      refine Spec.intro (n := 65) (rv := [.cell 6 42, .tmp 7]) Try.func78 rfl rfl rfl (by simp) fun C hN hX => ?_
      refine AW.seq ?_
      apply AW.list
      apply Wk.alc 6 [.int .i64 0, .int .i64 0, .int .i64 0, .bool false, .bool false, .int .i64 0, .int .i64 0, .int .i64 0, .slice none 0 0] ze42 rfl rfl (lt_of_ble rfl)
      apply Wk.asg (by conv => lhs; whnf) (lt_of_ble rfl)
      refine Wk.nil ?_
      refine AW.seq ?_
      apply AW.list
      apply Wk.mv (by conv => lhs; whnf) (lt_of_ble rfl)
      apply Wk.nilc rfl (lt_of_ble rfl)
      apply Wk.fad 6 13 true fd111_2 rfl (lt_of_ble rfl)
      apply Wk.fad 13 0 false fd109_2 rfl (lt_of_ble rfl)
      apply Wk.ld (i := 27) 1 false ty3 rfl rfl (by conv => lhs; whnf) (lt_of_ble rfl)
      apply Wk.bin rfl rfl (r := .bool true) (fun w => by simp [go_sem]) (lt_of_ble rfl)
      apply Wk.mv (by conv => lhs; whnf) (lt_of_ble rfl)
      apply Wk.gon 15 rfl rfl
      apply Wk.mv (by conv => lhs; whnf) (lt_of_ble rfl)
      apply Wk.gon 15 rfl rfl
      apply Wk.nilc rfl (lt_of_ble rfl)
      apply Wk.gon 15 rfl rfl
      apply Wk.fad 24 0 false fd111_7 rfl (lt_of_ble rfl)
      apply Wk.gon 15 rfl rfl
      apply Wk.ld (i := 27) 1 false ty4 rfl rfl (by conv => lhs; whnf) (lt_of_ble rfl)
      apply Wk.gon 15 rfl rfl
      apply Wk.un rfl (fun w => by simp [go_sem] <;> rfl) (lt_of_ble rfl)
      apply Wk.pckT rfl (by conv => lhs; whnf) (lt_of_ble rfl)
      apply Wk.mv (by conv => lhs; whnf) (lt_of_ble rfl)
      apply Wk.gon 22 rfl rfl
      apply Wk.mv (by conv => lhs; whnf) (lt_of_ble rfl)
      apply Wk.gon 22 rfl rfl
      apply Wk.nilc rfl (lt_of_ble rfl)
      apply Wk.gon 22 rfl rfl
      apply Wk.fad 22 0 false fd111_5 rfl (lt_of_ble rfl)
      apply Wk.gon 22 rfl rfl
      apply Wk.ld (i := 27) 1 false ty4 rfl rfl (by conv => lhs; whnf) (lt_of_ble rfl)
      apply Wk.gon 22 rfl rfl
      apply Wk.un rfl (fun w => by simp [go_sem] <;> rfl) (lt_of_ble rfl)
      apply Wk.pckT rfl (by conv => lhs; whnf) (lt_of_ble rfl)
      apply Wk.asg (by conv => lhs; whnf) (lt_of_ble rfl)
      refine Wk.nil ?_
      refine AW.seq (AW.seq ?_)
      apply AW.list
      apply Wk.mv (by conv => lhs; whnf) (lt_of_ble rfl)
      apply Wk.nilc rfl (lt_of_ble rfl)
      apply Wk.fad 26 0 false fd111_9 rfl (lt_of_ble rfl)
      apply Wk.ld (i := 27) 1 false ty4 rfl rfl (by conv => lhs; whnf) (lt_of_ble rfl)
      apply Wk.mv (by conv => lhs; whnf) (lt_of_ble rfl)
      apply Wk.gon 33 rfl rfl
      apply Wk.mv (by conv => lhs; whnf) (lt_of_ble rfl)
      apply Wk.pckF rfl (by conv => lhs; whnf) (lt_of_ble rfl)
      refine Wk.nil ?_
      refine AW.cond rfl (fun hc => by cases hc) (fun _ => AW.skip (thenA_normal ?_))
      refine AW.seq (AW.seq ?_)
      apply AW.draw (hm := hmix) (cs := _)
      · apply Wk.mv (by conv => lhs; whnf) (lt_of_ble rfl)
        apply Wk.nilc rfl (lt_of_ble rfl)
        apply Wk.fad 23 0 false fd111_6 rfl (lt_of_ble rfl)
        apply Wk.ld (i := 27) 1 false ty3 rfl rfl (by conv => lhs; whnf) (lt_of_ble rfl)
        apply Wk.mv (by conv => lhs; whnf) (lt_of_ble rfl)
        apply Wk.nilc rfl (lt_of_ble rfl)
        apply Wk.fad 0 4 true fd111_0 rfl (lt_of_ble rfl)
        apply Wk.fad 4 0 false fd24_4 rfl (lt_of_ble rfl)
        apply Wk.ld (i := 27) 1 false ty3 rfl rfl (by conv => lhs; whnf) (lt_of_ble rfl)
        apply Wk.bin rfl rfl (r := .bool false) (fun w => by simp [go_sem, ht]) (lt_of_ble rfl)
        refine Wk.nil ?_
        refine AW.cond rfl (fun hc => by cases hc) (fun _ => AW.skip (thenA_normal ?_))
        refine AW.seq ?_
        apply AW.list
        apply Wk.mv (by conv => lhs; whnf) (lt_of_ble rfl)
        apply Wk.nilc rfl (lt_of_ble rfl)
        apply Wk.fad 22 0 false fd111_5 rfl (lt_of_ble rfl)
        apply Wk.sto (i := 27) 1 false ty4 rfl rfl rfl rfl (Nat.le_of_ble_eq_true rfl) (lt_of_ble rfl)
        refine Wk.nil ?_
        refine AW.seq ?_
        apply AW.list
        apply Wk.mv (by conv => lhs; whnf) (lt_of_ble rfl)
        apply Wk.nilc rfl (lt_of_ble rfl)
        apply Wk.fad 23 0 false fd111_6 rfl (lt_of_ble rfl)
        apply Wk.ld (i := 27) 1 false ty3 rfl rfl (by conv => lhs; whnf) (lt_of_ble rfl)
        apply Wk.addi rfl rfl (by omega) (lt_of_ble rfl)
        apply Wk.nilc rfl (lt_of_ble rfl)
        apply Wk.fad 23 0 false fd111_6 rfl (lt_of_ble rfl)
        apply Wk.sto (i := 27) 1 false ty3 rfl rfl rfl rfl (Nat.le_of_ble_eq_true rfl) (lt_of_ble rfl)
        refine Wk.nil ?_
        refine AW.seq ?_
        apply AW.list
        apply Wk.mv (by conv => lhs; whnf) (lt_of_ble rfl)
        apply Wk.mv (by conv => lhs; whnf) (lt_of_ble rfl)
        apply Wk.dat (iwait_ok bu) Try.func104 rfl rfl rfl rfl rfl (lt_of_ble rfl)
        apply Wk.bld [.int .i64 0, .int .i64 0, .int .i64 0, .bool false, .bool false, .int .i64 0, .int .i64 0, .int .i64 0, .slice none 0 0] [(0, 1), (1, 1), (2, 1), (3, 1), (4, 1), (5, 1), (6, 1), (7, 1), (8, 1)] bl42 rfl (by conv => lhs; whnf) (lt_of_ble rfl)
        apply Wk.sto (i := 6) 9 true ty42 rfl rfl rfl rfl (Nat.le_of_ble_eq_true rfl) (lt_of_ble rfl)
        apply Wk.asg (by conv => lhs; whnf) (lt_of_ble rfl)
        refine Wk.nil (AW.ret ?_)
        exact RetQ.ret (sndB _ l qu) (.cons ⟨6, 0, _, _, _, rfl, rfl, ty42, rfl⟩ (.cons rfl .nil)) ⟨rfl, rfl⟩ (kept2 rfl rfl)
      · rfl
      · rfl
    · skip
      refine Spec.intro (n := 65) (rv := [.cell 6 42, .tmp 7]) Try.func78 rfl rfl rfl (by simp) fun C hN hX => ?_
      refine AW.seq ?_
      apply AW.list
      apply Wk.alc 6 [.int .i64 0, .int .i64 0, .int .i64 0, .bool false, .bool false, .int .i64 0, .int .i64 0, .int .i64 0, .slice none 0 0] ze42 rfl rfl (lt_of_ble rfl)
      apply Wk.asg (by conv => lhs; whnf) (lt_of_ble rfl)
      refine Wk.nil ?_
      refine AW.seq ?_
      apply AW.list
      apply Wk.mv (by conv => lhs; whnf) (lt_of_ble rfl)
      apply Wk.nilc rfl (lt_of_ble rfl)
      apply Wk.fad 6 13 true fd111_2 rfl (lt_of_ble rfl)
      apply Wk.fad 13 0 false fd109_2 rfl (lt_of_ble rfl)
      apply Wk.ld (i := 27) 1 false ty3 rfl rfl (by conv => lhs; whnf) (lt_of_ble rfl)
      apply Wk.bin rfl rfl (r := .bool true) (fun w => by simp [go_sem]) (lt_of_ble rfl)
      apply Wk.mv (by conv => lhs; whnf) (lt_of_ble rfl)
      apply Wk.gon 15 rfl rfl
      apply Wk.mv (by conv => lhs; whnf) (lt_of_ble rfl)
      apply Wk.gon 15 rfl rfl
      apply Wk.nilc rfl (lt_of_ble rfl)
      apply Wk.gon 15 rfl rfl
      apply Wk.fad 24 0 false fd111_7 rfl (lt_of_ble rfl)
      apply Wk.gon 15 rfl rfl
      apply Wk.ld (i := 27) 1 false ty4 rfl rfl (by conv => lhs; whnf) (lt_of_ble rfl)
      apply Wk.gon 15 rfl rfl
      apply Wk.un rfl (fun w => by simp [go_sem] <;> rfl) (lt_of_ble rfl)
      apply Wk.pckT rfl (by conv => lhs; whnf) (lt_of_ble rfl)
      apply Wk.mv (by conv => lhs; whnf) (lt_of_ble rfl)
      apply Wk.goff 22 (ok_move _) rfl rfl (by simp)
      apply Wk.goff 22 (ok_nil _) rfl rfl (by simp)
      apply Wk.goff 22 (ok_faddr fd111_5) rfl rfl (by simp)
      apply Wk.goff 22 (ok_load 27 ty4) rfl rfl (by simp)
      apply Wk.goff 22 (ok_un _ _ _) rfl rfl (by simp)
      apply Wk.pckF rfl (by conv => lhs; whnf) (lt_of_ble rfl)
      apply Wk.asg (by conv => lhs; whnf) (lt_of_ble rfl)
      refine Wk.nil ?_
      refine AW.seq (AW.seq ?_)
      apply AW.list
      apply Wk.mv (by conv => lhs; whnf) (lt_of_ble rfl)
      apply Wk.nilc rfl (lt_of_ble rfl)
      apply Wk.fad 26 0 false fd111_9 rfl (lt_of_ble rfl)
      apply Wk.ld (i := 27) 1 false ty4 rfl rfl (by conv => lhs; whnf) (lt_of_ble rfl)
      apply Wk.mv (by conv => lhs; whnf) (lt_of_ble rfl)
      apply Wk.gon 33 rfl rfl
      apply Wk.mv (by conv => lhs; whnf) (lt_of_ble rfl)
      apply Wk.pckF rfl (by conv => lhs; whnf) (lt_of_ble rfl)
      refine Wk.nil ?_
      refine AW.cond rfl (fun hc => by cases hc) (fun _ => AW.skip (thenA_normal ?_))
      refine AW.seq (AW.seq ?_)
      apply AW.draw (hm := hmix) (cs := _)
      · apply Wk.mv (by conv => lhs; whnf) (lt_of_ble rfl)
        apply Wk.nilc rfl (lt_of_ble rfl)
        apply Wk.fad 23 0 false fd111_6 rfl (lt_of_ble rfl)
        apply Wk.ld (i := 27) 1 false ty3 rfl rfl (by conv => lhs; whnf) (lt_of_ble rfl)
        apply Wk.mv (by conv => lhs; whnf) (lt_of_ble rfl)
        apply Wk.nilc rfl (lt_of_ble rfl)
        apply Wk.fad 0 4 true fd111_0 rfl (lt_of_ble rfl)
        apply Wk.fad 4 0 false fd24_4 rfl (lt_of_ble rfl)
        apply Wk.ld (i := 27) 1 false ty3 rfl rfl (by conv => lhs; whnf) (lt_of_ble rfl)
        apply Wk.bin rfl rfl (r := .bool false) (fun w => by simp [go_sem, ht]) (lt_of_ble rfl)
        refine Wk.nil ?_
        refine AW.cond rfl (fun hc => by cases hc) (fun _ => AW.skip (thenA_normal ?_))
        refine AW.seq ?_
        apply AW.list
        apply Wk.mv (by conv => lhs; whnf) (lt_of_ble rfl)
        apply Wk.nilc rfl (lt_of_ble rfl)
        apply Wk.fad 22 0 false fd111_5 rfl (lt_of_ble rfl)
        apply Wk.sto (i := 27) 1 false ty4 rfl rfl rfl rfl (Nat.le_of_ble_eq_true rfl) (lt_of_ble rfl)
        refine Wk.nil ?_
        refine AW.seq ?_
        apply AW.list
        apply Wk.mv (by conv => lhs; whnf) (lt_of_ble rfl)
        apply Wk.nilc rfl (lt_of_ble rfl)
        apply Wk.fad 23 0 false fd111_6 rfl (lt_of_ble rfl)
        apply Wk.ld (i := 27) 1 false ty3 rfl rfl (by conv => lhs; whnf) (lt_of_ble rfl)
        apply Wk.addi rfl rfl (by omega) (lt_of_ble rfl)
        apply Wk.nilc rfl (lt_of_ble rfl)
        apply Wk.fad 23 0 false fd111_6 rfl (lt_of_ble rfl)
        apply Wk.sto (i := 27) 1 false ty3 rfl rfl rfl rfl (Nat.le_of_ble_eq_true rfl) (lt_of_ble rfl)
        refine Wk.nil ?_
        refine AW.seq ?_
        apply AW.list
        apply Wk.mv (by conv => lhs; whnf) (lt_of_ble rfl)
        apply Wk.mv (by conv => lhs; whnf) (lt_of_ble rfl)
        apply Wk.dat (iwait_ok bu) Try.func104 rfl rfl rfl rfl rfl (lt_of_ble rfl)
        apply Wk.bld [.int .i64 0, .int .i64 0, .int .i64 0, .bool false, .bool false, .int .i64 0, .int .i64 0, .int .i64 0, .slice none 0 0] [(0, 1), (1, 1), (2, 1), (3, 1), (4, 1), (5, 1), (6, 1), (7, 1), (8, 1)] bl42 rfl (by conv => lhs; whnf) (lt_of_ble rfl)
        apply Wk.sto (i := 6) 9 true ty42 rfl rfl rfl rfl (Nat.le_of_ble_eq_true rfl) (lt_of_ble rfl)
        apply Wk.asg (by conv => lhs; whnf) (lt_of_ble rfl)
        refine Wk.nil (AW.ret ?_)
        exact RetQ.ret (sndB _ l qu) (.cons ⟨6, 0, _, _, _, rfl, rfl, ty42, rfl⟩ (.cons rfl .nil)) ⟨rfl, rfl⟩ (kept2 rfl rfl)
      · rfl
      · rfl
  · skip
    refine Spec.intro (n := 65) (rv := [.cell 6 42, .tmp 7]) Try.func78 rfl rfl rfl (by simp) fun C hN hX => ?_
    refine AW.seq ?_
    apply AW.list
    apply Wk.alc 6 [.int .i64 0, .int .i64 0, .int .i64 0, .bool false, .bool false, .int .i64 0, .int .i64 0, .int .i64 0, .slice none 0 0] ze42 rfl rfl (lt_of_ble rfl)
    apply Wk.asg (by conv => lhs; whnf) (lt_of_ble rfl)
    refine Wk.nil ?_
    refine AW.seq ?_
    apply AW.list
    apply Wk.mv (by conv => lhs; whnf) (lt_of_ble rfl)
    apply Wk.nilc rfl (lt_of_ble rfl)
    apply Wk.fad 6 13 true fd111_2 rfl (lt_of_ble rfl)
    apply Wk.fad 13 0 false fd109_2 rfl (lt_of_ble rfl)
    apply Wk.ld (i := 27) 1 false ty3 rfl rfl (by conv => lhs; whnf) (lt_of_ble rfl)
    apply Wk.bin rfl rfl (r := .bool false) (fun w => by simp [go_sem]; omega) (lt_of_ble rfl)
    apply Wk.mv (by conv => lhs; whnf) (lt_of_ble rfl)
    apply Wk.goff 15 (ok_move _) rfl rfl (by simp)
    apply Wk.goff 15 (ok_nil _) rfl rfl (by simp)
    apply Wk.goff 15 (ok_faddr fd111_7) rfl rfl (by simp)
    apply Wk.goff 15 (ok_load 27 ty4) rfl rfl (by simp)
    apply Wk.goff 15 (ok_un _ _ _) rfl rfl (by simp)
    apply Wk.pckF rfl (by conv => lhs; whnf) (lt_of_ble rfl)
    apply Wk.mv (by conv => lhs; whnf) (lt_of_ble rfl)
    apply Wk.goff 22 (ok_move _) rfl rfl (by simp)
    apply Wk.goff 22 (ok_nil _) rfl rfl (by simp)
    apply Wk.goff 22 (ok_faddr fd111_5) rfl rfl (by simp)
    apply Wk.goff 22 (ok_load 27 ty4) rfl rfl (by simp)
    apply Wk.goff 22 (ok_un _ _ _) rfl rfl (by simp)
    apply Wk.pckF rfl (by conv => lhs; whnf) (lt_of_ble rfl)
    apply Wk.asg (by conv => lhs; whnf) (lt_of_ble rfl)
    refine Wk.nil ?_
    refine AW.seq (AW.seq ?_)
    apply AW.list
    apply Wk.mv (by conv => lhs; whnf) (lt_of_ble rfl)
    apply Wk.nilc rfl (lt_of_ble rfl)
    apply Wk.fad 26 0 false fd111_9 rfl (lt_of_ble rfl)
    apply Wk.ld (i := 27) 1 false ty4 rfl rfl (by conv => lhs; whnf) (lt_of_ble rfl)
    apply Wk.mv (by conv => lhs; whnf) (lt_of_ble rfl)
    apply Wk.gon 33 rfl rfl
    apply Wk.mv (by conv => lhs; whnf) (lt_of_ble rfl)
    apply Wk.pckF rfl (by conv => lhs; whnf) (lt_of_ble rfl)
    refine Wk.nil ?_
    refine AW.cond rfl (fun hc => by cases hc) (fun _ => AW.skip (thenA_normal ?_))
    refine AW.seq (AW.seq ?_)
    apply AW.draw (hm := hmix) (cs := _)
    · apply Wk.mv (by conv => lhs; whnf) (lt_of_ble rfl)
      apply Wk.nilc rfl (lt_of_ble rfl)
      apply Wk.fad 23 0 false fd111_6 rfl (lt_of_ble rfl)
      apply Wk.ld (i := 27) 1 false ty3 rfl rfl (by conv => lhs; whnf) (lt_of_ble rfl)
      apply Wk.mv (by conv => lhs; whnf) (lt_of_ble rfl)
      apply Wk.nilc rfl (lt_of_ble rfl)
      apply Wk.fad 0 4 true fd111_0 rfl (lt_of_ble rfl)
      apply Wk.fad 4 0 false fd24_4 rfl (lt_of_ble rfl)
      apply Wk.ld (i := 27) 1 false ty3 rfl rfl (by conv => lhs; whnf) (lt_of_ble rfl)
      apply Wk.bin rfl rfl (r := .bool false) (fun w => by simp [go_sem, ht]) (lt_of_ble rfl)
      refine Wk.nil ?_
      refine AW.cond rfl (fun hc => by cases hc) (fun _ => AW.skip (thenA_normal ?_))
      refine AW.seq ?_
      apply AW.list
      apply Wk.mv (by conv => lhs; whnf) (lt_of_ble rfl)
      apply Wk.nilc rfl (lt_of_ble rfl)
      apply Wk.fad 22 0 false fd111_5 rfl (lt_of_ble rfl)
      apply Wk.sto (i := 27) 1 false ty4 rfl rfl rfl rfl (Nat.le_of_ble_eq_true rfl) (lt_of_ble rfl)
      refine Wk.nil ?_
      refine AW.seq ?_
      apply AW.list
      apply Wk.mv (by conv => lhs; whnf) (lt_of_ble rfl)
      apply Wk.nilc rfl (lt_of_ble rfl)
      apply Wk.fad 23 0 false fd111_6 rfl (lt_of_ble rfl)
      apply Wk.ld (i := 27) 1 false ty3 rfl rfl (by conv => lhs; whnf) (lt_of_ble rfl)
      apply Wk.addi rfl rfl (by omega) (lt_of_ble rfl)
      apply Wk.nilc rfl (lt_of_ble rfl)
      apply Wk.fad 23 0 false fd111_6 rfl (lt_of_ble rfl)
      apply Wk.sto (i := 27) 1 false ty3 rfl rfl rfl rfl (Nat.le_of_ble_eq_true rfl) (lt_of_ble rfl)
      refine Wk.nil ?_
      refine AW.seq ?_
      apply AW.list
      apply Wk.mv (by conv => lhs; whnf) (lt_of_ble rfl)
      apply Wk.mv (by conv => lhs; whnf) (lt_of_ble rfl)
      apply Wk.dat (iwait_ok bu) Try.func104 rfl rfl rfl rfl rfl (lt_of_ble rfl)
      apply Wk.bld [.int .i64 0, .int .i64 0, .int .i64 0, .bool false, .bool false, .int .i64 0, .int .i64 0, .int .i64 0, .slice none 0 0] [(0, 1), (1, 1), (2, 1), (3, 1), (4, 1), (5, 1), (6, 1), (7, 1), (8, 1)] bl42 rfl (by conv => lhs; whnf) (lt_of_ble rfl)
      apply Wk.sto (i := 6) 9 true ty42 rfl rfl rfl rfl (Nat.le_of_ble_eq_true rfl) (lt_of_ble rfl)
      apply Wk.asg (by conv => lhs; whnf) (lt_of_ble rfl)
      refine Wk.nil (AW.ret ?_)
      exact RetQ.ret (sndB _ l qu) (.cons ⟨6, 0, _, _, _, rfl, rfl, ty42, rfl⟩ (.cons rfl .nil)) ⟨rfl, rfl⟩ (kept2 rfl rfl)
    · rfl
    · rfl
end Go.Proofs.Ytdojkmjamilllaa

/- TxTick of the program, over what values read as. Written by tools/mk_AbsTickI.py. -/
namespace Go.Proofs.Ytdojkmjamilllaa
open Go Go.RowKit
theorem itxb {m w p u y : Int} {x : TX} {b : Bool} (h : txOkB ⟨m, w, p, u, y⟩ x = b) : DataOk Try.prog 17 [cfgA m w p u y, txA x] (.d (.v (.bool b))) := h ▸ itx_ok m w p u y x
theorem iisnum {n : Int} {b : Bool} (h : inB n 0 7 = b) : DataOk Try.prog 66 [.d (.v (.int .i64 n))] (.d (.v (.bool b))) := by
  subst h
  refine DataOk.lift fun w F E H args _ hs hd => ?_
  obtain ⟨v, rfl, hv⟩ := arg1 hs hd
  obtain rfl := den_v hv
  refine (number_any n w).mono ?_
  rintro e w' ⟨rfl, rfl⟩
  exact ⟨rfl, Below.refl _ _⟩
theorem txOk_four {o : Opt} {x : TX} (h : txOkB o x = true) : x.fl.length ≤ 4 ∧ x.few := by
  have f := txOk_facts h
  obtain ⟨-, hw, -, -, -, -, -, hl, -, -, hq, -, -, -, h1, h2⟩ := f
  refine ⟨by omega, ⟨by omega, fun d hd => ?_⟩, ⟨by omega, fun d hd => ?_⟩⟩
  · have := partM_len (h1 d hd); omega
  · have := partM_len (h2 d hd); omega
/-- The next number is told by the first one and how many there are. -/
theorem txOk_next {o : Opt} {x : TX} (h : txOkB o x = true) : (x.a + (x.fl.length : Int)) % 8 = x.n ∧ 0 ≤ x.a ∧ x.a < 8 := by
  have f := txOk_facts h
  have hn := (inB_iff _ _ _).1 f.2.2.2.2.2.1
  have ha := (inB_iff _ _ _).1 f.2.2.2.2.2.2.1
  have hf := f.2.2.2.2.2.2.2.2.1
  rw [farF_in (by omega) (by omega)] at hf
  omega
theorem ring_at {fl : List Dat} (h4 : fl.length ≤ 4) : ∀ i d, fl[i]? = some d → ringF fl ((0 + i) % 4) = sl (some d) := by
  intro i d h
  have hi := (List.getElem?_eq_some_iff.1 h).1
  rw [show (0 + i) % 4 = i by omega, ringF, h]
set_option maxHeartbeats 4000000 in
set_option maxRecDepth 100000 in
theorem itickNo (m0 w0 p0 u0 y0 : Int) (x : TX) (ack : Int) (bu : Bool) (hno : txOkB ⟨m0, w0, p0, u0, y0⟩ x = false ∨ inB ack 0 7 = false) :
    DataOk Try.prog 36 [cfgA m0 w0 p0 u0 y0, txA x, .d (.v (.int .i64 ack)), .d (.v (.bool bu))] (.tup [txNil, frmNo, .d (.v (.bool false))]) := by
  cases hok : txOkB ⟨m0, w0, p0, u0, y0⟩ x
  · skip
    refine Spec.intro (n := 39) (rv := [.cell 8 27, .cell 9 42, .tmp 10]) Try.func36 rfl rfl rfl (by simp) fun C hN hX => ?_
    refine AW.seq ?_
    apply AW.list
    apply Wk.bx 4 rfl rfl (lt_of_ble rfl)
    apply Wk.bx 50 rfl rfl (lt_of_ble rfl)
    apply Wk.alc 8 [.int .i64 0, .int .i64 0, .slice none 0 0, .int .i64 0, .slice none 0 0, .bool false, .int .i64 0, .bool false, .int .i64 0, .bool false] ze27 rfl rfl (lt_of_ble rfl)
    apply Wk.alc 9 [.int .i64 0, .int .i64 0, .int .i64 0, .bool false, .bool false, .int .i64 0, .int .i64 0, .int .i64 0, .slice none 0 0] ze42 rfl rfl (lt_of_ble rfl)
    apply Wk.asg (by conv => lhs; whnf) (lt_of_ble rfl)
    refine Wk.nil ?_
    refine AW.seq (AW.seq ?_)
    apply AW.list
    apply Wk.ld (i := 4) 5 true ty24 rfl rfl (by conv => lhs; whnf) (lt_of_ble rfl)
    apply Wk.ld (i := 50) 10 true ty27 rfl rfl (by conv => lhs; whnf) (lt_of_ble rfl)
    apply Wk.dat (itxb hok) Try.func17 rfl rfl rfl rfl rfl (lt_of_ble rfl)
    apply Wk.un rfl (fun w => by simp [go_sem] <;> rfl) (lt_of_ble rfl)
    apply Wk.mv (by conv => lhs; whnf) (lt_of_ble rfl)
    apply Wk.goff 18 (ok_move _) rfl rfl (by simp)
    apply Wk.goff 18 (ok_datw ((iisnum (n := 0) rfl).w rfl) Try.func66 rfl rfl) rfl rfl (by simp)
    apply Wk.goff 18 (ok_un _ _ _) rfl rfl (by simp)
    apply Wk.pckT rfl (by conv => lhs; whnf) (lt_of_ble rfl)
    refine Wk.nil ?_
    refine AW.cond rfl (fun _ => ?_) (fun hc => by cases hc)
    refine AW.seq ?_
    apply AW.list
    apply Wk.bld [.int .i64 0, .int .i64 0, .slice none 0 0, .int .i64 0, .slice none 0 0, .bool false, .int .i64 0, .bool false, .int .i64 0, .bool false] [(0, 1), (1, 1), (2, 1), (3, 1), (4, 1), (5, 1), (6, 1), (7, 1), (8, 1), (9, 1)] bl27 rfl (by conv => lhs; whnf) (lt_of_ble rfl)
    apply Wk.bld [.int .i64 0, .int .i64 0, .int .i64 0, .bool false, .bool false, .int .i64 0, .int .i64 0, .int .i64 0, .slice none 0 0] [(0, 1), (1, 1), (2, 1), (3, 1), (4, 1), (5, 1), (6, 1), (7, 1), (8, 1)] bl42 rfl (by conv => lhs; whnf) (lt_of_ble rfl)
    apply Wk.sto (i := 8) 10 true ty27 rfl rfl rfl rfl (Nat.le_of_ble_eq_true rfl) (lt_of_ble rfl)
    apply Wk.sto (i := 9) 9 true ty42 rfl rfl rfl rfl (Nat.le_of_ble_eq_true rfl) (lt_of_ble rfl)
    apply Wk.asg (by conv => lhs; whnf) (lt_of_ble rfl)
    refine Wk.nil (AW.ret ?_)
    repeat (first | refine thenA_ret ?_ | refine inBlockA_ret ?_)
    exact RetQ.ret [] (.cons ⟨8, 0, _, _, _, rfl, rfl, ty27, rfl⟩ (.cons ⟨9, 0, _, _, _, rfl, rfl, ty42, rfl⟩ (.cons rfl .nil))) ⟨rfl, rfl⟩ none_kept
  · have hack : inB ack 0 7 = false := by rcases hno with h | h <;> first | exact h | (rw [hok] at h; cases h)
    refine Spec.intro (n := 39) (rv := [.cell 8 27, .cell 9 42, .tmp 10]) Try.func36 rfl rfl rfl (by simp) fun C hN hX => ?_
    refine AW.seq ?_
    apply AW.list
    apply Wk.bx 4 rfl rfl (lt_of_ble rfl)
    apply Wk.bx 50 rfl rfl (lt_of_ble rfl)
    apply Wk.alc 8 [.int .i64 0, .int .i64 0, .slice none 0 0, .int .i64 0, .slice none 0 0, .bool false, .int .i64 0, .bool false, .int .i64 0, .bool false] ze27 rfl rfl (lt_of_ble rfl)
    apply Wk.alc 9 [.int .i64 0, .int .i64 0, .int .i64 0, .bool false, .bool false, .int .i64 0, .int .i64 0, .int .i64 0, .slice none 0 0] ze42 rfl rfl (lt_of_ble rfl)
    apply Wk.asg (by conv => lhs; whnf) (lt_of_ble rfl)
    refine Wk.nil ?_
    refine AW.seq (AW.seq ?_)
    apply AW.list
    apply Wk.ld (i := 4) 5 true ty24 rfl rfl (by conv => lhs; whnf) (lt_of_ble rfl)
    apply Wk.ld (i := 50) 10 true ty27 rfl rfl (by conv => lhs; whnf) (lt_of_ble rfl)
    apply Wk.dat (itxb hok) Try.func17 rfl rfl rfl rfl rfl (lt_of_ble rfl)
    apply Wk.un rfl (fun w => by simp [go_sem] <;> rfl) (lt_of_ble rfl)
    apply Wk.mv (by conv => lhs; whnf) (lt_of_ble rfl)
    apply Wk.gon 18 rfl rfl
    apply Wk.mv (by conv => lhs; whnf) (lt_of_ble rfl)
    apply Wk.gon 18 rfl rfl
    apply Wk.dat (iisnum hack) Try.func66 rfl rfl rfl rfl rfl (lt_of_ble rfl)
    apply Wk.gon 18 rfl rfl
    apply Wk.un rfl (fun w => by simp [go_sem] <;> rfl) (lt_of_ble rfl)
    apply Wk.pckF rfl (by conv => lhs; whnf) (lt_of_ble rfl)
    refine Wk.nil ?_
    refine AW.cond rfl (fun _ => ?_) (fun hc => by cases hc)
    refine AW.seq ?_
    apply AW.list
    apply Wk.bld [.int .i64 0, .int .i64 0, .slice none 0 0, .int .i64 0, .slice none 0 0, .bool false, .int .i64 0, .bool false, .int .i64 0, .bool false] [(0, 1), (1, 1), (2, 1), (3, 1), (4, 1), (5, 1), (6, 1), (7, 1), (8, 1), (9, 1)] bl27 rfl (by conv => lhs; whnf) (lt_of_ble rfl)
    apply Wk.bld [.int .i64 0, .int .i64 0, .int .i64 0, .bool false, .bool false, .int .i64 0, .int .i64 0, .int .i64 0, .slice none 0 0] [(0, 1), (1, 1), (2, 1), (3, 1), (4, 1), (5, 1), (6, 1), (7, 1), (8, 1)] bl42 rfl (by conv => lhs; whnf) (lt_of_ble rfl)
    apply Wk.sto (i := 8) 10 true ty27 rfl rfl rfl rfl (Nat.le_of_ble_eq_true rfl) (lt_of_ble rfl)
    apply Wk.sto (i := 9) 9 true ty42 rfl rfl rfl rfl (Nat.le_of_ble_eq_true rfl) (lt_of_ble rfl)
    apply Wk.asg (by conv => lhs; whnf) (lt_of_ble rfl)
    refine Wk.nil (AW.ret ?_)
    repeat (first | refine thenA_ret ?_ | refine inBlockA_ret ?_)
    exact RetQ.ret [] (.cons ⟨8, 0, _, _, _, rfl, rfl, ty27, rfl⟩ (.cons ⟨9, 0, _, _, _, rfl, rfl, ty42, rfl⟩ (.cons rfl .nil))) ⟨rfl, rfl⟩ none_kept
set_option maxHeartbeats 4000000 in
set_option maxRecDepth 100000 in
theorem itickYesN (m0 w0 p0 u0 y0 n a : Int) (s : Int) (qu : List Dat) (q : Bool) (t : Int) (hh : Bool) (c : Int) (dd : Bool) (q' : Bool) (t' : Int) (d' : Bool) (ack : Int) (bu : Bool) (k1 s1 c1 : Int) (p1 f1 : Bool) (y1 g1 l1 : Int) (b : Bool) (hok : txOkB ⟨m0, w0, p0, u0, y0⟩ ⟨n, a, [], s, qu, q, t, hh, c, dd⟩ = true) (hack : inB ack 0 7 = true)
    (ht : Spec Try.prog 78 [.ptr 27 0, .d (.v (.int .i64 ack)), .d (.v (.bool bu))] (sndB (sndC m0 w0 p0 u0 y0 a (ringF []) 0 (([] : List Dat).length : Int) s qu.length q t hh c dd) qu.length qu) (fun r bs => r = .tup [frmG k1 s1 c1 p1 f1 y1 g1 l1, .d (.v (.bool b))] ∧ bs = sndB (sndC m0 w0 p0 u0 y0 a (ringF []) 0 (([] : List Dat).length : Int) s qu.length q' t' hh c d') qu.length qu)) :
    DataOk Try.prog 36 [cfgA m0 w0 p0 u0 y0, txA ⟨n, a, [], s, qu, q, t, hh, c, dd⟩, .d (.v (.int .i64 ack)), .d (.v (.bool bu))] (.tup [txA ⟨n, a, [], s, qu, q', t', hh, c, d'⟩, frmG k1 s1 c1 p1 f1 y1 g1 l1, .d (.v (.bool b))]) := by
  have h4 := txOk_four hok
  have hn := txOk_next hok
  simp only at h4 hn
  have cn := inew m0 w0 p0 u0 y0 ⟨n, a, [], s, qu, q, t, hh, c, dd⟩ h4.1 h4.2
  simp only at cn
  have cs := istateN m0 w0 p0 u0 y0 a (ringF []) s qu.length q' t' hh c d' qu 0 (by omega) h4.1 (ring_at h4.1) ⟨hn.2.1, hn.2.2⟩
  rw [hn.1] at cs
  refine Spec.intro (n := 39) (rv := [.cell 8 27, .cell 9 42, .tmp 10]) Try.func36 rfl rfl rfl (by simp) fun C hN hX => ?_
  refine AW.seq ?_
  apply AW.list
  apply Wk.bx 4 rfl rfl (lt_of_ble rfl)
  apply Wk.bx 50 rfl rfl (lt_of_ble rfl)
  apply Wk.alc 8 [.int .i64 0, .int .i64 0, .slice none 0 0, .int .i64 0, .slice none 0 0, .bool false, .int .i64 0, .bool false, .int .i64 0, .bool false] ze27 rfl rfl (lt_of_ble rfl)
  apply Wk.alc 9 [.int .i64 0, .int .i64 0, .int .i64 0, .bool false, .bool false, .int .i64 0, .int .i64 0, .int .i64 0, .slice none 0 0] ze42 rfl rfl (lt_of_ble rfl)
  apply Wk.asg (by conv => lhs; whnf) (lt_of_ble rfl)
  refine Wk.nil ?_
  refine AW.seq (AW.seq ?_)
  apply AW.list
  apply Wk.ld (i := 4) 5 true ty24 rfl rfl (by conv => lhs; whnf) (lt_of_ble rfl)
  apply Wk.ld (i := 50) 10 true ty27 rfl rfl (by conv => lhs; whnf) (lt_of_ble rfl)
  apply Wk.dat (itxb hok) Try.func17 rfl rfl rfl rfl rfl (lt_of_ble rfl)
  apply Wk.un rfl (fun w => by simp [go_sem] <;> rfl) (lt_of_ble rfl)
  apply Wk.mv (by conv => lhs; whnf) (lt_of_ble rfl)
  apply Wk.gon 18 rfl rfl
  apply Wk.mv (by conv => lhs; whnf) (lt_of_ble rfl)
  apply Wk.gon 18 rfl rfl
  apply Wk.dat (iisnum hack) Try.func66 rfl rfl rfl rfl rfl (lt_of_ble rfl)
  apply Wk.gon 18 rfl rfl
  apply Wk.un rfl (fun w => by simp [go_sem] <;> rfl) (lt_of_ble rfl)
  apply Wk.pckF rfl (by conv => lhs; whnf) (lt_of_ble rfl)
  refine Wk.nil ?_
  refine AW.cond rfl (fun hc => by cases hc) (fun _ => AW.skip (thenA_normal ?_))
  refine AW.seq ?_
  apply AW.list
  apply Wk.ld (i := 4) 5 true ty24 rfl rfl (by conv => lhs; whnf) (lt_of_ble rfl)
  apply Wk.ld (i := 50) 10 true ty27 rfl rfl (by conv => lhs; whnf) (lt_of_ble rfl)
  apply Wk.cal [] [27, 66] cn (in_snd _ rfl _ _ _ _ _ _ _ _ _ _ _ _ _ _ _ _ _ _) ⟨_, _, rfl, rfl⟩ Try.func51 rfl rfl rfl rfl (by simp; exact ⟨rfl, rfl⟩) rfl (fun i hi => by cases hi) (lt_of_ble rfl)
  rintro r bs' ⟨rfl, rfl⟩
  apply Wk.asg (by conv => lhs; whnf) (lt_of_ble rfl)
  refine Wk.nil ?_
  refine AW.seq ?_
  apply AW.list
  apply Wk.mv (by conv => lhs; whnf) (lt_of_ble rfl)
  apply Wk.mv (by conv => lhs; whnf) (lt_of_ble rfl)
  apply Wk.mv (by conv => lhs; whnf) (lt_of_ble rfl)
  apply Wk.cal [27, 66] [] ht (in_snd _ rfl _ _ _ _ _ _ _ _ _ _ _ _ _ _ _ _ _ _) ⟨_, _, rfl, rfl⟩ Try.func78 rfl rfl rfl rfl (fun i hi => by cases hi) rfl (two_in rfl (by exact within_parts _)) (lt_of_ble rfl)
  rintro r bs' ⟨rfl, rfl⟩
  apply Wk.mv (by conv => lhs; whnf) (lt_of_ble rfl)
  apply Wk.ext rfl rfl (lt_of_ble rfl)
  apply Wk.ext rfl rfl (lt_of_ble rfl)
  apply Wk.alc 12 [.int .i64 0, .int .i64 0, .int .i64 0, .bool false, .bool false, .int .i64 0, .int .i64 0, .int .i64 0, .slice none 0 0] ze42 rfl rfl (lt_of_ble rfl)
  apply Wk.sto (i := 12) 9 true ty42 rfl rfl rfl rfl (Nat.le_of_ble_eq_true rfl) (lt_of_ble rfl)
  apply Wk.asg (by conv => lhs; whnf) (lt_of_ble rfl)
  refine Wk.nil ?_
  refine AW.seq ?_
  apply AW.draw (hm := hmix) (cs := _)
  · apply Wk.mv (by conv => lhs; whnf) (lt_of_ble rfl)
    apply Wk.calr [27, 66] [17] cs (in_sndF _ rfl _ _ _ _ _ _ _ _ _ _ _ _ _ _ _ _ _ _ []) (by rintro r bs' ⟨rfl, rfl⟩; exact keep2) ⟨_, _, rfl, rfl⟩ Try.func53 rfl rfl rfl rfl (by simp; rfl) rfl (two_in rfl (by exact within_parts _)) (lt_of_ble rfl)
    rintro r bs' ⟨rfl, rfl⟩
    apply Wk.ld (i := 12) 9 true ty42 rfl rfl (by conv => lhs; whnf) (lt_of_ble rfl)
    apply Wk.mv (by conv => lhs; whnf) (lt_of_ble rfl)
    apply Wk.sto (i := 8) 10 true ty27 rfl rfl rfl rfl (Nat.le_of_ble_eq_true rfl) (lt_of_ble rfl)
    apply Wk.sto (i := 9) 9 true ty42 rfl rfl rfl rfl (Nat.le_of_ble_eq_true rfl) (lt_of_ble rfl)
    apply Wk.asg (by conv => lhs; whnf) (lt_of_ble rfl)
    refine Wk.nil ?_
    refine AW.thawc (j := 8) (c := 4) (i := 66) _ rfl rfl rfl (asData_parts qu) hX.none ?_
    refine AW.nrmb (j := 8) rfl ?_
    refine AW.ret ?_
    exact RetQ.ret [] (.cons ⟨8, 0, _, _, _, rfl, rfl, ty27, rfl⟩ (.cons ⟨9, 0, _, _, _, rfl, rfl, ty42, rfl⟩ (.cons rfl .nil))) ⟨rfl, rfl⟩ none_kept
  · rfl
  · rfl
set_option maxHeartbeats 4000000 in
set_option maxRecDepth 100000 in
theorem itickYesO (m0 w0 p0 u0 y0 n a : Int) (fl : List Dat) (hne : fl ≠ []) (s : Int) (qu : List Dat) (q : Bool) (t : Int) (hh : Bool) (c : Int) (dd : Bool) (q' : Bool) (t' : Int) (d' : Bool) (ack : Int) (bu : Bool) (k1 s1 c1 : Int) (p1 f1 : Bool) (y1 g1 l1 : Int) (b : Bool) (hok : txOkB ⟨m0, w0, p0, u0, y0⟩ ⟨n, a, fl, s, qu, q, t, hh, c, dd⟩ = true) (hack : inB ack 0 7 = true)
    (ht : Spec Try.prog 78 [.ptr 27 0, .d (.v (.int .i64 ack)), .d (.v (.bool bu))] (sndB (sndC m0 w0 p0 u0 y0 a (ringF fl) 0 ((fl : List Dat).length : Int) s qu.length q t hh c dd) qu.length qu) (fun r bs => r = .tup [frmG k1 s1 c1 p1 f1 y1 g1 l1, .d (.v (.bool b))] ∧ bs = sndB (sndC m0 w0 p0 u0 y0 a (ringF fl) 0 ((fl : List Dat).length : Int) s qu.length q' t' hh c d') qu.length qu)) :
    DataOk Try.prog 36 [cfgA m0 w0 p0 u0 y0, txA ⟨n, a, fl, s, qu, q, t, hh, c, dd⟩, .d (.v (.int .i64 ack)), .d (.v (.bool bu))] (.tup [txA ⟨n, a, fl, s, qu, q', t', hh, c, d'⟩, frmG k1 s1 c1 p1 f1 y1 g1 l1, .d (.v (.bool b))]) := by
  have h4 := txOk_four hok
  have hn := txOk_next hok
  simp only at h4 hn
  have cn := inew m0 w0 p0 u0 y0 ⟨n, a, fl, s, qu, q, t, hh, c, dd⟩ h4.1 h4.2
  simp only at cn
  have cs := istateO m0 w0 p0 u0 y0 a (ringF fl) s qu.length q' t' hh c d' qu 0 fl hne (by omega) h4.1 (ring_at h4.1) ⟨hn.2.1, hn.2.2⟩
  rw [hn.1] at cs
  have ev : flV fl = .own 17 (fl.length - 1) := if_neg hne
  have ex : flX fl = [(17, .own (fl.length - 1) 47 3 (piecesA fl))] := if_neg hne
  have ip : PostIn [27, 66, 17] (fun r bs => r = stA0 n a (flV fl) s qu.length q' t' hh c d' ∧ bs = sndB (sndC m0 w0 p0 u0 y0 a (ringF fl) 0 ((fl : List Dat).length : Int) s qu.length q' t' hh c d') qu.length qu ++ flX fl) := in_sndF _ (by rw [ev]; rfl) _ _ _ _ _ _ _ _ _ _ _ _ _ _ _ _ _ _ _
  rw [ev, ex] at cs ip
  refine Spec.intro (n := 39) (rv := [.cell 8 27, .cell 9 42, .tmp 10]) Try.func36 rfl rfl rfl (by simp) fun C hN hX => ?_
  refine AW.seq ?_
  apply AW.list
  apply Wk.bx 4 rfl rfl (lt_of_ble rfl)
  apply Wk.bx 50 rfl rfl (lt_of_ble rfl)
  apply Wk.alc 8 [.int .i64 0, .int .i64 0, .slice none 0 0, .int .i64 0, .slice none 0 0, .bool false, .int .i64 0, .bool false, .int .i64 0, .bool false] ze27 rfl rfl (lt_of_ble rfl)
  apply Wk.alc 9 [.int .i64 0, .int .i64 0, .int .i64 0, .bool false, .bool false, .int .i64 0, .int .i64 0, .int .i64 0, .slice none 0 0] ze42 rfl rfl (lt_of_ble rfl)
  apply Wk.asg (by conv => lhs; whnf) (lt_of_ble rfl)
  refine Wk.nil ?_
  refine AW.seq (AW.seq ?_)
  apply AW.list
  apply Wk.ld (i := 4) 5 true ty24 rfl rfl (by conv => lhs; whnf) (lt_of_ble rfl)
  apply Wk.ld (i := 50) 10 true ty27 rfl rfl (by conv => lhs; whnf) (lt_of_ble rfl)
  apply Wk.dat (itxb hok) Try.func17 rfl rfl rfl rfl rfl (lt_of_ble rfl)
  apply Wk.un rfl (fun w => by simp [go_sem] <;> rfl) (lt_of_ble rfl)
  apply Wk.mv (by conv => lhs; whnf) (lt_of_ble rfl)
  apply Wk.gon 18 rfl rfl
  apply Wk.mv (by conv => lhs; whnf) (lt_of_ble rfl)
  apply Wk.gon 18 rfl rfl
  apply Wk.dat (iisnum hack) Try.func66 rfl rfl rfl rfl rfl (lt_of_ble rfl)
  apply Wk.gon 18 rfl rfl
  apply Wk.un rfl (fun w => by simp [go_sem] <;> rfl) (lt_of_ble rfl)
  apply Wk.pckF rfl (by conv => lhs; whnf) (lt_of_ble rfl)
  refine Wk.nil ?_
  refine AW.cond rfl (fun hc => by cases hc) (fun _ => AW.skip (thenA_normal ?_))
  refine AW.seq ?_
  apply AW.list
  apply Wk.ld (i := 4) 5 true ty24 rfl rfl (by conv => lhs; whnf) (lt_of_ble rfl)
  apply Wk.ld (i := 50) 10 true ty27 rfl rfl (by conv => lhs; whnf) (lt_of_ble rfl)
  apply Wk.cal [] [27, 66] cn (in_snd _ rfl _ _ _ _ _ _ _ _ _ _ _ _ _ _ _ _ _ _) ⟨_, _, rfl, rfl⟩ Try.func51 rfl rfl rfl rfl (by simp; exact ⟨rfl, rfl⟩) rfl (fun i hi => by cases hi) (lt_of_ble rfl)
  rintro r bs' ⟨rfl, rfl⟩
  apply Wk.asg (by conv => lhs; whnf) (lt_of_ble rfl)
  refine Wk.nil ?_
  refine AW.seq ?_
  apply AW.list
  apply Wk.mv (by conv => lhs; whnf) (lt_of_ble rfl)
  apply Wk.mv (by conv => lhs; whnf) (lt_of_ble rfl)
  apply Wk.mv (by conv => lhs; whnf) (lt_of_ble rfl)
  apply Wk.cal [27, 66] [] ht (in_snd _ rfl _ _ _ _ _ _ _ _ _ _ _ _ _ _ _ _ _ _) ⟨_, _, rfl, rfl⟩ Try.func78 rfl rfl rfl rfl (fun i hi => by cases hi) rfl (two_in rfl (by exact within_parts _)) (lt_of_ble rfl)
  rintro r bs' ⟨rfl, rfl⟩
  apply Wk.mv (by conv => lhs; whnf) (lt_of_ble rfl)
  apply Wk.ext rfl rfl (lt_of_ble rfl)
  apply Wk.ext rfl rfl (lt_of_ble rfl)
  apply Wk.alc 12 [.int .i64 0, .int .i64 0, .int .i64 0, .bool false, .bool false, .int .i64 0, .int .i64 0, .int .i64 0, .slice none 0 0] ze42 rfl rfl (lt_of_ble rfl)
  apply Wk.sto (i := 12) 9 true ty42 rfl rfl rfl rfl (Nat.le_of_ble_eq_true rfl) (lt_of_ble rfl)
  apply Wk.asg (by conv => lhs; whnf) (lt_of_ble rfl)
  refine Wk.nil ?_
  refine AW.seq ?_
  apply AW.draw (hm := hmix) (cs := _)
  · apply Wk.mv (by conv => lhs; whnf) (lt_of_ble rfl)
    apply Wk.calr [27, 66] [17] cs ip (by rintro r bs' ⟨rfl, rfl⟩; exact keep2) ⟨_, _, rfl, rfl⟩ Try.func53 rfl rfl rfl rfl (by simp; rfl) rfl (two_in rfl (by exact within_parts _)) (lt_of_ble rfl)
    rintro r bs' ⟨rfl, rfl⟩
    apply Wk.ld (i := 12) 9 true ty42 rfl rfl (by conv => lhs; whnf) (lt_of_ble rfl)
    apply Wk.mv (by conv => lhs; whnf) (lt_of_ble rfl)
    apply Wk.sto (i := 8) 10 true ty27 rfl rfl rfl rfl (Nat.le_of_ble_eq_true rfl) (lt_of_ble rfl)
    apply Wk.sto (i := 9) 9 true ty42 rfl rfl rfl rfl (Nat.le_of_ble_eq_true rfl) (lt_of_ble rfl)
    apply Wk.asg (by conv => lhs; whnf) (lt_of_ble rfl)
    refine Wk.nil ?_
    refine AW.thawc (j := 8) (c := 4) (i := 66) _ rfl rfl rfl (asData_parts qu) hX.none ?_
    refine AW.thawc (j := 8) (c := 2) (i := 17) _ rfl rfl rfl (asData_parts fl) hX.none ?_
    refine AW.ret ?_
    exact RetQ.ret [] (.cons ⟨8, 0, _, _, _, rfl, rfl, ty27, rfl⟩ (.cons ⟨9, 0, _, _, _, rfl, rfl, ty42, rfl⟩ (.cons rfl .nil))) ⟨rfl, rfl⟩ none_kept
  · rfl
  · rfl
/-- What a tick leaves. -/
def tickX (y : Int) (x : TX) : TX := if x.d = true ∨ (x.fl = [] ∧ x.h = false ∧ x.q = false) then x else if x.t = y then { x with d := true } else { x with q := true, t := x.t + 1 }
def tickB (y : Int) (x : TX) : Bool := decide (¬ (x.d = true ∨ (x.fl = [] ∧ x.h = false ∧ x.q = false)) ∧ x.t ≠ y)
theorem itick_ok (m0 w0 p0 u0 y0 : Int) (x : TX) (ack : Int) (bu : Bool) (hok : txOkB ⟨m0, w0, p0, u0, y0⟩ x = true) (hack : inB ack 0 7 = true) :
    DataOk Try.prog 36 [cfgA m0 w0 p0 u0 y0, txA x, .d (.v (.int .i64 ack)), .d (.v (.bool bu))] (.tup [txA (tickX y0 x), if tickB y0 x then frmQ ack bu else frmNo, .d (.v (.bool (tickB y0 x)))]) := by
  have f := txOk_facts hok
  have ht0 := f.2.2.2.2.2.2.2.2.2.2.2.1
  have hy := f.2.2.2.2.1
  obtain ⟨n, a, fl, s, qu, q, t, hh, c, dd⟩ := x
  simp only at ht0 hy
  have one : ∀ (q' : Bool) (t' : Int) (d' : Bool) (F : A) (k1 s1 c1 : Int) (p1 f1 : Bool) (y1 g1 l1 : Int) (b : Bool), F = frmG k1 s1 c1 p1 f1 y1 g1 l1 →
      Spec Try.prog 78 [.ptr 27 0, .d (.v (.int .i64 ack)), .d (.v (.bool bu))] (sndB (sndC m0 w0 p0 u0 y0 a (ringF fl) 0 (fl.length : Int) s qu.length q t hh c dd) qu.length qu) (fun r bs => r = .tup [F, .d (.v (.bool b))] ∧ bs = sndB (sndC m0 w0 p0 u0 y0 a (ringF fl) 0 (fl.length : Int) s qu.length q' t' hh c d') qu.length qu) →
      DataOk Try.prog 36 [cfgA m0 w0 p0 u0 y0, txA ⟨n, a, fl, s, qu, q, t, hh, c, dd⟩, .d (.v (.int .i64 ack)), .d (.v (.bool bu))] (.tup [txA ⟨n, a, fl, s, qu, q', t', hh, c, d'⟩, F, .d (.v (.bool b))]) := by
    intro q' t' d' F k1 s1 c1 p1 f1 y1 g1 l1 b hF hs
    subst hF
    by_cases h0 : fl = []
    · subst h0
      exact itickYesN m0 w0 p0 u0 y0 n a s qu q t hh c dd q' t' d' ack bu k1 s1 c1 p1 f1 y1 g1 l1 b hok hack hs
    · exact itickYesO m0 w0 p0 u0 y0 n a fl h0 s qu q t hh c dd q' t' d' ack bu k1 s1 c1 p1 f1 y1 g1 l1 b hok hack hs
  have hk : (fl.length = 0 ∧ hh = false ∧ q = false) ↔ (fl = [] ∧ hh = false ∧ q = false) := by rw [List.length_eq_zero_iff]
  by_cases hi : dd = true ∨ (fl = [] ∧ hh = false ∧ q = false)
  · have e1 : tickX y0 ⟨n, a, fl, s, qu, q, t, hh, c, dd⟩ = ⟨n, a, fl, s, qu, q, t, hh, c, dd⟩ := if_pos hi
    have e2 : tickB y0 ⟨n, a, fl, s, qu, q, t, hh, c, dd⟩ = false := decide_eq_false (fun h => h.1 hi)
    rw [e1, e2]
    exact one q t dd frmNo 0 0 0 false false 0 0 0 false rfl (itickIdle m0 w0 p0 u0 y0 a (ringF fl) fl.length s qu.length q t hh c dd qu ack bu (by rw [hk]; exact hi))
  · have hd : dd = false := by cases dd <;> simp_all
    have hi' : ¬ (fl.length = 0 ∧ hh = false ∧ q = false) := fun h => hi (.inr (hk.1 h))
    by_cases ht : t = y0
    · have e1 : tickX y0 ⟨n, a, fl, s, qu, q, t, hh, c, dd⟩ = ⟨n, a, fl, s, qu, q, t, hh, c, true⟩ := by rw [tickX, if_neg hi, if_pos ht]
      have e2 : tickB y0 ⟨n, a, fl, s, qu, q, t, hh, c, dd⟩ = false := decide_eq_false (fun h => h.2 ht)
      rw [e1, e2]
      exact one q t true frmNo 0 0 0 false false 0 0 0 false rfl (itickOut m0 w0 p0 u0 y0 a (ringF fl) fl.length s qu.length q t hh c dd qu ack bu hd hi' ht)
    · have e1 : tickX y0 ⟨n, a, fl, s, qu, q, t, hh, c, dd⟩ = ⟨n, a, fl, s, qu, true, t + 1, hh, c, dd⟩ := by rw [tickX, if_neg hi, if_neg ht]
      have e2 : tickB y0 ⟨n, a, fl, s, qu, q, t, hh, c, dd⟩ = true := decide_eq_true ⟨hi, ht⟩
      rw [e1, e2]
      exact one true (t + 1) dd (frmQ ack bu) 2 0 ack true false (2 * bitZ bu) 0 0 true rfl (itickAsk m0 w0 p0 u0 y0 a (ringF fl) fl.length s qu.length q t hh c dd qu ack bu hd hi' ht (by omega))
end Go.Proofs.Ytdojkmjamilllaa

/- TxPut of the program, over what values read as. Written by tools/mk_AbsPutI.py. -/
namespace Go.Proofs.Ytdojkmjamilllaa
open Go Go.RowKit
set_option maxHeartbeats 4000000 in
set_option maxRecDepth 100000 in
theorem iputNo (m w p u y a : Int) (f : Nat → Sl) (k s : Int) (l : Nat) (q : Bool) (t : Int) (hh : Bool) (c : Int) (dd : Bool) (qu : List Dat) (sdu : List Nat) (cut : List Dat) (hcut : DataOk Try.prog 20 [.d (bytesD sdu), .d (.v (.int .i64 p))] (.d (partsD cut))) (hq : qu.length ≤ 1000) (hc : cut.length ≤ 1000) (hf : dd = true ∨ u < (sdu.length : Int) ∨ 24 < qu.length + cut.length) : Spec Try.prog 52 [.ptr 27 0, .d (bytesD sdu)] (sndB (sndC m w p u y a f 0 k s l q t hh c dd) l qu) (fun r bs => r = .d (.v (.bool false)) ∧ bs = sndB (sndC m w p u y a f 0 k s l q t hh c dd) l qu) := by
  have e1 : (((sdu.map fun z : Nat => [D.v (.int .u8 (z : Int))]).length : Nat) : Int) = (sdu.length : Int) := by rw [List.length_map]
  have e2 : (((cut.map datD).length : Nat) : Int) = (cut.length : Int) := by rw [List.length_map]
  have e3 : (((piecesA qu).length : Nat) : Int) = (qu.length : Int) := by rw [piecesA, List.length_map]
  refine Spec.intro (n := 45) (rv := [.tmp 4]) Try.func52 rfl rfl rfl (by simp) fun C hN hX => ?_
  refine AW.seq ?_
  apply AW.list
  apply Wk.asg (by conv => lhs; whnf) (lt_of_ble rfl)
  refine Wk.nil ?_
  refine AW.seq (AW.seq ?_)
  cases dd
  · by_cases c2 : u < (sdu.length : Int)
    · skip
      apply AW.list
      apply Wk.mv (by conv => lhs; whnf) (lt_of_ble rfl)
      apply Wk.nilc rfl (lt_of_ble rfl)
      apply Wk.fad 26 0 false fd111_9 rfl (lt_of_ble rfl)
      apply Wk.ld (i := 27) 1 false ty4 rfl rfl (by conv => lhs; whnf) (lt_of_ble rfl)
      apply Wk.mv (by conv => lhs; whnf) (lt_of_ble rfl)
      apply Wk.gon 10 rfl rfl
      apply Wk.mv (by conv => lhs; whnf) (lt_of_ble rfl)
      apply Wk.gon 10 rfl rfl
      apply Wk.len un22 rfl (lt_of_ble rfl)
      apply Wk.gon 10 rfl rfl
      apply Wk.mv (by conv => lhs; whnf) (lt_of_ble rfl)
      apply Wk.gon 10 rfl rfl
      apply Wk.nilc rfl (lt_of_ble rfl)
      apply Wk.gon 10 rfl rfl
      apply Wk.fad 0 4 true fd111_0 rfl (lt_of_ble rfl)
      apply Wk.gon 10 rfl rfl
      apply Wk.fad 3 0 false fd24_3 rfl (lt_of_ble rfl)
      apply Wk.gon 10 rfl rfl
      apply Wk.ld (i := 27) 1 false ty3 rfl rfl (by conv => lhs; whnf) (lt_of_ble rfl)
      apply Wk.gon 10 rfl rfl
      apply Wk.bin rfl rfl (r := .bool true) (fun w => by rw [e1]; simp [go_sem] <;> omega) (lt_of_ble rfl)
      apply Wk.pckF rfl (by conv => lhs; whnf) (lt_of_ble rfl)
      refine Wk.nil ?_
      refine AW.cond rfl (fun _ => ?_) (fun hc => by cases hc)
      refine AW.seq ?_
      apply AW.list
      apply Wk.asg (by conv => lhs; whnf) (lt_of_ble rfl)
      refine Wk.nil (AW.ret ?_)
      repeat (first | refine thenA_ret ?_ | refine inBlockA_ret ?_)
      exact RetQ.ret (sndB _ l qu) (.cons rfl .nil) ⟨rfl, rfl⟩ (kept2 rfl rfl)
    · have c3 : 24 < qu.length + cut.length := by rcases hf with h | h | h <;> first | exact absurd h c2 | exact h | cases h
      apply AW.list
      apply Wk.mv (by conv => lhs; whnf) (lt_of_ble rfl)
      apply Wk.nilc rfl (lt_of_ble rfl)
      apply Wk.fad 26 0 false fd111_9 rfl (lt_of_ble rfl)
      apply Wk.ld (i := 27) 1 false ty4 rfl rfl (by conv => lhs; whnf) (lt_of_ble rfl)
      apply Wk.mv (by conv => lhs; whnf) (lt_of_ble rfl)
      apply Wk.gon 10 rfl rfl
      apply Wk.mv (by conv => lhs; whnf) (lt_of_ble rfl)
      apply Wk.gon 10 rfl rfl
      apply Wk.len un22 rfl (lt_of_ble rfl)
      apply Wk.gon 10 rfl rfl
      apply Wk.mv (by conv => lhs; whnf) (lt_of_ble rfl)
      apply Wk.gon 10 rfl rfl
      apply Wk.nilc rfl (lt_of_ble rfl)
      apply Wk.gon 10 rfl rfl
      apply Wk.fad 0 4 true fd111_0 rfl (lt_of_ble rfl)
      apply Wk.gon 10 rfl rfl
      apply Wk.fad 3 0 false fd24_3 rfl (lt_of_ble rfl)
      apply Wk.gon 10 rfl rfl
      apply Wk.ld (i := 27) 1 false ty3 rfl rfl (by conv => lhs; whnf) (lt_of_ble rfl)
      apply Wk.gon 10 rfl rfl
      apply Wk.bin rfl rfl (r := .bool false) (fun w => by rw [e1]; simp [go_sem] <;> omega) (lt_of_ble rfl)
      apply Wk.pckF rfl (by conv => lhs; whnf) (lt_of_ble rfl)
      refine Wk.nil ?_
      refine AW.cond rfl (fun hc => by cases hc) (fun _ => AW.skip (thenA_normal ?_))
      refine AW.seq ?_
      apply AW.list
      apply Wk.mv (by conv => lhs; whnf) (lt_of_ble rfl)
      apply Wk.mv (by conv => lhs; whnf) (lt_of_ble rfl)
      apply Wk.nilc rfl (lt_of_ble rfl)
      apply Wk.fad 0 4 true fd111_0 rfl (lt_of_ble rfl)
      apply Wk.fad 2 0 false fd24_2 rfl (lt_of_ble rfl)
      apply Wk.ld (i := 27) 1 false ty3 rfl rfl (by conv => lhs; whnf) (lt_of_ble rfl)
      apply Wk.dat hcut Try.func20 rfl rfl rfl rfl rfl (lt_of_ble rfl)
      apply Wk.asg (by conv => lhs; whnf) (lt_of_ble rfl)
      refine Wk.nil ?_
      refine AW.seq (AW.seq ?_)
      apply AW.list
      apply Wk.mv (by conv => lhs; whnf) (lt_of_ble rfl)
      apply Wk.nilc rfl (lt_of_ble rfl)
      apply Wk.fad 21 0 false fd111_4 rfl (lt_of_ble rfl)
      apply Wk.ld (i := 27) 1 false ty25 rfl rfl (by conv => lhs; whnf) (lt_of_ble rfl)
      apply Wk.leno (i := 66) un25 rfl rfl (lt_of_ble rfl)
      apply Wk.mv (by conv => lhs; whnf) (lt_of_ble rfl)
      apply Wk.len un25 rfl (lt_of_ble rfl)
      apply Wk.addi rfl rfl (by rw [e2, e3]; omega) (lt_of_ble rfl)
      apply Wk.bin rfl rfl (r := .bool true) (fun w => by rw [e2, e3]; simp [go_sem] <;> omega) (lt_of_ble rfl)
      refine Wk.nil ?_
      refine AW.cond rfl (fun _ => ?_) (fun hc => by cases hc)
      refine AW.seq ?_
      apply AW.list
      apply Wk.asg (by conv => lhs; whnf) (lt_of_ble rfl)
      refine Wk.nil (AW.ret ?_)
      repeat (first | refine thenA_ret ?_ | refine inBlockA_ret ?_)
      exact RetQ.ret (sndB _ l qu) (.cons rfl .nil) ⟨rfl, rfl⟩ (kept2 rfl rfl)
  · skip
    apply AW.list
    apply Wk.mv (by conv => lhs; whnf) (lt_of_ble rfl)
    apply Wk.nilc rfl (lt_of_ble rfl)
    apply Wk.fad 26 0 false fd111_9 rfl (lt_of_ble rfl)
    apply Wk.ld (i := 27) 1 false ty4 rfl rfl (by conv => lhs; whnf) (lt_of_ble rfl)
    apply Wk.mv (by conv => lhs; whnf) (lt_of_ble rfl)
    apply Wk.goff 10 (ok_move _) rfl rfl (by simp)
    apply Wk.goff 10 (ok_len un22) rfl rfl (by simp)
    apply Wk.goff 10 (ok_move _) rfl rfl (by simp)
    apply Wk.goff 10 (ok_nil _) rfl rfl (by simp)
    apply Wk.goff 10 (ok_faddr fd111_0) rfl rfl (by simp)
    apply Wk.goff 10 (ok_faddr fd24_3) rfl rfl (by simp)
    apply Wk.goff 10 (ok_load 27 ty3) rfl rfl (by simp)
    apply Wk.goff 10 (ok_bin _ _ _ _ _) rfl rfl (by simp)
    apply Wk.pckT rfl (by conv => lhs; whnf) (lt_of_ble rfl)
    refine Wk.nil ?_
    refine AW.cond rfl (fun _ => ?_) (fun hc => by cases hc)
    refine AW.seq ?_
    apply AW.list
    apply Wk.asg (by conv => lhs; whnf) (lt_of_ble rfl)
    refine Wk.nil (AW.ret ?_)
    repeat (first | refine thenA_ret ?_ | refine inBlockA_ret ?_)
    exact RetQ.ret (sndB _ l qu) (.cons rfl .nil) ⟨rfl, rfl⟩ (kept2 rfl rfl)
set_option maxHeartbeats 4000000 in
set_option maxRecDepth 100000 in
theorem iputYes (m w p u y a : Int) (f : Nat → Sl) (k s : Int) (l : Nat) (q : Bool) (t : Int) (hh : Bool) (c : Int) (dd : Bool) (qu : List Dat) (sdu : List Nat) (cut : List Dat) (hcut : DataOk Try.prog 20 [.d (bytesD sdu), .d (.v (.int .i64 p))] (.d (partsD cut))) (hq : qu.length ≤ 1000) (hc : cut.length ≤ 1000) (hd : dd = false) (hu : ¬ u < (sdu.length : Int)) (hl : ¬ 24 < qu.length + cut.length) : Spec Try.prog 52 [.ptr 27 0, .d (bytesD sdu)] (sndB (sndC m w p u y a f 0 k s l q t hh c dd) l qu) (fun r bs => r = .d (.v (.bool true)) ∧ bs = sndB (sndC m w p u y a f 0 k s (l + 1) q t hh c dd) (l + 1) (qu ++ cut)) := by
  subst hd
  have e1 : (((sdu.map fun z : Nat => [D.v (.int .u8 (z : Int))]).length : Nat) : Int) = (sdu.length : Int) := by rw [List.length_map]
  have e2 : (((cut.map datD).length : Nat) : Int) = (cut.length : Int) := by rw [List.length_map]
  have e3 : (((piecesA qu).length : Nat) : Int) = (qu.length : Int) := by rw [piecesA, List.length_map]
  have e4 : piecesA qu ++ (cut.map datD).map (·.map A.d) = piecesA (qu ++ cut) := by simp [piecesA]
  have e5 : (piecesA qu).length + (cut.map datD).length ≤ 1000000 := by rw [piecesA, List.length_map, List.length_map]; omega
  refine Spec.intro (n := 45) (rv := [.tmp 4]) Try.func52 rfl rfl rfl (by simp) fun C hN hX => ?_
  refine AW.seq ?_
  apply AW.list
  apply Wk.asg (by conv => lhs; whnf) (lt_of_ble rfl)
  refine Wk.nil ?_
  refine AW.seq (AW.seq ?_)
  apply AW.list
  apply Wk.mv (by conv => lhs; whnf) (lt_of_ble rfl)
  apply Wk.nilc rfl (lt_of_ble rfl)
  apply Wk.fad 26 0 false fd111_9 rfl (lt_of_ble rfl)
  apply Wk.ld (i := 27) 1 false ty4 rfl rfl (by conv => lhs; whnf) (lt_of_ble rfl)
  apply Wk.mv (by conv => lhs; whnf) (lt_of_ble rfl)
  apply Wk.gon 10 rfl rfl
  apply Wk.mv (by conv => lhs; whnf) (lt_of_ble rfl)
  apply Wk.gon 10 rfl rfl
  apply Wk.len un22 rfl (lt_of_ble rfl)
  apply Wk.gon 10 rfl rfl
  apply Wk.mv (by conv => lhs; whnf) (lt_of_ble rfl)
  apply Wk.gon 10 rfl rfl
  apply Wk.nilc rfl (lt_of_ble rfl)
  apply Wk.gon 10 rfl rfl
  apply Wk.fad 0 4 true fd111_0 rfl (lt_of_ble rfl)
  apply Wk.gon 10 rfl rfl
  apply Wk.fad 3 0 false fd24_3 rfl (lt_of_ble rfl)
  apply Wk.gon 10 rfl rfl
  apply Wk.ld (i := 27) 1 false ty3 rfl rfl (by conv => lhs; whnf) (lt_of_ble rfl)
  apply Wk.gon 10 rfl rfl
  apply Wk.bin rfl rfl (r := .bool false) (fun w => by rw [e1]; simp [go_sem] <;> omega) (lt_of_ble rfl)
  apply Wk.pckF rfl (by conv => lhs; whnf) (lt_of_ble rfl)
  refine Wk.nil ?_
  refine AW.cond rfl (fun hc => by cases hc) (fun _ => AW.skip (thenA_normal ?_))
  refine AW.seq ?_
  apply AW.list
  apply Wk.mv (by conv => lhs; whnf) (lt_of_ble rfl)
  apply Wk.mv (by conv => lhs; whnf) (lt_of_ble rfl)
  apply Wk.nilc rfl (lt_of_ble rfl)
  apply Wk.fad 0 4 true fd111_0 rfl (lt_of_ble rfl)
  apply Wk.fad 2 0 false fd24_2 rfl (lt_of_ble rfl)
  apply Wk.ld (i := 27) 1 false ty3 rfl rfl (by conv => lhs; whnf) (lt_of_ble rfl)
  apply Wk.dat hcut Try.func20 rfl rfl rfl rfl rfl (lt_of_ble rfl)
  apply Wk.asg (by conv => lhs; whnf) (lt_of_ble rfl)
  refine Wk.nil ?_
  refine AW.seq (AW.seq ?_)
  apply AW.list
  apply Wk.mv (by conv => lhs; whnf) (lt_of_ble rfl)
  apply Wk.nilc rfl (lt_of_ble rfl)
  apply Wk.fad 21 0 false fd111_4 rfl (lt_of_ble rfl)
  apply Wk.ld (i := 27) 1 false ty25 rfl rfl (by conv => lhs; whnf) (lt_of_ble rfl)
  apply Wk.leno (i := 66) un25 rfl rfl (lt_of_ble rfl)
  apply Wk.mv (by conv => lhs; whnf) (lt_of_ble rfl)
  apply Wk.len un25 rfl (lt_of_ble rfl)
  apply Wk.addi rfl rfl (by rw [e2, e3]; omega) (lt_of_ble rfl)
  apply Wk.bin rfl rfl (r := .bool false) (fun w => by rw [e2, e3]; simp [go_sem] <;> omega) (lt_of_ble rfl)
  refine Wk.nil ?_
  refine AW.cond rfl (fun hc => by cases hc) (fun _ => AW.skip (thenA_normal ?_))
  refine AW.seq ?_
  apply AW.list
  apply Wk.mv (by conv => lhs; whnf) (lt_of_ble rfl)
  apply Wk.mv (by conv => lhs; whnf) (lt_of_ble rfl)
  apply Wk.nilc rfl (lt_of_ble rfl)
  apply Wk.fad 21 0 false fd111_4 rfl (lt_of_ble rfl)
  apply Wk.ld (i := 27) 1 false ty25 rfl rfl (by conv => lhs; whnf) (lt_of_ble rfl)
  apply Wk.mv (by conv => lhs; whnf) (lt_of_ble rfl)
  apply Wk.appOR 66 1000 3 un25 ap47 rfl rfl rfl (.inr rfl) (by decide) (datD_len _) (three_parts _) e5 (lt_of_ble rfl)
  rw [e4]
  apply Wk.nilc rfl (lt_of_ble rfl)
  apply Wk.fad 21 0 false fd111_4 rfl (lt_of_ble rfl)
  apply Wk.sto (i := 27) 1 false ty25 rfl rfl rfl rfl (Nat.le_of_ble_eq_true rfl) (lt_of_ble rfl)
  refine Wk.nil ?_
  refine AW.seq ?_
  apply AW.list
  apply Wk.asg (by conv => lhs; whnf) (lt_of_ble rfl)
  refine Wk.nil (AW.ret ?_)
  exact RetQ.ret (sndB (sndC m w p u y a f 0 k s (l + 1) q t hh c false) (l + 1) (qu ++ cut)) (.cons rfl .nil) ⟨rfl, rfl⟩ (kept2 rfl rfl)
set_option maxHeartbeats 4000000 in
set_option maxRecDepth 100000 in
theorem itputNo (m0 w0 p0 u0 y0 : Int) (x : TX) (sdu : D) (hok : txOkB ⟨m0, w0, p0, u0, y0⟩ x = false) : DataOk Try.prog 14 [cfgA m0 w0 p0 u0 y0, txA x, .d sdu] (.tup [txNil, .d (.v (.bool false))]) := by
  refine Spec.intro (n := 24) (rv := [.cell 6 27, .tmp 7]) Try.func14 rfl rfl rfl (by simp) fun C hN hX => ?_
  refine AW.seq ?_
  apply AW.list
  apply Wk.bx 3 rfl rfl (lt_of_ble rfl)
  apply Wk.bx 4 rfl rfl (lt_of_ble rfl)
  apply Wk.alc 6 [.int .i64 0, .int .i64 0, .slice none 0 0, .int .i64 0, .slice none 0 0, .bool false, .int .i64 0, .bool false, .int .i64 0, .bool false] ze27 rfl rfl (lt_of_ble rfl)
  apply Wk.asg (by conv => lhs; whnf) (lt_of_ble rfl)
  refine Wk.nil ?_
  refine AW.seq (AW.seq ?_)
  apply AW.list
  apply Wk.ld (i := 3) 5 true ty24 rfl rfl (by conv => lhs; whnf) (lt_of_ble rfl)
  apply Wk.ld (i := 4) 10 true ty27 rfl rfl (by conv => lhs; whnf) (lt_of_ble rfl)
  apply Wk.dat (itxb hok) Try.func17 rfl rfl rfl rfl rfl (lt_of_ble rfl)
  apply Wk.un rfl (fun w => by simp [go_sem] <;> rfl) (lt_of_ble rfl)
  refine Wk.nil ?_
  refine AW.cond rfl (fun _ => ?_) (fun hc => by cases hc)
  refine AW.seq ?_
  apply AW.list
  apply Wk.bld [.int .i64 0, .int .i64 0, .slice none 0 0, .int .i64 0, .slice none 0 0, .bool false, .int .i64 0, .bool false, .int .i64 0, .bool false] [(0, 1), (1, 1), (2, 1), (3, 1), (4, 1), (5, 1), (6, 1), (7, 1), (8, 1), (9, 1)] bl27 rfl (by conv => lhs; whnf) (lt_of_ble rfl)
  apply Wk.sto (i := 6) 10 true ty27 rfl rfl rfl rfl (Nat.le_of_ble_eq_true rfl) (lt_of_ble rfl)
  apply Wk.asg (by conv => lhs; whnf) (lt_of_ble rfl)
  refine Wk.nil (AW.ret ?_)
  repeat (first | refine thenA_ret ?_ | refine inBlockA_ret ?_)
  exact RetQ.ret [] (.cons ⟨6, 0, _, _, _, rfl, rfl, ty27, rfl⟩ (.cons rfl .nil)) ⟨rfl, rfl⟩ none_kept
set_option maxHeartbeats 4000000 in
set_option maxRecDepth 100000 in
theorem itputYesN (m0 w0 p0 u0 y0 n a : Int) (s : Int) (qu qu' : List Dat) (l' : Nat) (q : Bool) (t : Int) (hh : Bool) (c : Int) (dd : Bool) (sdu : List Nat) (b : Bool) (hok : txOkB ⟨m0, w0, p0, u0, y0⟩ ⟨n, a, [], s, qu, q, t, hh, c, dd⟩ = true)
    (ht : Spec Try.prog 52 [.ptr 27 0, .d (bytesD sdu)] (sndB (sndC m0 w0 p0 u0 y0 a (ringF []) 0 (([] : List Dat).length : Int) s qu.length q t hh c dd) qu.length qu) (fun r bs => r = .d (.v (.bool b)) ∧ bs = sndB (sndC m0 w0 p0 u0 y0 a (ringF []) 0 (([] : List Dat).length : Int) s l' q t hh c dd) l' qu')) :
    DataOk Try.prog 14 [cfgA m0 w0 p0 u0 y0, txA ⟨n, a, [], s, qu, q, t, hh, c, dd⟩, .d (bytesD sdu)] (.tup [txA ⟨n, a, [], s, qu', q, t, hh, c, dd⟩, .d (.v (.bool b))]) := by
  have h4 := txOk_four hok
  have hn := txOk_next hok
  simp only at h4 hn
  have cn := inew m0 w0 p0 u0 y0 ⟨n, a, [], s, qu, q, t, hh, c, dd⟩ h4.1 h4.2
  simp only at cn
  have cs := istateN m0 w0 p0 u0 y0 a (ringF []) s l' q t hh c dd qu' 0 (by omega) h4.1 (ring_at h4.1) ⟨hn.2.1, hn.2.2⟩
  rw [hn.1] at cs
  refine Spec.intro (n := 24) (rv := [.cell 6 27, .tmp 7]) Try.func14 rfl rfl rfl (by simp) fun C hN hX => ?_
  refine AW.seq ?_
  apply AW.list
  apply Wk.bx 3 rfl rfl (lt_of_ble rfl)
  apply Wk.bx 4 rfl rfl (lt_of_ble rfl)
  apply Wk.alc 6 [.int .i64 0, .int .i64 0, .slice none 0 0, .int .i64 0, .slice none 0 0, .bool false, .int .i64 0, .bool false, .int .i64 0, .bool false] ze27 rfl rfl (lt_of_ble rfl)
  apply Wk.asg (by conv => lhs; whnf) (lt_of_ble rfl)
  refine Wk.nil ?_
  refine AW.seq (AW.seq ?_)
  apply AW.list
  apply Wk.ld (i := 3) 5 true ty24 rfl rfl (by conv => lhs; whnf) (lt_of_ble rfl)
  apply Wk.ld (i := 4) 10 true ty27 rfl rfl (by conv => lhs; whnf) (lt_of_ble rfl)
  apply Wk.dat (itxb hok) Try.func17 rfl rfl rfl rfl rfl (lt_of_ble rfl)
  apply Wk.un rfl (fun w => by simp [go_sem] <;> rfl) (lt_of_ble rfl)
  refine Wk.nil ?_
  refine AW.cond rfl (fun hc => by cases hc) (fun _ => AW.skip (thenA_normal ?_))
  refine AW.seq ?_
  apply AW.list
  apply Wk.ld (i := 3) 5 true ty24 rfl rfl (by conv => lhs; whnf) (lt_of_ble rfl)
  apply Wk.ld (i := 4) 10 true ty27 rfl rfl (by conv => lhs; whnf) (lt_of_ble rfl)
  apply Wk.cal [] [27, 66] cn (in_snd _ rfl _ _ _ _ _ _ _ _ _ _ _ _ _ _ _ _ _ _) ⟨_, _, rfl, rfl⟩ Try.func51 rfl rfl rfl rfl (by simp; exact ⟨rfl, rfl⟩) rfl (fun i hi => by cases hi) (lt_of_ble rfl)
  rintro r bs' ⟨rfl, rfl⟩
  apply Wk.asg (by conv => lhs; whnf) (lt_of_ble rfl)
  refine Wk.nil ?_
  refine AW.seq ?_
  apply AW.list
  apply Wk.mv (by conv => lhs; whnf) (lt_of_ble rfl)
  apply Wk.mv (by conv => lhs; whnf) (lt_of_ble rfl)
  apply Wk.cal [27, 66] [] ht (in_snd _ rfl _ _ _ _ _ _ _ _ _ _ _ _ _ _ _ _ _ _) ⟨_, _, rfl, rfl⟩ Try.func52 rfl rfl rfl rfl (fun i hi => by cases hi) rfl (two_in rfl (by exact within_parts _)) (lt_of_ble rfl)
  rintro r bs' ⟨rfl, rfl⟩
  apply Wk.asg (by conv => lhs; whnf) (lt_of_ble rfl)
  refine Wk.nil ?_
  refine AW.seq ?_
  apply AW.list
  apply Wk.mv (by conv => lhs; whnf) (lt_of_ble rfl)
  apply Wk.calr [27, 66] [17] cs (in_sndF _ rfl _ _ _ _ _ _ _ _ _ _ _ _ _ _ _ _ _ _ []) (by rintro r bs' ⟨rfl, rfl⟩; exact keep2) ⟨_, _, rfl, rfl⟩ Try.func53 rfl rfl rfl rfl (by simp; rfl) rfl (two_in rfl (by exact within_parts _)) (lt_of_ble rfl)
  rintro r bs' ⟨rfl, rfl⟩
  apply Wk.mv (by conv => lhs; whnf) (lt_of_ble rfl)
  apply Wk.sto (i := 6) 10 true ty27 rfl rfl rfl rfl (Nat.le_of_ble_eq_true rfl) (lt_of_ble rfl)
  apply Wk.asg (by conv => lhs; whnf) (lt_of_ble rfl)
  refine Wk.nil ?_
  refine AW.thawc (j := 6) (c := 4) (i := 66) _ rfl rfl rfl (asData_parts qu') hX.none ?_
  refine AW.nrmb (j := 6) rfl ?_
  refine AW.ret ?_
  exact RetQ.ret [] (.cons ⟨6, 0, _, _, _, rfl, rfl, ty27, rfl⟩ (.cons rfl .nil)) ⟨rfl, rfl⟩ none_kept
set_option maxHeartbeats 4000000 in
set_option maxRecDepth 100000 in
theorem itputYesO (m0 w0 p0 u0 y0 n a : Int) (fl : List Dat) (hne : fl ≠ []) (s : Int) (qu qu' : List Dat) (l' : Nat) (q : Bool) (t : Int) (hh : Bool) (c : Int) (dd : Bool) (sdu : List Nat) (b : Bool) (hok : txOkB ⟨m0, w0, p0, u0, y0⟩ ⟨n, a, fl, s, qu, q, t, hh, c, dd⟩ = true)
    (ht : Spec Try.prog 52 [.ptr 27 0, .d (bytesD sdu)] (sndB (sndC m0 w0 p0 u0 y0 a (ringF fl) 0 ((fl : List Dat).length : Int) s qu.length q t hh c dd) qu.length qu) (fun r bs => r = .d (.v (.bool b)) ∧ bs = sndB (sndC m0 w0 p0 u0 y0 a (ringF fl) 0 ((fl : List Dat).length : Int) s l' q t hh c dd) l' qu')) :
    DataOk Try.prog 14 [cfgA m0 w0 p0 u0 y0, txA ⟨n, a, fl, s, qu, q, t, hh, c, dd⟩, .d (bytesD sdu)] (.tup [txA ⟨n, a, fl, s, qu', q, t, hh, c, dd⟩, .d (.v (.bool b))]) := by
  have h4 := txOk_four hok
  have hn := txOk_next hok
  simp only at h4 hn
  have cn := inew m0 w0 p0 u0 y0 ⟨n, a, fl, s, qu, q, t, hh, c, dd⟩ h4.1 h4.2
  simp only at cn
  have cs := istateO m0 w0 p0 u0 y0 a (ringF fl) s l' q t hh c dd qu' 0 fl hne (by omega) h4.1 (ring_at h4.1) ⟨hn.2.1, hn.2.2⟩
  rw [hn.1] at cs
  have ev : flV fl = .own 17 (fl.length - 1) := if_neg hne
  have ex : flX fl = [(17, .own (fl.length - 1) 47 3 (piecesA fl))] := if_neg hne
  have ip : PostIn [27, 66, 17] (fun r bs => r = stA0 n a (flV fl) s l' q t hh c dd ∧ bs = sndB (sndC m0 w0 p0 u0 y0 a (ringF fl) 0 ((fl : List Dat).length : Int) s l' q t hh c dd) l' qu' ++ flX fl) := in_sndF _ (by rw [ev]; rfl) _ _ _ _ _ _ _ _ _ _ _ _ _ _ _ _ _ _ _
  rw [ev, ex] at cs ip
  refine Spec.intro (n := 24) (rv := [.cell 6 27, .tmp 7]) Try.func14 rfl rfl rfl (by simp) fun C hN hX => ?_
  refine AW.seq ?_
  apply AW.list
  apply Wk.bx 3 rfl rfl (lt_of_ble rfl)
  apply Wk.bx 4 rfl rfl (lt_of_ble rfl)
  apply Wk.alc 6 [.int .i64 0, .int .i64 0, .slice none 0 0, .int .i64 0, .slice none 0 0, .bool false, .int .i64 0, .bool false, .int .i64 0, .bool false] ze27 rfl rfl (lt_of_ble rfl)
  apply Wk.asg (by conv => lhs; whnf) (lt_of_ble rfl)
  refine Wk.nil ?_
  refine AW.seq (AW.seq ?_)
  apply AW.list
  apply Wk.ld (i := 3) 5 true ty24 rfl rfl (by conv => lhs; whnf) (lt_of_ble rfl)
  apply Wk.ld (i := 4) 10 true ty27 rfl rfl (by conv => lhs; whnf) (lt_of_ble rfl)
  apply Wk.dat (itxb hok) Try.func17 rfl rfl rfl rfl rfl (lt_of_ble rfl)
  apply Wk.un rfl (fun w => by simp [go_sem] <;> rfl) (lt_of_ble rfl)
  refine Wk.nil ?_
  refine AW.cond rfl (fun hc => by cases hc) (fun _ => AW.skip (thenA_normal ?_))
  refine AW.seq ?_
  apply AW.list
  apply Wk.ld (i := 3) 5 true ty24 rfl rfl (by conv => lhs; whnf) (lt_of_ble rfl)
  apply Wk.ld (i := 4) 10 true ty27 rfl rfl (by conv => lhs; whnf) (lt_of_ble rfl)
  apply Wk.cal [] [27, 66] cn (in_snd _ rfl _ _ _ _ _ _ _ _ _ _ _ _ _ _ _ _ _ _) ⟨_, _, rfl, rfl⟩ Try.func51 rfl rfl rfl rfl (by simp; exact ⟨rfl, rfl⟩) rfl (fun i hi => by cases hi) (lt_of_ble rfl)
  rintro r bs' ⟨rfl, rfl⟩
  apply Wk.asg (by conv => lhs; whnf) (lt_of_ble rfl)
  refine Wk.nil ?_
  refine AW.seq ?_
  apply AW.list
  apply Wk.mv (by conv => lhs; whnf) (lt_of_ble rfl)
  apply Wk.mv (by conv => lhs; whnf) (lt_of_ble rfl)
  apply Wk.cal [27, 66] [] ht (in_snd _ rfl _ _ _ _ _ _ _ _ _ _ _ _ _ _ _ _ _ _) ⟨_, _, rfl, rfl⟩ Try.func52 rfl rfl rfl rfl (fun i hi => by cases hi) rfl (two_in rfl (by exact within_parts _)) (lt_of_ble rfl)
  rintro r bs' ⟨rfl, rfl⟩
  apply Wk.asg (by conv => lhs; whnf) (lt_of_ble rfl)
  refine Wk.nil ?_
  refine AW.seq ?_
  apply AW.list
  apply Wk.mv (by conv => lhs; whnf) (lt_of_ble rfl)
  apply Wk.calr [27, 66] [17] cs ip (by rintro r bs' ⟨rfl, rfl⟩; exact keep2) ⟨_, _, rfl, rfl⟩ Try.func53 rfl rfl rfl rfl (by simp; rfl) rfl (two_in rfl (by exact within_parts _)) (lt_of_ble rfl)
  rintro r bs' ⟨rfl, rfl⟩
  apply Wk.mv (by conv => lhs; whnf) (lt_of_ble rfl)
  apply Wk.sto (i := 6) 10 true ty27 rfl rfl rfl rfl (Nat.le_of_ble_eq_true rfl) (lt_of_ble rfl)
  apply Wk.asg (by conv => lhs; whnf) (lt_of_ble rfl)
  refine Wk.nil ?_
  refine AW.thawc (j := 6) (c := 4) (i := 66) _ rfl rfl rfl (asData_parts qu') hX.none ?_
  refine AW.thawc (j := 6) (c := 2) (i := 17) _ rfl rfl rfl (asData_parts fl) hX.none ?_
  refine AW.ret ?_
  exact RetQ.ret [] (.cons ⟨6, 0, _, _, _, rfl, rfl, ty27, rfl⟩ (.cons rfl .nil)) ⟨rfl, rfl⟩ none_kept
/-- A message that is put. -/
def putX (u : Int) (x : TX) (n : Nat) (cut : List Dat) : TX := if x.d = true ∨ u < (n : Int) ∨ 24 < x.qu.length + cut.length then x else { x with qu := x.qu ++ cut }
def putB (u : Int) (x : TX) (n : Nat) (cut : List Dat) : Bool := decide (¬ (x.d = true ∨ u < (n : Int) ∨ 24 < x.qu.length + cut.length))
theorem itput_ok (m0 w0 p0 u0 y0 : Int) (x : TX) (sdu : List Nat) (hz : Byt sdu) (hl : sdu.length ≤ 2000000) (hok : txOkB ⟨m0, w0, p0, u0, y0⟩ x = true) :
    DataOk Try.prog 14 [cfgA m0 w0 p0 u0 y0, txA x, .d (bytesD sdu)] (.tup [txA (putX u0 x sdu.length (cutD sdu p0)), .d (.v (.bool (putB u0 x sdu.length (cutD sdu p0))))]) := by
  have f := txOk_facts hok
  have hcut := icut_ok sdu p0 hz hl
  have hcl := cutD_length sdu p0
  have hq := f.2.2.2.2.2.2.2.2.2.2.1
  obtain ⟨n, a, fl, s, qu, q, t, hh, c, dd⟩ := x
  simp only at hq
  have one : ∀ (qu' : List Dat) (l' : Nat) (b : Bool),
      Spec Try.prog 52 [.ptr 27 0, .d (bytesD sdu)] (sndB (sndC m0 w0 p0 u0 y0 a (ringF fl) 0 (fl.length : Int) s qu.length q t hh c dd) qu.length qu) (fun r bs => r = .d (.v (.bool b)) ∧ bs = sndB (sndC m0 w0 p0 u0 y0 a (ringF fl) 0 (fl.length : Int) s l' q t hh c dd) l' qu') →
      DataOk Try.prog 14 [cfgA m0 w0 p0 u0 y0, txA ⟨n, a, fl, s, qu, q, t, hh, c, dd⟩, .d (bytesD sdu)] (.tup [txA ⟨n, a, fl, s, qu', q, t, hh, c, dd⟩, .d (.v (.bool b))]) := by
    intro qu' l' b hs
    by_cases h0 : fl = []
    · subst h0
      exact itputYesN m0 w0 p0 u0 y0 n a s qu qu' l' q t hh c dd sdu b hok hs
    · exact itputYesO m0 w0 p0 u0 y0 n a fl h0 s qu qu' l' q t hh c dd sdu b hok hs
  by_cases hi : dd = true ∨ u0 < (sdu.length : Int) ∨ 24 < qu.length + (cutD sdu p0).length
  · have e1 : putX u0 ⟨n, a, fl, s, qu, q, t, hh, c, dd⟩ sdu.length (cutD sdu p0) = ⟨n, a, fl, s, qu, q, t, hh, c, dd⟩ := if_pos hi
    have e2 : putB u0 ⟨n, a, fl, s, qu, q, t, hh, c, dd⟩ sdu.length (cutD sdu p0) = false := decide_eq_false (fun h => h hi)
    rw [e1, e2]
    exact one qu qu.length false (iputNo m0 w0 p0 u0 y0 a (ringF fl) _ s qu.length q t hh c dd qu sdu _ hcut (by omega) (by omega) hi)
  · have e1 : putX u0 ⟨n, a, fl, s, qu, q, t, hh, c, dd⟩ sdu.length (cutD sdu p0) = ⟨n, a, fl, s, qu ++ cutD sdu p0, q, t, hh, c, dd⟩ := if_neg hi
    have e2 : putB u0 ⟨n, a, fl, s, qu, q, t, hh, c, dd⟩ sdu.length (cutD sdu p0) = true := decide_eq_true hi
    rw [e1, e2]
    simp only [not_or, Bool.not_eq_true] at hi
    exact one (qu ++ cutD sdu p0) (qu.length + 1) true (iputYes m0 w0 p0 u0 y0 a (ringF fl) _ s qu.length q t hh c dd qu sdu _ hcut (by omega) (by omega) hi.1 hi.2.1 hi.2.2)
end Go.Proofs.Ytdojkmjamilllaa
