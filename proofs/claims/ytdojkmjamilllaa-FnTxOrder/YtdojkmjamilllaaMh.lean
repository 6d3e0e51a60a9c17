/- Laws and contracts that the proof stands on: AbsSendB, LiParts, AbsLiTx. -/
import Derived.Test.YtdojkmjamilllaaMa
import Derived.Test.YtdojkmjamilllaaMb
import Derived.Test.YtdojkmjamilllaaMc
import Derived.Test.YtdojkmjamilllaaMd
import Derived.Test.YtdojkmjamilllaaMe
import Derived.Test.YtdojkmjamilllaaMf
import Derived.Test.YtdojkmjamilllaaMg
/- TxSend of both sides, case by case; what is drawn for it. Written by tools/mk_AbsSendB.py. -/
namespace Go.Proofs.Ytdojkmjamilllaa
open Go Go.RowKit
theorem frmD_Z (s c : Int) (e : Dat) : frmD 1 s c false false 0 e.1 e.2.1 e.2.2 = frmZ 1 s c false false 0 e.1 e.2.1 (bytesD e.2.2) := rfl
theorem idle_both (m0 w0 p0 u0 y0 n a : Int) (fl : List Dat) (s : Int) (qu : List Dat) (q : Bool) (t : Int) (hh : Bool) (c : Int) (dd : Bool) (ack : Int) (hok : txOkB ⟨m0, w0, p0, u0, y0⟩ ⟨n, a, fl, s, qu, q, t, hh, c, dd⟩ = true) (hack : inB ack 0 7 = true) (hi : idleB w0 ⟨n, a, fl, s, qu, q, t, hh, c, dd⟩) (hc : c ≤ 9000) :
    DataOk Try.prog 24 [cfgA m0 w0 p0 u0 y0, txA ⟨n, a, fl, s, qu, q, t, hh, c, dd⟩, .d (.v (.int .i64 ack))] (.tup [txA ⟨n, a, fl, s, qu, q, t, hh, c, dd⟩, frmNo, .d (.v (.bool false))]) ∧ DataOk Try.prog 25 [cfgA m0 w0 p0 u0 y0, txA ⟨n, a, fl, s, qu, q, t, hh, c, dd⟩, .d (.v (.int .i64 ack))] (.tup [txA ⟨n, a, fl, s, qu, q, t, hh, c, dd⟩, frmNo, .d (.v (.bool false))]) := by
  have f := txOk_facts hok
  have h4 := txOk_four hok
  have hc0 := f.2.2.2.2.2.2.2.2.2.2.2.2.1
  have hq := f.2.2.2.2.2.2.2.2.2.2.1
  simp only at h4 hc0 hq
  have hx := h4.2
  refine ⟨?_, ssendFD m0 w0 p0 u0 y0 _ _ ack _ 0 0 0 false false 0 0 0 (.v (.slice none 0 0)) false hok hack hx hx (ssendNo m0 w0 p0 u0 y0 n a fl s qu q t hh c dd fl.length ack hi (by omega) (by omega))⟩
  have ht : Spec Try.prog 67 [.ptr 27 0, .d (.v (.int .i64 ack))] (sndB (sndC m0 w0 p0 u0 y0 a (ringF fl) 0 (fl.length : Int) s qu.length q t hh c dd) qu.length qu) (fun r bs => r = .tup [frmNo, .d (.v (.bool false))] ∧ bs = sndB (sndC m0 w0 p0 u0 y0 a (ringF fl) 0 (fl.length : Int) s qu.length q t hh c dd) qu.length qu) := by
    by_cases h1 : dd = true ∨ q = true ∨ hh = true
    · exact isendIdle m0 w0 p0 u0 y0 a (ringF fl) fl.length s qu.length q t hh c dd qu ack h1
    · simp only [not_or, Bool.not_eq_true] at h1
      obtain ⟨rfl, rfl, rfl⟩ := h1
      rcases hi with h | h | h | ⟨h, h2⟩
      · cases h
      · cases h
      · cases h
      · simp only at h h2
        subst h
        exact isendFull m0 w0 p0 u0 y0 a (ringF fl) fl.length qu.length t c qu ack (by rcases h2 with h2 | h2 | h2 <;> first | exact .inl h2 | exact .inr (.inl h2) | omega) (by omega)
  by_cases h0 : fl = []
  · subst h0
    exact itsendN m0 w0 p0 u0 y0 n a s qu q t hh c dd s ack 0 0 0 false false 0 0 0 (.v (.slice none 0 0)) false hok hack ht
  · exact itsendO m0 w0 p0 u0 y0 n a fl h0 s qu q t hh c dd s ack 0 0 0 false false 0 0 0 (.v (.slice none 0 0)) false hok hack ht
theorem on_both (m0 w0 p0 u0 y0 n a : Int) (fl : List Dat) (i : Nat) (qu : List Dat) (t : Int) (c : Int) (ack : Int) (e : Dat) (he : fl[i]? = some e) (hok : txOkB ⟨m0, w0, p0, u0, y0⟩ ⟨n, a, fl, (i : Int), qu, false, t, false, c, false⟩ = true) (hack : inB ack 0 7 = true) :
    DataOk Try.prog 24 [cfgA m0 w0 p0 u0 y0, txA ⟨n, a, fl, (i : Int), qu, false, t, false, c, false⟩, .d (.v (.int .i64 ack))] (.tup [txA ⟨n, a, fl, (i : Int) + 1, qu, false, t, false, c, false⟩, frmZ 1 ((a + (i : Int)) % 8) ack false false 0 e.1 e.2.1 (bytesD e.2.2), .d (.v (.bool true))]) ∧ DataOk Try.prog 25 [cfgA m0 w0 p0 u0 y0, txA ⟨n, a, fl, (i : Int), qu, false, t, false, c, false⟩, .d (.v (.int .i64 ack))] (.tup [txA ⟨n, a, fl, (i : Int) + 1, qu, false, t, false, c, false⟩, frmZ 1 ((a + (i : Int)) % 8) ack false false 0 e.1 e.2.1 (bytesD e.2.2), .d (.v (.bool true))]) := by
  have h4 := txOk_four hok
  have hn := txOk_next hok
  simp only at h4 hn
  have hx : TX.few ⟨n, a, fl, (i : Int), qu, false, t, false, c, false⟩ := h4.2
  have hx' : TX.few ⟨n, a, fl, (i : Int) + 1, qu, false, t, false, c, false⟩ := h4.2
  have hlt : i < fl.length := (List.getElem?_eq_some_iff.1 he).1
  have hl := hx.1.2 e (List.mem_of_getElem? he)
  have hne : fl ≠ [] := fun h => by rw [h] at he; cases he
  refine ⟨?_, ssendFD m0 w0 p0 u0 y0 _ _ ack _ _ _ _ _ _ _ _ _ _ true hok hack hx hx' (ssendOn m0 w0 p0 u0 y0 n a fl i qu t c fl.length ack e he (by omega) (by omega) hl)⟩
  exact itsendO m0 w0 p0 u0 y0 n a fl hne (i : Int) qu false t false c false ((i : Int) + 1) ack _ _ _ _ _ _ _ _ _ true hok hack (isendOn m0 w0 p0 u0 y0 a (ringF fl) fl.length qu.length t c qu i ack e (by rw [ringF, he]) hl hlt h4.1 ⟨hn.2.1, hn.2.2⟩)
theorem new_both (m0 w0 p0 u0 y0 n a : Int) (fl : List Dat) (e : Dat) (qs : List Dat) (t : Int) (c : Int) (ack : Int) (hok : txOkB ⟨m0, w0, p0, u0, y0⟩ ⟨n, a, fl, (fl.length : Int), e :: qs, false, t, false, c, false⟩ = true) (hack : inB ack 0 7 = true) (hw : ¬ (fl.length : Int) = w0) (h9 : c + (fl.length : Int) < 9999) :
    DataOk Try.prog 24 [cfgA m0 w0 p0 u0 y0, txA ⟨n, a, fl, (fl.length : Int), e :: qs, false, t, false, c, false⟩, .d (.v (.int .i64 ack))] (.tup [txA ⟨(n + 1) % 8, a, fl ++ [e], (fl.length : Int) + 1, qs, false, t, false, c, false⟩, frmZ 1 ((a + (fl.length : Int)) % 8) ack false false 0 e.1 e.2.1 (bytesD e.2.2), .d (.v (.bool true))]) ∧ DataOk Try.prog 25 [cfgA m0 w0 p0 u0 y0, txA ⟨n, a, fl, (fl.length : Int), e :: qs, false, t, false, c, false⟩, .d (.v (.int .i64 ack))] (.tup [txA ⟨(n + 1) % 8, a, fl ++ [e], (fl.length : Int) + 1, qs, false, t, false, c, false⟩, frmZ 1 ((a + (fl.length : Int)) % 8) ack false false 0 e.1 e.2.1 (bytesD e.2.2), .d (.v (.bool true))]) := by
  have f := txOk_facts hok
  have h4 := txOk_four hok
  have hn := txOk_next hok
  have hc0 := f.2.2.2.2.2.2.2.2.2.2.2.2.1
  simp only at h4 hn hc0
  have hx : TX.few ⟨n, a, fl, (fl.length : Int), e :: qs, false, t, false, c, false⟩ := h4.2
  have hq1 := hx.2.1
  simp only [List.length_cons] at hq1
  have hx' : TX.few ⟨(n + 1) % 8, a, fl ++ [e], (fl.length : Int) + 1, qs, false, t, false, c, false⟩ := by
    refine ⟨⟨by simp only [List.length_append, List.length_singleton]; omega, fun d hd => ?_⟩, ⟨by simp only; omega, fun d hd => hx.2.2 d (List.mem_cons_of_mem _ hd)⟩⟩
    rcases List.mem_append.1 hd with hd | hd
    · exact hx.1.2 d hd
    · rw [List.mem_singleton.1 hd]; exact hx.2.2 e List.mem_cons_self
  exact ⟨itsendNew m0 w0 p0 u0 y0 n a fl e qs t c ack hok hack hw (by omega), ssendOD m0 w0 p0 u0 y0 _ _ ack _ _ _ _ _ _ _ _ _ _ _ true hok hack hx hx' (ssendNew m0 w0 p0 u0 y0 n a fl (e :: qs) t c fl.length ack e qs rfl hw (by omega) (by omega) (by omega) (by omega) (by simp only [List.length_cons]; omega) hx.2.2)⟩
def txsPost (r : A) : Prop := ∃ (m w p u y : Int) (x : TX) (ack : Int), r = .tup [cfgA m w p u y, txA x, .d (.v (.int .i64 ack))] ∧ x.wide ∧ -1 ≤ ack ∧ ack ≤ 8
set_option maxHeartbeats 4000000 in
set_option maxRecDepth 100000 in
theorem drawTxSend_ok (zs : List (Fin 256)) : DataW Try.prog 23 [.d (bytesD (zs.map (·.val)))] txsPost := by
  refine ⟨?_, ⟨_, 0, 0, 0, 0, 0, tx0, 0, rfl, tx0_good.wide, by omega, by omega⟩, ?_⟩
  · refine id ?_
    refine Spec.intro (n := 25) (rv := [.cell 2 24, .cell 3 27, .tmp 4]) Try.func23 rfl rfl rfl (by simp) fun C hN hX => ?_
    refine AW.seq ?_
    apply AW.list
    apply Wk.alc 2 [.int .i64 0, .int .i64 0, .int .i64 0, .int .i64 0, .int .i64 0] ze24 rfl rfl (lt_of_ble rfl)
    apply Wk.alc 3 [.int .i64 0, .int .i64 0, .slice none 0 0, .int .i64 0, .slice none 0 0, .bool false, .int .i64 0, .bool false, .int .i64 0, .bool false] ze27 rfl rfl (lt_of_ble rfl)
    apply Wk.asg (by conv => lhs; whnf) (lt_of_ble rfl)
    refine Wk.nil ?_
    refine AW.seq ?_
    apply AW.list
    apply Wk.mv (by conv => lhs; whnf) (lt_of_ble rfl)
    apply Wk.opn open_ok Try.func47 rfl rfl rfl rfl (lt_of_ble rfl)
    rintro zs1
    apply Wk.asg (by conv => lhs; whnf) (lt_of_ble rfl)
    refine Wk.nil ?_
    refine AW.seq ?_
    apply AW.list
    apply Wk.mv (by conv => lhs; whnf) (lt_of_ble rfl)
    apply Wk.drw 0 cfg_ok Try.func48 rfl rfl rfl rfl ⟨20, rfl, by omega, by omega⟩ (by omega) rfl (lt_of_ble rfl)
    rintro r2 zs2 p2 ⟨m, w, s, t, y, rfl, hb, _⟩ hp2
    apply Wk.alc 60 [.int .i64 0, .int .i64 0, .int .i64 0, .int .i64 0, .int .i64 0] ze24 rfl rfl (lt_of_ble rfl)
    apply Wk.sto (i := 60) 5 true ty24 rfl rfl rfl rfl (Nat.le_of_ble_eq_true rfl) (lt_of_ble rfl)
    refine Wk.nil ?_
    refine AW.seq ?_
    apply AW.draw (hm := hmix) (cs := _)
    · apply Wk.ld (i := 60) 5 true ty24 rfl rfl (by conv => lhs; whnf) (lt_of_ble rfl)
      apply Wk.mv (by conv => lhs; whnf) (lt_of_ble rfl)
      apply Wk.ld (i := 60) 5 true ty24 rfl rfl (by conv => lhs; whnf) (lt_of_ble rfl)
      apply Wk.drw 0 l20Tx_ok Try.func49 rfl rfl rfl rfl ⟨m, w, s, t, y, 9, rfl, hb, by omega, by omega⟩ (by omega) rfl (lt_of_ble rfl)
      rintro r3 zs3 p3 ⟨x, rfl, hx⟩ hp3
      apply Wk.mv (by conv => lhs; whnf) (lt_of_ble rfl)
      apply Wk.drw 0 pick_ok Try.func65 rfl rfl rfl rfl ⟨_, rfl, by omega⟩ (by omega) rfl (lt_of_ble rfl)
      rintro r4 zs4 p4 ⟨k4, rfl, hk4⟩ hp4
      apply Wk.lst 17 1 false [.int .i64 0] un83 ty3 ze3 rfl rfl (by rfl) (by rfl) (by decide) (by decide) rfl rfl (all_len rfl) (lt_of_ble rfl)
      apply Wk.lst 18 1 false [.int .i64 0] un83 ty3 ze3 rfl rfl (by rfl) (by rfl) (by decide) (by decide) rfl rfl (all_len rfl) (lt_of_ble rfl)
      apply Wk.mv (by conv => lhs; whnf) (lt_of_ble rfl)
      apply Wk.drw 0 pick_ok Try.func65 rfl rfl rfl rfl ⟨_, rfl, by omega⟩ (by omega) rfl (lt_of_ble rfl)
      rintro r5 zs5 p5 ⟨k5, rfl, hk5⟩ hp5
      have hk5 : k5 < 8 := by have h := hk5 8 rfl; omega
      apply Wk.iado 18 1 false un83 ty3 rfl rfl rfl hk5 (lt_of_ble rfl)
      have hk4' : k4 < 8 := by have h := hk4 8 rfl; omega
      obtain ⟨v, hv, hv1⟩ : ∃ v : Nat, partA (List.flatten [[A.d (.v (.int .i64 0))], [A.d (.v (.int .i64 0))], [A.d (.v (.int .i64 0))], [A.d (.v (.int .i64 0))], [A.d (.v (.int .i64 0))], [A.d (.v (.int .i64 0))], [A.d (.v (.int .i64 1))], [A.d (.v (.int .i64 2))]]) (k5 * 1) 1 false = some (.d (.v (.int .i64 (v : Int)))) ∧ v < 3 := by
        rcases (show k5 = 0 ∨ k5 = 1 ∨ k5 = 2 ∨ k5 = 3 ∨ k5 = 4 ∨ k5 = 5 ∨ k5 = 6 ∨ k5 = 7 by omega) with rfl | rfl | rfl | rfl | rfl | rfl | rfl | rfl
        · exact ⟨0, rfl, by omega⟩
        · exact ⟨0, rfl, by omega⟩
        · exact ⟨0, rfl, by omega⟩
        · exact ⟨0, rfl, by omega⟩
        · exact ⟨0, rfl, by omega⟩
        · exact ⟨0, rfl, by omega⟩
        · exact ⟨1, rfl, by omega⟩
        · exact ⟨2, rfl, by omega⟩
      apply Wk.ldo (i := 18) 1 false ty3 rfl rfl hv (lt_of_ble rfl)
      obtain ⟨v2, hv2, hw1, hw2⟩ : ∃ v2 : Int, partA (List.flatten [[A.d (.v (.int .i64 (k4 : Int)))], [A.d (.v (.int .i64 (-1)))], [A.d (.v (.int .i64 8))]]) (v * 1) 1 false = some (.d (.v (.int .i64 v2))) ∧ -1 ≤ v2 ∧ v2 ≤ 8 := by
        rcases (show v = 0 ∨ v = 1 ∨ v = 2 by omega) with rfl | rfl | rfl
        · exact ⟨_, rfl, by omega, by omega⟩
        · exact ⟨_, rfl, by omega, by omega⟩
        · exact ⟨_, rfl, by omega, by omega⟩
      apply Wk.iado 17 1 false un83 ty3 rfl rfl rfl hv1 (lt_of_ble rfl)
      apply Wk.ldo (i := 17) 1 false ty3 rfl rfl hv2 (lt_of_ble rfl)
      apply Wk.sto (i := 2) 5 true ty24 rfl rfl rfl rfl (Nat.le_of_ble_eq_true rfl) (lt_of_ble rfl)
      apply Wk.sto (i := 3) 10 true ty27 rfl rfl rfl rfl (Nat.le_of_ble_eq_true rfl) (lt_of_ble rfl)
      apply Wk.asg (by conv => lhs; whnf) (lt_of_ble rfl)
      refine Wk.nil (AW.ret ?_)
      exact RetQ.ret [] (.cons ⟨2, 0, _, _, _, rfl, rfl, ty24, rfl⟩ (.cons ⟨3, 0, _, _, _, rfl, rfl, ty27, rfl⟩ (.cons rfl .nil))) ⟨⟨m, w, s, t, y, x, v2, rfl, hx, hw1, hw2⟩, rfl⟩ none_kept
    · rfl
    · rfl
  · rintro r ⟨m, w, p, u, y, x, ack, rfl, _⟩; rfl
end Go.Proofs.Ytdojkmjamilllaa

/- Pieces that are the same, by the laws' own words. -/
namespace Go.Proofs.Ytdojkmjamilllaa
open Go Go.RowKit
theorem liBytesE (zs : List Nat) : DataOk Try.prog 39 [.d (bytesD zs), .d (bytesD zs)] (.d (.v (.bool true))) := by
  have h := liBytes_ok zs zs
  simpa using h
theorem liPartE (d : Dat) : DataOk Try.prog 29 [partN d, partN d] (.d (.v (.bool true))) := by
  obtain ⟨g, l, ys⟩ := d
  refine Spec.intro (n := 24) (rv := [.tmp 4]) Try.func29 rfl rfl rfl (by simp) fun C hN hX => ?_
  refine AW.seq ?_
  apply AW.list
  apply Wk.bx 2 rfl rfl (lt_of_ble rfl)
  apply Wk.bx 3 rfl rfl (lt_of_ble rfl)
  apply Wk.asg (by conv => lhs; whnf) (lt_of_ble rfl)
  refine Wk.nil ?_
  refine AW.seq ?_
  apply AW.list
  apply Wk.fad 0 0 false fd47_0 rfl (lt_of_ble rfl)
  apply Wk.ld (i := 2) 1 false ty3 rfl rfl (by conv => lhs; whnf) (lt_of_ble rfl)
  apply Wk.fad 0 0 false fd47_0 rfl (lt_of_ble rfl)
  apply Wk.ld (i := 3) 1 false ty3 rfl rfl (by conv => lhs; whnf) (lt_of_ble rfl)
  apply Wk.bin rfl rfl (r := .bool true) (fun w => by simp [go_sem]) (lt_of_ble rfl)
  apply Wk.mv (by conv => lhs; whnf) (lt_of_ble rfl)
  apply Wk.gon 10 rfl rfl
  apply Wk.fad 1 0 false fd47_1 rfl (lt_of_ble rfl)
  apply Wk.gon 10 rfl rfl
  apply Wk.ld (i := 2) 1 false ty3 rfl rfl (by conv => lhs; whnf) (lt_of_ble rfl)
  apply Wk.gon 10 rfl rfl
  apply Wk.fad 1 0 false fd47_1 rfl (lt_of_ble rfl)
  apply Wk.gon 10 rfl rfl
  apply Wk.ld (i := 3) 1 false ty3 rfl rfl (by conv => lhs; whnf) (lt_of_ble rfl)
  apply Wk.gon 10 rfl rfl
  apply Wk.bin rfl rfl (r := .bool true) (fun w => by simp [go_sem]) (lt_of_ble rfl)
  apply Wk.pckT rfl (by conv => lhs; whnf) (lt_of_ble rfl)
  apply Wk.mv (by conv => lhs; whnf) (lt_of_ble rfl)
  apply Wk.gon 17 rfl rfl
  apply Wk.fad 2 0 false fd47_2 rfl (lt_of_ble rfl)
  apply Wk.gon 17 rfl rfl
  apply Wk.ld (i := 2) 1 false ty22 rfl rfl (by conv => lhs; whnf) (lt_of_ble rfl)
  apply Wk.gon 17 rfl rfl
  apply Wk.fad 2 0 false fd47_2 rfl (lt_of_ble rfl)
  apply Wk.gon 17 rfl rfl
  apply Wk.ld (i := 3) 1 false ty22 rfl rfl (by conv => lhs; whnf) (lt_of_ble rfl)
  apply Wk.gon 17 rfl rfl
  apply Wk.dat (liBytesE ys) Try.func39 rfl rfl rfl rfl rfl (lt_of_ble rfl)
  apply Wk.pckT rfl (by conv => lhs; whnf) (lt_of_ble rfl)
  apply Wk.asg (by conv => lhs; whnf) (lt_of_ble rfl)
  refine Wk.nil (AW.ret ?_)
  exact RetQ.ret [] (.cons rfl .nil) ⟨rfl, rfl⟩ none_kept
theorem liPartsE (ds : List Dat) : DataOk Try.prog 21 [.d (partsD ds), .d (partsD ds)] (.d (.v (.bool true))) := by
  refine Spec.intro (n := 27) (rv := [.tmp 4]) Try.func21 rfl rfl rfl (by simp) fun C hN hX => ?_
  refine AW.bound (x := .tmp 0) rfl fun hb => ?_
  simp only [List.length_map] at hb
  refine AW.seq ?_
  apply AW.list
  apply Wk.asg (by conv => lhs; whnf) (lt_of_ble rfl)
  refine Wk.nil ?_
  refine AW.seq (AW.seq ?_)
  apply AW.list
  apply Wk.mv (by conv => lhs; whnf) (lt_of_ble rfl)
  apply Wk.len un25 rfl (lt_of_ble rfl)
  apply Wk.mv (by conv => lhs; whnf) (lt_of_ble rfl)
  apply Wk.len un25 rfl (lt_of_ble rfl)
  apply Wk.bin rfl rfl (fun w => by simp [go_sem] <;> rfl) (lt_of_ble rfl)
  refine Wk.nil ?_
  refine AW.cond rfl (fun hc => by simp at hc) (fun _ => AW.skip (thenA_normal ?_))
  refine AW.seq (AW.seq ?_)
  apply AW.list
  apply Wk.asg (by conv => lhs; whnf) (lt_of_ble rfl)
  refine Wk.nil (AW.block ?_)
  refine AW.loop (fun q : Nat => St.of 27 [(0, .d (partsD ds)), (1, .d (partsD ds)), (5, .d (.v (.int .i64 (q : Int))))] []) (fun q => q ≤ ds.length) (fun q => ds.length - q) 0 (Nat.zero_le _) ?_ (fun q hq => ?_)
  · exact fun a w => Rel.keep ⟨rfl, .cons rfl rfl (.cons rfl rfl (.cons rfl rfl .nil)), .nil, hN⟩
  refine AW.seq (AW.seq ?_)
  apply AW.list
  apply Wk.mv (by conv => lhs; whnf) (lt_of_ble rfl)
  apply Wk.mv (by conv => lhs; whnf) (lt_of_ble rfl)
  apply Wk.len un25 rfl (lt_of_ble rfl)
  apply Wk.bin rfl rfl (fun w => by simp [go_sem] <;> rfl) (lt_of_ble rfl)
  refine Wk.nil ?_
  refine AW.cond rfl (fun hc => ?_) (fun hc => ?_)
  · have hlt : q < ds.length := by simpa using hc
    obtain ⟨d, hd⟩ : ∃ d, ds[q]? = some d := ⟨_, List.getElem?_eq_getElem hlt⟩
    have hget : (ds.map datD)[q]? = some (datD d) := by simp [hd]
    refine AW.skip ?_
    repeat (first | refine thenA_normal ?_ | refine inBlockA_normal ?_)
    refine AW.seq (AW.block (AW.seq ?_))
    apply AW.draw (hm := hmix) (cs := _)
    · apply Wk.mv (by conv => lhs; whnf) (lt_of_ble rfl)
      apply Wk.mv (by conv => lhs; whnf) (lt_of_ble rfl)
      apply Wk.iad 3 true un25 ty47 rfl rfl (by simpa using hlt) (datD_len ds) (lt_of_ble rfl)
      apply Wk.ldr 3 true ty47 rfl hget (by conv => lhs; whnf) (lt_of_ble rfl)
      apply Wk.mv (by conv => lhs; whnf) (lt_of_ble rfl)
      apply Wk.mv (by conv => lhs; whnf) (lt_of_ble rfl)
      apply Wk.iad 3 true un25 ty47 rfl rfl (by simpa using hlt) (datD_len ds) (lt_of_ble rfl)
      apply Wk.ldr 3 true ty47 rfl hget (by conv => lhs; whnf) (lt_of_ble rfl)
      apply Wk.dat (liPartE d) Try.func29 rfl rfl rfl rfl rfl (lt_of_ble rfl)
      apply Wk.un rfl (fun w => by simp [go_sem] <;> rfl) (lt_of_ble rfl)
      refine Wk.nil ?_
      refine AW.cond rfl (fun hn => by cases hn) (fun hn => ?_)
      refine AW.skip ?_
      repeat (first | refine thenA_normal ?_ | refine inBlockA_normal ?_)
      apply AW.list
      apply Wk.mv (by conv => lhs; whnf) (lt_of_ble rfl)
      apply Wk.addi rfl rfl (by omega) (lt_of_ble rfl)
      apply Wk.asg (by conv => lhs; whnf) (lt_of_ble rfl)
      refine Wk.nil ?_
      exact ⟨q + 1, by omega, by omega, fun a w => Rel.keep ⟨rfl, .cons rfl rfl (.cons rfl rfl (.cons rfl rfl .nil)), .nil, hN⟩⟩
    · rfl
    · rfl
  · refine AW.exit ?_
    repeat (first | refine inBlockA_same ?_ | refine thenA_exit ?_)
    repeat (first | refine thenA_normal ?_ | refine inBlockA_normal ?_)
    refine AW.seq ?_
    apply AW.list
    apply Wk.asg (by conv => lhs; whnf) (lt_of_ble rfl)
    refine Wk.nil (AW.ret ?_)
    repeat (first | refine thenA_ret ?_ | refine inBlockA_ret ?_)
    exact RetQ.ret [] (.cons rfl .nil) ⟨rfl, rfl⟩ none_kept
end Go.Proofs.Ytdojkmjamilllaa

/- Two of who sends that are the same, by the laws' own words. Written by tools/mk_AbsTickI.py. -/
namespace Go.Proofs.Ytdojkmjamilllaa
open Go Go.RowKit
set_option maxHeartbeats 2000000 in
set_option maxRecDepth 100000 in
theorem liTxE (x : TX) : DataOk Try.prog 16 [txA x, txA x] (.d (.v (.bool true))) := by
  obtain ⟨n, a, fl, s, qu, q, t, h, c, d⟩ := x
  refine Spec.intro (n := 73) (rv := [.tmp 4]) Try.func16 rfl rfl rfl (by simp) fun C hN hX => ?_
  refine AW.seq ?_
  apply AW.list
  apply Wk.bx 2 rfl rfl (lt_of_ble rfl)
  apply Wk.bx 3 rfl rfl (lt_of_ble rfl)
  apply Wk.asg (by conv => lhs; whnf) (lt_of_ble rfl)
  refine Wk.nil ?_
  refine AW.seq ?_
  apply AW.list
  apply Wk.fad 0 0 false fd27_0 rfl (lt_of_ble rfl)
  apply Wk.ld (i := 2) 1 false ty3 rfl rfl (by conv => lhs; whnf) (lt_of_ble rfl)
  apply Wk.fad 0 0 false fd27_0 rfl (lt_of_ble rfl)
  apply Wk.ld (i := 3) 1 false ty3 rfl rfl (by conv => lhs; whnf) (lt_of_ble rfl)
  apply Wk.bin rfl rfl (r := .bool true) (fun w => by simp [go_sem]) (lt_of_ble rfl)
  apply Wk.mv (by conv => lhs; whnf) (lt_of_ble rfl)
  apply Wk.gon 10 rfl rfl
  apply Wk.fad 1 0 false fd27_1 rfl (lt_of_ble rfl)
  apply Wk.gon 10 rfl rfl
  apply Wk.ld (i := 2) 1 false ty3 rfl rfl (by conv => lhs; whnf) (lt_of_ble rfl)
  apply Wk.gon 10 rfl rfl
  apply Wk.fad 1 0 false fd27_1 rfl (lt_of_ble rfl)
  apply Wk.gon 10 rfl rfl
  apply Wk.ld (i := 3) 1 false ty3 rfl rfl (by conv => lhs; whnf) (lt_of_ble rfl)
  apply Wk.gon 10 rfl rfl
  apply Wk.bin rfl rfl (r := .bool true) (fun w => by simp [go_sem]) (lt_of_ble rfl)
  apply Wk.pckT rfl (by conv => lhs; whnf) (lt_of_ble rfl)
  apply Wk.mv (by conv => lhs; whnf) (lt_of_ble rfl)
  apply Wk.gon 17 rfl rfl
  apply Wk.fad 2 0 false fd27_2 rfl (lt_of_ble rfl)
  apply Wk.gon 17 rfl rfl
  apply Wk.ld (i := 2) 1 false ty25 rfl rfl (by conv => lhs; whnf) (lt_of_ble rfl)
  apply Wk.gon 17 rfl rfl
  apply Wk.fad 2 0 false fd27_2 rfl (lt_of_ble rfl)
  apply Wk.gon 17 rfl rfl
  apply Wk.ld (i := 3) 1 false ty25 rfl rfl (by conv => lhs; whnf) (lt_of_ble rfl)
  apply Wk.gon 17 rfl rfl
  apply Wk.dat (liPartsE fl) Try.func21 rfl rfl rfl rfl rfl (lt_of_ble rfl)
  apply Wk.pckT rfl (by conv => lhs; whnf) (lt_of_ble rfl)
  apply Wk.mv (by conv => lhs; whnf) (lt_of_ble rfl)
  apply Wk.gon 24 rfl rfl
  apply Wk.fad 3 0 false fd27_3 rfl (lt_of_ble rfl)
  apply Wk.gon 24 rfl rfl
  apply Wk.ld (i := 2) 1 false ty3 rfl rfl (by conv => lhs; whnf) (lt_of_ble rfl)
  apply Wk.gon 24 rfl rfl
  apply Wk.fad 3 0 false fd27_3 rfl (lt_of_ble rfl)
  apply Wk.gon 24 rfl rfl
  apply Wk.ld (i := 3) 1 false ty3 rfl rfl (by conv => lhs; whnf) (lt_of_ble rfl)
  apply Wk.gon 24 rfl rfl
  apply Wk.bin rfl rfl (r := .bool true) (fun w => by simp [go_sem]) (lt_of_ble rfl)
  apply Wk.pckT rfl (by conv => lhs; whnf) (lt_of_ble rfl)
  apply Wk.mv (by conv => lhs; whnf) (lt_of_ble rfl)
  apply Wk.gon 31 rfl rfl
  apply Wk.fad 4 0 false fd27_4 rfl (lt_of_ble rfl)
  apply Wk.gon 31 rfl rfl
  apply Wk.ld (i := 2) 1 false ty25 rfl rfl (by conv => lhs; whnf) (lt_of_ble rfl)
  apply Wk.gon 31 rfl rfl
  apply Wk.fad 4 0 false fd27_4 rfl (lt_of_ble rfl)
  apply Wk.gon 31 rfl rfl
  apply Wk.ld (i := 3) 1 false ty25 rfl rfl (by conv => lhs; whnf) (lt_of_ble rfl)
  apply Wk.gon 31 rfl rfl
  apply Wk.dat (liPartsE qu) Try.func21 rfl rfl rfl rfl rfl (lt_of_ble rfl)
  apply Wk.pckT rfl (by conv => lhs; whnf) (lt_of_ble rfl)
  apply Wk.mv (by conv => lhs; whnf) (lt_of_ble rfl)
  apply Wk.gon 38 rfl rfl
  apply Wk.fad 5 0 false fd27_5 rfl (lt_of_ble rfl)
  apply Wk.gon 38 rfl rfl
  apply Wk.ld (i := 2) 1 false ty4 rfl rfl (by conv => lhs; whnf) (lt_of_ble rfl)
  apply Wk.gon 38 rfl rfl
  apply Wk.fad 5 0 false fd27_5 rfl (lt_of_ble rfl)
  apply Wk.gon 38 rfl rfl
  apply Wk.ld (i := 3) 1 false ty4 rfl rfl (by conv => lhs; whnf) (lt_of_ble rfl)
  apply Wk.gon 38 rfl rfl
  apply Wk.bin rfl rfl (r := .bool true) (fun w => by simp [go_sem]) (lt_of_ble rfl)
  apply Wk.pckT rfl (by conv => lhs; whnf) (lt_of_ble rfl)
  apply Wk.mv (by conv => lhs; whnf) (lt_of_ble rfl)
  apply Wk.gon 45 rfl rfl
  apply Wk.fad 6 0 false fd27_6 rfl (lt_of_ble rfl)
  apply Wk.gon 45 rfl rfl
  apply Wk.ld (i := 2) 1 false ty3 rfl rfl (by conv => lhs; whnf) (lt_of_ble rfl)
  apply Wk.gon 45 rfl rfl
  apply Wk.fad 6 0 false fd27_6 rfl (lt_of_ble rfl)
  apply Wk.gon 45 rfl rfl
  apply Wk.ld (i := 3) 1 false ty3 rfl rfl (by conv => lhs; whnf) (lt_of_ble rfl)
  apply Wk.gon 45 rfl rfl
  apply Wk.bin rfl rfl (r := .bool true) (fun w => by simp [go_sem]) (lt_of_ble rfl)
  apply Wk.pckT rfl (by conv => lhs; whnf) (lt_of_ble rfl)
  apply Wk.mv (by conv => lhs; whnf) (lt_of_ble rfl)
  apply Wk.gon 52 rfl rfl
  apply Wk.fad 7 0 false fd27_7 rfl (lt_of_ble rfl)
  apply Wk.gon 52 rfl rfl
  apply Wk.ld (i := 2) 1 false ty4 rfl rfl (by conv => lhs; whnf) (lt_of_ble rfl)
  apply Wk.gon 52 rfl rfl
  apply Wk.fad 7 0 false fd27_7 rfl (lt_of_ble rfl)
  apply Wk.gon 52 rfl rfl
  apply Wk.ld (i := 3) 1 false ty4 rfl rfl (by conv => lhs; whnf) (lt_of_ble rfl)
  apply Wk.gon 52 rfl rfl
  apply Wk.bin rfl rfl (r := .bool true) (fun w => by simp [go_sem]) (lt_of_ble rfl)
  apply Wk.pckT rfl (by conv => lhs; whnf) (lt_of_ble rfl)
  apply Wk.mv (by conv => lhs; whnf) (lt_of_ble rfl)
  apply Wk.gon 59 rfl rfl
  apply Wk.fad 8 0 false fd27_8 rfl (lt_of_ble rfl)
  apply Wk.gon 59 rfl rfl
  apply Wk.ld (i := 2) 1 false ty3 rfl rfl (by conv => lhs; whnf) (lt_of_ble rfl)
  apply Wk.gon 59 rfl rfl
  apply Wk.fad 8 0 false fd27_8 rfl (lt_of_ble rfl)
  apply Wk.gon 59 rfl rfl
  apply Wk.ld (i := 3) 1 false ty3 rfl rfl (by conv => lhs; whnf) (lt_of_ble rfl)
  apply Wk.gon 59 rfl rfl
  apply Wk.bin rfl rfl (r := .bool true) (fun w => by simp [go_sem]) (lt_of_ble rfl)
  apply Wk.pckT rfl (by conv => lhs; whnf) (lt_of_ble rfl)
  apply Wk.mv (by conv => lhs; whnf) (lt_of_ble rfl)
  apply Wk.gon 66 rfl rfl
  apply Wk.fad 9 0 false fd27_9 rfl (lt_of_ble rfl)
  apply Wk.gon 66 rfl rfl
  apply Wk.ld (i := 2) 1 false ty4 rfl rfl (by conv => lhs; whnf) (lt_of_ble rfl)
  apply Wk.gon 66 rfl rfl
  apply Wk.fad 9 0 false fd27_9 rfl (lt_of_ble rfl)
  apply Wk.gon 66 rfl rfl
  apply Wk.ld (i := 3) 1 false ty4 rfl rfl (by conv => lhs; whnf) (lt_of_ble rfl)
  apply Wk.gon 66 rfl rfl
  apply Wk.bin rfl rfl (r := .bool true) (fun w => by simp [go_sem]) (lt_of_ble rfl)
  apply Wk.pckT rfl (by conv => lhs; whnf) (lt_of_ble rfl)
  apply Wk.asg (by conv => lhs; whnf) (lt_of_ble rfl)
  refine Wk.nil (AW.ret ?_)
  exact RetQ.ret [] (.cons rfl .nil) ⟨rfl, rfl⟩ none_kept
end Go.Proofs.Ytdojkmjamilllaa
