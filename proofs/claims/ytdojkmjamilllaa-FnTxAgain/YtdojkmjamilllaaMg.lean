/- Laws and contracts that the proof stands on: AbsSender2, AbsTickI, AbsTxSD, AbsHearI, AbsFrm. -/
import Derived.Test.YtdojkmjamilllaaMa
import Derived.Test.YtdojkmjamilllaaMb
import Derived.Test.YtdojkmjamilllaaMc
import Derived.Test.YtdojkmjamilllaaMd
import Derived.Test.YtdojkmjamilllaaMe
import Derived.Test.YtdojkmjamilllaaMf
/- Who sends, the program's: made of a state; its state; what asks for an answer. Written by tools/mk_AbsSender2.py. -/
namespace Go.Proofs.Ytdojkmjamilllaa
open Go Go.RowKit
theorem snd_fillO (m w p u y a s : Int) (l : Nat) (q : Bool) (t : Int) (hh : Bool) (c : Int) (dd : Bool) : fillA ([(0, 5), (5, 1), (6, 14), (20, 1), (21, 1), (22, 1), (23, 1), (24, 1), (25, 1), (26, 1)][·]?) (([.int .i64 0, .int .i64 0, .int .i64 0, .int .i64 0, .int .i64 0, .int .i64 0, .int .i64 0, .int .i64 0, .slice none 0 0, .int .i64 0, .int .i64 0, .slice none 0 0, .int .i64 0, .int .i64 0, .slice none 0 0, .int .i64 0, .int .i64 0, .slice none 0 0, .int .i64 0, .int .i64 0, .int .i64 0, .slice none 0 0, .bool false, .int .i64 0, .bool false, .int .i64 0, .bool false] : List Value).map fun x => .d (.v x)) [(0, cfgA m w p u y), (1, .d (.v (.int .i64 a))), (3, .d (.v (.int .i64 s))), (4, .own 66 l), (5, .d (.v (.bool q))), (6, .d (.v (.int .i64 t))), (7, .d (.v (.bool hh))), (8, .d (.v (.int .i64 c))), (9, .d (.v (.bool dd)))] = some [.d (.v (.int .i64 m)), .d (.v (.int .i64 w)), .d (.v (.int .i64 p)), .d (.v (.int .i64 u)), .d (.v (.int .i64 y)), .d (.v (.int .i64 a)), .d (.v (.int .i64 0)), .d (.v (.int .i64 0)), .d (.v (.slice none 0 0)), .d (.v (.int .i64 0)), .d (.v (.int .i64 0)), .d (.v (.slice none 0 0)), .d (.v (.int .i64 0)), .d (.v (.int .i64 0)), .d (.v (.slice none 0 0)), .d (.v (.int .i64 0)), .d (.v (.int .i64 0)), .d (.v (.slice none 0 0)), .d (.v (.int .i64 0)), .d (.v (.int .i64 0)), .d (.v (.int .i64 s)), .own 66 l, .d (.v (.bool q)), .d (.v (.int .i64 t)), .d (.v (.bool hh)), .d (.v (.int .i64 c)), .d (.v (.bool dd))] := by
  simp [fillA, setA, cellsA, cfgA, Value.oneCell']
theorem snd_fillN (m w p u y a s : Int) (q : Bool) (t : Int) (hh : Bool) (c : Int) (dd : Bool) : fillA ([(0, 5), (5, 1), (6, 14), (20, 1), (21, 1), (22, 1), (23, 1), (24, 1), (25, 1), (26, 1)][·]?) (([.int .i64 0, .int .i64 0, .int .i64 0, .int .i64 0, .int .i64 0, .int .i64 0, .int .i64 0, .int .i64 0, .slice none 0 0, .int .i64 0, .int .i64 0, .slice none 0 0, .int .i64 0, .int .i64 0, .slice none 0 0, .int .i64 0, .int .i64 0, .slice none 0 0, .int .i64 0, .int .i64 0, .int .i64 0, .slice none 0 0, .bool false, .int .i64 0, .bool false, .int .i64 0, .bool false] : List Value).map fun x => .d (.v x)) [(0, cfgA m w p u y), (1, .d (.v (.int .i64 a))), (3, .d (.v (.int .i64 s))), (4, .d (.v (.slice none 0 0))), (5, .d (.v (.bool q))), (6, .d (.v (.int .i64 t))), (7, .d (.v (.bool hh))), (8, .d (.v (.int .i64 c))), (9, .d (.v (.bool dd)))] = some [.d (.v (.int .i64 m)), .d (.v (.int .i64 w)), .d (.v (.int .i64 p)), .d (.v (.int .i64 u)), .d (.v (.int .i64 y)), .d (.v (.int .i64 a)), .d (.v (.int .i64 0)), .d (.v (.int .i64 0)), .d (.v (.slice none 0 0)), .d (.v (.int .i64 0)), .d (.v (.int .i64 0)), .d (.v (.slice none 0 0)), .d (.v (.int .i64 0)), .d (.v (.int .i64 0)), .d (.v (.slice none 0 0)), .d (.v (.int .i64 0)), .d (.v (.int .i64 0)), .d (.v (.slice none 0 0)), .d (.v (.int .i64 0)), .d (.v (.int .i64 0)), .d (.v (.int .i64 s)), .d (.v (.slice none 0 0)), .d (.v (.bool q)), .d (.v (.int .i64 t)), .d (.v (.bool hh)), .d (.v (.int .i64 c)), .d (.v (.bool dd))] := by
  simp [fillA, setA, cellsA, cfgA, Value.oneCell']
set_option maxHeartbeats 1000000 in
set_option maxRecDepth 100000 in
theorem inewO (m w p u y : Int) (n a : Int) (fl : List Dat) (s : Int) (qu : List Dat) (q : Bool) (t : Int) (hh : Bool) (c : Int) (dd : Bool) (hq : qu ≠ []) (h4 : fl.length ≤ 4) (hx : TX.few ⟨n, a, fl, s, qu, q, t, hh, c, dd⟩) :
    Spec Try.prog 51 [cfgA m w p u y, txA ⟨n, a, fl, s, qu, q, t, hh, c, dd⟩] [] (fun r bs => r = .ptr 27 0 ∧ bs = sndB (sndC m w p u y a (ringF fl) 0 (fl.length : Int) s qu.length q t hh c dd) qu.length qu) := by
  have e1 : (((fl.map datD).length : Nat) : Int) = (fl.length : Int) := by rw [List.length_map]
  have cf := icopy_ok fl hx.1.1 hx.1.2
  have cq := icopyO qu hq hx.2.1 hx.2.2
  have i1 := in_slist (L := [] ++ [66]) (i := 66) (k := qu.length) (e := 47) (sz := 3) (by simp) (within_parts qu)
  refine Spec.intro (n := 43) (rv := [.tmp 4]) Try.func51 rfl rfl rfl (by simp) fun C hN hX => ?_
  refine AW.seq ?_
  apply AW.list
  apply Wk.bx 2 rfl rfl (lt_of_ble rfl)
  apply Wk.bx 3 rfl rfl (lt_of_ble rfl)
  apply Wk.asg (by conv => lhs; whnf) (lt_of_ble rfl)
  refine Wk.nil ?_
  refine AW.seq ?_
  apply AW.draw (hm := hmix) (cs := _)
  · apply Wk.ld (i := 2) 5 true ty24 rfl rfl (by conv => lhs; whnf) (lt_of_ble rfl)
    apply Wk.fad 1 0 false fd27_1 rfl (lt_of_ble rfl)
    apply Wk.ld (i := 3) 1 false ty3 rfl rfl (by conv => lhs; whnf) (lt_of_ble rfl)
    apply Wk.fad 3 0 false fd27_3 rfl (lt_of_ble rfl)
    apply Wk.ld (i := 3) 1 false ty3 rfl rfl (by conv => lhs; whnf) (lt_of_ble rfl)
    apply Wk.fad 4 0 false fd27_4 rfl (lt_of_ble rfl)
    apply Wk.ld (i := 3) 1 false ty25 rfl rfl (by conv => lhs; whnf) (lt_of_ble rfl)
    apply Wk.cal [] [66] cq i1 ⟨_, _, rfl, rfl⟩ Try.func88 rfl rfl rfl rfl (by simp; rfl) rfl (fun i hi => by cases hi) (lt_of_ble rfl)
    rintro r bs' ⟨rfl, rfl⟩
    apply Wk.fad 5 0 false fd27_5 rfl (lt_of_ble rfl)
    apply Wk.ld (i := 3) 1 false ty4 rfl rfl (by conv => lhs; whnf) (lt_of_ble rfl)
    apply Wk.fad 6 0 false fd27_6 rfl (lt_of_ble rfl)
    apply Wk.ld (i := 3) 1 false ty3 rfl rfl (by conv => lhs; whnf) (lt_of_ble rfl)
    apply Wk.fad 7 0 false fd27_7 rfl (lt_of_ble rfl)
    apply Wk.ld (i := 3) 1 false ty4 rfl rfl (by conv => lhs; whnf) (lt_of_ble rfl)
    apply Wk.fad 8 0 false fd27_8 rfl (lt_of_ble rfl)
    apply Wk.ld (i := 3) 1 false ty3 rfl rfl (by conv => lhs; whnf) (lt_of_ble rfl)
    apply Wk.fad 9 0 false fd27_9 rfl (lt_of_ble rfl)
    apply Wk.ld (i := 3) 1 false ty4 rfl rfl (by conv => lhs; whnf) (lt_of_ble rfl)
    apply Wk.bld [.int .i64 0, .int .i64 0, .int .i64 0, .int .i64 0, .int .i64 0, .int .i64 0, .int .i64 0, .int .i64 0, .slice none 0 0, .int .i64 0, .int .i64 0, .slice none 0 0, .int .i64 0, .int .i64 0, .slice none 0 0, .int .i64 0, .int .i64 0, .slice none 0 0, .int .i64 0, .int .i64 0, .int .i64 0, .slice none 0 0, .bool false, .int .i64 0, .bool false, .int .i64 0, .bool false] [(0, 5), (5, 1), (6, 14), (20, 1), (21, 1), (22, 1), (23, 1), (24, 1), (25, 1), (26, 1)] bl111 rfl (by exact snd_fillO m w p u y a s qu.length q t hh c dd) (lt_of_ble rfl)
    apply Wk.bx 27 rfl rfl (lt_of_ble rfl)
    apply Wk.asg (by conv => lhs; whnf) (lt_of_ble rfl)
    refine Wk.nil ?_
    refine AW.seq (AW.seq ?_)
    apply AW.list
    apply Wk.fad 2 0 false fd27_2 rfl (lt_of_ble rfl)
    apply Wk.ld (i := 3) 1 false ty25 rfl rfl (by conv => lhs; whnf) (lt_of_ble rfl)
    apply Wk.dat cf Try.func88 rfl rfl rfl rfl rfl (lt_of_ble rfl)
    apply Wk.len un25 rfl (lt_of_ble rfl)
    apply Wk.mv (by conv => lhs; whnf) (lt_of_ble rfl)
    refine Wk.nil (AW.block ?_)
    refine AW.loop (fun k : Nat => St.of 43 [(5, .ptr 27 0), (30, .d (partsD fl)), (31, .d (.v (.int .i64 (((fl.map datD).length : Nat) : Int)))), (32, .d (.v (.int .i64 (k : Int))))] [(27, .var (sndC m w p u y a (ringF (fl.take k)) 0 (k : Int) s qu.length q t hh c dd)), (66, .own qu.length 47 3 (piecesA qu))]) (fun k => k ≤ fl.length) (fun k => fl.length - k) 0 (Nat.zero_le _) ?_ ?_
    · exact fun a w => Rel.keep ⟨rfl, .cons rfl rfl (.cons rfl rfl (.cons rfl rfl (.cons rfl rfl .nil))), .cons rfl rfl (.cons rfl (by exact within_parts _) .nil), hN.mono (by simp [keys])⟩
    rintro k hk
    show AW Try.prog C _ _ (St.of 43 [(5, .ptr 27 0), (30, .d (partsD fl)), (31, .d (.v (.int .i64 (((fl.map datD).length : Nat) : Int)))), (32, .d (.v (.int .i64 (k : Int))))] [(27, .var (sndC m w p u y a (ringF (fl.take k)) 0 (k : Int) s qu.length q t hh c dd)), (66, .own qu.length 47 3 (piecesA qu))])
    refine AW.seq ?_
    apply AW.list
    apply Wk.bin rfl rfl (fun w => by simp [go_sem] <;> rfl) (lt_of_ble rfl)
    refine Wk.nil ?_
    refine AW.seq ?_
    refine AW.cond rfl (fun hc => ?_) (fun hc => ?_)
    · have hlt : k < fl.length := by simpa using hc
      obtain ⟨d, hd⟩ : ∃ d, fl[k]? = some d := ⟨_, List.getElem?_eq_getElem hlt⟩
      have hget : (fl.map datD)[k]? = some (datD d) := by simp [hd]
      have hklt : k < (fl.map datD).length := by simpa using hlt
      have cp := ipush m w p u y a (ringF (fl.take k)) s qu.length q t hh c dd qu k (by omega) d
      rw [ring_push hd] at cp
      refine AW.skip ?_
      repeat (first | refine thenA_normal ?_ | refine inBlockA_normal ?_)
      refine AW.seq (AW.block (AW.seq ?_))
      apply AW.list
      apply Wk.iad 3 true un25 ty47 rfl rfl hklt (datD_len _) (lt_of_ble rfl)
      apply Wk.ldr 3 true ty47 rfl hget (by conv => lhs; whnf) (lt_of_ble rfl)
      apply Wk.alc 7 [.int .i64 0, .int .i64 0, .slice none 0 0] ze47 rfl rfl (lt_of_ble rfl)
      apply Wk.sto (i := 7) 3 true ty47 rfl rfl rfl rfl (Nat.le_of_ble_eq_true rfl) (lt_of_ble rfl)
      refine Wk.nil ?_
      repeat (first | refine thenA_normal ?_ | refine inBlockA_normal ?_)
      apply AW.draw (hm := hmix) (cs := _)
      · apply Wk.mv (by conv => lhs; whnf) (lt_of_ble rfl)
        apply Wk.nilc rfl (lt_of_ble rfl)
        apply Wk.fad 6 13 true fd111_2 rfl (lt_of_ble rfl)
        apply Wk.ld (i := 7) 3 true ty47 rfl rfl (by conv => lhs; whnf) (lt_of_ble rfl)
        apply Wk.cal [27, 66] [] cp (in_snd _ rfl _ _ _ _ _ _ _ _ _ _ _ _ _ _ _ _ _ _) ⟨_, _, rfl, rfl⟩ Try.func89 rfl rfl rfl rfl (fun i hi => by cases hi) rfl (two_in rfl (by exact within_parts _)) (lt_of_ble rfl)
        rintro r bs' ⟨rfl, rfl⟩
        refine Wk.nil ?_
        repeat (first | refine thenA_normal ?_ | refine inBlockA_normal ?_)
        apply AW.list
        apply Wk.addi rfl rfl (by omega) (lt_of_ble rfl)
        apply Wk.mv (by conv => lhs; whnf) (lt_of_ble rfl)
        refine Wk.nil ?_
        refine ⟨k + 1, by omega, by omega, ?_⟩
        exact fun a w => Rel.keep ⟨rfl, .cons rfl rfl (.cons rfl rfl (.cons rfl rfl (.cons rfl rfl .nil))), .cons rfl rfl (.cons rfl (by exact within_parts _) .nil), hN.mono (by simp [keys])⟩
      · rfl
      · rfl
    · have hke : k = fl.length := by
        simp at hc
        omega
      subst hke
      refine AW.exit ?_
      repeat (first | refine inBlockA_same ?_ | refine thenA_exit ?_)
      repeat (first | refine thenA_normal ?_ | refine inBlockA_normal ?_)
      rw [List.take_length]
      refine AW.seq ?_
      apply AW.list
      apply Wk.mv (by conv => lhs; whnf) (lt_of_ble rfl)
      apply Wk.asg (by conv => lhs; whnf) (lt_of_ble rfl)
      refine Wk.nil (AW.ret ?_)
      repeat (first | refine thenA_ret ?_ | refine inBlockA_ret ?_)
      exact RetQ.ret (sndB _ qu.length qu) (.cons rfl .nil) ⟨rfl, rfl⟩ (kept2 rfl rfl)
  · rfl
  · rfl
set_option maxHeartbeats 1000000 in
set_option maxRecDepth 100000 in
theorem inewN (m w p u y : Int) (n a : Int) (fl : List Dat) (s : Int) (q : Bool) (t : Int) (hh : Bool) (c : Int) (dd : Bool) (h4 : fl.length ≤ 4) (hx : TX.few ⟨n, a, fl, s, [], q, t, hh, c, dd⟩) :
    Spec Try.prog 51 [cfgA m w p u y, txA ⟨n, a, fl, s, [], q, t, hh, c, dd⟩] [] (fun r bs => r = .ptr 27 0 ∧ bs = sndB (sndC m w p u y a (ringF fl) 0 (fl.length : Int) s 0 q t hh c dd) 0 []) := by
  have e1 : (((fl.map datD).length : Nat) : Int) = (fl.length : Int) := by rw [List.length_map]
  have cf := icopy_ok fl hx.1.1 hx.1.2
  have cq := icopyNil
  refine Spec.intro (n := 43) (rv := [.tmp 4]) Try.func51 rfl rfl rfl (by simp) fun C hN hX => ?_
  refine AW.seq ?_
  apply AW.list
  apply Wk.bx 2 rfl rfl (lt_of_ble rfl)
  apply Wk.bx 3 rfl rfl (lt_of_ble rfl)
  apply Wk.asg (by conv => lhs; whnf) (lt_of_ble rfl)
  refine Wk.nil ?_
  refine AW.seq ?_
  apply AW.draw (hm := hmix) (cs := _)
  · apply Wk.ld (i := 2) 5 true ty24 rfl rfl (by conv => lhs; whnf) (lt_of_ble rfl)
    apply Wk.fad 1 0 false fd27_1 rfl (lt_of_ble rfl)
    apply Wk.ld (i := 3) 1 false ty3 rfl rfl (by conv => lhs; whnf) (lt_of_ble rfl)
    apply Wk.fad 3 0 false fd27_3 rfl (lt_of_ble rfl)
    apply Wk.ld (i := 3) 1 false ty3 rfl rfl (by conv => lhs; whnf) (lt_of_ble rfl)
    apply Wk.fad 4 0 false fd27_4 rfl (lt_of_ble rfl)
    apply Wk.ld (i := 3) 1 false ty25 rfl rfl (by conv => lhs; whnf) (lt_of_ble rfl)
    apply Wk.dat cq Try.func88 rfl rfl rfl rfl rfl (lt_of_ble rfl)
    apply Wk.fad 5 0 false fd27_5 rfl (lt_of_ble rfl)
    apply Wk.ld (i := 3) 1 false ty4 rfl rfl (by conv => lhs; whnf) (lt_of_ble rfl)
    apply Wk.fad 6 0 false fd27_6 rfl (lt_of_ble rfl)
    apply Wk.ld (i := 3) 1 false ty3 rfl rfl (by conv => lhs; whnf) (lt_of_ble rfl)
    apply Wk.fad 7 0 false fd27_7 rfl (lt_of_ble rfl)
    apply Wk.ld (i := 3) 1 false ty4 rfl rfl (by conv => lhs; whnf) (lt_of_ble rfl)
    apply Wk.fad 8 0 false fd27_8 rfl (lt_of_ble rfl)
    apply Wk.ld (i := 3) 1 false ty3 rfl rfl (by conv => lhs; whnf) (lt_of_ble rfl)
    apply Wk.fad 9 0 false fd27_9 rfl (lt_of_ble rfl)
    apply Wk.ld (i := 3) 1 false ty4 rfl rfl (by conv => lhs; whnf) (lt_of_ble rfl)
    apply Wk.bld [.int .i64 0, .int .i64 0, .int .i64 0, .int .i64 0, .int .i64 0, .int .i64 0, .int .i64 0, .int .i64 0, .slice none 0 0, .int .i64 0, .int .i64 0, .slice none 0 0, .int .i64 0, .int .i64 0, .slice none 0 0, .int .i64 0, .int .i64 0, .slice none 0 0, .int .i64 0, .int .i64 0, .int .i64 0, .slice none 0 0, .bool false, .int .i64 0, .bool false, .int .i64 0, .bool false] [(0, 5), (5, 1), (6, 14), (20, 1), (21, 1), (22, 1), (23, 1), (24, 1), (25, 1), (26, 1)] bl111 rfl (by exact snd_fillN m w p u y a s q t hh c dd) (lt_of_ble rfl)
    apply Wk.bx 27 rfl rfl (lt_of_ble rfl)
    apply Wk.asg (by conv => lhs; whnf) (lt_of_ble rfl)
    refine Wk.nil ?_
    refine AW.nilc (j := 27) (n := 21) (i' := 66) 47 3 rfl rfl rfl ?_
    refine AW.seq (AW.seq ?_)
    apply AW.list
    apply Wk.fad 2 0 false fd27_2 rfl (lt_of_ble rfl)
    apply Wk.ld (i := 3) 1 false ty25 rfl rfl (by conv => lhs; whnf) (lt_of_ble rfl)
    apply Wk.dat cf Try.func88 rfl rfl rfl rfl rfl (lt_of_ble rfl)
    apply Wk.len un25 rfl (lt_of_ble rfl)
    apply Wk.mv (by conv => lhs; whnf) (lt_of_ble rfl)
    refine Wk.nil (AW.block ?_)
    refine AW.loop (fun k : Nat => St.of 43 [(5, .ptr 27 0), (30, .d (partsD fl)), (31, .d (.v (.int .i64 (((fl.map datD).length : Nat) : Int)))), (32, .d (.v (.int .i64 (k : Int))))] [(27, .var (sndC m w p u y a (ringF (fl.take k)) 0 (k : Int) s 0 q t hh c dd)), (66, .own 0 47 3 (piecesA []))]) (fun k => k ≤ fl.length) (fun k => fl.length - k) 0 (Nat.zero_le _) ?_ ?_
    · exact fun a w => Rel.keep ⟨rfl, .cons rfl rfl (.cons rfl rfl (.cons rfl rfl (.cons rfl rfl .nil))), .cons rfl rfl (.cons rfl rfl .nil), hN.mono (by simp [keys])⟩
    rintro k hk
    show AW Try.prog C _ _ (St.of 43 [(5, .ptr 27 0), (30, .d (partsD fl)), (31, .d (.v (.int .i64 (((fl.map datD).length : Nat) : Int)))), (32, .d (.v (.int .i64 (k : Int))))] [(27, .var (sndC m w p u y a (ringF (fl.take k)) 0 (k : Int) s 0 q t hh c dd)), (66, .own 0 47 3 (piecesA []))])
    refine AW.seq ?_
    apply AW.list
    apply Wk.bin rfl rfl (fun w => by simp [go_sem] <;> rfl) (lt_of_ble rfl)
    refine Wk.nil ?_
    refine AW.seq ?_
    refine AW.cond rfl (fun hc => ?_) (fun hc => ?_)
    · have hlt : k < fl.length := by simpa using hc
      obtain ⟨d, hd⟩ : ∃ d, fl[k]? = some d := ⟨_, List.getElem?_eq_getElem hlt⟩
      have hget : (fl.map datD)[k]? = some (datD d) := by simp [hd]
      have hklt : k < (fl.map datD).length := by simpa using hlt
      have cp := ipush m w p u y a (ringF (fl.take k)) s 0 q t hh c dd [] k (by omega) d
      rw [ring_push hd] at cp
      refine AW.skip ?_
      repeat (first | refine thenA_normal ?_ | refine inBlockA_normal ?_)
      refine AW.seq (AW.block (AW.seq ?_))
      apply AW.list
      apply Wk.iad 3 true un25 ty47 rfl rfl hklt (datD_len _) (lt_of_ble rfl)
      apply Wk.ldr 3 true ty47 rfl hget (by conv => lhs; whnf) (lt_of_ble rfl)
      apply Wk.alc 7 [.int .i64 0, .int .i64 0, .slice none 0 0] ze47 rfl rfl (lt_of_ble rfl)
      apply Wk.sto (i := 7) 3 true ty47 rfl rfl rfl rfl (Nat.le_of_ble_eq_true rfl) (lt_of_ble rfl)
      refine Wk.nil ?_
      repeat (first | refine thenA_normal ?_ | refine inBlockA_normal ?_)
      apply AW.draw (hm := hmix) (cs := _)
      · apply Wk.mv (by conv => lhs; whnf) (lt_of_ble rfl)
        apply Wk.nilc rfl (lt_of_ble rfl)
        apply Wk.fad 6 13 true fd111_2 rfl (lt_of_ble rfl)
        apply Wk.ld (i := 7) 3 true ty47 rfl rfl (by conv => lhs; whnf) (lt_of_ble rfl)
        apply Wk.cal [27, 66] [] cp (in_snd _ rfl _ _ _ _ _ _ _ _ _ _ _ _ _ _ _ _ _ _) ⟨_, _, rfl, rfl⟩ Try.func89 rfl rfl rfl rfl (fun i hi => by cases hi) rfl (two_in rfl (by exact within_parts _)) (lt_of_ble rfl)
        rintro r bs' ⟨rfl, rfl⟩
        refine Wk.nil ?_
        repeat (first | refine thenA_normal ?_ | refine inBlockA_normal ?_)
        apply AW.list
        apply Wk.addi rfl rfl (by omega) (lt_of_ble rfl)
        apply Wk.mv (by conv => lhs; whnf) (lt_of_ble rfl)
        refine Wk.nil ?_
        refine ⟨k + 1, by omega, by omega, ?_⟩
        exact fun a w => Rel.keep ⟨rfl, .cons rfl rfl (.cons rfl rfl (.cons rfl rfl (.cons rfl rfl .nil))), .cons rfl rfl (.cons rfl rfl .nil), hN.mono (by simp [keys])⟩
      · rfl
      · rfl
    · have hke : k = fl.length := by
        simp at hc
        omega
      subst hke
      refine AW.exit ?_
      repeat (first | refine inBlockA_same ?_ | refine thenA_exit ?_)
      repeat (first | refine thenA_normal ?_ | refine inBlockA_normal ?_)
      rw [List.take_length]
      refine AW.seq ?_
      apply AW.list
      apply Wk.mv (by conv => lhs; whnf) (lt_of_ble rfl)
      apply Wk.asg (by conv => lhs; whnf) (lt_of_ble rfl)
      refine Wk.nil (AW.ret ?_)
      repeat (first | refine thenA_ret ?_ | refine inBlockA_ret ?_)
      exact RetQ.ret (sndB _ 0 []) (.cons rfl .nil) ⟨rfl, rfl⟩ (kept2 rfl rfl)
  · rfl
  · rfl
/-- Who sends, made of a state. -/
theorem inew (m w p u y : Int) (x : TX) (h4 : x.fl.length ≤ 4) (hx : x.few) : Spec Try.prog 51 [cfgA m w p u y, txA x] [] (fun r bs => r = .ptr 27 0 ∧ bs = sndB (sndC m w p u y x.a (ringF x.fl) 0 (x.fl.length : Int) x.s x.qu.length x.q x.t x.h x.c x.d) x.qu.length x.qu) := by
  obtain ⟨n, a, fl, s, qu, q, t, hh, c, dd⟩ := x
  by_cases hq : qu = []
  · subst hq
    exact inewN m w p u y n a fl s q t hh c dd h4 hx
  · exact inewO m w p u y n a fl s qu q t hh c dd hq h4 hx
theorem ion_ok (n s : Int) (hn : 0 ≤ n ∧ n < 8) (hs : 0 ≤ s ∧ s < 100) : DataOk Try.prog 90 [.d (.v (.int .i64 n)), .d (.v (.int .i64 s))] (.d (.v (.int .i64 ((n + s) % 8)))) := int2 (impl_on n s hn hs)
theorem st_fillO (n a s : Int) (k : Nat) (l : Nat) (q : Bool) (t : Int) (hh : Bool) (c : Int) (dd : Bool) : fillA ([(0, 1), (1, 1), (2, 1), (3, 1), (4, 1), (5, 1), (6, 1), (7, 1), (8, 1), (9, 1)][·]?) (([.int .i64 0, .int .i64 0, .slice none 0 0, .int .i64 0, .slice none 0 0, .bool false, .int .i64 0, .bool false, .int .i64 0, .bool false] : List Value).map fun x => .d (.v x)) [(0, .d (.v (.int .i64 n))), (1, .d (.v (.int .i64 a))), (2, .own 17 k), (3, .d (.v (.int .i64 s))), (4, .own 66 l), (5, .d (.v (.bool q))), (6, .d (.v (.int .i64 t))), (7, .d (.v (.bool hh))), (8, .d (.v (.int .i64 c))), (9, .d (.v (.bool dd)))] = some [.d (.v (.int .i64 n)), .d (.v (.int .i64 a)), .own 17 k, .d (.v (.int .i64 s)), .own 66 l, .d (.v (.bool q)), .d (.v (.int .i64 t)), .d (.v (.bool hh)), .d (.v (.int .i64 c)), .d (.v (.bool dd))] := by
  simp [fillA, setA, cellsA, Value.oneCell']
theorem st_fillN (n a s : Int) (l : Nat) (q : Bool) (t : Int) (hh : Bool) (c : Int) (dd : Bool) : fillA ([(0, 1), (1, 1), (2, 1), (3, 1), (4, 1), (5, 1), (6, 1), (7, 1), (8, 1), (9, 1)][·]?) (([.int .i64 0, .int .i64 0, .slice none 0 0, .int .i64 0, .slice none 0 0, .bool false, .int .i64 0, .bool false, .int .i64 0, .bool false] : List Value).map fun x => .d (.v x)) [(0, .d (.v (.int .i64 n))), (1, .d (.v (.int .i64 a))), (2, .d (.v (.slice none 0 0))), (3, .d (.v (.int .i64 s))), (4, .own 66 l), (5, .d (.v (.bool q))), (6, .d (.v (.int .i64 t))), (7, .d (.v (.bool hh))), (8, .d (.v (.int .i64 c))), (9, .d (.v (.bool dd)))] = some [.d (.v (.int .i64 n)), .d (.v (.int .i64 a)), .d (.v (.slice none 0 0)), .d (.v (.int .i64 s)), .own 66 l, .d (.v (.bool q)), .d (.v (.int .i64 t)), .d (.v (.bool hh)), .d (.v (.int .i64 c)), .d (.v (.bool dd))] := by
  simp [fillA, setA, cellsA, Value.oneCell']
def stA0 (n a : Int) (F : A) (s : Int) (l : Nat) (q : Bool) (t : Int) (hh : Bool) (c : Int) (dd : Bool) : A := .agg [.d (.v (.int .i64 n)), .d (.v (.int .i64 a)), F, .d (.v (.int .i64 s)), .own 66 l, .d (.v (.bool q)), .d (.v (.int .i64 t)), .d (.v (.bool hh)), .d (.v (.int .i64 c)), .d (.v (.bool dd))]
theorem flX_in {L : List Dat} {i : Nat} {z : Bx} (h : (flX L).lookup i = some z) : i ∈ [17] ∧ z.within [17] = true := by
  unfold flX at h
  split at h
  · cases h
  · obtain ⟨rfl, rfl⟩ : i = 17 ∧ z = .own (L.length - 1) 47 3 (piecesA L) := by
      rw [List.lookup_cons] at h
      split at h
      · rename_i e; exact ⟨eq_of_beq e, (Option.some.inj h).symm⟩
      · cases h
    exact ⟨by simp, by simp [Bx.within, within_parts]⟩
theorem within_up {K K' : List Nat} {z : Bx} (h : z.within K = true) (hk : ∀ i ∈ K, i ∈ K') : z.within K' = true := by
  cases z with
  | none => rfl
  | fresh => rfl
  | var cs => exact withins_mono (fun i hi => by simp at hi ⊢; exact hk i hi) cs h
  | own k e sz es =>
    simp only [Bx.within, List.all_eq_true] at h ⊢
    exact fun c hc => withins_mono (fun i hi => by simp at hi ⊢; exact hk i hi) c (h c hc)
theorem lookup_app {l1 l2 : List (Nat × Bx)} {i : Nat} {z : Bx} (h : (l1 ++ l2).lookup i = some z) : l1.lookup i = some z ∨ l2.lookup i = some z := by
  induction l1 with
  | nil => exact .inr h
  | cons x l1 ih =>
    rw [List.cons_append, List.lookup_cons] at h
    rw [List.lookup_cons]
    split
    · rename_i e; rw [e] at h; exact .inl h
    · rename_i e; rw [e] at h; exact ih h
theorem in_sndF (r0 : A) (hr : r0.within [27, 66, 17] = true) (m w p u y a : Int) (f : Nat → Sl) (h k s : Int) (l : Nat) (q : Bool) (t : Int) (hh : Bool) (c : Int) (d : Bool) (l' : Nat) (qu L : List Dat) : PostIn [27, 66, 17] (fun r bs => r = r0 ∧ bs = sndB (sndC m w p u y a f h k s l q t hh c d) l' qu ++ flX L) := by
  rintro r bs ⟨rfl, rfl⟩
  refine ⟨hr, fun i z hz => ?_⟩
  rcases lookup_app hz with h | h
  · have := in_sndB h
    exact ⟨by have h1 := this.1; simp at h1 ⊢; omega, within_up this.2 (fun i hi => by simp at hi ⊢; omega)⟩
  · have := flX_in h
    exact ⟨by have h1 := this.1; simp at h1 ⊢; omega, within_up this.2 (fun i hi => by simp at hi ⊢; omega)⟩
theorem flV_in (L : List Dat) : (flV L).within [27, 66, 17] = true := by
  unfold flV
  split <;> simp [A.within]
set_option maxHeartbeats 1000000 in
set_option maxRecDepth 100000 in
theorem istateN (m w p u y a : Int) (f : Nat → Sl) (s : Int) (l : Nat) (q : Bool) (t : Int) (hh : Bool) (c : Int) (dd : Bool) (qu : List Dat) (h : Nat) (hh1 : h ≤ 4) (hn : ([] : List Dat).length ≤ 4) (hL : ∀ i d, ([] : List Dat)[i]? = some d → f ((h + i) % 4) = sl (some d)) (ha : 0 ≤ a ∧ a < 8) :
    Spec Try.prog 53 [.ptr 27 0] (sndB (sndC m w p u y a f (h : Int) (([] : List Dat).length : Int) s l q t hh c dd) l qu) (fun r bs => r = stA0 ((a + (([] : List Dat).length : Int)) % 8) a (flV []) s l q t hh c dd ∧ bs = sndB (sndC m w p u y a f (h : Int) (([] : List Dat).length : Int) s l q t hh c dd) l qu ++ flX []) := by
  have c1 := ion_ok a (([] : List Dat).length : Int) ha (by omega)
  have c2 := ilist m w p u y a f s l q t hh c dd qu h [] hh1 hn hL
  refine Spec.intro (n := 50) (rv := [.cell 2 27]) Try.func53 rfl rfl rfl (by simp) fun C hN hX => ?_
  refine AW.seq ?_
  apply AW.list
  apply Wk.alc 2 [.int .i64 0, .int .i64 0, .slice none 0 0, .int .i64 0, .slice none 0 0, .bool false, .int .i64 0, .bool false, .int .i64 0, .bool false] ze27 rfl rfl (lt_of_ble rfl)
  refine Wk.nil ?_
  refine AW.seq ?_
  apply AW.draw (hm := hmix) (cs := _)
  · apply Wk.mv (by conv => lhs; whnf) (lt_of_ble rfl)
    apply Wk.nilc rfl (lt_of_ble rfl)
    apply Wk.fad 5 0 false fd111_1 rfl (lt_of_ble rfl)
    apply Wk.ld (i := 27) 1 false ty92 rfl rfl (by conv => lhs; whnf) (lt_of_ble rfl)
    apply Wk.mv (by conv => lhs; whnf) (lt_of_ble rfl)
    apply Wk.nilc rfl (lt_of_ble rfl)
    apply Wk.fad 6 13 true fd111_2 rfl (lt_of_ble rfl)
    apply Wk.fad 13 0 false fd109_2 rfl (lt_of_ble rfl)
    apply Wk.ld (i := 27) 1 false ty3 rfl rfl (by conv => lhs; whnf) (lt_of_ble rfl)
    apply Wk.dat c1 Try.func90 rfl rfl rfl rfl rfl (lt_of_ble rfl)
    apply Wk.mv (by conv => lhs; whnf) (lt_of_ble rfl)
    apply Wk.nilc rfl (lt_of_ble rfl)
    apply Wk.fad 5 0 false fd111_1 rfl (lt_of_ble rfl)
    apply Wk.ld (i := 27) 1 false ty92 rfl rfl (by conv => lhs; whnf) (lt_of_ble rfl)
    apply Wk.mv (by conv => lhs; whnf) (lt_of_ble rfl)
    apply Wk.nilc rfl (lt_of_ble rfl)
    apply Wk.fad 6 13 true fd111_2 rfl (lt_of_ble rfl)
    apply Wk.calr [27, 66] [17] c2 (in_sndF _ rfl _ _ _ _ _ _ _ _ _ _ _ _ _ _ _ _ _ _ []) (by rintro r bs' ⟨rfl, rfl⟩; exact keep2) ⟨_, _, rfl, rfl⟩ Try.func91 rfl rfl rfl rfl (by simp; rfl) rfl (two_in rfl (by exact within_parts _)) (lt_of_ble rfl)
    rintro r bs' ⟨rfl, rfl⟩
    apply Wk.mv (by conv => lhs; whnf) (lt_of_ble rfl)
    apply Wk.nilc rfl (lt_of_ble rfl)
    apply Wk.fad 20 0 false fd111_3 rfl (lt_of_ble rfl)
    apply Wk.ld (i := 27) 1 false ty3 rfl rfl (by conv => lhs; whnf) (lt_of_ble rfl)
    apply Wk.mv (by conv => lhs; whnf) (lt_of_ble rfl)
    apply Wk.nilc rfl (lt_of_ble rfl)
    apply Wk.fad 21 0 false fd111_4 rfl (lt_of_ble rfl)
    apply Wk.ld (i := 27) 1 false ty25 rfl rfl (by conv => lhs; whnf) (lt_of_ble rfl)
    apply Wk.mv (by conv => lhs; whnf) (lt_of_ble rfl)
    apply Wk.nilc rfl (lt_of_ble rfl)
    apply Wk.fad 22 0 false fd111_5 rfl (lt_of_ble rfl)
    apply Wk.ld (i := 27) 1 false ty4 rfl rfl (by conv => lhs; whnf) (lt_of_ble rfl)
    apply Wk.mv (by conv => lhs; whnf) (lt_of_ble rfl)
    apply Wk.nilc rfl (lt_of_ble rfl)
    apply Wk.fad 23 0 false fd111_6 rfl (lt_of_ble rfl)
    apply Wk.ld (i := 27) 1 false ty3 rfl rfl (by conv => lhs; whnf) (lt_of_ble rfl)
    apply Wk.mv (by conv => lhs; whnf) (lt_of_ble rfl)
    apply Wk.nilc rfl (lt_of_ble rfl)
    apply Wk.fad 24 0 false fd111_7 rfl (lt_of_ble rfl)
    apply Wk.ld (i := 27) 1 false ty4 rfl rfl (by conv => lhs; whnf) (lt_of_ble rfl)
    apply Wk.mv (by conv => lhs; whnf) (lt_of_ble rfl)
    apply Wk.nilc rfl (lt_of_ble rfl)
    apply Wk.fad 25 0 false fd111_8 rfl (lt_of_ble rfl)
    apply Wk.ld (i := 27) 1 false ty3 rfl rfl (by conv => lhs; whnf) (lt_of_ble rfl)
    apply Wk.mv (by conv => lhs; whnf) (lt_of_ble rfl)
    apply Wk.nilc rfl (lt_of_ble rfl)
    apply Wk.fad 26 0 false fd111_9 rfl (lt_of_ble rfl)
    apply Wk.ld (i := 27) 1 false ty4 rfl rfl (by conv => lhs; whnf) (lt_of_ble rfl)
    apply Wk.bld [.int .i64 0, .int .i64 0, .slice none 0 0, .int .i64 0, .slice none 0 0, .bool false, .int .i64 0, .bool false, .int .i64 0, .bool false] [(0, 1), (1, 1), (2, 1), (3, 1), (4, 1), (5, 1), (6, 1), (7, 1), (8, 1), (9, 1)] bl27 rfl (by exact st_fillN ((a + (([] : List Dat).length : Int)) % 8) a s l q t hh c dd) (lt_of_ble rfl)
    apply Wk.sto (i := 2) 10 true ty27 rfl rfl rfl rfl (Nat.le_of_ble_eq_true rfl) (lt_of_ble rfl)
    refine Wk.nil (AW.ret ?_)
    exact RetQ.ret (sndB _ l qu) (.cons ⟨2, 0, _, _, _, rfl, rfl, ty27, rfl⟩ .nil) ⟨rfl, rfl⟩ (kept2 rfl rfl)
  · rfl
  · rfl
set_option maxHeartbeats 1000000 in
set_option maxRecDepth 100000 in
theorem istateO (m w p u y a : Int) (f : Nat → Sl) (s : Int) (l : Nat) (q : Bool) (t : Int) (hh : Bool) (c : Int) (dd : Bool) (qu : List Dat) (h : Nat) (L : List Dat) (hne : L ≠ []) (hh1 : h ≤ 4) (hn : (L : List Dat).length ≤ 4) (hL : ∀ i d, (L : List Dat)[i]? = some d → f ((h + i) % 4) = sl (some d)) (ha : 0 ≤ a ∧ a < 8) :
    Spec Try.prog 53 [.ptr 27 0] (sndB (sndC m w p u y a f (h : Int) ((L : List Dat).length : Int) s l q t hh c dd) l qu) (fun r bs => r = stA0 ((a + ((L : List Dat).length : Int)) % 8) a (flV L) s l q t hh c dd ∧ bs = sndB (sndC m w p u y a f (h : Int) ((L : List Dat).length : Int) s l q t hh c dd) l qu ++ flX L) := by
  have c1 := ion_ok a ((L : List Dat).length : Int) ha (by omega)
  have c2 := ilist m w p u y a f s l q t hh c dd qu h L hh1 hn hL
  have ev : flV L = .own 17 (L.length - 1) := if_neg hne
  have ex : flX L = [(17, .own (L.length - 1) 47 3 (piecesA L))] := if_neg hne
  have ip := in_sndF (flV L) (flV_in L) m w p u y a f (h : Int) (L.length : Int) s l q t hh c dd l qu L
  rw [ev, ex] at c2 ip
  rw [ev, ex]
  refine Spec.intro (n := 50) (rv := [.cell 2 27]) Try.func53 rfl rfl rfl (by simp) fun C hN hX => ?_
  refine AW.seq ?_
  apply AW.list
  apply Wk.alc 2 [.int .i64 0, .int .i64 0, .slice none 0 0, .int .i64 0, .slice none 0 0, .bool false, .int .i64 0, .bool false, .int .i64 0, .bool false] ze27 rfl rfl (lt_of_ble rfl)
  refine Wk.nil ?_
  refine AW.seq ?_
  apply AW.draw (hm := hmix) (cs := _)
  · apply Wk.mv (by conv => lhs; whnf) (lt_of_ble rfl)
    apply Wk.nilc rfl (lt_of_ble rfl)
    apply Wk.fad 5 0 false fd111_1 rfl (lt_of_ble rfl)
    apply Wk.ld (i := 27) 1 false ty92 rfl rfl (by conv => lhs; whnf) (lt_of_ble rfl)
    apply Wk.mv (by conv => lhs; whnf) (lt_of_ble rfl)
    apply Wk.nilc rfl (lt_of_ble rfl)
    apply Wk.fad 6 13 true fd111_2 rfl (lt_of_ble rfl)
    apply Wk.fad 13 0 false fd109_2 rfl (lt_of_ble rfl)
    apply Wk.ld (i := 27) 1 false ty3 rfl rfl (by conv => lhs; whnf) (lt_of_ble rfl)
    apply Wk.dat c1 Try.func90 rfl rfl rfl rfl rfl (lt_of_ble rfl)
    apply Wk.mv (by conv => lhs; whnf) (lt_of_ble rfl)
    apply Wk.nilc rfl (lt_of_ble rfl)
    apply Wk.fad 5 0 false fd111_1 rfl (lt_of_ble rfl)
    apply Wk.ld (i := 27) 1 false ty92 rfl rfl (by conv => lhs; whnf) (lt_of_ble rfl)
    apply Wk.mv (by conv => lhs; whnf) (lt_of_ble rfl)
    apply Wk.nilc rfl (lt_of_ble rfl)
    apply Wk.fad 6 13 true fd111_2 rfl (lt_of_ble rfl)
    apply Wk.calr [27, 66] [17] c2 ip (by rintro r bs' ⟨rfl, rfl⟩; exact keep2) ⟨_, _, rfl, rfl⟩ Try.func91 rfl rfl rfl rfl (by simp; rfl) rfl (two_in rfl (by exact within_parts _)) (lt_of_ble rfl)
    rintro r bs' ⟨rfl, rfl⟩
    apply Wk.mv (by conv => lhs; whnf) (lt_of_ble rfl)
    apply Wk.nilc rfl (lt_of_ble rfl)
    apply Wk.fad 20 0 false fd111_3 rfl (lt_of_ble rfl)
    apply Wk.ld (i := 27) 1 false ty3 rfl rfl (by conv => lhs; whnf) (lt_of_ble rfl)
    apply Wk.mv (by conv => lhs; whnf) (lt_of_ble rfl)
    apply Wk.nilc rfl (lt_of_ble rfl)
    apply Wk.fad 21 0 false fd111_4 rfl (lt_of_ble rfl)
    apply Wk.ld (i := 27) 1 false ty25 rfl rfl (by conv => lhs; whnf) (lt_of_ble rfl)
    apply Wk.mv (by conv => lhs; whnf) (lt_of_ble rfl)
    apply Wk.nilc rfl (lt_of_ble rfl)
    apply Wk.fad 22 0 false fd111_5 rfl (lt_of_ble rfl)
    apply Wk.ld (i := 27) 1 false ty4 rfl rfl (by conv => lhs; whnf) (lt_of_ble rfl)
    apply Wk.mv (by conv => lhs; whnf) (lt_of_ble rfl)
    apply Wk.nilc rfl (lt_of_ble rfl)
    apply Wk.fad 23 0 false fd111_6 rfl (lt_of_ble rfl)
    apply Wk.ld (i := 27) 1 false ty3 rfl rfl (by conv => lhs; whnf) (lt_of_ble rfl)
    apply Wk.mv (by conv => lhs; whnf) (lt_of_ble rfl)
    apply Wk.nilc rfl (lt_of_ble rfl)
    apply Wk.fad 24 0 false fd111_7 rfl (lt_of_ble rfl)
    apply Wk.ld (i := 27) 1 false ty4 rfl rfl (by conv => lhs; whnf) (lt_of_ble rfl)
    apply Wk.mv (by conv => lhs; whnf) (lt_of_ble rfl)
    apply Wk.nilc rfl (lt_of_ble rfl)
    apply Wk.fad 25 0 false fd111_8 rfl (lt_of_ble rfl)
    apply Wk.ld (i := 27) 1 false ty3 rfl rfl (by conv => lhs; whnf) (lt_of_ble rfl)
    apply Wk.mv (by conv => lhs; whnf) (lt_of_ble rfl)
    apply Wk.nilc rfl (lt_of_ble rfl)
    apply Wk.fad 26 0 false fd111_9 rfl (lt_of_ble rfl)
    apply Wk.ld (i := 27) 1 false ty4 rfl rfl (by conv => lhs; whnf) (lt_of_ble rfl)
    apply Wk.bld [.int .i64 0, .int .i64 0, .slice none 0 0, .int .i64 0, .slice none 0 0, .bool false, .int .i64 0, .bool false, .int .i64 0, .bool false] [(0, 1), (1, 1), (2, 1), (3, 1), (4, 1), (5, 1), (6, 1), (7, 1), (8, 1), (9, 1)] bl27 rfl (by exact st_fillO ((a + (L.length : Int)) % 8) a s (L.length - 1) l q t hh c dd) (lt_of_ble rfl)
    apply Wk.sto (i := 2) 10 true ty27 rfl rfl rfl rfl (Nat.le_of_ble_eq_true rfl) (lt_of_ble rfl)
    refine Wk.nil (AW.ret ?_)
    exact RetQ.ret [(27, .var (sndC m w p u y a f (h : Int) (L.length : Int) s l q t hh c dd)), (66, .own l 47 3 (piecesA qu)), (17, .own (L.length - 1) 47 3 (piecesA L))] (.cons ⟨2, 0, _, _, _, rfl, rfl, ty27, rfl⟩ .nil) ⟨rfl, rfl⟩ (kept3 rfl rfl rfl)
  · rfl
  · rfl
theorem iwait_ok (b : Bool) : DataOk Try.prog 104 [.d (.v (.bool b))] (.d (.v (.int .i64 (2 * bitZ b)))) := by
  cases b
  · skip
    refine Spec.intro (n := 4) (rv := [.tmp 2]) Try.func104 rfl rfl rfl (by simp) fun C hN hX => ?_
    refine AW.seq ?_
    apply AW.list
    apply Wk.asg (by conv => lhs; whnf) (lt_of_ble rfl)
    refine Wk.nil ?_
    refine AW.seq (AW.seq ?_)
    apply AW.list
    apply Wk.mv (by conv => lhs; whnf) (lt_of_ble rfl)
    refine Wk.nil ?_
    refine AW.cond rfl (fun hc => by cases hc) (fun _ => AW.skip (thenA_normal ?_))
    refine AW.seq ?_
    apply AW.list
    apply Wk.asg (by conv => lhs; whnf) (lt_of_ble rfl)
    refine Wk.nil (AW.ret ?_)
    exact RetQ.ret [] (.cons rfl .nil) ⟨rfl, rfl⟩ none_kept
  · skip
    refine Spec.intro (n := 4) (rv := [.tmp 2]) Try.func104 rfl rfl rfl (by simp) fun C hN hX => ?_
    refine AW.seq ?_
    apply AW.list
    apply Wk.asg (by conv => lhs; whnf) (lt_of_ble rfl)
    refine Wk.nil ?_
    refine AW.seq (AW.seq ?_)
    apply AW.list
    apply Wk.mv (by conv => lhs; whnf) (lt_of_ble rfl)
    refine Wk.nil ?_
    refine AW.cond rfl (fun _ => ?_) (fun hc => by cases hc)
    refine AW.seq ?_
    apply AW.list
    apply Wk.asg (by conv => lhs; whnf) (lt_of_ble rfl)
    refine Wk.nil (AW.ret ?_)
    repeat (first | refine thenA_ret ?_ | refine inBlockA_ret ?_)
    exact RetQ.ret [] (.cons rfl .nil) ⟨rfl, rfl⟩ none_kept
set_option maxHeartbeats 1000000 in
set_option maxRecDepth 100000 in
theorem itickIdle (m w p u y a : Int) (f : Nat → Sl) (k : Nat) (s : Int) (l : Nat) (q : Bool) (t : Int) (hh : Bool) (c : Int) (dd : Bool) (qu : List Dat) (ack : Int) (bu : Bool) (hi : dd = true ∨ (k = 0 ∧ hh = false ∧ q = false)) : Spec Try.prog 78 [.ptr 27 0, .d (.v (.int .i64 ack)), .d (.v (.bool bu))] (sndB (sndC m w p u y a f 0 (k : Int) s l q t hh c dd) l qu) (fun r bs => r = .tup [frmNo, .d (.v (.bool false))] ∧ bs = (sndB (sndC m w p u y a f 0 (k : Int) s l q t hh c dd) l qu)) := by
  cases dd
  · obtain ⟨rfl, rfl, rfl⟩ : k = 0 ∧ hh = false ∧ q = false := by simpa using hi
    refine Spec.intro (n := 65) (rv := [.cell 6 42, .tmp 7]) Try.func78 rfl rfl rfl (by simp) fun C hN hX => ?_
    refine AW.seq ?_
    apply AW.list
    apply Wk.alc 6 [.int .i64 0, .int .i64 0, .int .i64 0, .bool false, .bool false, .int .i64 0, .int .i64 0, .int .i64 0, .slice none 0 0] ze42 rfl rfl (lt_of_ble rfl)
    apply Wk.asg (by conv => lhs; whnf) (lt_of_ble rfl)
    refine Wk.nil ?_
    refine AW.seq ?_
    apply AW.list
    apply Wk.mv (by conv => lhs; whnf) (lt_of_ble rfl)
    apply Wk.nilc rfl (lt_of_ble rfl)
    apply Wk.fad 6 13 true fd111_2 rfl (lt_of_ble rfl)
    apply Wk.fad 13 0 false fd109_2 rfl (lt_of_ble rfl)
    apply Wk.ld (i := 27) 1 false ty3 rfl rfl (by conv => lhs; whnf) (lt_of_ble rfl)
    apply Wk.bin rfl rfl (r := .bool true) (fun w => by simp [go_sem]) (lt_of_ble rfl)
    apply Wk.mv (by conv => lhs; whnf) (lt_of_ble rfl)
    apply Wk.gon 15 rfl rfl
    apply Wk.mv (by conv => lhs; whnf) (lt_of_ble rfl)
    apply Wk.gon 15 rfl rfl
    apply Wk.nilc rfl (lt_of_ble rfl)
    apply Wk.gon 15 rfl rfl
    apply Wk.fad 24 0 false fd111_7 rfl (lt_of_ble rfl)
    apply Wk.gon 15 rfl rfl
    apply Wk.ld (i := 27) 1 false ty4 rfl rfl (by conv => lhs; whnf) (lt_of_ble rfl)
    apply Wk.gon 15 rfl rfl
    apply Wk.un rfl (fun w => by simp [go_sem] <;> rfl) (lt_of_ble rfl)
    apply Wk.pckT rfl (by conv => lhs; whnf) (lt_of_ble rfl)
    apply Wk.mv (by conv => lhs; whnf) (lt_of_ble rfl)
    apply Wk.gon 22 rfl rfl
    apply Wk.mv (by conv => lhs; whnf) (lt_of_ble rfl)
    apply Wk.gon 22 rfl rfl
    apply Wk.nilc rfl (lt_of_ble rfl)
    apply Wk.gon 22 rfl rfl
    apply Wk.fad 22 0 false fd111_5 rfl (lt_of_ble rfl)
    apply Wk.gon 22 rfl rfl
    apply Wk.ld (i := 27) 1 false ty4 rfl rfl (by conv => lhs; whnf) (lt_of_ble rfl)
    apply Wk.gon 22 rfl rfl
    apply Wk.un rfl (fun w => by simp [go_sem] <;> rfl) (lt_of_ble rfl)
    apply Wk.pckT rfl (by conv => lhs; whnf) (lt_of_ble rfl)
    apply Wk.asg (by conv => lhs; whnf) (lt_of_ble rfl)
    refine Wk.nil ?_
    refine AW.seq (AW.seq ?_)
    apply AW.list
    apply Wk.mv (by conv => lhs; whnf) (lt_of_ble rfl)
    apply Wk.nilc rfl (lt_of_ble rfl)
    apply Wk.fad 26 0 false fd111_9 rfl (lt_of_ble rfl)
    apply Wk.ld (i := 27) 1 false ty4 rfl rfl (by conv => lhs; whnf) (lt_of_ble rfl)
    apply Wk.mv (by conv => lhs; whnf) (lt_of_ble rfl)
    apply Wk.gon 33 rfl rfl
    apply Wk.mv (by conv => lhs; whnf) (lt_of_ble rfl)
    apply Wk.pckF rfl (by conv => lhs; whnf) (lt_of_ble rfl)
    refine Wk.nil ?_
    refine AW.cond rfl (fun _ => ?_) (fun hc => by cases hc)
    refine AW.seq ?_
    apply AW.list
    apply Wk.bld [.int .i64 0, .int .i64 0, .int .i64 0, .bool false, .bool false, .int .i64 0, .int .i64 0, .int .i64 0, .slice none 0 0] [(0, 1), (1, 1), (2, 1), (3, 1), (4, 1), (5, 1), (6, 1), (7, 1), (8, 1)] bl42 rfl (by conv => lhs; whnf) (lt_of_ble rfl)
    apply Wk.sto (i := 6) 9 true ty42 rfl rfl rfl rfl (Nat.le_of_ble_eq_true rfl) (lt_of_ble rfl)
    apply Wk.asg (by conv => lhs; whnf) (lt_of_ble rfl)
    refine Wk.nil (AW.ret ?_)
    repeat (first | refine thenA_ret ?_ | refine inBlockA_ret ?_)
    exact RetQ.ret (sndB _ l qu) (.cons ⟨6, 0, _, _, _, rfl, rfl, ty42, rfl⟩ (.cons rfl .nil)) ⟨rfl, rfl⟩ (kept2 rfl rfl)
  · by_cases hk : k = 0
    · subst hk
      cases hh
      · skip
        refine Spec.intro (n := 65) (rv := [.cell 6 42, .tmp 7]) Try.func78 rfl rfl rfl (by simp) fun C hN hX => ?_
        refine AW.seq ?_
        apply AW.list
        apply Wk.alc 6 [.int .i64 0, .int .i64 0, .int .i64 0, .bool false, .bool false, .int .i64 0, .int .i64 0, .int .i64 0, .slice none 0 0] ze42 rfl rfl (lt_of_ble rfl)
        apply Wk.asg (by conv => lhs; whnf) (lt_of_ble rfl)
        refine Wk.nil ?_
        refine AW.seq ?_
        apply AW.list
        apply Wk.mv (by conv => lhs; whnf) (lt_of_ble rfl)
        apply Wk.nilc rfl (lt_of_ble rfl)
        apply Wk.fad 6 13 true fd111_2 rfl (lt_of_ble rfl)
        apply Wk.fad 13 0 false fd109_2 rfl (lt_of_ble rfl)
        apply Wk.ld (i := 27) 1 false ty3 rfl rfl (by conv => lhs; whnf) (lt_of_ble rfl)
        apply Wk.bin rfl rfl (r := .bool true) (fun w => by simp [go_sem]) (lt_of_ble rfl)
        apply Wk.mv (by conv => lhs; whnf) (lt_of_ble rfl)
        apply Wk.gon 15 rfl rfl
        apply Wk.mv (by conv => lhs; whnf) (lt_of_ble rfl)
        apply Wk.gon 15 rfl rfl
        apply Wk.nilc rfl (lt_of_ble rfl)
        apply Wk.gon 15 rfl rfl
        apply Wk.fad 24 0 false fd111_7 rfl (lt_of_ble rfl)
        apply Wk.gon 15 rfl rfl
        apply Wk.ld (i := 27) 1 false ty4 rfl rfl (by conv => lhs; whnf) (lt_of_ble rfl)
        apply Wk.gon 15 rfl rfl
        apply Wk.un rfl (fun w => by simp [go_sem] <;> rfl) (lt_of_ble rfl)
        apply Wk.pckT rfl (by conv => lhs; whnf) (lt_of_ble rfl)
        apply Wk.mv (by conv => lhs; whnf) (lt_of_ble rfl)
        apply Wk.gon 22 rfl rfl
        apply Wk.mv (by conv => lhs; whnf) (lt_of_ble rfl)
        apply Wk.gon 22 rfl rfl
        apply Wk.nilc rfl (lt_of_ble rfl)
        apply Wk.gon 22 rfl rfl
        apply Wk.fad 22 0 false fd111_5 rfl (lt_of_ble rfl)
        apply Wk.gon 22 rfl rfl
        apply Wk.ld (i := 27) 1 false ty4 rfl rfl (by conv => lhs; whnf) (lt_of_ble rfl)
        apply Wk.gon 22 rfl rfl
        apply Wk.un rfl (fun w => by simp [go_sem] <;> rfl) (lt_of_ble rfl)
        apply Wk.pckT rfl (by conv => lhs; whnf) (lt_of_ble rfl)
        apply Wk.asg (by conv => lhs; whnf) (lt_of_ble rfl)
        refine Wk.nil ?_
        refine AW.seq (AW.seq ?_)
        apply AW.list
        apply Wk.mv (by conv => lhs; whnf) (lt_of_ble rfl)
        apply Wk.nilc rfl (lt_of_ble rfl)
        apply Wk.fad 26 0 false fd111_9 rfl (lt_of_ble rfl)
        apply Wk.ld (i := 27) 1 false ty4 rfl rfl (by conv => lhs; whnf) (lt_of_ble rfl)
        apply Wk.mv (by conv => lhs; whnf) (lt_of_ble rfl)
        apply Wk.goff 33 (ok_move _) rfl rfl (by simp)
        apply Wk.pckT rfl (by conv => lhs; whnf) (lt_of_ble rfl)
        refine Wk.nil ?_
        refine AW.cond rfl (fun _ => ?_) (fun hc => by cases hc)
        refine AW.seq ?_
        apply AW.list
        apply Wk.bld [.int .i64 0, .int .i64 0, .int .i64 0, .bool false, .bool false, .int .i64 0, .int .i64 0, .int .i64 0, .slice none 0 0] [(0, 1), (1, 1), (2, 1), (3, 1), (4, 1), (5, 1), (6, 1), (7, 1), (8, 1)] bl42 rfl (by conv => lhs; whnf) (lt_of_ble rfl)
        apply Wk.sto (i := 6) 9 true ty42 rfl rfl rfl rfl (Nat.le_of_ble_eq_true rfl) (lt_of_ble rfl)
        apply Wk.asg (by conv => lhs; whnf) (lt_of_ble rfl)
        refine Wk.nil (AW.ret ?_)
        repeat (first | refine thenA_ret ?_ | refine inBlockA_ret ?_)
        exact RetQ.ret (sndB _ l qu) (.cons ⟨6, 0, _, _, _, rfl, rfl, ty42, rfl⟩ (.cons rfl .nil)) ⟨rfl, rfl⟩ (kept2 rfl rfl)
      · skip
        refine Spec.intro (n := 65) (rv := [.cell 6 42, .tmp 7]) Try.func78 rfl rfl rfl (by simp) fun C hN hX => ?_
        refine AW.seq ?_
        apply AW.list
        apply Wk.alc 6 [.int .i64 0, .int .i64 0, .int .i64 0, .bool false, .bool false, .int .i64 0, .int .i64 0, .int .i64 0, .slice none 0 0] ze42 rfl rfl (lt_of_ble rfl)
        apply Wk.asg (by conv => lhs; whnf) (lt_of_ble rfl)
        refine Wk.nil ?_
        refine AW.seq ?_
        apply AW.list
        apply Wk.mv (by conv => lhs; whnf) (lt_of_ble rfl)
        apply Wk.nilc rfl (lt_of_ble rfl)
        apply Wk.fad 6 13 true fd111_2 rfl (lt_of_ble rfl)
        apply Wk.fad 13 0 false fd109_2 rfl (lt_of_ble rfl)
        apply Wk.ld (i := 27) 1 false ty3 rfl rfl (by conv => lhs; whnf) (lt_of_ble rfl)
        apply Wk.bin rfl rfl (r := .bool true) (fun w => by simp [go_sem]) (lt_of_ble rfl)
        apply Wk.mv (by conv => lhs; whnf) (lt_of_ble rfl)
        apply Wk.gon 15 rfl rfl
        apply Wk.mv (by conv => lhs; whnf) (lt_of_ble rfl)
        apply Wk.gon 15 rfl rfl
        apply Wk.nilc rfl (lt_of_ble rfl)
        apply Wk.gon 15 rfl rfl
        apply Wk.fad 24 0 false fd111_7 rfl (lt_of_ble rfl)
        apply Wk.gon 15 rfl rfl
        apply Wk.ld (i := 27) 1 false ty4 rfl rfl (by conv => lhs; whnf) (lt_of_ble rfl)
        apply Wk.gon 15 rfl rfl
        apply Wk.un rfl (fun w => by simp [go_sem] <;> rfl) (lt_of_ble rfl)
        apply Wk.pckT rfl (by conv => lhs; whnf) (lt_of_ble rfl)
        apply Wk.mv (by conv => lhs; whnf) (lt_of_ble rfl)
        apply Wk.goff 22 (ok_move _) rfl rfl (by simp)
        apply Wk.goff 22 (ok_nil _) rfl rfl (by simp)
        apply Wk.goff 22 (ok_faddr fd111_5) rfl rfl (by simp)
        apply Wk.goff 22 (ok_load 27 ty4) rfl rfl (by simp)
        apply Wk.goff 22 (ok_un _ _ _) rfl rfl (by simp)
        apply Wk.pckF rfl (by conv => lhs; whnf) (lt_of_ble rfl)
        apply Wk.asg (by conv => lhs; whnf) (lt_of_ble rfl)
        refine Wk.nil ?_
        refine AW.seq (AW.seq ?_)
        apply AW.list
        apply Wk.mv (by conv => lhs; whnf) (lt_of_ble rfl)
        apply Wk.nilc rfl (lt_of_ble rfl)
        apply Wk.fad 26 0 false fd111_9 rfl (lt_of_ble rfl)
        apply Wk.ld (i := 27) 1 false ty4 rfl rfl (by conv => lhs; whnf) (lt_of_ble rfl)
        apply Wk.mv (by conv => lhs; whnf) (lt_of_ble rfl)
        apply Wk.goff 33 (ok_move _) rfl rfl (by simp)
        apply Wk.pckT rfl (by conv => lhs; whnf) (lt_of_ble rfl)
        refine Wk.nil ?_
        refine AW.cond rfl (fun _ => ?_) (fun hc => by cases hc)
        refine AW.seq ?_
        apply AW.list
        apply Wk.bld [.int .i64 0, .int .i64 0, .int .i64 0, .bool false, .bool false, .int .i64 0, .int .i64 0, .int .i64 0, .slice none 0 0] [(0, 1), (1, 1), (2, 1), (3, 1), (4, 1), (5, 1), (6, 1), (7, 1), (8, 1)] bl42 rfl (by conv => lhs; whnf) (lt_of_ble rfl)
        apply Wk.sto (i := 6) 9 true ty42 rfl rfl rfl rfl (Nat.le_of_ble_eq_true rfl) (lt_of_ble rfl)
        apply Wk.asg (by conv => lhs; whnf) (lt_of_ble rfl)
        refine Wk.nil (AW.ret ?_)
        repeat (first | refine thenA_ret ?_ | refine inBlockA_ret ?_)
        exact RetQ.ret (sndB _ l qu) (.cons ⟨6, 0, _, _, _, rfl, rfl, ty42, rfl⟩ (.cons rfl .nil)) ⟨rfl, rfl⟩ (kept2 rfl rfl)
    · skip
      refine Spec.intro (n := 65) (rv := [.cell 6 42, .tmp 7]) Try.func78 rfl rfl rfl (by simp) fun C hN hX => ?_
      refine AW.seq ?_
      apply AW.list
      apply Wk.alc 6 [.int .i64 0, .int .i64 0, .int .i64 0, .bool false, .bool false, .int .i64 0, .int .i64 0, .int .i64 0, .slice none 0 0] ze42 rfl rfl (lt_of_ble rfl)
      apply Wk.asg (by conv => lhs; whnf) (lt_of_ble rfl)
      refine Wk.nil ?_
      refine AW.seq ?_
      apply AW.list
      apply Wk.mv (by conv => lhs; whnf) (lt_of_ble rfl)
      apply Wk.nilc rfl (lt_of_ble rfl)
      apply Wk.fad 6 13 true fd111_2 rfl (lt_of_ble rfl)
      apply Wk.fad 13 0 false fd109_2 rfl (lt_of_ble rfl)
      apply Wk.ld (i := 27) 1 false ty3 rfl rfl (by conv => lhs; whnf) (lt_of_ble rfl)
      apply Wk.bin rfl rfl (r := .bool false) (fun w => by simp [go_sem]; omega) (lt_of_ble rfl)
      apply Wk.mv (by conv => lhs; whnf) (lt_of_ble rfl)
      apply Wk.goff 15 (ok_move _) rfl rfl (by simp)
      apply Wk.goff 15 (ok_nil _) rfl rfl (by simp)
      apply Wk.goff 15 (ok_faddr fd111_7) rfl rfl (by simp)
      apply Wk.goff 15 (ok_load 27 ty4) rfl rfl (by simp)
      apply Wk.goff 15 (ok_un _ _ _) rfl rfl (by simp)
      apply Wk.pckF rfl (by conv => lhs; whnf) (lt_of_ble rfl)
      apply Wk.mv (by conv => lhs; whnf) (lt_of_ble rfl)
      apply Wk.goff 22 (ok_move _) rfl rfl (by simp)
      apply Wk.goff 22 (ok_nil _) rfl rfl (by simp)
      apply Wk.goff 22 (ok_faddr fd111_5) rfl rfl (by simp)
      apply Wk.goff 22 (ok_load 27 ty4) rfl rfl (by simp)
      apply Wk.goff 22 (ok_un _ _ _) rfl rfl (by simp)
      apply Wk.pckF rfl (by conv => lhs; whnf) (lt_of_ble rfl)
      apply Wk.asg (by conv => lhs; whnf) (lt_of_ble rfl)
      refine Wk.nil ?_
      refine AW.seq (AW.seq ?_)
      apply AW.list
      apply Wk.mv (by conv => lhs; whnf) (lt_of_ble rfl)
      apply Wk.nilc rfl (lt_of_ble rfl)
      apply Wk.fad 26 0 false fd111_9 rfl (lt_of_ble rfl)
      apply Wk.ld (i := 27) 1 false ty4 rfl rfl (by conv => lhs; whnf) (lt_of_ble rfl)
      apply Wk.mv (by conv => lhs; whnf) (lt_of_ble rfl)
      apply Wk.goff 33 (ok_move _) rfl rfl (by simp)
      apply Wk.pckT rfl (by conv => lhs; whnf) (lt_of_ble rfl)
      refine Wk.nil ?_
      refine AW.cond rfl (fun _ => ?_) (fun hc => by cases hc)
      refine AW.seq ?_
      apply AW.list
      apply Wk.bld [.int .i64 0, .int .i64 0, .int .i64 0, .bool false, .bool false, .int .i64 0, .int .i64 0, .int .i64 0, .slice none 0 0] [(0, 1), (1, 1), (2, 1), (3, 1), (4, 1), (5, 1), (6, 1), (7, 1), (8, 1)] bl42 rfl (by conv => lhs; whnf) (lt_of_ble rfl)
      apply Wk.sto (i := 6) 9 true ty42 rfl rfl rfl rfl (Nat.le_of_ble_eq_true rfl) (lt_of_ble rfl)
      apply Wk.asg (by conv => lhs; whnf) (lt_of_ble rfl)
      refine Wk.nil (AW.ret ?_)
      repeat (first | refine thenA_ret ?_ | refine inBlockA_ret ?_)
      exact RetQ.ret (sndB _ l qu) (.cons ⟨6, 0, _, _, _, rfl, rfl, ty42, rfl⟩ (.cons rfl .nil)) ⟨rfl, rfl⟩ (kept2 rfl rfl)
set_option maxHeartbeats 1000000 in
set_option maxRecDepth 100000 in
theorem itickOut (m w p u y a : Int) (f : Nat → Sl) (k : Nat) (s : Int) (l : Nat) (q : Bool) (t : Int) (hh : Bool) (c : Int) (dd : Bool) (qu : List Dat) (ack : Int) (bu : Bool) (hd : dd = false) (hi : ¬ (k = 0 ∧ hh = false ∧ q = false)) (ht : t = y) : Spec Try.prog 78 [.ptr 27 0, .d (.v (.int .i64 ack)), .d (.v (.bool bu))] (sndB (sndC m w p u y a f 0 (k : Int) s l q t hh c dd) l qu) (fun r bs => r = .tup [frmNo, .d (.v (.bool false))] ∧ bs = (sndB (sndC m w p u y a f 0 (k : Int) s l q t hh c true) l qu)) := by
  subst hd
  subst ht
  by_cases hk : k = 0
  · subst hk
    cases hh
    · obtain rfl : q = true := by cases q <;> simp_all
      refine Spec.intro (n := 65) (rv := [.cell 6 42, .tmp 7]) Try.func78 rfl rfl rfl (by simp) fun C hN hX => ?_
      refine AW.seq ?_
      apply AW.list
      apply Wk.alc 6 [.int .i64 0, .int .i64 0, .int .i64 0, .bool false, .bool false, .int .i64 0, .int .i64 0, .int .i64 0, .slice none 0 0] ze42 rfl rfl (lt_of_ble rfl)
      apply Wk.asg (by conv => lhs; whnf) (lt_of_ble rfl)
      refine Wk.nil ?_
      refine AW.seq ?_
      apply AW.list
      apply Wk.mv (by conv => lhs; whnf) (lt_of_ble rfl)
      apply Wk.nilc rfl (lt_of_ble rfl)
      apply Wk.fad 6 13 true fd111_2 rfl (lt_of_ble rfl)
      apply Wk.fad 13 0 false fd109_2 rfl (lt_of_ble rfl)
      apply Wk.ld (i := 27) 1 false ty3 rfl rfl (by conv => lhs; whnf) (lt_of_ble rfl)
      apply Wk.bin rfl rfl (r := .bool true) (fun w => by simp [go_sem]) (lt_of_ble rfl)
      apply Wk.mv (by conv => lhs; whnf) (lt_of_ble rfl)
      apply Wk.gon 15 rfl rfl
      apply Wk.mv (by conv => lhs; whnf) (lt_of_ble rfl)
      apply Wk.gon 15 rfl rfl
      apply Wk.nilc rfl (lt_of_ble rfl)
      apply Wk.gon 15 rfl rfl
      apply Wk.fad 24 0 false fd111_7 rfl (lt_of_ble rfl)
      apply Wk.gon 15 rfl rfl
      apply Wk.ld (i := 27) 1 false ty4 rfl rfl (by conv => lhs; whnf) (lt_of_ble rfl)
      apply Wk.gon 15 rfl rfl
      apply Wk.un rfl (fun w => by simp [go_sem] <;> rfl) (lt_of_ble rfl)
      apply Wk.pckT rfl (by conv => lhs; whnf) (lt_of_ble rfl)
      apply Wk.mv (by conv => lhs; whnf) (lt_of_ble rfl)
      apply Wk.gon 22 rfl rfl
      apply Wk.mv (by conv => lhs; whnf) (lt_of_ble rfl)
      apply Wk.gon 22 rfl rfl
      apply Wk.nilc rfl (lt_of_ble rfl)
      apply Wk.gon 22 rfl rfl
      apply Wk.fad 22 0 false fd111_5 rfl (lt_of_ble rfl)
      apply Wk.gon 22 rfl rfl
      apply Wk.ld (i := 27) 1 false ty4 rfl rfl (by conv => lhs; whnf) (lt_of_ble rfl)
      apply Wk.gon 22 rfl rfl
      apply Wk.un rfl (fun w => by simp [go_sem] <;> rfl) (lt_of_ble rfl)
      apply Wk.pckT rfl (by conv => lhs; whnf) (lt_of_ble rfl)
      apply Wk.asg (by conv => lhs; whnf) (lt_of_ble rfl)
      refine Wk.nil ?_
      refine AW.seq (AW.seq ?_)
      apply AW.list
      apply Wk.mv (by conv => lhs; whnf) (lt_of_ble rfl)
      apply Wk.nilc rfl (lt_of_ble rfl)
      apply Wk.fad 26 0 false fd111_9 rfl (lt_of_ble rfl)
      apply Wk.ld (i := 27) 1 false ty4 rfl rfl (by conv => lhs; whnf) (lt_of_ble rfl)
      apply Wk.mv (by conv => lhs; whnf) (lt_of_ble rfl)
      apply Wk.gon 33 rfl rfl
      apply Wk.mv (by conv => lhs; whnf) (lt_of_ble rfl)
      apply Wk.pckF rfl (by conv => lhs; whnf) (lt_of_ble rfl)
      refine Wk.nil ?_
      refine AW.cond rfl (fun hc => by cases hc) (fun _ => AW.skip (thenA_normal ?_))
      refine AW.seq (AW.seq ?_)
      apply AW.draw (hm := hmix) (cs := _)
      · apply Wk.mv (by conv => lhs; whnf) (lt_of_ble rfl)
        apply Wk.nilc rfl (lt_of_ble rfl)
        apply Wk.fad 23 0 false fd111_6 rfl (lt_of_ble rfl)
        apply Wk.ld (i := 27) 1 false ty3 rfl rfl (by conv => lhs; whnf) (lt_of_ble rfl)
        apply Wk.mv (by conv => lhs; whnf) (lt_of_ble rfl)
        apply Wk.nilc rfl (lt_of_ble rfl)
        apply Wk.fad 0 4 true fd111_0 rfl (lt_of_ble rfl)
        apply Wk.fad 4 0 false fd24_4 rfl (lt_of_ble rfl)
        apply Wk.ld (i := 27) 1 false ty3 rfl rfl (by conv => lhs; whnf) (lt_of_ble rfl)
        apply Wk.bin rfl rfl (r := .bool true) (fun w => by simp [go_sem]) (lt_of_ble rfl)
        refine Wk.nil ?_
        refine AW.cond rfl (fun _ => ?_) (fun hc => by cases hc)
        refine AW.seq ?_
        apply AW.list
        apply Wk.mv (by conv => lhs; whnf) (lt_of_ble rfl)
        apply Wk.nilc rfl (lt_of_ble rfl)
        apply Wk.fad 26 0 false fd111_9 rfl (lt_of_ble rfl)
        apply Wk.sto (i := 27) 1 false ty4 rfl rfl rfl rfl (Nat.le_of_ble_eq_true rfl) (lt_of_ble rfl)
        refine Wk.nil ?_
        refine AW.seq ?_
        apply AW.list
        apply Wk.bld [.int .i64 0, .int .i64 0, .int .i64 0, .bool false, .bool false, .int .i64 0, .int .i64 0, .int .i64 0, .slice none 0 0] [(0, 1), (1, 1), (2, 1), (3, 1), (4, 1), (5, 1), (6, 1), (7, 1), (8, 1)] bl42 rfl (by conv => lhs; whnf) (lt_of_ble rfl)
        apply Wk.sto (i := 6) 9 true ty42 rfl rfl rfl rfl (Nat.le_of_ble_eq_true rfl) (lt_of_ble rfl)
        apply Wk.asg (by conv => lhs; whnf) (lt_of_ble rfl)
        refine Wk.nil (AW.ret ?_)
        repeat (first | refine thenA_ret ?_ | refine inBlockA_ret ?_)
        exact RetQ.ret (sndB _ l qu) (.cons ⟨6, 0, _, _, _, rfl, rfl, ty42, rfl⟩ (.cons rfl .nil)) ⟨rfl, rfl⟩ (kept2 rfl rfl)
      · rfl
      · rfl
    · skip
      refine Spec.intro (n := 65) (rv := [.cell 6 42, .tmp 7]) Try.func78 rfl rfl rfl (by simp) fun C hN hX => ?_
      refine AW.seq ?_
      apply AW.list
      apply Wk.alc 6 [.int .i64 0, .int .i64 0, .int .i64 0, .bool false, .bool false, .int .i64 0, .int .i64 0, .int .i64 0, .slice none 0 0] ze42 rfl rfl (lt_of_ble rfl)
      apply Wk.asg (by conv => lhs; whnf) (lt_of_ble rfl)
      refine Wk.nil ?_
      refine AW.seq ?_
      apply AW.list
      apply Wk.mv (by conv => lhs; whnf) (lt_of_ble rfl)
      apply Wk.nilc rfl (lt_of_ble rfl)
      apply Wk.fad 6 13 true fd111_2 rfl (lt_of_ble rfl)
      apply Wk.fad 13 0 false fd109_2 rfl (lt_of_ble rfl)
      apply Wk.ld (i := 27) 1 false ty3 rfl rfl (by conv => lhs; whnf) (lt_of_ble rfl)
      apply Wk.bin rfl rfl (r := .bool true) (fun w => by simp [go_sem]) (lt_of_ble rfl)
      apply Wk.mv (by conv => lhs; whnf) (lt_of_ble rfl)
      apply Wk.gon 15 rfl rfl
      apply Wk.mv (by conv => lhs; whnf) (lt_of_ble rfl)
      apply Wk.gon 15 rfl rfl
      apply Wk.nilc rfl (lt_of_ble rfl)
      apply Wk.gon 15 rfl rfl
      apply Wk.fad 24 0 false fd111_7 rfl (lt_of_ble rfl)
      apply Wk.gon 15 rfl rfl
      apply Wk.ld (i := 27) 1 false ty4 rfl rfl (by conv => lhs; whnf) (lt_of_ble rfl)
      apply Wk.gon 15 rfl rfl
      apply Wk.un rfl (fun w => by simp [go_sem] <;> rfl) (lt_of_ble rfl)
      apply Wk.pckT rfl (by conv => lhs; whnf) (lt_of_ble rfl)
      apply Wk.mv (by conv => lhs; whnf) (lt_of_ble rfl)
      apply Wk.goff 22 (ok_move _) rfl rfl (by simp)
      apply Wk.goff 22 (ok_nil _) rfl rfl (by simp)
      apply Wk.goff 22 (ok_faddr fd111_5) rfl rfl (by simp)
      apply Wk.goff 22 (ok_load 27 ty4) rfl rfl (by simp)
      apply Wk.goff 22 (ok_un _ _ _) rfl rfl (by simp)
      apply Wk.pckF rfl (by conv => lhs; whnf) (lt_of_ble rfl)
      apply Wk.asg (by conv => lhs; whnf) (lt_of_ble rfl)
      refine Wk.nil ?_
      refine AW.seq (AW.seq ?_)
      apply AW.list
      apply Wk.mv (by conv => lhs; whnf) (lt_of_ble rfl)
      apply Wk.nilc rfl (lt_of_ble rfl)
      apply Wk.fad 26 0 false fd111_9 rfl (lt_of_ble rfl)
      apply Wk.ld (i := 27) 1 false ty4 rfl rfl (by conv => lhs; whnf) (lt_of_ble rfl)
      apply Wk.mv (by conv => lhs; whnf) (lt_of_ble rfl)
      apply Wk.gon 33 rfl rfl
      apply Wk.mv (by conv => lhs; whnf) (lt_of_ble rfl)
      apply Wk.pckF rfl (by conv => lhs; whnf) (lt_of_ble rfl)
      refine Wk.nil ?_
      refine AW.cond rfl (fun hc => by cases hc) (fun _ => AW.skip (thenA_normal ?_))
      refine AW.seq (AW.seq ?_)
      apply AW.draw (hm := hmix) (cs := _)
      · apply Wk.mv (by conv => lhs; whnf) (lt_of_ble rfl)
        apply Wk.nilc rfl (lt_of_ble rfl)
        apply Wk.fad 23 0 false fd111_6 rfl (lt_of_ble rfl)
        apply Wk.ld (i := 27) 1 false ty3 rfl rfl (by conv => lhs; whnf) (lt_of_ble rfl)
        apply Wk.mv (by conv => lhs; whnf) (lt_of_ble rfl)
        apply Wk.nilc rfl (lt_of_ble rfl)
        apply Wk.fad 0 4 true fd111_0 rfl (lt_of_ble rfl)
        apply Wk.fad 4 0 false fd24_4 rfl (lt_of_ble rfl)
        apply Wk.ld (i := 27) 1 false ty3 rfl rfl (by conv => lhs; whnf) (lt_of_ble rfl)
        apply Wk.bin rfl rfl (r := .bool true) (fun w => by simp [go_sem]) (lt_of_ble rfl)
        refine Wk.nil ?_
        refine AW.cond rfl (fun _ => ?_) (fun hc => by cases hc)
        refine AW.seq ?_
        apply AW.list
        apply Wk.mv (by conv => lhs; whnf) (lt_of_ble rfl)
        apply Wk.nilc rfl (lt_of_ble rfl)
        apply Wk.fad 26 0 false fd111_9 rfl (lt_of_ble rfl)
        apply Wk.sto (i := 27) 1 false ty4 rfl rfl rfl rfl (Nat.le_of_ble_eq_true rfl) (lt_of_ble rfl)
        refine Wk.nil ?_
        refine AW.seq ?_
        apply AW.list
        apply Wk.bld [.int .i64 0, .int .i64 0, .int .i64 0, .bool false, .bool false, .int .i64 0, .int .i64 0, .int .i64 0, .slice none 0 0] [(0, 1), (1, 1), (2, 1), (3, 1), (4, 1), (5, 1), (6, 1), (7, 1), (8, 1)] bl42 rfl (by conv => lhs; whnf) (lt_of_ble rfl)
        apply Wk.sto (i := 6) 9 true ty42 rfl rfl rfl rfl (Nat.le_of_ble_eq_true rfl) (lt_of_ble rfl)
        apply Wk.asg (by conv => lhs; whnf) (lt_of_ble rfl)
        refine Wk.nil (AW.ret ?_)
        repeat (first | refine thenA_ret ?_ | refine inBlockA_ret ?_)
        exact RetQ.ret (sndB _ l qu) (.cons ⟨6, 0, _, _, _, rfl, rfl, ty42, rfl⟩ (.cons rfl .nil)) ⟨rfl, rfl⟩ (kept2 rfl rfl)
      · rfl
      · rfl
  · skip
    refine Spec.intro (n := 65) (rv := [.cell 6 42, .tmp 7]) Try.func78 rfl rfl rfl (by simp) fun C hN hX => ?_
    refine AW.seq ?_
    apply AW.list
    apply Wk.alc 6 [.int .i64 0, .int .i64 0, .int .i64 0, .bool false, .bool false, .int .i64 0, .int .i64 0, .int .i64 0, .slice none 0 0] ze42 rfl rfl (lt_of_ble rfl)
    apply Wk.asg (by conv => lhs; whnf) (lt_of_ble rfl)
    refine Wk.nil ?_
    refine AW.seq ?_
    apply AW.list
    apply Wk.mv (by conv => lhs; whnf) (lt_of_ble rfl)
    apply Wk.nilc rfl (lt_of_ble rfl)
    apply Wk.fad 6 13 true fd111_2 rfl (lt_of_ble rfl)
    apply Wk.fad 13 0 false fd109_2 rfl (lt_of_ble rfl)
    apply Wk.ld (i := 27) 1 false ty3 rfl rfl (by conv => lhs; whnf) (lt_of_ble rfl)
    apply Wk.bin rfl rfl (r := .bool false) (fun w => by simp [go_sem]; omega) (lt_of_ble rfl)
    apply Wk.mv (by conv => lhs; whnf) (lt_of_ble rfl)
    apply Wk.goff 15 (ok_move _) rfl rfl (by simp)
    apply Wk.goff 15 (ok_nil _) rfl rfl (by simp)
    apply Wk.goff 15 (ok_faddr fd111_7) rfl rfl (by simp)
    apply Wk.goff 15 (ok_load 27 ty4) rfl rfl (by simp)
    apply Wk.goff 15 (ok_un _ _ _) rfl rfl (by simp)
    apply Wk.pckF rfl (by conv => lhs; whnf) (lt_of_ble rfl)
    apply Wk.mv (by conv => lhs; whnf) (lt_of_ble rfl)
    apply Wk.goff 22 (ok_move _) rfl rfl (by simp)
    apply Wk.goff 22 (ok_nil _) rfl rfl (by simp)
    apply Wk.goff 22 (ok_faddr fd111_5) rfl rfl (by simp)
    apply Wk.goff 22 (ok_load 27 ty4) rfl rfl (by simp)
    apply Wk.goff 22 (ok_un _ _ _) rfl rfl (by simp)
    apply Wk.pckF rfl (by conv => lhs; whnf) (lt_of_ble rfl)
    apply Wk.asg (by conv => lhs; whnf) (lt_of_ble rfl)
    refine Wk.nil ?_
    refine AW.seq (AW.seq ?_)
    apply AW.list
    apply Wk.mv (by conv => lhs; whnf) (lt_of_ble rfl)
    apply Wk.nilc rfl (lt_of_ble rfl)
    apply Wk.fad 26 0 false fd111_9 rfl (lt_of_ble rfl)
    apply Wk.ld (i := 27) 1 false ty4 rfl rfl (by conv => lhs; whnf) (lt_of_ble rfl)
    apply Wk.mv (by conv => lhs; whnf) (lt_of_ble rfl)
    apply Wk.gon 33 rfl rfl
    apply Wk.mv (by conv => lhs; whnf) (lt_of_ble rfl)
    apply Wk.pckF rfl (by conv => lhs; whnf) (lt_of_ble rfl)
    refine Wk.nil ?_
    refine AW.cond rfl (fun hc => by cases hc) (fun _ => AW.skip (thenA_normal ?_))
    refine AW.seq (AW.seq ?_)
    apply AW.draw (hm := hmix) (cs := _)
    · apply Wk.mv (by conv => lhs; whnf) (lt_of_ble rfl)
      apply Wk.nilc rfl (lt_of_ble rfl)
      apply Wk.fad 23 0 false fd111_6 rfl (lt_of_ble rfl)
      apply Wk.ld (i := 27) 1 false ty3 rfl rfl (by conv => lhs; whnf) (lt_of_ble rfl)
      apply Wk.mv (by conv => lhs; whnf) (lt_of_ble rfl)
      apply Wk.nilc rfl (lt_of_ble rfl)
      apply Wk.fad 0 4 true fd111_0 rfl (lt_of_ble rfl)
      apply Wk.fad 4 0 false fd24_4 rfl (lt_of_ble rfl)
      apply Wk.ld (i := 27) 1 false ty3 rfl rfl (by conv => lhs; whnf) (lt_of_ble rfl)
      apply Wk.bin rfl rfl (r := .bool true) (fun w => by simp [go_sem]) (lt_of_ble rfl)
      refine Wk.nil ?_
      refine AW.cond rfl (fun _ => ?_) (fun hc => by cases hc)
      refine AW.seq ?_
      apply AW.list
      apply Wk.mv (by conv => lhs; whnf) (lt_of_ble rfl)
      apply Wk.nilc rfl (lt_of_ble rfl)
      apply Wk.fad 26 0 false fd111_9 rfl (lt_of_ble rfl)
      apply Wk.sto (i := 27) 1 false ty4 rfl rfl rfl rfl (Nat.le_of_ble_eq_true rfl) (lt_of_ble rfl)
      refine Wk.nil ?_
      refine AW.seq ?_
      apply AW.list
      apply Wk.bld [.int .i64 0, .int .i64 0, .int .i64 0, .bool false, .bool false, .int .i64 0, .int .i64 0, .int .i64 0, .slice none 0 0] [(0, 1), (1, 1), (2, 1), (3, 1), (4, 1), (5, 1), (6, 1), (7, 1), (8, 1)] bl42 rfl (by conv => lhs; whnf) (lt_of_ble rfl)
      apply Wk.sto (i := 6) 9 true ty42 rfl rfl rfl rfl (Nat.le_of_ble_eq_true rfl) (lt_of_ble rfl)
      apply Wk.asg (by conv => lhs; whnf) (lt_of_ble rfl)
      refine Wk.nil (AW.ret ?_)
      repeat (first | refine thenA_ret ?_ | refine inBlockA_ret ?_)
      exact RetQ.ret (sndB _ l qu) (.cons ⟨6, 0, _, _, _, rfl, rfl, ty42, rfl⟩ (.cons rfl .nil)) ⟨rfl, rfl⟩ (kept2 rfl rfl)
    · rfl
    · rfl
set_option maxHeartbeats 1000000 in
set_option maxRecDepth 100000 in
theorem itickAsk (m w p u y a : Int) (f : Nat → Sl) (k : Nat) (s : Int) (l : Nat) (q : Bool) (t : Int) (hh : Bool) (c : Int) (dd : Bool) (qu : List Dat) (ack : Int) (bu : Bool) (hd : dd = false) (hi : ¬ (k = 0 ∧ hh = false ∧ q = false)) (ht : t ≠ y) (hb : 0 ≤ t ∧ t ≤ 1000000) : Spec Try.prog 78 [.ptr 27 0, .d (.v (.int .i64 ack)), .d (.v (.bool bu))] (sndB (sndC m w p u y a f 0 (k : Int) s l q t hh c dd) l qu) (fun r bs => r = .tup [frmQ ack bu, .d (.v (.bool true))] ∧ bs = (sndB (sndC m w p u y a f 0 (k : Int) s l true (t + 1) hh c dd) l qu)) := by
  subst hd
  by_cases hk : k = 0
  · subst hk
    cases hh
    · obtain rfl : q = true := by cases q <;> simp_all
      refine Spec.intro (n := 65) (rv := [.cell 6 42, .tmp 7]) Try.func78 rfl rfl rfl (by simp) fun C hN hX => ?_
      refine AW.seq ?_
      apply AW.list
      apply Wk.alc 6 [.int .i64 0, .int .i64 0, .int .i64 0, .bool false, .bool false, .int .i64 0, .int .i64 0, .int .i64 0, .slice none 0 0] ze42 rfl rfl (lt_of_ble rfl)
      apply Wk.asg (by conv => lhs; whnf) (lt_of_ble rfl)
      refine Wk.nil ?_
      refine AW.seq ?_
      apply AW.list
      apply Wk.mv (by conv => lhs; whnf) (lt_of_ble rfl)
      apply Wk.nilc rfl (lt_of_ble rfl)
      apply Wk.fad 6 13 true fd111_2 rfl (lt_of_ble rfl)
      apply Wk.fad 13 0 false fd109_2 rfl (lt_of_ble rfl)
      apply Wk.ld (i := 27) 1 false ty3 rfl rfl (by conv => lhs; whnf) (lt_of_ble rfl)
      apply Wk.bin rfl rfl (r := .bool true) (fun w => by simp [go_sem]) (lt_of_ble rfl)
      apply Wk.mv (by conv => lhs; whnf) (lt_of_ble rfl)
      apply Wk.gon 15 rfl rfl
      apply Wk.mv (by conv => lhs; whnf) (lt_of_ble rfl)
      apply Wk.gon 15 rfl rfl
      apply Wk.nilc rfl (lt_of_ble rfl)
      apply Wk.gon 15 rfl rfl
      apply Wk.fad 24 0 false fd111_7 rfl (lt_of_ble rfl)
      apply Wk.gon 15 rfl rfl
      apply Wk.ld (i := 27) 1 false ty4 rfl rfl (by conv => lhs; whnf) (lt_of_ble rfl)
      apply Wk.gon 15 rfl rfl
      apply Wk.un rfl (fun w => by simp [go_sem] <;> rfl) (lt_of_ble rfl)
      apply Wk.pckT rfl (by conv => lhs; whnf) (lt_of_ble rfl)
      apply Wk.mv (by conv => lhs; whnf) (lt_of_ble rfl)
      apply Wk.gon 22 rfl rfl
      apply Wk.mv (by conv => lhs; whnf) (lt_of_ble rfl)
      apply Wk.gon 22 rfl rfl
      apply Wk.nilc rfl (lt_of_ble rfl)
      apply Wk.gon 22 rfl rfl
      apply Wk.fad 22 0 false fd111_5 rfl (lt_of_ble rfl)
      apply Wk.gon 22 rfl rfl
      apply Wk.ld (i := 27) 1 false ty4 rfl rfl (by conv => lhs; whnf) (lt_of_ble rfl)
      apply Wk.gon 22 rfl rfl
      apply Wk.un rfl (fun w => by simp [go_sem] <;> rfl) (lt_of_ble rfl)
      apply Wk.pckT rfl (by conv => lhs; whnf) (lt_of_ble rfl)
      apply Wk.asg (by conv => lhs; whnf) (lt_of_ble rfl)
      refine Wk.nil ?_
      refine AW.seq (AW.seq ?_)
      apply AW.list
      apply Wk.mv (by conv => lhs; whnf) (lt_of_ble rfl)
      apply Wk.nilc rfl (lt_of_ble rfl)
      apply Wk.fad 26 0 false fd111_9 rfl (lt_of_ble rfl)
      apply Wk.ld (i := 27) 1 false ty4 rfl rfl (by conv => lhs; whnf) (lt_of_ble rfl)
      apply Wk.mv (by conv => lhs; whnf) (lt_of_ble rfl)
      apply Wk.gon 33 rfl rfl
      apply Wk.mv (by conv => lhs; whnf) (lt_of_ble rfl)
      apply Wk.pckF rfl (by conv => lhs; whnf) (lt_of_ble rfl)
      refine Wk.nil ?_
      refine AW.cond rfl (fun hc => by cases hc) (fun _ => AW.skip (thenA_normal ?_))
      refine AW.seq (AW.seq ?_)
      apply AW.draw (hm := hmix) (cs := _)
      · apply Wk.mv (by conv => lhs; whnf) (lt_of_ble rfl)
        apply Wk.nilc rfl (lt_of_ble rfl)
        apply Wk.fad 23 0 false fd111_6 rfl (lt_of_ble rfl)
        apply Wk.ld (i := 27) 1 false ty3 rfl rfl (by conv => lhs; whnf) (lt_of_ble rfl)
        apply Wk.mv (by conv => lhs; whnf) (lt_of_ble rfl)
        apply Wk.nilc rfl (lt_of_ble rfl)
        apply Wk.fad 0 4 true fd111_0 rfl (lt_of_ble rfl)
        apply Wk.fad 4 0 false fd24_4 rfl (lt_of_ble rfl)
        apply Wk.ld (i := 27) 1 false ty3 rfl rfl (by conv => lhs; whnf) (lt_of_ble rfl)
        apply Wk.bin rfl rfl (r := .bool false) (fun w => by simp [go_sem, ht]) (lt_of_ble rfl)
        refine Wk.nil ?_
        refine AW.cond rfl (fun hc => by cases hc) (fun _ => AW.skip (thenA_normal ?_))
        refine AW.seq ?_
        apply AW.list
        apply Wk.mv (by conv => lhs; whnf) (lt_of_ble rfl)
        apply Wk.nilc rfl (lt_of_ble rfl)
        apply Wk.fad 22 0 false fd111_5 rfl (lt_of_ble rfl)
        apply Wk.sto (i := 27) 1 false ty4 rfl rfl rfl rfl (Nat.le_of_ble_eq_true rfl) (lt_of_ble rfl)
        refine Wk.nil ?_
        refine AW.seq ?_
        apply AW.list
        apply Wk.mv (by conv => lhs; whnf) (lt_of_ble rfl)
        apply Wk.nilc rfl (lt_of_ble rfl)
        apply Wk.fad 23 0 false fd111_6 rfl (lt_of_ble rfl)
        apply Wk.ld (i := 27) 1 false ty3 rfl rfl (by conv => lhs; whnf) (lt_of_ble rfl)
        apply Wk.addi rfl rfl (by omega) (lt_of_ble rfl)
        apply Wk.nilc rfl (lt_of_ble rfl)
        apply Wk.fad 23 0 false fd111_6 rfl (lt_of_ble rfl)
        apply Wk.sto (i := 27) 1 false ty3 rfl rfl rfl rfl (Nat.le_of_ble_eq_true rfl) (lt_of_ble rfl)
        refine Wk.nil ?_
        refine AW.seq ?_
        apply AW.list
        apply Wk.mv (by conv => lhs; whnf) (lt_of_ble rfl)
        apply Wk.mv (by conv => lhs; whnf) (lt_of_ble rfl)
        apply Wk.dat (iwait_ok bu) Try.func104 rfl rfl rfl rfl rfl (lt_of_ble rfl)
        apply Wk.bld [.int .i64 0, .int .i64 0, .int .i64 0, .bool false, .bool false, .int .i64 0, .int .i64 0, .int .i64 0, .slice none 0 0] [(0, 1), (1, 1), (2, 1), (3, 1), (4, 1), (5, 1), (6, 1), (7, 1), (8, 1)] bl42 rfl (by conv => lhs; whnf) (lt_of_ble rfl)
        apply Wk.sto (i := 6) 9 true ty42 rfl rfl rfl rfl (Nat.le_of_ble_eq_true rfl) (lt_of_ble rfl)
        apply Wk.asg (by conv => lhs; whnf) (lt_of_ble rfl)
        refine Wk.nil (AW.ret ?_)
        exact RetQ.ret (sndB _ l qu) (.cons ⟨6, 0, _, _, _, rfl, rfl, ty42, rfl⟩ (.cons rfl .nil)) ⟨rfl, rfl⟩ (kept2 rfl rfl)
      · rfl
      · rfl
    · skip
      refine Spec.intro (n := 65) (rv := [.cell 6 42, .tmp 7]) Try.func78 rfl rfl rfl (by simp) fun C hN hX => ?_
      refine AW.seq ?_
      apply AW.list
      apply Wk.alc 6 [.int .i64 0, .int .i64 0, .int .i64 0, .bool false, .bool false, .int .i64 0, .int .i64 0, .int .i64 0, .slice none 0 0] ze42 rfl rfl (lt_of_ble rfl)
      apply Wk.asg (by conv => lhs; whnf) (lt_of_ble rfl)
      refine Wk.nil ?_
      refine AW.seq ?_
      apply AW.list
      apply Wk.mv (by conv => lhs; whnf) (lt_of_ble rfl)
      apply Wk.nilc rfl (lt_of_ble rfl)
      apply Wk.fad 6 13 true fd111_2 rfl (lt_of_ble rfl)
      apply Wk.fad 13 0 false fd109_2 rfl (lt_of_ble rfl)
      apply Wk.ld (i := 27) 1 false ty3 rfl rfl (by conv => lhs; whnf) (lt_of_ble rfl)
      apply Wk.bin rfl rfl (r := .bool true) (fun w => by simp [go_sem]) (lt_of_ble rfl)
      apply Wk.mv (by conv => lhs; whnf) (lt_of_ble rfl)
      apply Wk.gon 15 rfl rfl
      apply Wk.mv (by conv => lhs; whnf) (lt_of_ble rfl)
      apply Wk.gon 15 rfl rfl
      apply Wk.nilc rfl (lt_of_ble rfl)
      apply Wk.gon 15 rfl rfl
      apply Wk.fad 24 0 false fd111_7 rfl (lt_of_ble rfl)
      apply Wk.gon 15 rfl rfl
      apply Wk.ld (i := 27) 1 false ty4 rfl rfl (by conv => lhs; whnf) (lt_of_ble rfl)
      apply Wk.gon 15 rfl rfl
      apply Wk.un rfl (fun w => by simp [go_sem] <;> rfl) (lt_of_ble rfl)
      apply Wk.pckT rfl (by conv => lhs; whnf) (lt_of_ble rfl)
      apply Wk.mv (by conv => lhs; whnf) (lt_of_ble rfl)
      apply Wk.goff 22 (ok_move _) rfl rfl (by simp)
      apply Wk.goff 22 (ok_nil _) rfl rfl (by simp)
      apply Wk.goff 22 (ok_faddr fd111_5) rfl rfl (by simp)
      apply Wk.goff 22 (ok_load 27 ty4) rfl rfl (by simp)
      apply Wk.goff 22 (ok_un _ _ _) rfl rfl (by simp)
      apply Wk.pckF rfl (by conv => lhs; whnf) (lt_of_ble rfl)
      apply Wk.asg (by conv => lhs; whnf) (lt_of_ble rfl)
      refine Wk.nil ?_
      refine AW.seq (AW.seq ?_)
      apply AW.list
      apply Wk.mv (by conv => lhs; whnf) (lt_of_ble rfl)
      apply Wk.nilc rfl (lt_of_ble rfl)
      apply Wk.fad 26 0 false fd111_9 rfl (lt_of_ble rfl)
      apply Wk.ld (i := 27) 1 false ty4 rfl rfl (by conv => lhs; whnf) (lt_of_ble rfl)
      apply Wk.mv (by conv => lhs; whnf) (lt_of_ble rfl)
      apply Wk.gon 33 rfl rfl
      apply Wk.mv (by conv => lhs; whnf) (lt_of_ble rfl)
      apply Wk.pckF rfl (by conv => lhs; whnf) (lt_of_ble rfl)
      refine Wk.nil ?_
      refine AW.cond rfl (fun hc => by cases hc) (fun _ => AW.skip (thenA_normal ?_))
      refine AW.seq (AW.seq ?_)
      apply AW.draw (hm := hmix) (cs := _)
      · apply Wk.mv (by conv => lhs; whnf) (lt_of_ble rfl)
        apply Wk.nilc rfl (lt_of_ble rfl)
        apply Wk.fad 23 0 false fd111_6 rfl (lt_of_ble rfl)
        apply Wk.ld (i := 27) 1 false ty3 rfl rfl (by conv => lhs; whnf) (lt_of_ble rfl)
        apply Wk.mv (by conv => lhs; whnf) (lt_of_ble rfl)
        apply Wk.nilc rfl (lt_of_ble rfl)
        apply Wk.fad 0 4 true fd111_0 rfl (lt_of_ble rfl)
        apply Wk.fad 4 0 false fd24_4 rfl (lt_of_ble rfl)
        apply Wk.ld (i := 27) 1 false ty3 rfl rfl (by conv => lhs; whnf) (lt_of_ble rfl)
        apply Wk.bin rfl rfl (r := .bool false) (fun w => by simp [go_sem, ht]) (lt_of_ble rfl)
        refine Wk.nil ?_
        refine AW.cond rfl (fun hc => by cases hc) (fun _ => AW.skip (thenA_normal ?_))
        refine AW.seq ?_
        apply AW.list
        apply Wk.mv (by conv => lhs; whnf) (lt_of_ble rfl)
        apply Wk.nilc rfl (lt_of_ble rfl)
        apply Wk.fad 22 0 false fd111_5 rfl (lt_of_ble rfl)
        apply Wk.sto (i := 27) 1 false ty4 rfl rfl rfl rfl (Nat.le_of_ble_eq_true rfl) (lt_of_ble rfl)
        refine Wk.nil ?_
        refine AW.seq ?_
        apply AW.list
        apply Wk.mv (by conv => lhs; whnf) (lt_of_ble rfl)
        apply Wk.nilc rfl (lt_of_ble rfl)
        apply Wk.fad 23 0 false fd111_6 rfl (lt_of_ble rfl)
        apply Wk.ld (i := 27) 1 false ty3 rfl rfl (by conv => lhs; whnf) (lt_of_ble rfl)
        apply Wk.addi rfl rfl (by omega) (lt_of_ble rfl)
        apply Wk.nilc rfl (lt_of_ble rfl)
        apply Wk.fad 23 0 false fd111_6 rfl (lt_of_ble rfl)
        apply Wk.sto (i := 27) 1 false ty3 rfl rfl rfl rfl (Nat.le_of_ble_eq_true rfl) (lt_of_ble rfl)
        refine Wk.nil ?_
        refine AW.seq ?_
        apply AW.list
        apply Wk.mv (by conv => lhs; whnf) (lt_of_ble rfl)
        apply Wk.mv (by conv => lhs; whnf) (lt_of_ble rfl)
        apply Wk.dat (iwait_ok bu) Try.func104 rfl rfl rfl rfl rfl (lt_of_ble rfl)
        apply Wk.bld [.int .i64 0, .int .i64 0, .int .i64 0, .bool false, .bool false, .int .i64 0, .int .i64 0, .int .i64 0, .slice none 0 0] [(0, 1), (1, 1), (2, 1), (3, 1), (4, 1), (5, 1), (6, 1), (7, 1), (8, 1)] bl42 rfl (by conv => lhs; whnf) (lt_of_ble rfl)
        apply Wk.sto (i := 6) 9 true ty42 rfl rfl rfl rfl (Nat.le_of_ble_eq_true rfl) (lt_of_ble rfl)
        apply Wk.asg (by conv => lhs; whnf) (lt_of_ble rfl)
        refine Wk.nil (AW.ret ?_)
        exact RetQ.ret (sndB _ l qu) (.cons ⟨6, 0, _, _, _, rfl, rfl, ty42, rfl⟩ (.cons rfl .nil)) ⟨rfl, rfl⟩ (kept2 rfl rfl)
      · rfl
      · rfl
  · skip
    refine Spec.intro (n := 65) (rv := [.cell 6 42, .tmp 7]) Try.func78 rfl rfl rfl (by simp) fun C hN hX => ?_
    refine AW.seq ?_
    apply AW.list
    apply Wk.alc 6 [.int .i64 0, .int .i64 0, .int .i64 0, .bool false, .bool false, .int .i64 0, .int .i64 0, .int .i64 0, .slice none 0 0] ze42 rfl rfl (lt_of_ble rfl)
    apply Wk.asg (by conv => lhs; whnf) (lt_of_ble rfl)
    refine Wk.nil ?_
    refine AW.seq ?_
    apply AW.list
    apply Wk.mv (by conv => lhs; whnf) (lt_of_ble rfl)
    apply Wk.nilc rfl (lt_of_ble rfl)
    apply Wk.fad 6 13 true fd111_2 rfl (lt_of_ble rfl)
    apply Wk.fad 13 0 false fd109_2 rfl (lt_of_ble rfl)
    apply Wk.ld (i := 27) 1 false ty3 rfl rfl (by conv => lhs; whnf) (lt_of_ble rfl)
    apply Wk.bin rfl rfl (r := .bool false) (fun w => by simp [go_sem]; omega) (lt_of_ble rfl)
    apply Wk.mv (by conv => lhs; whnf) (lt_of_ble rfl)
    apply Wk.goff 15 (ok_move _) rfl rfl (by simp)
    apply Wk.goff 15 (ok_nil _) rfl rfl (by simp)
    apply Wk.goff 15 (ok_faddr fd111_7) rfl rfl (by simp)
    apply Wk.goff 15 (ok_load 27 ty4) rfl rfl (by simp)
    apply Wk.goff 15 (ok_un _ _ _) rfl rfl (by simp)
    apply Wk.pckF rfl (by conv => lhs; whnf) (lt_of_ble rfl)
    apply Wk.mv (by conv => lhs; whnf) (lt_of_ble rfl)
    apply Wk.goff 22 (ok_move _) rfl rfl (by simp)
    apply Wk.goff 22 (ok_nil _) rfl rfl (by simp)
    apply Wk.goff 22 (ok_faddr fd111_5) rfl rfl (by simp)
    apply Wk.goff 22 (ok_load 27 ty4) rfl rfl (by simp)
    apply Wk.goff 22 (ok_un _ _ _) rfl rfl (by simp)
    apply Wk.pckF rfl (by conv => lhs; whnf) (lt_of_ble rfl)
    apply Wk.asg (by conv => lhs; whnf) (lt_of_ble rfl)
    refine Wk.nil ?_
    refine AW.seq (AW.seq ?_)
    apply AW.list
    apply Wk.mv (by conv => lhs; whnf) (lt_of_ble rfl)
    apply Wk.nilc rfl (lt_of_ble rfl)
    apply Wk.fad 26 0 false fd111_9 rfl (lt_of_ble rfl)
    apply Wk.ld (i := 27) 1 false ty4 rfl rfl (by conv => lhs; whnf) (lt_of_ble rfl)
    apply Wk.mv (by conv => lhs; whnf) (lt_of_ble rfl)
    apply Wk.gon 33 rfl rfl
    apply Wk.mv (by conv => lhs; whnf) (lt_of_ble rfl)
    apply Wk.pckF rfl (by conv => lhs; whnf) (lt_of_ble rfl)
    refine Wk.nil ?_
    refine AW.cond rfl (fun hc => by cases hc) (fun _ => AW.skip (thenA_normal ?_))
    refine AW.seq (AW.seq ?_)
    apply AW.draw (hm := hmix) (cs := _)
    · apply Wk.mv (by conv => lhs; whnf) (lt_of_ble rfl)
      apply Wk.nilc rfl (lt_of_ble rfl)
      apply Wk.fad 23 0 false fd111_6 rfl (lt_of_ble rfl)
      apply Wk.ld (i := 27) 1 false ty3 rfl rfl (by conv => lhs; whnf) (lt_of_ble rfl)
      apply Wk.mv (by conv => lhs; whnf) (lt_of_ble rfl)
      apply Wk.nilc rfl (lt_of_ble rfl)
      apply Wk.fad 0 4 true fd111_0 rfl (lt_of_ble rfl)
      apply Wk.fad 4 0 false fd24_4 rfl (lt_of_ble rfl)
      apply Wk.ld (i := 27) 1 false ty3 rfl rfl (by conv => lhs; whnf) (lt_of_ble rfl)
      apply Wk.bin rfl rfl (r := .bool false) (fun w => by simp [go_sem, ht]) (lt_of_ble rfl)
      refine Wk.nil ?_
      refine AW.cond rfl (fun hc => by cases hc) (fun _ => AW.skip (thenA_normal ?_))
      refine AW.seq ?_
      apply AW.list
      apply Wk.mv (by conv => lhs; whnf) (lt_of_ble rfl)
      apply Wk.nilc rfl (lt_of_ble rfl)
      apply Wk.fad 22 0 false fd111_5 rfl (lt_of_ble rfl)
      apply Wk.sto (i := 27) 1 false ty4 rfl rfl rfl rfl (Nat.le_of_ble_eq_true rfl) (lt_of_ble rfl)
      refine Wk.nil ?_
      refine AW.seq ?_
      apply AW.list
      apply Wk.mv (by conv => lhs; whnf) (lt_of_ble rfl)
      apply Wk.nilc rfl (lt_of_ble rfl)
      apply Wk.fad 23 0 false fd111_6 rfl (lt_of_ble rfl)
      apply Wk.ld (i := 27) 1 false ty3 rfl rfl (by conv => lhs; whnf) (lt_of_ble rfl)
      apply Wk.addi rfl rfl (by omega) (lt_of_ble rfl)
      apply Wk.nilc rfl (lt_of_ble rfl)
      apply Wk.fad 23 0 false fd111_6 rfl (lt_of_ble rfl)
      apply Wk.sto (i := 27) 1 false ty3 rfl rfl rfl rfl (Nat.le_of_ble_eq_true rfl) (lt_of_ble rfl)
      refine Wk.nil ?_
      refine AW.seq ?_
      apply AW.list
      apply Wk.mv (by conv => lhs; whnf) (lt_of_ble rfl)
      apply Wk.mv (by conv => lhs; whnf) (lt_of_ble rfl)
      apply Wk.dat (iwait_ok bu) Try.func104 rfl rfl rfl rfl rfl (lt_of_ble rfl)
      apply Wk.bld [.int .i64 0, .int .i64 0, .int .i64 0, .bool false, .bool false, .int .i64 0, .int .i64 0, .int .i64 0, .slice none 0 0] [(0, 1), (1, 1), (2, 1), (3, 1), (4, 1), (5, 1), (6, 1), (7, 1), (8, 1)] bl42 rfl (by conv => lhs; whnf) (lt_of_ble rfl)
      apply Wk.sto (i := 6) 9 true ty42 rfl rfl rfl rfl (Nat.le_of_ble_eq_true rfl) (lt_of_ble rfl)
      apply Wk.asg (by conv => lhs; whnf) (lt_of_ble rfl)
      refine Wk.nil (AW.ret ?_)
      exact RetQ.ret (sndB _ l qu) (.cons ⟨6, 0, _, _, _, rfl, rfl, ty42, rfl⟩ (.cons rfl .nil)) ⟨rfl, rfl⟩ (kept2 rfl rfl)
    · rfl
    · rfl
end Go.Proofs.Ytdojkmjamilllaa

/- TxTick of the program, over what values read as. Written by tools/mk_AbsTickI.py. -/
namespace Go.Proofs.Ytdojkmjamilllaa
open Go Go.RowKit
theorem itxb {m w p u y : Int} {x : TX} {b : Bool} (h : txOkB ⟨m, w, p, u, y⟩ x = b) : DataOk Try.prog 17 [cfgA m w p u y, txA x] (.d (.v (.bool b))) := h ▸ itx_ok m w p u y x
theorem iisnum {n : Int} {b : Bool} (h : inB n 0 7 = b) : DataOk Try.prog 66 [.d (.v (.int .i64 n))] (.d (.v (.bool b))) := by
  subst h
  refine DataOk.lift fun w F E H args _ hs hd => ?_
  obtain ⟨v, rfl, hv⟩ := arg1 hs hd
  obtain rfl := den_v hv
  refine (number_any n w).mono ?_
  rintro e w' ⟨rfl, rfl⟩
  exact ⟨rfl, Below.refl _ _⟩
theorem txOk_four {o : Opt} {x : TX} (h : txOkB o x = true) : x.fl.length ≤ 4 ∧ x.few := by
  have f := txOk_facts h
  obtain ⟨-, hw, -, -, -, -, -, hl, -, -, hq, -, -, -, h1, h2⟩ := f
  refine ⟨by omega, ⟨by omega, fun d hd => ?_⟩, ⟨by omega, fun d hd => ?_⟩⟩
  · have := partM_len (h1 d hd); omega
  · have := partM_len (h2 d hd); omega
/-- The next number is told by the first one and how many there are. -/
theorem txOk_next {o : Opt} {x : TX} (h : txOkB o x = true) : (x.a + (x.fl.length : Int)) % 8 = x.n ∧ 0 ≤ x.a ∧ x.a < 8 := by
  have f := txOk_facts h
  have hn := (inB_iff _ _ _).1 f.2.2.2.2.2.1
  have ha := (inB_iff _ _ _).1 f.2.2.2.2.2.2.1
  have hf := f.2.2.2.2.2.2.2.2.1
  rw [farF_in (by omega) (by omega)] at hf
  omega
theorem ring_at {fl : List Dat} (h4 : fl.length ≤ 4) : ∀ i d, fl[i]? = some d → ringF fl ((0 + i) % 4) = sl (some d) := by
  intro i d h
  have hi := (List.getElem?_eq_some_iff.1 h).1
  rw [show (0 + i) % 4 = i by omega, ringF, h]
set_option maxHeartbeats 4000000 in
set_option maxRecDepth 100000 in
theorem itickNo (m0 w0 p0 u0 y0 : Int) (x : TX) (ack : Int) (bu : Bool) (hno : txOkB ⟨m0, w0, p0, u0, y0⟩ x = false ∨ inB ack 0 7 = false) :
    DataOk Try.prog 36 [cfgA m0 w0 p0 u0 y0, txA x, .d (.v (.int .i64 ack)), .d (.v (.bool bu))] (.tup [txNil, frmNo, .d (.v (.bool false))]) := by
  cases hok : txOkB ⟨m0, w0, p0, u0, y0⟩ x
  · skip
    refine Spec.intro (n := 39) (rv := [.cell 8 27, .cell 9 42, .tmp 10]) Try.func36 rfl rfl rfl (by simp) fun C hN hX => ?_
    refine AW.seq ?_
    apply AW.list
    apply Wk.bx 4 rfl rfl (lt_of_ble rfl)
    apply Wk.bx 50 rfl rfl (lt_of_ble rfl)
    apply Wk.alc 8 [.int .i64 0, .int .i64 0, .slice none 0 0, .int .i64 0, .slice none 0 0, .bool false, .int .i64 0, .bool false, .int .i64 0, .bool false] ze27 rfl rfl (lt_of_ble rfl)
    apply Wk.alc 9 [.int .i64 0, .int .i64 0, .int .i64 0, .bool false, .bool false, .int .i64 0, .int .i64 0, .int .i64 0, .slice none 0 0] ze42 rfl rfl (lt_of_ble rfl)
    apply Wk.asg (by conv => lhs; whnf) (lt_of_ble rfl)
    refine Wk.nil ?_
    refine AW.seq (AW.seq ?_)
    apply AW.list
    apply Wk.ld (i := 4) 5 true ty24 rfl rfl (by conv => lhs; whnf) (lt_of_ble rfl)
    apply Wk.ld (i := 50) 10 true ty27 rfl rfl (by conv => lhs; whnf) (lt_of_ble rfl)
    apply Wk.dat (itxb hok) Try.func17 rfl rfl rfl rfl rfl (lt_of_ble rfl)
    apply Wk.un rfl (fun w => by simp [go_sem] <;> rfl) (lt_of_ble rfl)
    apply Wk.mv (by conv => lhs; whnf) (lt_of_ble rfl)
    apply Wk.goff 18 (ok_move _) rfl rfl (by simp)
    apply Wk.goff 18 (ok_datw ((iisnum (n := 0) rfl).w rfl) Try.func66 rfl rfl) rfl rfl (by simp)
    apply Wk.goff 18 (ok_un _ _ _) rfl rfl (by simp)
    apply Wk.pckT rfl (by conv => lhs; whnf) (lt_of_ble rfl)
    refine Wk.nil ?_
    refine AW.cond rfl (fun _ => ?_) (fun hc => by cases hc)
    refine AW.seq ?_
    apply AW.list
    apply Wk.bld [.int .i64 0, .int .i64 0, .slice none 0 0, .int .i64 0, .slice none 0 0, .bool false, .int .i64 0, .bool false, .int .i64 0, .bool false] [(0, 1), (1, 1), (2, 1), (3, 1), (4, 1), (5, 1), (6, 1), (7, 1), (8, 1), (9, 1)] bl27 rfl (by conv => lhs; whnf) (lt_of_ble rfl)
    apply Wk.bld [.int .i64 0, .int .i64 0, .int .i64 0, .bool false, .bool false, .int .i64 0, .int .i64 0, .int .i64 0, .slice none 0 0] [(0, 1), (1, 1), (2, 1), (3, 1), (4, 1), (5, 1), (6, 1), (7, 1), (8, 1)] bl42 rfl (by conv => lhs; whnf) (lt_of_ble rfl)
    apply Wk.sto (i := 8) 10 true ty27 rfl rfl rfl rfl (Nat.le_of_ble_eq_true rfl) (lt_of_ble rfl)
    apply Wk.sto (i := 9) 9 true ty42 rfl rfl rfl rfl (Nat.le_of_ble_eq_true rfl) (lt_of_ble rfl)
    apply Wk.asg (by conv => lhs; whnf) (lt_of_ble rfl)
    refine Wk.nil (AW.ret ?_)
    repeat (first | refine thenA_ret ?_ | refine inBlockA_ret ?_)
    exact RetQ.ret [] (.cons ⟨8, 0, _, _, _, rfl, rfl, ty27, rfl⟩ (.cons ⟨9, 0, _, _, _, rfl, rfl, ty42, rfl⟩ (.cons rfl .nil))) ⟨rfl, rfl⟩ none_kept
  · have hack : inB ack 0 7 = false := by rcases hno with h | h <;> first | exact h | (rw [hok] at h; cases h)
    refine Spec.intro (n := 39) (rv := [.cell 8 27, .cell 9 42, .tmp 10]) Try.func36 rfl rfl rfl (by simp) fun C hN hX => ?_
    refine AW.seq ?_
    apply AW.list
    apply Wk.bx 4 rfl rfl (lt_of_ble rfl)
    apply Wk.bx 50 rfl rfl (lt_of_ble rfl)
    apply Wk.alc 8 [.int .i64 0, .int .i64 0, .slice none 0 0, .int .i64 0, .slice none 0 0, .bool false, .int .i64 0, .bool false, .int .i64 0, .bool false] ze27 rfl rfl (lt_of_ble rfl)
    apply Wk.alc 9 [.int .i64 0, .int .i64 0, .int .i64 0, .bool false, .bool false, .int .i64 0, .int .i64 0, .int .i64 0, .slice none 0 0] ze42 rfl rfl (lt_of_ble rfl)
    apply Wk.asg (by conv => lhs; whnf) (lt_of_ble rfl)
    refine Wk.nil ?_
    refine AW.seq (AW.seq ?_)
    apply AW.list
    apply Wk.ld (i := 4) 5 true ty24 rfl rfl (by conv => lhs; whnf) (lt_of_ble rfl)
    apply Wk.ld (i := 50) 10 true ty27 rfl rfl (by conv => lhs; whnf) (lt_of_ble rfl)
    apply Wk.dat (itxb hok) Try.func17 rfl rfl rfl rfl rfl (lt_of_ble rfl)
    apply Wk.un rfl (fun w => by simp [go_sem] <;> rfl) (lt_of_ble rfl)
    apply Wk.mv (by conv => lhs; whnf) (lt_of_ble rfl)
    apply Wk.gon 18 rfl rfl
    apply Wk.mv (by conv => lhs; whnf) (lt_of_ble rfl)
    apply Wk.gon 18 rfl rfl
    apply Wk.dat (iisnum hack) Try.func66 rfl rfl rfl rfl rfl (lt_of_ble rfl)
    apply Wk.gon 18 rfl rfl
    apply Wk.un rfl (fun w => by simp [go_sem] <;> rfl) (lt_of_ble rfl)
    apply Wk.pckF rfl (by conv => lhs; whnf) (lt_of_ble rfl)
    refine Wk.nil ?_
    refine AW.cond rfl (fun _ => ?_) (fun hc => by cases hc)
    refine AW.seq ?_
    apply AW.list
    apply Wk.bld [.int .i64 0, .int .i64 0, .slice none 0 0, .int .i64 0, .slice none 0 0, .bool false, .int .i64 0, .bool false, .int .i64 0, .bool false] [(0, 1), (1, 1), (2, 1), (3, 1), (4, 1), (5, 1), (6, 1), (7, 1), (8, 1), (9, 1)] bl27 rfl (by conv => lhs; whnf) (lt_of_ble rfl)
    apply Wk.bld [.int .i64 0, .int .i64 0, .int .i64 0, .bool false, .bool false, .int .i64 0, .int .i64 0, .int .i64 0, .slice none 0 0] [(0, 1), (1, 1), (2, 1), (3, 1), (4, 1), (5, 1), (6, 1), (7, 1), (8, 1)] bl42 rfl (by conv => lhs; whnf) (lt_of_ble rfl)
    apply Wk.sto (i := 8) 10 true ty27 rfl rfl rfl rfl (Nat.le_of_ble_eq_true rfl) (lt_of_ble rfl)
    apply Wk.sto (i := 9) 9 true ty42 rfl rfl rfl rfl (Nat.le_of_ble_eq_true rfl) (lt_of_ble rfl)
    apply Wk.asg (by conv => lhs; whnf) (lt_of_ble rfl)
    refine Wk.nil (AW.ret ?_)
    repeat (first | refine thenA_ret ?_ | refine inBlockA_ret ?_)
    exact RetQ.ret [] (.cons ⟨8, 0, _, _, _, rfl, rfl, ty27, rfl⟩ (.cons ⟨9, 0, _, _, _, rfl, rfl, ty42, rfl⟩ (.cons rfl .nil))) ⟨rfl, rfl⟩ none_kept
set_option maxHeartbeats 4000000 in
set_option maxRecDepth 100000 in
theorem itickYesN (m0 w0 p0 u0 y0 n a : Int) (s : Int) (qu : List Dat) (q : Bool) (t : Int) (hh : Bool) (c : Int) (dd : Bool) (q' : Bool) (t' : Int) (d' : Bool) (ack : Int) (bu : Bool) (k1 s1 c1 : Int) (p1 f1 : Bool) (y1 g1 l1 : Int) (b : Bool) (hok : txOkB ⟨m0, w0, p0, u0, y0⟩ ⟨n, a, [], s, qu, q, t, hh, c, dd⟩ = true) (hack : inB ack 0 7 = true)
    (ht : Spec Try.prog 78 [.ptr 27 0, .d (.v (.int .i64 ack)), .d (.v (.bool bu))] (sndB (sndC m0 w0 p0 u0 y0 a (ringF []) 0 (([] : List Dat).length : Int) s qu.length q t hh c dd) qu.length qu) (fun r bs => r = .tup [frmG k1 s1 c1 p1 f1 y1 g1 l1, .d (.v (.bool b))] ∧ bs = sndB (sndC m0 w0 p0 u0 y0 a (ringF []) 0 (([] : List Dat).length : Int) s qu.length q' t' hh c d') qu.length qu)) :
    DataOk Try.prog 36 [cfgA m0 w0 p0 u0 y0, txA ⟨n, a, [], s, qu, q, t, hh, c, dd⟩, .d (.v (.int .i64 ack)), .d (.v (.bool bu))] (.tup [txA ⟨n, a, [], s, qu, q', t', hh, c, d'⟩, frmG k1 s1 c1 p1 f1 y1 g1 l1, .d (.v (.bool b))]) := by
  have h4 := txOk_four hok
  have hn := txOk_next hok
  simp only at h4 hn
  have cn := inew m0 w0 p0 u0 y0 ⟨n, a, [], s, qu, q, t, hh, c, dd⟩ h4.1 h4.2
  simp only at cn
  have cs := istateN m0 w0 p0 u0 y0 a (ringF []) s qu.length q' t' hh c d' qu 0 (by omega) h4.1 (ring_at h4.1) ⟨hn.2.1, hn.2.2⟩
  rw [hn.1] at cs
  refine Spec.intro (n := 39) (rv := [.cell 8 27, .cell 9 42, .tmp 10]) Try.func36 rfl rfl rfl (by simp) fun C hN hX => ?_
  refine AW.seq ?_
  apply AW.list
  apply Wk.bx 4 rfl rfl (lt_of_ble rfl)
  apply Wk.bx 50 rfl rfl (lt_of_ble rfl)
  apply Wk.alc 8 [.int .i64 0, .int .i64 0, .slice none 0 0, .int .i64 0, .slice none 0 0, .bool false, .int .i64 0, .bool false, .int .i64 0, .bool false] ze27 rfl rfl (lt_of_ble rfl)
  apply Wk.alc 9 [.int .i64 0, .int .i64 0, .int .i64 0, .bool false, .bool false, .int .i64 0, .int .i64 0, .int .i64 0, .slice none 0 0] ze42 rfl rfl (lt_of_ble rfl)
  apply Wk.asg (by conv => lhs; whnf) (lt_of_ble rfl)
  refine Wk.nil ?_
  refine AW.seq (AW.seq ?_)
  apply AW.list
  apply Wk.ld (i := 4) 5 true ty24 rfl rfl (by conv => lhs; whnf) (lt_of_ble rfl)
  apply Wk.ld (i := 50) 10 true ty27 rfl rfl (by conv => lhs; whnf) (lt_of_ble rfl)
  apply Wk.dat (itxb hok) Try.func17 rfl rfl rfl rfl rfl (lt_of_ble rfl)
  apply Wk.un rfl (fun w => by simp [go_sem] <;> rfl) (lt_of_ble rfl)
  apply Wk.mv (by conv => lhs; whnf) (lt_of_ble rfl)
  apply Wk.gon 18 rfl rfl
  apply Wk.mv (by conv => lhs; whnf) (lt_of_ble rfl)
  apply Wk.gon 18 rfl rfl
  apply Wk.dat (iisnum hack) Try.func66 rfl rfl rfl rfl rfl (lt_of_ble rfl)
  apply Wk.gon 18 rfl rfl
  apply Wk.un rfl (fun w => by simp [go_sem] <;> rfl) (lt_of_ble rfl)
  apply Wk.pckF rfl (by conv => lhs; whnf) (lt_of_ble rfl)
  refine Wk.nil ?_
  refine AW.cond rfl (fun hc => by cases hc) (fun _ => AW.skip (thenA_normal ?_))
  refine AW.seq ?_
  apply AW.list
  apply Wk.ld (i := 4) 5 true ty24 rfl rfl (by conv => lhs; whnf) (lt_of_ble rfl)
  apply Wk.ld (i := 50) 10 true ty27 rfl rfl (by conv => lhs; whnf) (lt_of_ble rfl)
  apply Wk.cal [] [27, 66] cn (in_snd _ rfl _ _ _ _ _ _ _ _ _ _ _ _ _ _ _ _ _ _) ⟨_, _, rfl, rfl⟩ Try.func51 rfl rfl rfl rfl (by simp; exact ⟨rfl, rfl⟩) rfl (fun i hi => by cases hi) (lt_of_ble rfl)
  rintro r bs' ⟨rfl, rfl⟩
  apply Wk.asg (by conv => lhs; whnf) (lt_of_ble rfl)
  refine Wk.nil ?_
  refine AW.seq ?_
  apply AW.list
  apply Wk.mv (by conv => lhs; whnf) (lt_of_ble rfl)
  apply Wk.mv (by conv => lhs; whnf) (lt_of_ble rfl)
  apply Wk.mv (by conv => lhs; whnf) (lt_of_ble rfl)
  apply Wk.cal [27, 66] [] ht (in_snd _ rfl _ _ _ _ _ _ _ _ _ _ _ _ _ _ _ _ _ _) ⟨_, _, rfl, rfl⟩ Try.func78 rfl rfl rfl rfl (fun i hi => by cases hi) rfl (two_in rfl (by exact within_parts _)) (lt_of_ble rfl)
  rintro r bs' ⟨rfl, rfl⟩
  apply Wk.mv (by conv => lhs; whnf) (lt_of_ble rfl)
  apply Wk.ext rfl rfl (lt_of_ble rfl)
  apply Wk.ext rfl rfl (lt_of_ble rfl)
  apply Wk.alc 12 [.int .i64 0, .int .i64 0, .int .i64 0, .bool false, .bool false, .int .i64 0, .int .i64 0, .int .i64 0, .slice none 0 0] ze42 rfl rfl (lt_of_ble rfl)
  apply Wk.sto (i := 12) 9 true ty42 rfl rfl rfl rfl (Nat.le_of_ble_eq_true rfl) (lt_of_ble rfl)
  apply Wk.asg (by conv => lhs; whnf) (lt_of_ble rfl)
  refine Wk.nil ?_
  refine AW.seq ?_
  apply AW.draw (hm := hmix) (cs := _)
  · apply Wk.mv (by conv => lhs; whnf) (lt_of_ble rfl)
    apply Wk.calr [27, 66] [17] cs (in_sndF _ rfl _ _ _ _ _ _ _ _ _ _ _ _ _ _ _ _ _ _ []) (by rintro r bs' ⟨rfl, rfl⟩; exact keep2) ⟨_, _, rfl, rfl⟩ Try.func53 rfl rfl rfl rfl (by simp; rfl) rfl (two_in rfl (by exact within_parts _)) (lt_of_ble rfl)
    rintro r bs' ⟨rfl, rfl⟩
    apply Wk.ld (i := 12) 9 true ty42 rfl rfl (by conv => lhs; whnf) (lt_of_ble rfl)
    apply Wk.mv (by conv => lhs; whnf) (lt_of_ble rfl)
    apply Wk.sto (i := 8) 10 true ty27 rfl rfl rfl rfl (Nat.le_of_ble_eq_true rfl) (lt_of_ble rfl)
    apply Wk.sto (i := 9) 9 true ty42 rfl rfl rfl rfl (Nat.le_of_ble_eq_true rfl) (lt_of_ble rfl)
    apply Wk.asg (by conv => lhs; whnf) (lt_of_ble rfl)
    refine Wk.nil ?_
    refine AW.thawc (j := 8) (c := 4) (i := 66) _ rfl rfl rfl (asData_parts qu) hX.none ?_
    refine AW.nrmb (j := 8) rfl ?_
    refine AW.ret ?_
    exact RetQ.ret [] (.cons ⟨8, 0, _, _, _, rfl, rfl, ty27, rfl⟩ (.cons ⟨9, 0, _, _, _, rfl, rfl, ty42, rfl⟩ (.cons rfl .nil))) ⟨rfl, rfl⟩ none_kept
  · rfl
  · rfl
set_option maxHeartbeats 4000000 in
set_option maxRecDepth 100000 in
theorem itickYesO (m0 w0 p0 u0 y0 n a : Int) (fl : List Dat) (hne : fl ≠ []) (s : Int) (qu : List Dat) (q : Bool) (t : Int) (hh : Bool) (c : Int) (dd : Bool) (q' : Bool) (t' : Int) (d' : Bool) (ack : Int) (bu : Bool) (k1 s1 c1 : Int) (p1 f1 : Bool) (y1 g1 l1 : Int) (b : Bool) (hok : txOkB ⟨m0, w0, p0, u0, y0⟩ ⟨n, a, fl, s, qu, q, t, hh, c, dd⟩ = true) (hack : inB ack 0 7 = true)
    (ht : Spec Try.prog 78 [.ptr 27 0, .d (.v (.int .i64 ack)), .d (.v (.bool bu))] (sndB (sndC m0 w0 p0 u0 y0 a (ringF fl) 0 ((fl : List Dat).length : Int) s qu.length q t hh c dd) qu.length qu) (fun r bs => r = .tup [frmG k1 s1 c1 p1 f1 y1 g1 l1, .d (.v (.bool b))] ∧ bs = sndB (sndC m0 w0 p0 u0 y0 a (ringF fl) 0 ((fl : List Dat).length : Int) s qu.length q' t' hh c d') qu.length qu)) :
    DataOk Try.prog 36 [cfgA m0 w0 p0 u0 y0, txA ⟨n, a, fl, s, qu, q, t, hh, c, dd⟩, .d (.v (.int .i64 ack)), .d (.v (.bool bu))] (.tup [txA ⟨n, a, fl, s, qu, q', t', hh, c, d'⟩, frmG k1 s1 c1 p1 f1 y1 g1 l1, .d (.v (.bool b))]) := by
  have h4 := txOk_four hok
  have hn := txOk_next hok
  simp only at h4 hn
  have cn := inew m0 w0 p0 u0 y0 ⟨n, a, fl, s, qu, q, t, hh, c, dd⟩ h4.1 h4.2
  simp only at cn
  have cs := istateO m0 w0 p0 u0 y0 a (ringF fl) s qu.length q' t' hh c d' qu 0 fl hne (by omega) h4.1 (ring_at h4.1) ⟨hn.2.1, hn.2.2⟩
  rw [hn.1] at cs
  have ev : flV fl = .own 17 (fl.length - 1) := if_neg hne
  have ex : flX fl = [(17, .own (fl.length - 1) 47 3 (piecesA fl))] := if_neg hne
  have ip : PostIn [27, 66, 17] (fun r bs => r = stA0 n a (flV fl) s qu.length q' t' hh c d' ∧ bs = sndB (sndC m0 w0 p0 u0 y0 a (ringF fl) 0 ((fl : List Dat).length : Int) s qu.length q' t' hh c d') qu.length qu ++ flX fl) := in_sndF _ (by rw [ev]; rfl) _ _ _ _ _ _ _ _ _ _ _ _ _ _ _ _ _ _ _
  rw [ev, ex] at cs ip
  refine Spec.intro (n := 39) (rv := [.cell 8 27, .cell 9 42, .tmp 10]) Try.func36 rfl rfl rfl (by simp) fun C hN hX => ?_
  refine AW.seq ?_
  apply AW.list
  apply Wk.bx 4 rfl rfl (lt_of_ble rfl)
  apply Wk.bx 50 rfl rfl (lt_of_ble rfl)
  apply Wk.alc 8 [.int .i64 0, .int .i64 0, .slice none 0 0, .int .i64 0, .slice none 0 0, .bool false, .int .i64 0, .bool false, .int .i64 0, .bool false] ze27 rfl rfl (lt_of_ble rfl)
  apply Wk.alc 9 [.int .i64 0, .int .i64 0, .int .i64 0, .bool false, .bool false, .int .i64 0, .int .i64 0, .int .i64 0, .slice none 0 0] ze42 rfl rfl (lt_of_ble rfl)
  apply Wk.asg (by conv => lhs; whnf) (lt_of_ble rfl)
  refine Wk.nil ?_
  refine AW.seq (AW.seq ?_)
  apply AW.list
  apply Wk.ld (i := 4) 5 true ty24 rfl rfl (by conv => lhs; whnf) (lt_of_ble rfl)
  apply Wk.ld (i := 50) 10 true ty27 rfl rfl (by conv => lhs; whnf) (lt_of_ble rfl)
  apply Wk.dat (itxb hok) Try.func17 rfl rfl rfl rfl rfl (lt_of_ble rfl)
  apply Wk.un rfl (fun w => by simp [go_sem] <;> rfl) (lt_of_ble rfl)
  apply Wk.mv (by conv => lhs; whnf) (lt_of_ble rfl)
  apply Wk.gon 18 rfl rfl
  apply Wk.mv (by conv => lhs; whnf) (lt_of_ble rfl)
  apply Wk.gon 18 rfl rfl
  apply Wk.dat (iisnum hack) Try.func66 rfl rfl rfl rfl rfl (lt_of_ble rfl)
  apply Wk.gon 18 rfl rfl
  apply Wk.un rfl (fun w => by simp [go_sem] <;> rfl) (lt_of_ble rfl)
  apply Wk.pckF rfl (by conv => lhs; whnf) (lt_of_ble rfl)
  refine Wk.nil ?_
  refine AW.cond rfl (fun hc => by cases hc) (fun _ => AW.skip (thenA_normal ?_))
  refine AW.seq ?_
  apply AW.list
  apply Wk.ld (i := 4) 5 true ty24 rfl rfl (by conv => lhs; whnf) (lt_of_ble rfl)
  apply Wk.ld (i := 50) 10 true ty27 rfl rfl (by conv => lhs; whnf) (lt_of_ble rfl)
  apply Wk.cal [] [27, 66] cn (in_snd _ rfl _ _ _ _ _ _ _ _ _ _ _ _ _ _ _ _ _ _) ⟨_, _, rfl, rfl⟩ Try.func51 rfl rfl rfl rfl (by simp; exact ⟨rfl, rfl⟩) rfl (fun i hi => by cases hi) (lt_of_ble rfl)
  rintro r bs' ⟨rfl, rfl⟩
  apply Wk.asg (by conv => lhs; whnf) (lt_of_ble rfl)
  refine Wk.nil ?_
  refine AW.seq ?_
  apply AW.list
  apply Wk.mv (by conv => lhs; whnf) (lt_of_ble rfl)
  apply Wk.mv (by conv => lhs; whnf) (lt_of_ble rfl)
  apply Wk.mv (by conv => lhs; whnf) (lt_of_ble rfl)
  apply Wk.cal [27, 66] [] ht (in_snd _ rfl _ _ _ _ _ _ _ _ _ _ _ _ _ _ _ _ _ _) ⟨_, _, rfl, rfl⟩ Try.func78 rfl rfl rfl rfl (fun i hi => by cases hi) rfl (two_in rfl (by exact within_parts _)) (lt_of_ble rfl)
  rintro r bs' ⟨rfl, rfl⟩
  apply Wk.mv (by conv => lhs; whnf) (lt_of_ble rfl)
  apply Wk.ext rfl rfl (lt_of_ble rfl)
  apply Wk.ext rfl rfl (lt_of_ble rfl)
  apply Wk.alc 12 [.int .i64 0, .int .i64 0, .int .i64 0, .bool false, .bool false, .int .i64 0, .int .i64 0, .int .i64 0, .slice none 0 0] ze42 rfl rfl (lt_of_ble rfl)
  apply Wk.sto (i := 12) 9 true ty42 rfl rfl rfl rfl (Nat.le_of_ble_eq_true rfl) (lt_of_ble rfl)
  apply Wk.asg (by conv => lhs; whnf) (lt_of_ble rfl)
  refine Wk.nil ?_
  refine AW.seq ?_
  apply AW.draw (hm := hmix) (cs := _)
  · apply Wk.mv (by conv => lhs; whnf) (lt_of_ble rfl)
    apply Wk.calr [27, 66] [17] cs ip (by rintro r bs' ⟨rfl, rfl⟩; exact keep2) ⟨_, _, rfl, rfl⟩ Try.func53 rfl rfl rfl rfl (by simp; rfl) rfl (two_in rfl (by exact within_parts _)) (lt_of_ble rfl)
    rintro r bs' ⟨rfl, rfl⟩
    apply Wk.ld (i := 12) 9 true ty42 rfl rfl (by conv => lhs; whnf) (lt_of_ble rfl)
    apply Wk.mv (by conv => lhs; whnf) (lt_of_ble rfl)
    apply Wk.sto (i := 8) 10 true ty27 rfl rfl rfl rfl (Nat.le_of_ble_eq_true rfl) (lt_of_ble rfl)
    apply Wk.sto (i := 9) 9 true ty42 rfl rfl rfl rfl (Nat.le_of_ble_eq_true rfl) (lt_of_ble rfl)
    apply Wk.asg (by conv => lhs; whnf) (lt_of_ble rfl)
    refine Wk.nil ?_
    refine AW.thawc (j := 8) (c := 4) (i := 66) _ rfl rfl rfl (asData_parts qu) hX.none ?_
    refine AW.thawc (j := 8) (c := 2) (i := 17) _ rfl rfl rfl (asData_parts fl) hX.none ?_
    refine AW.ret ?_
    exact RetQ.ret [] (.cons ⟨8, 0, _, _, _, rfl, rfl, ty27, rfl⟩ (.cons ⟨9, 0, _, _, _, rfl, rfl, ty42, rfl⟩ (.cons rfl .nil))) ⟨rfl, rfl⟩ none_kept
  · rfl
  · rfl
/-- What a tick leaves. -/
def tickX (y : Int) (x : TX) : TX := if x.d = true ∨ (x.fl = [] ∧ x.h = false ∧ x.q = false) then x else if x.t = y then { x with d := true } else { x with q := true, t := x.t + 1 }
def tickB (y : Int) (x : TX) : Bool := decide (¬ (x.d = true ∨ (x.fl = [] ∧ x.h = false ∧ x.q = false)) ∧ x.t ≠ y)
theorem itick_ok (m0 w0 p0 u0 y0 : Int) (x : TX) (ack : Int) (bu : Bool) (hok : txOkB ⟨m0, w0, p0, u0, y0⟩ x = true) (hack : inB ack 0 7 = true) :
    DataOk Try.prog 36 [cfgA m0 w0 p0 u0 y0, txA x, .d (.v (.int .i64 ack)), .d (.v (.bool bu))] (.tup [txA (tickX y0 x), if tickB y0 x then frmQ ack bu else frmNo, .d (.v (.bool (tickB y0 x)))]) := by
  have f := txOk_facts hok
  have ht0 := f.2.2.2.2.2.2.2.2.2.2.2.1
  have hy := f.2.2.2.2.1
  obtain ⟨n, a, fl, s, qu, q, t, hh, c, dd⟩ := x
  simp only at ht0 hy
  have one : ∀ (q' : Bool) (t' : Int) (d' : Bool) (F : A) (k1 s1 c1 : Int) (p1 f1 : Bool) (y1 g1 l1 : Int) (b : Bool), F = frmG k1 s1 c1 p1 f1 y1 g1 l1 →
      Spec Try.prog 78 [.ptr 27 0, .d (.v (.int .i64 ack)), .d (.v (.bool bu))] (sndB (sndC m0 w0 p0 u0 y0 a (ringF fl) 0 (fl.length : Int) s qu.length q t hh c dd) qu.length qu) (fun r bs => r = .tup [F, .d (.v (.bool b))] ∧ bs = sndB (sndC m0 w0 p0 u0 y0 a (ringF fl) 0 (fl.length : Int) s qu.length q' t' hh c d') qu.length qu) →
      DataOk Try.prog 36 [cfgA m0 w0 p0 u0 y0, txA ⟨n, a, fl, s, qu, q, t, hh, c, dd⟩, .d (.v (.int .i64 ack)), .d (.v (.bool bu))] (.tup [txA ⟨n, a, fl, s, qu, q', t', hh, c, d'⟩, F, .d (.v (.bool b))]) := by
    intro q' t' d' F k1 s1 c1 p1 f1 y1 g1 l1 b hF hs
    subst hF
    by_cases h0 : fl = []
    · subst h0
      exact itickYesN m0 w0 p0 u0 y0 n a s qu q t hh c dd q' t' d' ack bu k1 s1 c1 p1 f1 y1 g1 l1 b hok hack hs
    · exact itickYesO m0 w0 p0 u0 y0 n a fl h0 s qu q t hh c dd q' t' d' ack bu k1 s1 c1 p1 f1 y1 g1 l1 b hok hack hs
  have hk : (fl.length = 0 ∧ hh = false ∧ q = false) ↔ (fl = [] ∧ hh = false ∧ q = false) := by rw [List.length_eq_zero_iff]
  by_cases hi : dd = true ∨ (fl = [] ∧ hh = false ∧ q = false)
  · have e1 : tickX y0 ⟨n, a, fl, s, qu, q, t, hh, c, dd⟩ = ⟨n, a, fl, s, qu, q, t, hh, c, dd⟩ := if_pos hi
    have e2 : tickB y0 ⟨n, a, fl, s, qu, q, t, hh, c, dd⟩ = false := decide_eq_false (fun h => h.1 hi)
    rw [e1, e2]
    exact one q t dd frmNo 0 0 0 false false 0 0 0 false rfl (itickIdle m0 w0 p0 u0 y0 a (ringF fl) fl.length s qu.length q t hh c dd qu ack bu (by rw [hk]; exact hi))
  · have hd : dd = false := by cases dd <;> simp_all
    have hi' : ¬ (fl.length = 0 ∧ hh = false ∧ q = false) := fun h => hi (.inr (hk.1 h))
    by_cases ht : t = y0
    · have e1 : tickX y0 ⟨n, a, fl, s, qu, q, t, hh, c, dd⟩ = ⟨n, a, fl, s, qu, q, t, hh, c, true⟩ := by rw [tickX, if_neg hi, if_pos ht]
      have e2 : tickB y0 ⟨n, a, fl, s, qu, q, t, hh, c, dd⟩ = false := decide_eq_false (fun h => h.2 ht)
      rw [e1, e2]
      exact one q t true frmNo 0 0 0 false false 0 0 0 false rfl (itickOut m0 w0 p0 u0 y0 a (ringF fl) fl.length s qu.length q t hh c dd qu ack bu hd hi' ht)
    · have e1 : tickX y0 ⟨n, a, fl, s, qu, q, t, hh, c, dd⟩ = ⟨n, a, fl, s, qu, true, t + 1, hh, c, dd⟩ := by rw [tickX, if_neg hi, if_neg ht]
      have e2 : tickB y0 ⟨n, a, fl, s, qu, q, t, hh, c, dd⟩ = true := decide_eq_true ⟨hi, ht⟩
      rw [e1, e2]
      exact one true (t + 1) dd (frmQ ack bu) 2 0 ack true false (2 * bitZ bu) 0 0 true rfl (itickAsk m0 w0 p0 u0 y0 a (ringF fl) fl.length s qu.length q t hh c dd qu ack bu hd hi' ht (by omega))
end Go.Proofs.Ytdojkmjamilllaa

/- TxPut, TxSend, TxHear of the specification: answers of data alone. Written by tools/mk_AbsTxSD.py. -/
namespace Go.Proofs.Ytdojkmjamilllaa
open Go Go.RowKit
set_option maxHeartbeats 4000000 in
set_option maxRecDepth 100000 in
theorem sputD (m0 w0 p0 u0 y0 : Int) (x x' : TX) (k l : Nat) (b : Bool) (sdu : List Nat) (hok : txOkB ⟨m0, w0, p0, u0, y0⟩ x = true) (hx : x.few) (hx' : x'.few)
    (ht : Spec Try.prog 54 [cfgA m0 w0 p0 u0 y0, txO x 5 x.fl.length 66 x.qu.length, .d (bytesD sdu)] (txB x.fl x.qu x.fl.length x.qu.length) (fun r bs => r = .tup [txO x' 5 k 66 l, .d (.v (.bool b))] ∧ bs = txB x'.fl x'.qu k l)) :
    DataOk Try.prog 15 [cfgA m0 w0 p0 u0 y0, txA x, .d (bytesD sdu)] (.tup [txA x', .d (.v (.bool b))]) := by
  have c1 := scopyO x hx
  have c2 := scopy_ok x' hx'
  refine Spec.intro (n := 26) (rv := [.cell 6 27, .tmp 7]) Try.func15 rfl rfl rfl (by simp) fun C hN hX => ?_
  refine AW.seq ?_
  apply AW.list
  apply Wk.bx 3 rfl rfl (lt_of_ble rfl)
  apply Wk.bx 4 rfl rfl (lt_of_ble rfl)
  apply Wk.alc 6 [.int .i64 0, .int .i64 0, .slice none 0 0, .int .i64 0, .slice none 0 0, .bool false, .int .i64 0, .bool false, .int .i64 0, .bool false] ze27 rfl rfl (lt_of_ble rfl)
  apply Wk.asg (by conv => lhs; whnf) (lt_of_ble rfl)
  refine Wk.nil ?_
  refine AW.seq (AW.seq ?_)
  apply AW.list
  apply Wk.ld (i := 3) 5 true ty24 rfl rfl (by conv => lhs; whnf) (lt_of_ble rfl)
  apply Wk.ld (i := 4) 10 true ty27 rfl rfl (by conv => lhs; whnf) (lt_of_ble rfl)
  apply Wk.dat (stxb hok) Try.func18 rfl rfl rfl rfl rfl (lt_of_ble rfl)
  apply Wk.un rfl (fun w => by simp [go_sem] <;> rfl) (lt_of_ble rfl)
  refine Wk.nil ?_
  refine AW.cond rfl (fun hc => by cases hc) (fun _ => AW.skip (thenA_normal ?_))
  refine AW.seq ?_
  apply AW.draw (hm := hmix) (cs := _)
  · apply Wk.ld (i := 3) 5 true ty24 rfl rfl (by conv => lhs; whnf) (lt_of_ble rfl)
    apply Wk.ld (i := 4) 10 true ty27 rfl rfl (by conv => lhs; whnf) (lt_of_ble rfl)
    apply Wk.cal [] [5, 66] c1 (in_copy x _ _) ⟨_, _, rfl, rfl⟩ Try.func55 rfl rfl rfl rfl (by simp; exact ⟨rfl, rfl⟩) rfl (fun i hi => by cases hi) (lt_of_ble rfl)
    rintro r bs' ⟨rfl, rfl⟩
    apply Wk.mv (by conv => lhs; whnf) (lt_of_ble rfl)
    apply Wk.cal [5, 66] [] ht (in_put x' _ _ b) ⟨_, _, rfl, rfl⟩ Try.func54 rfl rfl rfl rfl (fun i hi => by cases hi) rfl (two_in (by exact within_parts x.fl) (by exact within_parts x.qu)) (lt_of_ble rfl)
    rintro r bs' ⟨rfl, rfl⟩
    apply Wk.mv (by conv => lhs; whnf) (lt_of_ble rfl)
    apply Wk.ext rfl rfl (lt_of_ble rfl)
    apply Wk.ext rfl rfl (lt_of_ble rfl)
    apply Wk.alc 8 [.int .i64 0, .int .i64 0, .slice none 0 0, .int .i64 0, .slice none 0 0, .bool false, .int .i64 0, .bool false, .int .i64 0, .bool false] ze27 rfl rfl (lt_of_ble rfl)
    apply Wk.sto (i := 8) 10 true ty27 rfl rfl rfl rfl (Nat.le_of_ble_eq_true rfl) (lt_of_ble rfl)
    apply Wk.asg (by conv => lhs; whnf) (lt_of_ble rfl)
    refine Wk.nil ?_
    refine AW.thawc (j := 8) (c := 2) (i := 5) _ rfl rfl rfl (asData_parts x'.fl) hX.none ?_
    refine AW.thawc (j := 8) (c := 4) (i := 66) _ rfl rfl rfl (asData_parts x'.qu) hX.none ?_
    refine AW.keep (n := 26) (ts := [(6, .ptr 6 0), (8, .ptr 8 0), (9, .d (.v (.bool b)))]) (bs := [(6, .var txN), (8, .var (txC x'))]) ⟨rfl, .cons rfl rfl (.cons rfl rfl (.cons rfl rfl .nil)), .cons rfl rfl (.cons rfl rfl .nil), hN.mono (by simp [keys])⟩ ?_
    refine AW.seq ?_
    apply AW.list
    apply Wk.ld (i := 8) 10 true ty27 rfl rfl (by conv => lhs; whnf) (lt_of_ble rfl)
    apply Wk.dat c2 Try.func55 rfl rfl rfl rfl rfl (lt_of_ble rfl)
    apply Wk.mv (by conv => lhs; whnf) (lt_of_ble rfl)
    apply Wk.sto (i := 6) 10 true ty27 rfl rfl rfl rfl (Nat.le_of_ble_eq_true rfl) (lt_of_ble rfl)
    apply Wk.asg (by conv => lhs; whnf) (lt_of_ble rfl)
    refine Wk.nil (AW.ret ?_)
    exact RetQ.ret [] (.cons ⟨6, 0, _, _, _, rfl, rfl, ty27, rfl⟩ (.cons rfl .nil)) ⟨rfl, rfl⟩ none_kept
  · rfl
  · rfl
set_option maxHeartbeats 4000000 in
set_option maxRecDepth 100000 in
theorem ssendFD (m0 w0 p0 u0 y0 : Int) (x x' : TX) (ack : Int) (k : Nat) (k1 s c : Int) (p f : Bool) (y g l1 : Int) (z : D) (b : Bool) (hok : txOkB ⟨m0, w0, p0, u0, y0⟩ x = true) (hack : inB ack 0 7 = true) (hx : x.few) (hx' : x'.few)
    (ht : Spec Try.prog 68 [cfgA m0 w0 p0 u0 y0, txF x 5 x.fl.length, .d (.v (.int .i64 ack))] (flB x.fl x.fl.length) (fun r bs => r = .tup [txF x' 5 k, frmZ k1 s c p f y g l1 z, .d (.v (.bool b))] ∧ bs = flB x'.fl k)) :
    DataOk Try.prog 25 [cfgA m0 w0 p0 u0 y0, txA x, .d (.v (.int .i64 ack))] (.tup [txA x', frmZ k1 s c p f y g l1 z, .d (.v (.bool b))]) := by
  have c1 := scopyF x hx
  have c2 := scopy_ok x' hx'
  refine Spec.intro (n := 36) (rv := [.cell 6 27, .cell 7 42, .tmp 8]) Try.func25 rfl rfl rfl (by simp) fun C hN hX => ?_
  refine AW.seq ?_
  apply AW.list
  apply Wk.bx 3 rfl rfl (lt_of_ble rfl)
  apply Wk.bx 4 rfl rfl (lt_of_ble rfl)
  apply Wk.alc 6 [.int .i64 0, .int .i64 0, .slice none 0 0, .int .i64 0, .slice none 0 0, .bool false, .int .i64 0, .bool false, .int .i64 0, .bool false] ze27 rfl rfl (lt_of_ble rfl)
  apply Wk.alc 7 [.int .i64 0, .int .i64 0, .int .i64 0, .bool false, .bool false, .int .i64 0, .int .i64 0, .int .i64 0, .slice none 0 0] ze42 rfl rfl (lt_of_ble rfl)
  apply Wk.asg (by conv => lhs; whnf) (lt_of_ble rfl)
  refine Wk.nil ?_
  refine AW.seq (AW.seq ?_)
  apply AW.list
  apply Wk.ld (i := 3) 5 true ty24 rfl rfl (by conv => lhs; whnf) (lt_of_ble rfl)
  apply Wk.ld (i := 4) 10 true ty27 rfl rfl (by conv => lhs; whnf) (lt_of_ble rfl)
  apply Wk.dat (stxb hok) Try.func18 rfl rfl rfl rfl rfl (lt_of_ble rfl)
  apply Wk.un rfl (fun w => by simp [go_sem] <;> rfl) (lt_of_ble rfl)
  apply Wk.mv (by conv => lhs; whnf) (lt_of_ble rfl)
  apply Wk.gon 16 rfl rfl
  apply Wk.mv (by conv => lhs; whnf) (lt_of_ble rfl)
  apply Wk.gon 16 rfl rfl
  apply Wk.dat (sinb hack) Try.func60 rfl rfl rfl rfl rfl (lt_of_ble rfl)
  apply Wk.gon 16 rfl rfl
  apply Wk.un rfl (fun w => by simp [go_sem] <;> rfl) (lt_of_ble rfl)
  apply Wk.pckF rfl (by conv => lhs; whnf) (lt_of_ble rfl)
  refine Wk.nil ?_
  refine AW.cond rfl (fun hc => by cases hc) (fun _ => AW.skip (thenA_normal ?_))
  refine AW.seq ?_
  apply AW.draw (hm := hmix) (cs := _)
  · apply Wk.ld (i := 3) 5 true ty24 rfl rfl (by conv => lhs; whnf) (lt_of_ble rfl)
    apply Wk.ld (i := 4) 10 true ty27 rfl rfl (by conv => lhs; whnf) (lt_of_ble rfl)
    apply Wk.cal [] [5] c1 (in_copyF x _) ⟨_, _, rfl, rfl⟩ Try.func55 rfl rfl rfl rfl (by simp; rfl) rfl (fun i hi => by cases hi) (lt_of_ble rfl)
    rintro r bs' ⟨rfl, rfl⟩
    apply Wk.mv (by conv => lhs; whnf) (lt_of_ble rfl)
    apply Wk.cal [5] [] ht (in_send x' _ _ b rfl) ⟨_, _, rfl, rfl⟩ Try.func68 rfl rfl rfl rfl (fun i hi => by cases hi) rfl (one_in (by exact within_parts x.fl)) (lt_of_ble rfl)
    rintro r bs' ⟨rfl, rfl⟩
    apply Wk.mv (by conv => lhs; whnf) (lt_of_ble rfl)
    apply Wk.ext rfl rfl (lt_of_ble rfl)
    apply Wk.ext rfl rfl (lt_of_ble rfl)
    apply Wk.ext rfl rfl (lt_of_ble rfl)
    apply Wk.alc 9 [.int .i64 0, .int .i64 0, .slice none 0 0, .int .i64 0, .slice none 0 0, .bool false, .int .i64 0, .bool false, .int .i64 0, .bool false] ze27 rfl rfl (lt_of_ble rfl)
    apply Wk.alc 10 [.int .i64 0, .int .i64 0, .int .i64 0, .bool false, .bool false, .int .i64 0, .int .i64 0, .int .i64 0, .slice none 0 0] ze42 rfl rfl (lt_of_ble rfl)
    apply Wk.sto (i := 9) 10 true ty27 rfl rfl rfl rfl (Nat.le_of_ble_eq_true rfl) (lt_of_ble rfl)
    apply Wk.sto (i := 10) 9 true ty42 rfl rfl rfl rfl (Nat.le_of_ble_eq_true rfl) (lt_of_ble rfl)
    apply Wk.asg (by conv => lhs; whnf) (lt_of_ble rfl)
    refine Wk.nil ?_
    refine AW.thawc (j := 9) (c := 2) (i := 5) _ rfl rfl rfl (asData_parts x'.fl) hX.none ?_
    refine AW.keep (n := 36) (ts := [(6, .ptr 6 0), (7, .ptr 7 0), (9, .ptr 9 0), (10, .ptr 10 0), (11, .d (.v (.bool b)))]) (bs := [(6, .var txN), (7, .var frmNC), (9, .var (txC x')), (10, .var (frmZC k1 s c p f y g l1 z))]) ⟨rfl, .cons rfl rfl (.cons rfl rfl (.cons rfl rfl (.cons rfl rfl (.cons rfl rfl .nil)))), .cons rfl rfl (.cons rfl rfl (.cons rfl rfl (.cons rfl rfl .nil))), hN.mono (by simp [keys])⟩ ?_
    refine AW.seq ?_
    apply AW.draw (hm := hmix) (cs := _)
    · apply Wk.ld (i := 9) 10 true ty27 rfl rfl (by conv => lhs; whnf) (lt_of_ble rfl)
      apply Wk.dat c2 Try.func55 rfl rfl rfl rfl rfl (lt_of_ble rfl)
      apply Wk.ld (i := 10) 9 true ty42 rfl rfl (by conv => lhs; whnf) (lt_of_ble rfl)
      apply Wk.mv (by conv => lhs; whnf) (lt_of_ble rfl)
      apply Wk.sto (i := 6) 10 true ty27 rfl rfl rfl rfl (Nat.le_of_ble_eq_true rfl) (lt_of_ble rfl)
      apply Wk.sto (i := 7) 9 true ty42 rfl rfl rfl rfl (Nat.le_of_ble_eq_true rfl) (lt_of_ble rfl)
      apply Wk.asg (by conv => lhs; whnf) (lt_of_ble rfl)
      refine Wk.nil (AW.ret ?_)
      exact RetQ.ret [] (.cons ⟨6, 0, _, _, _, rfl, rfl, ty27, rfl⟩ (.cons ⟨7, 0, _, _, _, rfl, rfl, ty42, rfl⟩ (.cons rfl .nil))) ⟨rfl, rfl⟩ none_kept
    · rfl
    · rfl
  · rfl
  · rfl
set_option maxHeartbeats 4000000 in
set_option maxRecDepth 100000 in
theorem ssendOD (m0 w0 p0 u0 y0 : Int) (x x' : TX) (ack : Int) (k l : Nat) (k1 s c : Int) (p f : Bool) (y g l1 : Int) (z : D) (b : Bool) (hok : txOkB ⟨m0, w0, p0, u0, y0⟩ x = true) (hack : inB ack 0 7 = true) (hx : x.few) (hx' : x'.few)
    (ht : Spec Try.prog 68 [cfgA m0 w0 p0 u0 y0, txF x 5 x.fl.length, .d (.v (.int .i64 ack))] (flB x.fl x.fl.length) (fun r bs => r = .tup [txO x' 5 k 66 l, frmZ k1 s c p f y g l1 z, .d (.v (.bool b))] ∧ bs = txB x'.fl x'.qu k l)) :
    DataOk Try.prog 25 [cfgA m0 w0 p0 u0 y0, txA x, .d (.v (.int .i64 ack))] (.tup [txA x', frmZ k1 s c p f y g l1 z, .d (.v (.bool b))]) := by
  have c1 := scopyF x hx
  have c2 := scopy_ok x' hx'
  refine Spec.intro (n := 36) (rv := [.cell 6 27, .cell 7 42, .tmp 8]) Try.func25 rfl rfl rfl (by simp) fun C hN hX => ?_
  refine AW.seq ?_
  apply AW.list
  apply Wk.bx 3 rfl rfl (lt_of_ble rfl)
  apply Wk.bx 4 rfl rfl (lt_of_ble rfl)
  apply Wk.alc 6 [.int .i64 0, .int .i64 0, .slice none 0 0, .int .i64 0, .slice none 0 0, .bool false, .int .i64 0, .bool false, .int .i64 0, .bool false] ze27 rfl rfl (lt_of_ble rfl)
  apply Wk.alc 7 [.int .i64 0, .int .i64 0, .int .i64 0, .bool false, .bool false, .int .i64 0, .int .i64 0, .int .i64 0, .slice none 0 0] ze42 rfl rfl (lt_of_ble rfl)
  apply Wk.asg (by conv => lhs; whnf) (lt_of_ble rfl)
  refine Wk.nil ?_
  refine AW.seq (AW.seq ?_)
  apply AW.list
  apply Wk.ld (i := 3) 5 true ty24 rfl rfl (by conv => lhs; whnf) (lt_of_ble rfl)
  apply Wk.ld (i := 4) 10 true ty27 rfl rfl (by conv => lhs; whnf) (lt_of_ble rfl)
  apply Wk.dat (stxb hok) Try.func18 rfl rfl rfl rfl rfl (lt_of_ble rfl)
  apply Wk.un rfl (fun w => by simp [go_sem] <;> rfl) (lt_of_ble rfl)
  apply Wk.mv (by conv => lhs; whnf) (lt_of_ble rfl)
  apply Wk.gon 16 rfl rfl
  apply Wk.mv (by conv => lhs; whnf) (lt_of_ble rfl)
  apply Wk.gon 16 rfl rfl
  apply Wk.dat (sinb hack) Try.func60 rfl rfl rfl rfl rfl (lt_of_ble rfl)
  apply Wk.gon 16 rfl rfl
  apply Wk.un rfl (fun w => by simp [go_sem] <;> rfl) (lt_of_ble rfl)
  apply Wk.pckF rfl (by conv => lhs; whnf) (lt_of_ble rfl)
  refine Wk.nil ?_
  refine AW.cond rfl (fun hc => by cases hc) (fun _ => AW.skip (thenA_normal ?_))
  refine AW.seq ?_
  apply AW.draw (hm := hmix) (cs := _)
  · apply Wk.ld (i := 3) 5 true ty24 rfl rfl (by conv => lhs; whnf) (lt_of_ble rfl)
    apply Wk.ld (i := 4) 10 true ty27 rfl rfl (by conv => lhs; whnf) (lt_of_ble rfl)
    apply Wk.cal [] [5] c1 (in_copyF x _) ⟨_, _, rfl, rfl⟩ Try.func55 rfl rfl rfl rfl (by simp; rfl) rfl (fun i hi => by cases hi) (lt_of_ble rfl)
    rintro r bs' ⟨rfl, rfl⟩
    apply Wk.mv (by conv => lhs; whnf) (lt_of_ble rfl)
    apply Wk.cal [5] [66] ht (in_send2 x' _ _ _ _ _ _ _ _ _ _ _ b) ⟨_, _, rfl, rfl⟩ Try.func68 rfl rfl rfl rfl (by simp; rfl) rfl (one_in (by exact within_parts x.fl)) (lt_of_ble rfl)
    rintro r bs' ⟨rfl, rfl⟩
    apply Wk.mv (by conv => lhs; whnf) (lt_of_ble rfl)
    apply Wk.ext rfl rfl (lt_of_ble rfl)
    apply Wk.ext rfl rfl (lt_of_ble rfl)
    apply Wk.ext rfl rfl (lt_of_ble rfl)
    apply Wk.alc 9 [.int .i64 0, .int .i64 0, .slice none 0 0, .int .i64 0, .slice none 0 0, .bool false, .int .i64 0, .bool false, .int .i64 0, .bool false] ze27 rfl rfl (lt_of_ble rfl)
    apply Wk.alc 10 [.int .i64 0, .int .i64 0, .int .i64 0, .bool false, .bool false, .int .i64 0, .int .i64 0, .int .i64 0, .slice none 0 0] ze42 rfl rfl (lt_of_ble rfl)
    apply Wk.sto (i := 9) 10 true ty27 rfl rfl rfl rfl (Nat.le_of_ble_eq_true rfl) (lt_of_ble rfl)
    apply Wk.sto (i := 10) 9 true ty42 rfl rfl rfl rfl (Nat.le_of_ble_eq_true rfl) (lt_of_ble rfl)
    apply Wk.asg (by conv => lhs; whnf) (lt_of_ble rfl)
    refine Wk.nil ?_
    refine AW.thawc (j := 9) (c := 2) (i := 5) _ rfl rfl rfl (asData_parts x'.fl) hX.none ?_
    refine AW.thawc (j := 9) (c := 4) (i := 66) _ rfl rfl rfl (asData_parts x'.qu) hX.none ?_
    refine AW.keep (n := 36) (ts := [(6, .ptr 6 0), (7, .ptr 7 0), (9, .ptr 9 0), (10, .ptr 10 0), (11, .d (.v (.bool b)))]) (bs := [(6, .var txN), (7, .var frmNC), (9, .var (txC x')), (10, .var (frmZC k1 s c p f y g l1 z))]) ⟨rfl, .cons rfl rfl (.cons rfl rfl (.cons rfl rfl (.cons rfl rfl (.cons rfl rfl .nil)))), .cons rfl rfl (.cons rfl rfl (.cons rfl rfl (.cons rfl rfl .nil))), hN.mono (by simp [keys])⟩ ?_
    refine AW.seq ?_
    apply AW.draw (hm := hmix) (cs := _)
    · apply Wk.ld (i := 9) 10 true ty27 rfl rfl (by conv => lhs; whnf) (lt_of_ble rfl)
      apply Wk.dat c2 Try.func55 rfl rfl rfl rfl rfl (lt_of_ble rfl)
      apply Wk.ld (i := 10) 9 true ty42 rfl rfl (by conv => lhs; whnf) (lt_of_ble rfl)
      apply Wk.mv (by conv => lhs; whnf) (lt_of_ble rfl)
      apply Wk.sto (i := 6) 10 true ty27 rfl rfl rfl rfl (Nat.le_of_ble_eq_true rfl) (lt_of_ble rfl)
      apply Wk.sto (i := 7) 9 true ty42 rfl rfl rfl rfl (Nat.le_of_ble_eq_true rfl) (lt_of_ble rfl)
      apply Wk.asg (by conv => lhs; whnf) (lt_of_ble rfl)
      refine Wk.nil (AW.ret ?_)
      exact RetQ.ret [] (.cons ⟨6, 0, _, _, _, rfl, rfl, ty27, rfl⟩ (.cons ⟨7, 0, _, _, _, rfl, rfl, ty42, rfl⟩ (.cons rfl .nil))) ⟨rfl, rfl⟩ none_kept
    · rfl
    · rfl
  · rfl
  · rfl
set_option maxHeartbeats 4000000 in
set_option maxRecDepth 100000 in
theorem shearD (m0 w0 p0 u0 y0 : Int) (x x' : TX) (k sq ack : Int) (p f : Bool) (y g l : Int) (zs : List Nat) (hok : txOkB ⟨m0, w0, p0, u0, y0⟩ x = true) (hfr : DataOk Try.prog 33 [frmZ k sq ack p f y g l (bytesD zs)] (.d (.v (.bool true)))) (hk : k = 1 ∨ k = 2) (hx : x.few) (hx' : x'.few)
    (ht : DataOk Try.prog 75 [txA x, frmZ k sq ack p f y g l (bytesD zs)] (txA x')) :
    DataOk Try.prog 32 [cfgA m0 w0 p0 u0 y0, txA x, frmZ k sq ack p f y g l (bytesD zs)] (txA x') := by
  simp only [frmZ, frmZC] at hfr ht ⊢
  have c1 := scopy_ok x hx
  have c2 := scopy_ok x' hx'
  rcases hk with rfl | rfl
  · skip
    refine Spec.intro (n := 32) (rv := [.cell 6 27]) Try.func32 rfl rfl rfl (by simp) fun C hN hX => ?_
    refine AW.seq ?_
    apply AW.list
    apply Wk.bx 3 rfl rfl (lt_of_ble rfl)
    apply Wk.bx 4 rfl rfl (lt_of_ble rfl)
    apply Wk.bx 50 rfl rfl (lt_of_ble rfl)
    apply Wk.alc 6 [.int .i64 0, .int .i64 0, .slice none 0 0, .int .i64 0, .slice none 0 0, .bool false, .int .i64 0, .bool false, .int .i64 0, .bool false] ze27 rfl rfl (lt_of_ble rfl)
    refine Wk.nil ?_
    refine AW.seq (AW.seq ?_)
    apply AW.list
    apply Wk.ld (i := 3) 5 true ty24 rfl rfl (by conv => lhs; whnf) (lt_of_ble rfl)
    apply Wk.ld (i := 4) 10 true ty27 rfl rfl (by conv => lhs; whnf) (lt_of_ble rfl)
    apply Wk.dat (stxb hok) Try.func18 rfl rfl rfl rfl rfl (lt_of_ble rfl)
    apply Wk.un rfl (fun w => by simp [go_sem] <;> rfl) (lt_of_ble rfl)
    apply Wk.mv (by conv => lhs; whnf) (lt_of_ble rfl)
    apply Wk.gon 11 rfl rfl
    apply Wk.ld (i := 50) 9 true ty42 rfl rfl (by conv => lhs; whnf) (lt_of_ble rfl)
    apply Wk.gon 11 rfl rfl
    apply Wk.dat hfr Try.func33 rfl rfl rfl rfl rfl (lt_of_ble rfl)
    apply Wk.gon 11 rfl rfl
    apply Wk.un rfl (fun w => by simp [go_sem] <;> rfl) (lt_of_ble rfl)
    apply Wk.pckF rfl (by conv => lhs; whnf) (lt_of_ble rfl)
    apply Wk.mv (by conv => lhs; whnf) (lt_of_ble rfl)
    apply Wk.gon 16 rfl rfl
    apply Wk.fad 0 0 false fd42_0 rfl (lt_of_ble rfl)
    apply Wk.gon 16 rfl rfl
    apply Wk.ld (i := 50) 1 false ty3 rfl rfl (by conv => lhs; whnf) (lt_of_ble rfl)
    apply Wk.gon 16 rfl rfl
    apply Wk.bin rfl rfl (r := .bool false) (fun w => by simp [go_sem]) (lt_of_ble rfl)
    apply Wk.gon 16 rfl rfl
    apply Wk.mv (by conv => lhs; whnf) (lt_of_ble rfl)
    apply Wk.goff 20 (ok_faddr fd42_0) rfl rfl (by simp)
    apply Wk.goff 20 (ok_load 50 ty3) rfl rfl (by simp)
    apply Wk.goff 20 (ok_bin _ _ _ _ _) rfl rfl (by simp)
    apply Wk.gon 16 rfl rfl
    apply Wk.pckF rfl (by conv => lhs; whnf) (lt_of_ble rfl)
    apply Wk.pckF rfl (by conv => lhs; whnf) (lt_of_ble rfl)
    refine Wk.nil ?_
    refine AW.cond rfl (fun hc => by cases hc) (fun _ => AW.skip (thenA_normal ?_))
    refine AW.seq ?_
    apply AW.draw (hm := hmix) (cs := _)
    · apply Wk.ld (i := 4) 10 true ty27 rfl rfl (by conv => lhs; whnf) (lt_of_ble rfl)
      apply Wk.dat c1 Try.func55 rfl rfl rfl rfl rfl (lt_of_ble rfl)
      apply Wk.ld (i := 50) 9 true ty42 rfl rfl (by conv => lhs; whnf) (lt_of_ble rfl)
      apply Wk.dat ht Try.func75 rfl rfl rfl rfl rfl (lt_of_ble rfl)
      apply Wk.dat c2 Try.func55 rfl rfl rfl rfl rfl (lt_of_ble rfl)
      apply Wk.sto (i := 6) 10 true ty27 rfl rfl rfl rfl (Nat.le_of_ble_eq_true rfl) (lt_of_ble rfl)
      refine Wk.nil (AW.ret ?_)
      exact RetQ.ret [] (.cons ⟨6, 0, _, _, _, rfl, rfl, ty27, rfl⟩ .nil) ⟨rfl, rfl⟩ none_kept
    · rfl
    · rfl
  · skip
    refine Spec.intro (n := 32) (rv := [.cell 6 27]) Try.func32 rfl rfl rfl (by simp) fun C hN hX => ?_
    refine AW.seq ?_
    apply AW.list
    apply Wk.bx 3 rfl rfl (lt_of_ble rfl)
    apply Wk.bx 4 rfl rfl (lt_of_ble rfl)
    apply Wk.bx 50 rfl rfl (lt_of_ble rfl)
    apply Wk.alc 6 [.int .i64 0, .int .i64 0, .slice none 0 0, .int .i64 0, .slice none 0 0, .bool false, .int .i64 0, .bool false, .int .i64 0, .bool false] ze27 rfl rfl (lt_of_ble rfl)
    refine Wk.nil ?_
    refine AW.seq (AW.seq ?_)
    apply AW.list
    apply Wk.ld (i := 3) 5 true ty24 rfl rfl (by conv => lhs; whnf) (lt_of_ble rfl)
    apply Wk.ld (i := 4) 10 true ty27 rfl rfl (by conv => lhs; whnf) (lt_of_ble rfl)
    apply Wk.dat (stxb hok) Try.func18 rfl rfl rfl rfl rfl (lt_of_ble rfl)
    apply Wk.un rfl (fun w => by simp [go_sem] <;> rfl) (lt_of_ble rfl)
    apply Wk.mv (by conv => lhs; whnf) (lt_of_ble rfl)
    apply Wk.gon 11 rfl rfl
    apply Wk.ld (i := 50) 9 true ty42 rfl rfl (by conv => lhs; whnf) (lt_of_ble rfl)
    apply Wk.gon 11 rfl rfl
    apply Wk.dat hfr Try.func33 rfl rfl rfl rfl rfl (lt_of_ble rfl)
    apply Wk.gon 11 rfl rfl
    apply Wk.un rfl (fun w => by simp [go_sem] <;> rfl) (lt_of_ble rfl)
    apply Wk.pckF rfl (by conv => lhs; whnf) (lt_of_ble rfl)
    apply Wk.mv (by conv => lhs; whnf) (lt_of_ble rfl)
    apply Wk.gon 16 rfl rfl
    apply Wk.fad 0 0 false fd42_0 rfl (lt_of_ble rfl)
    apply Wk.gon 16 rfl rfl
    apply Wk.ld (i := 50) 1 false ty3 rfl rfl (by conv => lhs; whnf) (lt_of_ble rfl)
    apply Wk.gon 16 rfl rfl
    apply Wk.bin rfl rfl (r := .bool true) (fun w => by simp [go_sem]) (lt_of_ble rfl)
    apply Wk.gon 16 rfl rfl
    apply Wk.mv (by conv => lhs; whnf) (lt_of_ble rfl)
    apply Wk.gon 20 rfl rfl
    apply Wk.fad 0 0 false fd42_0 rfl (lt_of_ble rfl)
    apply Wk.gon 20 rfl rfl
    apply Wk.ld (i := 50) 1 false ty3 rfl rfl (by conv => lhs; whnf) (lt_of_ble rfl)
    apply Wk.gon 20 rfl rfl
    apply Wk.bin rfl rfl (r := .bool false) (fun w => by simp [go_sem]) (lt_of_ble rfl)
    apply Wk.gon 16 rfl rfl
    apply Wk.pckT rfl (by conv => lhs; whnf) (lt_of_ble rfl)
    apply Wk.pckF rfl (by conv => lhs; whnf) (lt_of_ble rfl)
    refine Wk.nil ?_
    refine AW.cond rfl (fun hc => by cases hc) (fun _ => AW.skip (thenA_normal ?_))
    refine AW.seq ?_
    apply AW.draw (hm := hmix) (cs := _)
    · apply Wk.ld (i := 4) 10 true ty27 rfl rfl (by conv => lhs; whnf) (lt_of_ble rfl)
      apply Wk.dat c1 Try.func55 rfl rfl rfl rfl rfl (lt_of_ble rfl)
      apply Wk.ld (i := 50) 9 true ty42 rfl rfl (by conv => lhs; whnf) (lt_of_ble rfl)
      apply Wk.dat ht Try.func75 rfl rfl rfl rfl rfl (lt_of_ble rfl)
      apply Wk.dat c2 Try.func55 rfl rfl rfl rfl rfl (lt_of_ble rfl)
      apply Wk.sto (i := 6) 10 true ty27 rfl rfl rfl rfl (Nat.le_of_ble_eq_true rfl) (lt_of_ble rfl)
      refine Wk.nil (AW.ret ?_)
      exact RetQ.ret [] (.cons ⟨6, 0, _, _, _, rfl, rfl, ty27, rfl⟩ .nil) ⟨rfl, rfl⟩ none_kept
    · rfl
    · rfl
end Go.Proofs.Ytdojkmjamilllaa

/- TxHear of the program, over what values read as. Written by tools/mk_AbsHearI.py. -/
namespace Go.Proofs.Ytdojkmjamilllaa
open Go Go.RowKit
theorem ifarto (a b : Int) (ha : 0 ≤ a ∧ a < 8) (hb : 0 ≤ b ∧ b < 8) : DataOk Try.prog 77 [.d (.v (.int .i64 a)), .d (.v (.int .i64 b))] (.d (.v (.int .i64 ((b - a) % 8)))) := int2 (impl_farto a b ha hb)
set_option maxHeartbeats 4000000 in
set_option maxRecDepth 100000 in
theorem idrop (m w p u y a : Int) (f : Nat → Sl) (k s : Int) (l : Nat) (q : Bool) (t : Int) (hh : Bool) (c : Int) (dd : Bool) (qu : List Dat) (n : Nat) (hn : n ≤ 4) (hk : 0 ≤ k ∧ k ≤ 4) : Spec Try.prog 110 [.ptr 27 6, .d (.v (.int .i64 (n : Int)))] (sndB (sndC m w p u y a f 0 k s l q t hh c dd) l qu) (fun r bs => r = .tup [] ∧ bs = sndB (sndC m w p u y a f ((n % 4 : Nat) : Int) (k - (n : Int)) s l q t hh c dd) l qu) := by
  rcases (show n = 0 ∨ n = 1 ∨ n = 2 ∨ n = 3 ∨ n = 4 by omega) with rfl | rfl | rfl | rfl | rfl
  · skip
    refine Spec.intro (n := 22) (rv := []) Try.func110 rfl rfl rfl (by simp) fun C hN hX => ?_
    refine AW.seq ?_
    apply AW.list
    apply Wk.mv (by conv => lhs; whnf) (lt_of_ble rfl)
    apply Wk.mv (by conv => lhs; whnf) (lt_of_ble rfl)
    apply Wk.nilc rfl (lt_of_ble rfl)
    apply Wk.fad 12 0 false fd109_1 rfl (lt_of_ble rfl)
    apply Wk.ld (i := 27) 1 false ty3 rfl rfl (by conv => lhs; whnf) (lt_of_ble rfl)
    apply Wk.mv (by conv => lhs; whnf) (lt_of_ble rfl)
    apply Wk.addi rfl rfl (by decide) (lt_of_ble rfl)
    apply Wk.bin rfl rfl (r := .int .i64 ((0 : Nat) : Int)) (fun w => by simp [go_sem]) (lt_of_ble rfl)
    apply Wk.nilc rfl (lt_of_ble rfl)
    apply Wk.fad 12 0 false fd109_1 rfl (lt_of_ble rfl)
    apply Wk.sto (i := 27) 1 false ty3 rfl rfl rfl rfl (Nat.le_of_ble_eq_true rfl) (lt_of_ble rfl)
    refine Wk.nil ?_
    apply AW.list
    apply Wk.mv (by conv => lhs; whnf) (lt_of_ble rfl)
    apply Wk.nilc rfl (lt_of_ble rfl)
    apply Wk.fad 13 0 false fd109_2 rfl (lt_of_ble rfl)
    apply Wk.ld (i := 27) 1 false ty3 rfl rfl (by conv => lhs; whnf) (lt_of_ble rfl)
    apply Wk.mv (by conv => lhs; whnf) (lt_of_ble rfl)
    apply Wk.subi rfl rfl (by omega) (lt_of_ble rfl)
    apply Wk.nilc rfl (lt_of_ble rfl)
    apply Wk.fad 13 0 false fd109_2 rfl (lt_of_ble rfl)
    apply Wk.sto (i := 27) 1 false ty3 rfl rfl rfl rfl (Nat.le_of_ble_eq_true rfl) (lt_of_ble rfl)
    refine Wk.nil ?_
    exact ⟨[], sndB _ l qu, .nil, ⟨rfl, rfl⟩, kept2 rfl rfl⟩
  · skip
    refine Spec.intro (n := 22) (rv := []) Try.func110 rfl rfl rfl (by simp) fun C hN hX => ?_
    refine AW.seq ?_
    apply AW.list
    apply Wk.mv (by conv => lhs; whnf) (lt_of_ble rfl)
    apply Wk.mv (by conv => lhs; whnf) (lt_of_ble rfl)
    apply Wk.nilc rfl (lt_of_ble rfl)
    apply Wk.fad 12 0 false fd109_1 rfl (lt_of_ble rfl)
    apply Wk.ld (i := 27) 1 false ty3 rfl rfl (by conv => lhs; whnf) (lt_of_ble rfl)
    apply Wk.mv (by conv => lhs; whnf) (lt_of_ble rfl)
    apply Wk.addi rfl rfl (by decide) (lt_of_ble rfl)
    apply Wk.bin rfl rfl (r := .int .i64 ((1 : Nat) : Int)) (fun w => by simp [go_sem]) (lt_of_ble rfl)
    apply Wk.nilc rfl (lt_of_ble rfl)
    apply Wk.fad 12 0 false fd109_1 rfl (lt_of_ble rfl)
    apply Wk.sto (i := 27) 1 false ty3 rfl rfl rfl rfl (Nat.le_of_ble_eq_true rfl) (lt_of_ble rfl)
    refine Wk.nil ?_
    apply AW.list
    apply Wk.mv (by conv => lhs; whnf) (lt_of_ble rfl)
    apply Wk.nilc rfl (lt_of_ble rfl)
    apply Wk.fad 13 0 false fd109_2 rfl (lt_of_ble rfl)
    apply Wk.ld (i := 27) 1 false ty3 rfl rfl (by conv => lhs; whnf) (lt_of_ble rfl)
    apply Wk.mv (by conv => lhs; whnf) (lt_of_ble rfl)
    apply Wk.subi rfl rfl (by omega) (lt_of_ble rfl)
    apply Wk.nilc rfl (lt_of_ble rfl)
    apply Wk.fad 13 0 false fd109_2 rfl (lt_of_ble rfl)
    apply Wk.sto (i := 27) 1 false ty3 rfl rfl rfl rfl (Nat.le_of_ble_eq_true rfl) (lt_of_ble rfl)
    refine Wk.nil ?_
    exact ⟨[], sndB _ l qu, .nil, ⟨rfl, rfl⟩, kept2 rfl rfl⟩
  · skip
    refine Spec.intro (n := 22) (rv := []) Try.func110 rfl rfl rfl (by simp) fun C hN hX => ?_
    refine AW.seq ?_
    apply AW.list
    apply Wk.mv (by conv => lhs; whnf) (lt_of_ble rfl)
    apply Wk.mv (by conv => lhs; whnf) (lt_of_ble rfl)
    apply Wk.nilc rfl (lt_of_ble rfl)
    apply Wk.fad 12 0 false fd109_1 rfl (lt_of_ble rfl)
    apply Wk.ld (i := 27) 1 false ty3 rfl rfl (by conv => lhs; whnf) (lt_of_ble rfl)
    apply Wk.mv (by conv => lhs; whnf) (lt_of_ble rfl)
    apply Wk.addi rfl rfl (by decide) (lt_of_ble rfl)
    apply Wk.bin rfl rfl (r := .int .i64 ((2 : Nat) : Int)) (fun w => by simp [go_sem]) (lt_of_ble rfl)
    apply Wk.nilc rfl (lt_of_ble rfl)
    apply Wk.fad 12 0 false fd109_1 rfl (lt_of_ble rfl)
    apply Wk.sto (i := 27) 1 false ty3 rfl rfl rfl rfl (Nat.le_of_ble_eq_true rfl) (lt_of_ble rfl)
    refine Wk.nil ?_
    apply AW.list
    apply Wk.mv (by conv => lhs; whnf) (lt_of_ble rfl)
    apply Wk.nilc rfl (lt_of_ble rfl)
    apply Wk.fad 13 0 false fd109_2 rfl (lt_of_ble rfl)
    apply Wk.ld (i := 27) 1 false ty3 rfl rfl (by conv => lhs; whnf) (lt_of_ble rfl)
    apply Wk.mv (by conv => lhs; whnf) (lt_of_ble rfl)
    apply Wk.subi rfl rfl (by omega) (lt_of_ble rfl)
    apply Wk.nilc rfl (lt_of_ble rfl)
    apply Wk.fad 13 0 false fd109_2 rfl (lt_of_ble rfl)
    apply Wk.sto (i := 27) 1 false ty3 rfl rfl rfl rfl (Nat.le_of_ble_eq_true rfl) (lt_of_ble rfl)
    refine Wk.nil ?_
    exact ⟨[], sndB _ l qu, .nil, ⟨rfl, rfl⟩, kept2 rfl rfl⟩
  · skip
    refine Spec.intro (n := 22) (rv := []) Try.func110 rfl rfl rfl (by simp) fun C hN hX => ?_
    refine AW.seq ?_
    apply AW.list
    apply Wk.mv (by conv => lhs; whnf) (lt_of_ble rfl)
    apply Wk.mv (by conv => lhs; whnf) (lt_of_ble rfl)
    apply Wk.nilc rfl (lt_of_ble rfl)
    apply Wk.fad 12 0 false fd109_1 rfl (lt_of_ble rfl)
    apply Wk.ld (i := 27) 1 false ty3 rfl rfl (by conv => lhs; whnf) (lt_of_ble rfl)
    apply Wk.mv (by conv => lhs; whnf) (lt_of_ble rfl)
    apply Wk.addi rfl rfl (by decide) (lt_of_ble rfl)
    apply Wk.bin rfl rfl (r := .int .i64 ((3 : Nat) : Int)) (fun w => by simp [go_sem]) (lt_of_ble rfl)
    apply Wk.nilc rfl (lt_of_ble rfl)
    apply Wk.fad 12 0 false fd109_1 rfl (lt_of_ble rfl)
    apply Wk.sto (i := 27) 1 false ty3 rfl rfl rfl rfl (Nat.le_of_ble_eq_true rfl) (lt_of_ble rfl)
    refine Wk.nil ?_
    apply AW.list
    apply Wk.mv (by conv => lhs; whnf) (lt_of_ble rfl)
    apply Wk.nilc rfl (lt_of_ble rfl)
    apply Wk.fad 13 0 false fd109_2 rfl (lt_of_ble rfl)
    apply Wk.ld (i := 27) 1 false ty3 rfl rfl (by conv => lhs; whnf) (lt_of_ble rfl)
    apply Wk.mv (by conv => lhs; whnf) (lt_of_ble rfl)
    apply Wk.subi rfl rfl (by omega) (lt_of_ble rfl)
    apply Wk.nilc rfl (lt_of_ble rfl)
    apply Wk.fad 13 0 false fd109_2 rfl (lt_of_ble rfl)
    apply Wk.sto (i := 27) 1 false ty3 rfl rfl rfl rfl (Nat.le_of_ble_eq_true rfl) (lt_of_ble rfl)
    refine Wk.nil ?_
    exact ⟨[], sndB _ l qu, .nil, ⟨rfl, rfl⟩, kept2 rfl rfl⟩
  · skip
    refine Spec.intro (n := 22) (rv := []) Try.func110 rfl rfl rfl (by simp) fun C hN hX => ?_
    refine AW.seq ?_
    apply AW.list
    apply Wk.mv (by conv => lhs; whnf) (lt_of_ble rfl)
    apply Wk.mv (by conv => lhs; whnf) (lt_of_ble rfl)
    apply Wk.nilc rfl (lt_of_ble rfl)
    apply Wk.fad 12 0 false fd109_1 rfl (lt_of_ble rfl)
    apply Wk.ld (i := 27) 1 false ty3 rfl rfl (by conv => lhs; whnf) (lt_of_ble rfl)
    apply Wk.mv (by conv => lhs; whnf) (lt_of_ble rfl)
    apply Wk.addi rfl rfl (by decide) (lt_of_ble rfl)
    apply Wk.bin rfl rfl (r := .int .i64 ((0 : Nat) : Int)) (fun w => by simp [go_sem]) (lt_of_ble rfl)
    apply Wk.nilc rfl (lt_of_ble rfl)
    apply Wk.fad 12 0 false fd109_1 rfl (lt_of_ble rfl)
    apply Wk.sto (i := 27) 1 false ty3 rfl rfl rfl rfl (Nat.le_of_ble_eq_true rfl) (lt_of_ble rfl)
    refine Wk.nil ?_
    apply AW.list
    apply Wk.mv (by conv => lhs; whnf) (lt_of_ble rfl)
    apply Wk.nilc rfl (lt_of_ble rfl)
    apply Wk.fad 13 0 false fd109_2 rfl (lt_of_ble rfl)
    apply Wk.ld (i := 27) 1 false ty3 rfl rfl (by conv => lhs; whnf) (lt_of_ble rfl)
    apply Wk.mv (by conv => lhs; whnf) (lt_of_ble rfl)
    apply Wk.subi rfl rfl (by omega) (lt_of_ble rfl)
    apply Wk.nilc rfl (lt_of_ble rfl)
    apply Wk.fad 13 0 false fd109_2 rfl (lt_of_ble rfl)
    apply Wk.sto (i := 27) 1 false ty3 rfl rfl rfl rfl (Nat.le_of_ble_eq_true rfl) (lt_of_ble rfl)
    refine Wk.nil ?_
    exact ⟨[], sndB _ l qu, .nil, ⟨rfl, rfl⟩, kept2 rfl rfl⟩
set_option maxHeartbeats 4000000 in
set_option maxRecDepth 100000 in
theorem iletGo (m w p u y a : Int) (f : Nat → Sl) (k s : Int) (l : Nat) (q : Bool) (t : Int) (hh : Bool) (c : Int) (dd : Bool) (qu : List Dat) (n : Nat) (hn : n ≤ 4) (hk : 0 ≤ k ∧ k ≤ 4) (ha : 0 ≤ a ∧ a < 8) (hs : 0 ≤ s ∧ s ≤ 1000000) (hc : 0 ≤ c ∧ c ≤ 1000000) : Spec Try.prog 101 [.ptr 27 0, .d (.v (.int .i64 (n : Int)))] (sndB (sndC m w p u y a f 0 k s l q t hh c dd) l qu) (fun r bs => r = .tup [] ∧ bs = sndB (sndC m w p u y ((a + (n : Int)) % 8) f ((n % 4 : Nat) : Int) (k - (n : Int)) (max 0 (s - (n : Int))) l q t hh (c + (n : Int)) dd) l qu) := by
  have cd := idrop m w p u y a f k s l q t hh c dd qu n hn hk
  have co := ion_ok a (n : Int) ha (by omega)
  refine Spec.intro (n := 36) (rv := []) Try.func101 rfl rfl rfl (by simp) fun C hN hX => ?_
  refine AW.seq ?_
  apply AW.list
  apply Wk.mv (by conv => lhs; whnf) (lt_of_ble rfl)
  apply Wk.nilc rfl (lt_of_ble rfl)
  apply Wk.fad 6 13 true fd111_2 rfl (lt_of_ble rfl)
  apply Wk.mv (by conv => lhs; whnf) (lt_of_ble rfl)
  apply Wk.cal [27, 66] [] cd (in_snd _ rfl _ _ _ _ _ _ _ _ _ _ _ _ _ _ _ _ _ _) ⟨_, _, rfl, rfl⟩ Try.func110 rfl rfl rfl rfl (fun i hi => by cases hi) rfl (two_in rfl (by exact within_parts _)) (lt_of_ble rfl)
  rintro r bs' ⟨rfl, rfl⟩
  refine Wk.nil ?_
  refine AW.seq ?_
  apply AW.list
  apply Wk.mv (by conv => lhs; whnf) (lt_of_ble rfl)
  apply Wk.mv (by conv => lhs; whnf) (lt_of_ble rfl)
  apply Wk.nilc rfl (lt_of_ble rfl)
  apply Wk.fad 5 0 false fd111_1 rfl (lt_of_ble rfl)
  apply Wk.ld (i := 27) 1 false ty92 rfl rfl (by conv => lhs; whnf) (lt_of_ble rfl)
  apply Wk.mv (by conv => lhs; whnf) (lt_of_ble rfl)
  apply Wk.dat co Try.func90 rfl rfl rfl rfl rfl (lt_of_ble rfl)
  apply Wk.nilc rfl (lt_of_ble rfl)
  apply Wk.fad 5 0 false fd111_1 rfl (lt_of_ble rfl)
  apply Wk.sto (i := 27) 1 false ty92 rfl rfl rfl rfl (Nat.le_of_ble_eq_true rfl) (lt_of_ble rfl)
  refine Wk.nil ?_
  refine AW.seq ?_
  apply AW.list
  apply Wk.mv (by conv => lhs; whnf) (lt_of_ble rfl)
  apply Wk.nilc rfl (lt_of_ble rfl)
  apply Wk.fad 25 0 false fd111_8 rfl (lt_of_ble rfl)
  apply Wk.ld (i := 27) 1 false ty3 rfl rfl (by conv => lhs; whnf) (lt_of_ble rfl)
  apply Wk.mv (by conv => lhs; whnf) (lt_of_ble rfl)
  apply Wk.addi rfl rfl (by omega) (lt_of_ble rfl)
  apply Wk.nilc rfl (lt_of_ble rfl)
  apply Wk.fad 25 0 false fd111_8 rfl (lt_of_ble rfl)
  apply Wk.sto (i := 27) 1 false ty3 rfl rfl rfl rfl (Nat.le_of_ble_eq_true rfl) (lt_of_ble rfl)
  refine Wk.nil ?_
  apply AW.list
  apply Wk.mv (by conv => lhs; whnf) (lt_of_ble rfl)
  apply Wk.mv (by conv => lhs; whnf) (lt_of_ble rfl)
  apply Wk.nilc rfl (lt_of_ble rfl)
  apply Wk.fad 20 0 false fd111_3 rfl (lt_of_ble rfl)
  apply Wk.ld (i := 27) 1 false ty3 rfl rfl (by conv => lhs; whnf) (lt_of_ble rfl)
  apply Wk.mv (by conv => lhs; whnf) (lt_of_ble rfl)
  apply Wk.subi rfl rfl (by omega) (lt_of_ble rfl)
  apply Wk.max2 rfl rfl (r := max 0 (s - (n : Int))) (by rw [Int.max_def]; split <;> split <;> omega) (lt_of_ble rfl)
  apply Wk.nilc rfl (lt_of_ble rfl)
  apply Wk.fad 20 0 false fd111_3 rfl (lt_of_ble rfl)
  apply Wk.sto (i := 27) 1 false ty3 rfl rfl rfl rfl (Nat.le_of_ble_eq_true rfl) (lt_of_ble rfl)
  refine Wk.nil ?_
  exact ⟨[], sndB _ l qu, .nil, ⟨rfl, rfl⟩, kept2 rfl rfl⟩
set_option maxHeartbeats 4000000 in
set_option maxRecDepth 100000 in
theorem iansw (m w p u y a : Int) (f : Nat → Sl) (h k s : Int) (l : Nat) (q : Bool) (t : Int) (hh : Bool) (c : Int) (dd : Bool) (qu : List Dat) : Spec Try.prog 102 [.ptr 27 0] (sndB (sndC m w p u y a f h k s l q t hh c dd) l qu) (fun r bs => r = .tup [] ∧ bs = sndB (sndC m w p u y a f h k 0 l false 0 hh c dd) l qu) := by
  refine Spec.intro (n := 11) (rv := []) Try.func102 rfl rfl rfl (by simp) fun C hN hX => ?_
  refine AW.seq ?_
  apply AW.list
  apply Wk.mv (by conv => lhs; whnf) (lt_of_ble rfl)
  apply Wk.nilc rfl (lt_of_ble rfl)
  apply Wk.fad 22 0 false fd111_5 rfl (lt_of_ble rfl)
  apply Wk.sto (i := 27) 1 false ty4 rfl rfl rfl rfl (Nat.le_of_ble_eq_true rfl) (lt_of_ble rfl)
  refine Wk.nil ?_
  refine AW.seq ?_
  apply AW.list
  apply Wk.mv (by conv => lhs; whnf) (lt_of_ble rfl)
  apply Wk.nilc rfl (lt_of_ble rfl)
  apply Wk.fad 23 0 false fd111_6 rfl (lt_of_ble rfl)
  apply Wk.sto (i := 27) 1 false ty3 rfl rfl rfl rfl (Nat.le_of_ble_eq_true rfl) (lt_of_ble rfl)
  refine Wk.nil ?_
  apply AW.list
  apply Wk.mv (by conv => lhs; whnf) (lt_of_ble rfl)
  apply Wk.nilc rfl (lt_of_ble rfl)
  apply Wk.fad 20 0 false fd111_3 rfl (lt_of_ble rfl)
  apply Wk.sto (i := 27) 1 false ty3 rfl rfl rfl rfl (Nat.le_of_ble_eq_true rfl) (lt_of_ble rfl)
  refine Wk.nil ?_
  exact ⟨[], sndB _ l qu, .nil, ⟨rfl, rfl⟩, kept2 rfl rfl⟩
set_option maxHeartbeats 4000000 in
set_option maxRecDepth 100000 in
theorem ihearD (m w p u y a : Int) (f : Nat → Sl) (k s : Int) (l : Nat) (q : Bool) (t : Int) (hh : Bool) (c : Int) (qu : List Dat) (kd sq ack : Int) (pl fi : Bool) (sy g ln : Int) (zd : D) : Spec Try.prog 74 [.ptr 27 0, frmZ kd sq ack pl fi sy g ln zd] (sndB (sndC m w p u y a f 0 k s l q t hh c true) l qu) (fun r bs => r = .tup [] ∧ bs = sndB (sndC m w p u y a f 0 k s l q t hh c true) l qu) := by
  simp only [frmZ, frmZC]
  refine Spec.intro (n := 66) (rv := []) Try.func74 rfl rfl rfl (by simp) fun C hN hX => ?_
  refine AW.seq ?_
  apply AW.list
  apply Wk.bx 3 rfl rfl (lt_of_ble rfl)
  refine Wk.nil ?_
  refine AW.seq (AW.seq ?_)
  apply AW.list
  apply Wk.mv (by conv => lhs; whnf) (lt_of_ble rfl)
  apply Wk.nilc rfl (lt_of_ble rfl)
  apply Wk.fad 26 0 false fd111_9 rfl (lt_of_ble rfl)
  apply Wk.ld (i := 27) 1 false ty4 rfl rfl (by conv => lhs; whnf) (lt_of_ble rfl)
  refine Wk.nil ?_
  refine AW.cond rfl (fun _ => AW.ret ?_) (fun hc => by cases hc)
  repeat (first | refine thenA_ret ?_ | refine inBlockA_ret ?_)
  exact RetQ.ret (sndB _ l qu) .nil ⟨rfl, rfl⟩ (kept2 rfl rfl)
set_option maxHeartbeats 4000000 in
set_option maxRecDepth 100000 in
theorem ihearO (m w p u y a : Int) (f : Nat → Sl) (k s : Int) (l : Nat) (q : Bool) (t : Int) (hh : Bool) (c : Int) (qu : List Dat) (kd sq ack : Int) (pl fi : Bool) (sy g ln : Int) (zd : D) (ha : 0 ≤ a ∧ a < 8) (hb : 0 ≤ ack ∧ ack < 8) (ho : k < (ack - a) % 8) : Spec Try.prog 74 [.ptr 27 0, frmZ kd sq ack pl fi sy g ln zd] (sndB (sndC m w p u y a f 0 k s l q t hh c false) l qu) (fun r bs => r = .tup [] ∧ bs = sndB (sndC m w p u y a f 0 k s l q t hh c true) l qu) := by
  have cf := ifarto a ack ha hb
  simp only [frmZ, frmZC]
  refine Spec.intro (n := 66) (rv := []) Try.func74 rfl rfl rfl (by simp) fun C hN hX => ?_
  refine AW.seq ?_
  apply AW.list
  apply Wk.bx 3 rfl rfl (lt_of_ble rfl)
  refine Wk.nil ?_
  refine AW.seq (AW.seq ?_)
  apply AW.list
  apply Wk.mv (by conv => lhs; whnf) (lt_of_ble rfl)
  apply Wk.nilc rfl (lt_of_ble rfl)
  apply Wk.fad 26 0 false fd111_9 rfl (lt_of_ble rfl)
  apply Wk.ld (i := 27) 1 false ty4 rfl rfl (by conv => lhs; whnf) (lt_of_ble rfl)
  refine Wk.nil ?_
  refine AW.cond rfl (fun hc => by cases hc) (fun _ => AW.skip (thenA_normal ?_))
  refine AW.seq ?_
  apply AW.draw (hm := hmix) (cs := _)
  · apply Wk.mv (by conv => lhs; whnf) (lt_of_ble rfl)
    apply Wk.nilc rfl (lt_of_ble rfl)
    apply Wk.fad 5 0 false fd111_1 rfl (lt_of_ble rfl)
    apply Wk.ld (i := 27) 1 false ty92 rfl rfl (by conv => lhs; whnf) (lt_of_ble rfl)
    apply Wk.fad 2 0 false fd42_2 rfl (lt_of_ble rfl)
    apply Wk.ld (i := 3) 1 false ty3 rfl rfl (by conv => lhs; whnf) (lt_of_ble rfl)
    apply Wk.dat cf Try.func77 rfl rfl rfl rfl rfl (lt_of_ble rfl)
    apply Wk.asg (by conv => lhs; whnf) (lt_of_ble rfl)
    refine Wk.nil ?_
    refine AW.seq (AW.seq ?_)
    apply AW.list
    apply Wk.mv (by conv => lhs; whnf) (lt_of_ble rfl)
    apply Wk.mv (by conv => lhs; whnf) (lt_of_ble rfl)
    apply Wk.nilc rfl (lt_of_ble rfl)
    apply Wk.fad 6 13 true fd111_2 rfl (lt_of_ble rfl)
    apply Wk.fad 13 0 false fd109_2 rfl (lt_of_ble rfl)
    apply Wk.ld (i := 27) 1 false ty3 rfl rfl (by conv => lhs; whnf) (lt_of_ble rfl)
    apply Wk.bin rfl rfl (r := .bool true) (fun w => by simp [go_sem] <;> omega) (lt_of_ble rfl)
    refine Wk.nil ?_
    refine AW.cond rfl (fun _ => ?_) (fun hc => by cases hc)
    refine AW.seq ?_
    apply AW.list
    apply Wk.mv (by conv => lhs; whnf) (lt_of_ble rfl)
    apply Wk.nilc rfl (lt_of_ble rfl)
    apply Wk.fad 26 0 false fd111_9 rfl (lt_of_ble rfl)
    apply Wk.sto (i := 27) 1 false ty4 rfl rfl rfl rfl (Nat.le_of_ble_eq_true rfl) (lt_of_ble rfl)
    refine Wk.nil (AW.ret ?_)
    repeat (first | refine thenA_ret ?_ | refine inBlockA_ret ?_)
    exact RetQ.ret (sndB _ l qu) .nil ⟨rfl, rfl⟩ (kept2 rfl rfl)
  · rfl
  · rfl
/-- What a frame says, behind how far all has come. -/
def rest3 (kd sy : Int) (fi : Bool) (s : Int) (q : Bool) (t : Int) (hh : Bool) : Int × Bool × Int × Bool :=
  let h' := if kd = 2 then decide (sy = 2) else hh
  let z : Int × Bool × Int := if fi = true ∧ q = true then (0, false, 0) else (s, q, t)
  (if kd = 2 ∧ sy = 1 ∧ z.2.1 = false then 0 else z.1, z.2.1, z.2.2, h')
set_option maxHeartbeats 4000000 in
set_option maxRecDepth 100000 in
theorem ihearG (m w p u y a : Int) (f : Nat → Sl) (k s : Int) (l : Nat) (q : Bool) (t : Int) (hh : Bool) (c : Int) (qu : List Dat) (kd sq ack : Int) (pl fi : Bool) (sy g ln : Int) (zd : D) (n : Nat) (hn : n ≤ 4) (hk : 0 ≤ k ∧ k ≤ 4) (ha : 0 ≤ a ∧ a < 8) (hb : 0 ≤ ack ∧ ack < 8) (hf : (ack - a) % 8 = (n : Int)) (ho : (n : Int) ≤ k) (hs : 0 ≤ s ∧ s ≤ 1000000) (hc : 0 ≤ c ∧ c ≤ 1000000) (hkd : kd = 1 ∨ kd = 2) : Spec Try.prog 74 [.ptr 27 0, frmZ kd sq ack pl fi sy g ln zd] (sndB (sndC m w p u y a f 0 k s l q t hh c false) l qu) (fun r bs => r = .tup [] ∧ bs = sndB (sndC m w p u y ((a + (n : Int)) % 8) f ((n % 4 : Nat) : Int) (k - (n : Int)) (rest3 kd sy fi (max 0 (s - (n : Int))) q t hh).1 l (rest3 kd sy fi (max 0 (s - (n : Int))) q t hh).2.1 (rest3 kd sy fi (max 0 (s - (n : Int))) q t hh).2.2.1 (rest3 kd sy fi (max 0 (s - (n : Int))) q t hh).2.2.2 (c + (n : Int)) false) l qu) := by
  have cf := ifarto a ack ha hb
  rw [hf] at cf
  have cl := iletGo m w p u y a f k s l q t hh c false qu n hn hk ha hs hc
  simp only [frmZ, frmZC]
  generalize max 0 (s - (n : Int)) = s1 at cl ⊢
  rcases hkd with rfl | rfl
  · cases fi <;> cases q
    · skip
      refine Spec.intro (n := 66) (rv := []) Try.func74 rfl rfl rfl (by simp) fun C hN hX => ?_
      refine AW.seq ?_
      apply AW.list
      apply Wk.bx 3 rfl rfl (lt_of_ble rfl)
      refine Wk.nil ?_
      refine AW.seq (AW.seq ?_)
      apply AW.list
      apply Wk.mv (by conv => lhs; whnf) (lt_of_ble rfl)
      apply Wk.nilc rfl (lt_of_ble rfl)
      apply Wk.fad 26 0 false fd111_9 rfl (lt_of_ble rfl)
      apply Wk.ld (i := 27) 1 false ty4 rfl rfl (by conv => lhs; whnf) (lt_of_ble rfl)
      refine Wk.nil ?_
      refine AW.cond rfl (fun hc => by cases hc) (fun _ => AW.skip (thenA_normal ?_))
      refine AW.seq ?_
      apply AW.draw (hm := hmix) (cs := _)
      · apply Wk.mv (by conv => lhs; whnf) (lt_of_ble rfl)
        apply Wk.nilc rfl (lt_of_ble rfl)
        apply Wk.fad 5 0 false fd111_1 rfl (lt_of_ble rfl)
        apply Wk.ld (i := 27) 1 false ty92 rfl rfl (by conv => lhs; whnf) (lt_of_ble rfl)
        apply Wk.fad 2 0 false fd42_2 rfl (lt_of_ble rfl)
        apply Wk.ld (i := 3) 1 false ty3 rfl rfl (by conv => lhs; whnf) (lt_of_ble rfl)
        apply Wk.dat cf Try.func77 rfl rfl rfl rfl rfl (lt_of_ble rfl)
        apply Wk.asg (by conv => lhs; whnf) (lt_of_ble rfl)
        refine Wk.nil ?_
        refine AW.seq (AW.seq ?_)
        apply AW.list
        apply Wk.mv (by conv => lhs; whnf) (lt_of_ble rfl)
        apply Wk.mv (by conv => lhs; whnf) (lt_of_ble rfl)
        apply Wk.nilc rfl (lt_of_ble rfl)
        apply Wk.fad 6 13 true fd111_2 rfl (lt_of_ble rfl)
        apply Wk.fad 13 0 false fd109_2 rfl (lt_of_ble rfl)
        apply Wk.ld (i := 27) 1 false ty3 rfl rfl (by conv => lhs; whnf) (lt_of_ble rfl)
        apply Wk.bin rfl rfl (r := .bool false) (fun w => by simp [go_sem] <;> omega) (lt_of_ble rfl)
        refine Wk.nil ?_
        refine AW.cond rfl (fun hc => by cases hc) (fun _ => AW.skip (thenA_normal ?_))
        refine AW.seq ?_
        apply AW.list
        apply Wk.mv (by conv => lhs; whnf) (lt_of_ble rfl)
        apply Wk.mv (by conv => lhs; whnf) (lt_of_ble rfl)
        apply Wk.cal [27, 66] [] cl (in_snd _ rfl _ _ _ _ _ _ _ _ _ _ _ _ _ _ _ _ _ _) ⟨_, _, rfl, rfl⟩ Try.func101 rfl rfl rfl rfl (fun i hi => by cases hi) rfl (two_in rfl (by exact within_parts _)) (lt_of_ble rfl)
        rintro r bs' ⟨rfl, rfl⟩
        refine Wk.nil ?_
        refine AW.seq (AW.seq ?_)
        apply AW.list
        apply Wk.fad 0 0 false fd42_0 rfl (lt_of_ble rfl)
        apply Wk.ld (i := 3) 1 false ty3 rfl rfl (by conv => lhs; whnf) (lt_of_ble rfl)
        apply Wk.bin rfl rfl (r := .bool false) (fun w => by simp [go_sem]) (lt_of_ble rfl)
        refine Wk.nil ?_
        refine AW.cond rfl (fun hc => by cases hc) (fun _ => AW.skip (thenA_normal ?_))
        refine AW.seq (AW.seq ?_)
        apply AW.list
        apply Wk.fad 4 0 false fd42_4 rfl (lt_of_ble rfl)
        apply Wk.ld (i := 3) 1 false ty4 rfl rfl (by conv => lhs; whnf) (lt_of_ble rfl)
        apply Wk.mv (by conv => lhs; whnf) (lt_of_ble rfl)
        apply Wk.goff 40 (ok_move _) rfl rfl (by decide)
        apply Wk.goff 40 (ok_nil _) rfl rfl (by decide)
        apply Wk.goff 40 (ok_faddr fd111_5) rfl rfl (by decide)
        apply Wk.goff 40 (ok_load 27 ty4) rfl rfl (by decide)
        apply Wk.pckF rfl (by conv => lhs; whnf) (lt_of_ble rfl)
        refine Wk.nil ?_
        refine AW.cond rfl (fun hc => by cases hc) (fun _ => AW.skip (thenA_normal ?_))
        refine AW.seq ?_
        apply AW.list
        apply Wk.fad 0 0 false fd42_0 rfl (lt_of_ble rfl)
        apply Wk.ld (i := 3) 1 false ty3 rfl rfl (by conv => lhs; whnf) (lt_of_ble rfl)
        apply Wk.bin rfl rfl (r := .bool false) (fun w => by simp [go_sem]) (lt_of_ble rfl)
        apply Wk.mv (by conv => lhs; whnf) (lt_of_ble rfl)
        apply Wk.goff 51 (ok_faddr fd42_5) rfl rfl (by decide)
        apply Wk.goff 51 (ok_load 3 ty3) rfl rfl (by decide)
        apply Wk.goff 51 (ok_bin _ _ _ _ _) rfl rfl (by decide)
        apply Wk.pckF rfl (by conv => lhs; whnf) (lt_of_ble rfl)
        apply Wk.mv (by conv => lhs; whnf) (lt_of_ble rfl)
        apply Wk.goff 56 (ok_move _) rfl rfl (by decide)
        apply Wk.goff 56 (ok_nil _) rfl rfl (by decide)
        apply Wk.goff 56 (ok_faddr fd111_5) rfl rfl (by decide)
        apply Wk.goff 56 (ok_load 27 ty4) rfl rfl (by decide)
        apply Wk.goff 56 (ok_un _ _ _) rfl rfl (by decide)
        apply Wk.pckF rfl (by conv => lhs; whnf) (lt_of_ble rfl)
        refine Wk.nil ?_
        refine AW.cond rfl (fun hc => by cases hc) (fun _ => AW.skip ?_)
        have e : rest3 1 sy false s1 false t hh = (s1, false, t, hh) := by simp [rest3]
        exact ⟨[], sndB _ l qu, .nil, ⟨rfl, by rw [e] <;> rfl⟩, kept2 rfl rfl⟩
      · rfl
      · rfl
    · skip
      refine Spec.intro (n := 66) (rv := []) Try.func74 rfl rfl rfl (by simp) fun C hN hX => ?_
      refine AW.seq ?_
      apply AW.list
      apply Wk.bx 3 rfl rfl (lt_of_ble rfl)
      refine Wk.nil ?_
      refine AW.seq (AW.seq ?_)
      apply AW.list
      apply Wk.mv (by conv => lhs; whnf) (lt_of_ble rfl)
      apply Wk.nilc rfl (lt_of_ble rfl)
      apply Wk.fad 26 0 false fd111_9 rfl (lt_of_ble rfl)
      apply Wk.ld (i := 27) 1 false ty4 rfl rfl (by conv => lhs; whnf) (lt_of_ble rfl)
      refine Wk.nil ?_
      refine AW.cond rfl (fun hc => by cases hc) (fun _ => AW.skip (thenA_normal ?_))
      refine AW.seq ?_
      apply AW.draw (hm := hmix) (cs := _)
      · apply Wk.mv (by conv => lhs; whnf) (lt_of_ble rfl)
        apply Wk.nilc rfl (lt_of_ble rfl)
        apply Wk.fad 5 0 false fd111_1 rfl (lt_of_ble rfl)
        apply Wk.ld (i := 27) 1 false ty92 rfl rfl (by conv => lhs; whnf) (lt_of_ble rfl)
        apply Wk.fad 2 0 false fd42_2 rfl (lt_of_ble rfl)
        apply Wk.ld (i := 3) 1 false ty3 rfl rfl (by conv => lhs; whnf) (lt_of_ble rfl)
        apply Wk.dat cf Try.func77 rfl rfl rfl rfl rfl (lt_of_ble rfl)
        apply Wk.asg (by conv => lhs; whnf) (lt_of_ble rfl)
        refine Wk.nil ?_
        refine AW.seq (AW.seq ?_)
        apply AW.list
        apply Wk.mv (by conv => lhs; whnf) (lt_of_ble rfl)
        apply Wk.mv (by conv => lhs; whnf) (lt_of_ble rfl)
        apply Wk.nilc rfl (lt_of_ble rfl)
        apply Wk.fad 6 13 true fd111_2 rfl (lt_of_ble rfl)
        apply Wk.fad 13 0 false fd109_2 rfl (lt_of_ble rfl)
        apply Wk.ld (i := 27) 1 false ty3 rfl rfl (by conv => lhs; whnf) (lt_of_ble rfl)
        apply Wk.bin rfl rfl (r := .bool false) (fun w => by simp [go_sem] <;> omega) (lt_of_ble rfl)
        refine Wk.nil ?_
        refine AW.cond rfl (fun hc => by cases hc) (fun _ => AW.skip (thenA_normal ?_))
        refine AW.seq ?_
        apply AW.list
        apply Wk.mv (by conv => lhs; whnf) (lt_of_ble rfl)
        apply Wk.mv (by conv => lhs; whnf) (lt_of_ble rfl)
        apply Wk.cal [27, 66] [] cl (in_snd _ rfl _ _ _ _ _ _ _ _ _ _ _ _ _ _ _ _ _ _) ⟨_, _, rfl, rfl⟩ Try.func101 rfl rfl rfl rfl (fun i hi => by cases hi) rfl (two_in rfl (by exact within_parts _)) (lt_of_ble rfl)
        rintro r bs' ⟨rfl, rfl⟩
        refine Wk.nil ?_
        refine AW.seq (AW.seq ?_)
        apply AW.list
        apply Wk.fad 0 0 false fd42_0 rfl (lt_of_ble rfl)
        apply Wk.ld (i := 3) 1 false ty3 rfl rfl (by conv => lhs; whnf) (lt_of_ble rfl)
        apply Wk.bin rfl rfl (r := .bool false) (fun w => by simp [go_sem]) (lt_of_ble rfl)
        refine Wk.nil ?_
        refine AW.cond rfl (fun hc => by cases hc) (fun _ => AW.skip (thenA_normal ?_))
        refine AW.seq (AW.seq ?_)
        apply AW.list
        apply Wk.fad 4 0 false fd42_4 rfl (lt_of_ble rfl)
        apply Wk.ld (i := 3) 1 false ty4 rfl rfl (by conv => lhs; whnf) (lt_of_ble rfl)
        apply Wk.mv (by conv => lhs; whnf) (lt_of_ble rfl)
        apply Wk.goff 40 (ok_move _) rfl rfl (by decide)
        apply Wk.goff 40 (ok_nil _) rfl rfl (by decide)
        apply Wk.goff 40 (ok_faddr fd111_5) rfl rfl (by decide)
        apply Wk.goff 40 (ok_load 27 ty4) rfl rfl (by decide)
        apply Wk.pckF rfl (by conv => lhs; whnf) (lt_of_ble rfl)
        refine Wk.nil ?_
        refine AW.cond rfl (fun hc => by cases hc) (fun _ => AW.skip (thenA_normal ?_))
        refine AW.seq ?_
        apply AW.list
        apply Wk.fad 0 0 false fd42_0 rfl (lt_of_ble rfl)
        apply Wk.ld (i := 3) 1 false ty3 rfl rfl (by conv => lhs; whnf) (lt_of_ble rfl)
        apply Wk.bin rfl rfl (r := .bool false) (fun w => by simp [go_sem]) (lt_of_ble rfl)
        apply Wk.mv (by conv => lhs; whnf) (lt_of_ble rfl)
        apply Wk.goff 51 (ok_faddr fd42_5) rfl rfl (by decide)
        apply Wk.goff 51 (ok_load 3 ty3) rfl rfl (by decide)
        apply Wk.goff 51 (ok_bin _ _ _ _ _) rfl rfl (by decide)
        apply Wk.pckF rfl (by conv => lhs; whnf) (lt_of_ble rfl)
        apply Wk.mv (by conv => lhs; whnf) (lt_of_ble rfl)
        apply Wk.goff 56 (ok_move _) rfl rfl (by decide)
        apply Wk.goff 56 (ok_nil _) rfl rfl (by decide)
        apply Wk.goff 56 (ok_faddr fd111_5) rfl rfl (by decide)
        apply Wk.goff 56 (ok_load 27 ty4) rfl rfl (by decide)
        apply Wk.goff 56 (ok_un _ _ _) rfl rfl (by decide)
        apply Wk.pckF rfl (by conv => lhs; whnf) (lt_of_ble rfl)
        refine Wk.nil ?_
        refine AW.cond rfl (fun hc => by cases hc) (fun _ => AW.skip ?_)
        have e : rest3 1 sy false s1 true t hh = (s1, true, t, hh) := by simp [rest3]
        exact ⟨[], sndB _ l qu, .nil, ⟨rfl, by rw [e] <;> rfl⟩, kept2 rfl rfl⟩
      · rfl
      · rfl
    · skip
      refine Spec.intro (n := 66) (rv := []) Try.func74 rfl rfl rfl (by simp) fun C hN hX => ?_
      refine AW.seq ?_
      apply AW.list
      apply Wk.bx 3 rfl rfl (lt_of_ble rfl)
      refine Wk.nil ?_
      refine AW.seq (AW.seq ?_)
      apply AW.list
      apply Wk.mv (by conv => lhs; whnf) (lt_of_ble rfl)
      apply Wk.nilc rfl (lt_of_ble rfl)
      apply Wk.fad 26 0 false fd111_9 rfl (lt_of_ble rfl)
      apply Wk.ld (i := 27) 1 false ty4 rfl rfl (by conv => lhs; whnf) (lt_of_ble rfl)
      refine Wk.nil ?_
      refine AW.cond rfl (fun hc => by cases hc) (fun _ => AW.skip (thenA_normal ?_))
      refine AW.seq ?_
      apply AW.draw (hm := hmix) (cs := _)
      · apply Wk.mv (by conv => lhs; whnf) (lt_of_ble rfl)
        apply Wk.nilc rfl (lt_of_ble rfl)
        apply Wk.fad 5 0 false fd111_1 rfl (lt_of_ble rfl)
        apply Wk.ld (i := 27) 1 false ty92 rfl rfl (by conv => lhs; whnf) (lt_of_ble rfl)
        apply Wk.fad 2 0 false fd42_2 rfl (lt_of_ble rfl)
        apply Wk.ld (i := 3) 1 false ty3 rfl rfl (by conv => lhs; whnf) (lt_of_ble rfl)
        apply Wk.dat cf Try.func77 rfl rfl rfl rfl rfl (lt_of_ble rfl)
        apply Wk.asg (by conv => lhs; whnf) (lt_of_ble rfl)
        refine Wk.nil ?_
        refine AW.seq (AW.seq ?_)
        apply AW.list
        apply Wk.mv (by conv => lhs; whnf) (lt_of_ble rfl)
        apply Wk.mv (by conv => lhs; whnf) (lt_of_ble rfl)
        apply Wk.nilc rfl (lt_of_ble rfl)
        apply Wk.fad 6 13 true fd111_2 rfl (lt_of_ble rfl)
        apply Wk.fad 13 0 false fd109_2 rfl (lt_of_ble rfl)
        apply Wk.ld (i := 27) 1 false ty3 rfl rfl (by conv => lhs; whnf) (lt_of_ble rfl)
        apply Wk.bin rfl rfl (r := .bool false) (fun w => by simp [go_sem] <;> omega) (lt_of_ble rfl)
        refine Wk.nil ?_
        refine AW.cond rfl (fun hc => by cases hc) (fun _ => AW.skip (thenA_normal ?_))
        refine AW.seq ?_
        apply AW.list
        apply Wk.mv (by conv => lhs; whnf) (lt_of_ble rfl)
        apply Wk.mv (by conv => lhs; whnf) (lt_of_ble rfl)
        apply Wk.cal [27, 66] [] cl (in_snd _ rfl _ _ _ _ _ _ _ _ _ _ _ _ _ _ _ _ _ _) ⟨_, _, rfl, rfl⟩ Try.func101 rfl rfl rfl rfl (fun i hi => by cases hi) rfl (two_in rfl (by exact within_parts _)) (lt_of_ble rfl)
        rintro r bs' ⟨rfl, rfl⟩
        refine Wk.nil ?_
        refine AW.seq (AW.seq ?_)
        apply AW.list
        apply Wk.fad 0 0 false fd42_0 rfl (lt_of_ble rfl)
        apply Wk.ld (i := 3) 1 false ty3 rfl rfl (by conv => lhs; whnf) (lt_of_ble rfl)
        apply Wk.bin rfl rfl (r := .bool false) (fun w => by simp [go_sem]) (lt_of_ble rfl)
        refine Wk.nil ?_
        refine AW.cond rfl (fun hc => by cases hc) (fun _ => AW.skip (thenA_normal ?_))
        refine AW.seq (AW.seq ?_)
        apply AW.list
        apply Wk.fad 4 0 false fd42_4 rfl (lt_of_ble rfl)
        apply Wk.ld (i := 3) 1 false ty4 rfl rfl (by conv => lhs; whnf) (lt_of_ble rfl)
        apply Wk.mv (by conv => lhs; whnf) (lt_of_ble rfl)
        apply Wk.gon 40 rfl rfl
        apply Wk.mv (by conv => lhs; whnf) (lt_of_ble rfl)
        apply Wk.gon 40 rfl rfl
        apply Wk.nilc rfl (lt_of_ble rfl)
        apply Wk.gon 40 rfl rfl
        apply Wk.fad 22 0 false fd111_5 rfl (lt_of_ble rfl)
        apply Wk.gon 40 rfl rfl
        apply Wk.ld (i := 27) 1 false ty4 rfl rfl (by conv => lhs; whnf) (lt_of_ble rfl)
        apply Wk.pckT rfl (by conv => lhs; whnf) (lt_of_ble rfl)
        refine Wk.nil ?_
        refine AW.cond rfl (fun hc => by cases hc) (fun _ => AW.skip (thenA_normal ?_))
        refine AW.seq ?_
        apply AW.list
        apply Wk.fad 0 0 false fd42_0 rfl (lt_of_ble rfl)
        apply Wk.ld (i := 3) 1 false ty3 rfl rfl (by conv => lhs; whnf) (lt_of_ble rfl)
        apply Wk.bin rfl rfl (r := .bool false) (fun w => by simp [go_sem]) (lt_of_ble rfl)
        apply Wk.mv (by conv => lhs; whnf) (lt_of_ble rfl)
        apply Wk.goff 51 (ok_faddr fd42_5) rfl rfl (by decide)
        apply Wk.goff 51 (ok_load 3 ty3) rfl rfl (by decide)
        apply Wk.goff 51 (ok_bin _ _ _ _ _) rfl rfl (by decide)
        apply Wk.pckF rfl (by conv => lhs; whnf) (lt_of_ble rfl)
        apply Wk.mv (by conv => lhs; whnf) (lt_of_ble rfl)
        apply Wk.goff 56 (ok_move _) rfl rfl (by decide)
        apply Wk.goff 56 (ok_nil _) rfl rfl (by decide)
        apply Wk.goff 56 (ok_faddr fd111_5) rfl rfl (by decide)
        apply Wk.goff 56 (ok_load 27 ty4) rfl rfl (by decide)
        apply Wk.goff 56 (ok_un _ _ _) rfl rfl (by decide)
        apply Wk.pckF rfl (by conv => lhs; whnf) (lt_of_ble rfl)
        refine Wk.nil ?_
        refine AW.cond rfl (fun hc => by cases hc) (fun _ => AW.skip ?_)
        have e : rest3 1 sy true s1 false t hh = (s1, false, t, hh) := by simp [rest3]
        exact ⟨[], sndB _ l qu, .nil, ⟨rfl, by rw [e] <;> rfl⟩, kept2 rfl rfl⟩
      · rfl
      · rfl
    · skip
      refine Spec.intro (n := 66) (rv := []) Try.func74 rfl rfl rfl (by simp) fun C hN hX => ?_
      refine AW.seq ?_
      apply AW.list
      apply Wk.bx 3 rfl rfl (lt_of_ble rfl)
      refine Wk.nil ?_
      refine AW.seq (AW.seq ?_)
      apply AW.list
      apply Wk.mv (by conv => lhs; whnf) (lt_of_ble rfl)
      apply Wk.nilc rfl (lt_of_ble rfl)
      apply Wk.fad 26 0 false fd111_9 rfl (lt_of_ble rfl)
      apply Wk.ld (i := 27) 1 false ty4 rfl rfl (by conv => lhs; whnf) (lt_of_ble rfl)
      refine Wk.nil ?_
      refine AW.cond rfl (fun hc => by cases hc) (fun _ => AW.skip (thenA_normal ?_))
      refine AW.seq ?_
      apply AW.draw (hm := hmix) (cs := _)
      · apply Wk.mv (by conv => lhs; whnf) (lt_of_ble rfl)
        apply Wk.nilc rfl (lt_of_ble rfl)
        apply Wk.fad 5 0 false fd111_1 rfl (lt_of_ble rfl)
        apply Wk.ld (i := 27) 1 false ty92 rfl rfl (by conv => lhs; whnf) (lt_of_ble rfl)
        apply Wk.fad 2 0 false fd42_2 rfl (lt_of_ble rfl)
        apply Wk.ld (i := 3) 1 false ty3 rfl rfl (by conv => lhs; whnf) (lt_of_ble rfl)
        apply Wk.dat cf Try.func77 rfl rfl rfl rfl rfl (lt_of_ble rfl)
        apply Wk.asg (by conv => lhs; whnf) (lt_of_ble rfl)
        refine Wk.nil ?_
        refine AW.seq (AW.seq ?_)
        apply AW.list
        apply Wk.mv (by conv => lhs; whnf) (lt_of_ble rfl)
        apply Wk.mv (by conv => lhs; whnf) (lt_of_ble rfl)
        apply Wk.nilc rfl (lt_of_ble rfl)
        apply Wk.fad 6 13 true fd111_2 rfl (lt_of_ble rfl)
        apply Wk.fad 13 0 false fd109_2 rfl (lt_of_ble rfl)
        apply Wk.ld (i := 27) 1 false ty3 rfl rfl (by conv => lhs; whnf) (lt_of_ble rfl)
        apply Wk.bin rfl rfl (r := .bool false) (fun w => by simp [go_sem] <;> omega) (lt_of_ble rfl)
        refine Wk.nil ?_
        refine AW.cond rfl (fun hc => by cases hc) (fun _ => AW.skip (thenA_normal ?_))
        refine AW.seq ?_
        apply AW.list
        apply Wk.mv (by conv => lhs; whnf) (lt_of_ble rfl)
        apply Wk.mv (by conv => lhs; whnf) (lt_of_ble rfl)
        apply Wk.cal [27, 66] [] cl (in_snd _ rfl _ _ _ _ _ _ _ _ _ _ _ _ _ _ _ _ _ _) ⟨_, _, rfl, rfl⟩ Try.func101 rfl rfl rfl rfl (fun i hi => by cases hi) rfl (two_in rfl (by exact within_parts _)) (lt_of_ble rfl)
        rintro r bs' ⟨rfl, rfl⟩
        refine Wk.nil ?_
        refine AW.seq (AW.seq ?_)
        apply AW.list
        apply Wk.fad 0 0 false fd42_0 rfl (lt_of_ble rfl)
        apply Wk.ld (i := 3) 1 false ty3 rfl rfl (by conv => lhs; whnf) (lt_of_ble rfl)
        apply Wk.bin rfl rfl (r := .bool false) (fun w => by simp [go_sem]) (lt_of_ble rfl)
        refine Wk.nil ?_
        refine AW.cond rfl (fun hc => by cases hc) (fun _ => AW.skip (thenA_normal ?_))
        refine AW.seq (AW.seq ?_)
        apply AW.list
        apply Wk.fad 4 0 false fd42_4 rfl (lt_of_ble rfl)
        apply Wk.ld (i := 3) 1 false ty4 rfl rfl (by conv => lhs; whnf) (lt_of_ble rfl)
        apply Wk.mv (by conv => lhs; whnf) (lt_of_ble rfl)
        apply Wk.gon 40 rfl rfl
        apply Wk.mv (by conv => lhs; whnf) (lt_of_ble rfl)
        apply Wk.gon 40 rfl rfl
        apply Wk.nilc rfl (lt_of_ble rfl)
        apply Wk.gon 40 rfl rfl
        apply Wk.fad 22 0 false fd111_5 rfl (lt_of_ble rfl)
        apply Wk.gon 40 rfl rfl
        apply Wk.ld (i := 27) 1 false ty4 rfl rfl (by conv => lhs; whnf) (lt_of_ble rfl)
        apply Wk.pckT rfl (by conv => lhs; whnf) (lt_of_ble rfl)
        refine Wk.nil ?_
        refine AW.cond rfl (fun _ => ?_) (fun hc => by cases hc)
        apply AW.list
        apply Wk.mv (by conv => lhs; whnf) (lt_of_ble rfl)
        apply Wk.cal [27, 66] [] (iansw _ _ _ _ _ _ _ _ _ _ _ _ _ _ _ _ _) (in_snd _ rfl _ _ _ _ _ _ _ _ _ _ _ _ _ _ _ _ _ _) ⟨_, _, rfl, rfl⟩ Try.func102 rfl rfl rfl rfl (fun i hi => by cases hi) rfl (two_in rfl (by exact within_parts _)) (lt_of_ble rfl)
        rintro r bs' ⟨rfl, rfl⟩
        refine Wk.nil (thenA_normal ?_)
        refine AW.seq ?_
        apply AW.list
        apply Wk.fad 0 0 false fd42_0 rfl (lt_of_ble rfl)
        apply Wk.ld (i := 3) 1 false ty3 rfl rfl (by conv => lhs; whnf) (lt_of_ble rfl)
        apply Wk.bin rfl rfl (r := .bool false) (fun w => by simp [go_sem]) (lt_of_ble rfl)
        apply Wk.mv (by conv => lhs; whnf) (lt_of_ble rfl)
        apply Wk.goff 51 (ok_faddr fd42_5) rfl rfl (by decide)
        apply Wk.goff 51 (ok_load 3 ty3) rfl rfl (by decide)
        apply Wk.goff 51 (ok_bin _ _ _ _ _) rfl rfl (by decide)
        apply Wk.pckF rfl (by conv => lhs; whnf) (lt_of_ble rfl)
        apply Wk.mv (by conv => lhs; whnf) (lt_of_ble rfl)
        apply Wk.goff 56 (ok_move _) rfl rfl (by decide)
        apply Wk.goff 56 (ok_nil _) rfl rfl (by decide)
        apply Wk.goff 56 (ok_faddr fd111_5) rfl rfl (by decide)
        apply Wk.goff 56 (ok_load 27 ty4) rfl rfl (by decide)
        apply Wk.goff 56 (ok_un _ _ _) rfl rfl (by decide)
        apply Wk.pckF rfl (by conv => lhs; whnf) (lt_of_ble rfl)
        refine Wk.nil ?_
        refine AW.cond rfl (fun hc => by cases hc) (fun _ => AW.skip ?_)
        have e : rest3 1 sy true s1 true t hh = (0, false, 0, hh) := by simp [rest3]
        exact ⟨[], sndB _ l qu, .nil, ⟨rfl, by rw [e] <;> rfl⟩, kept2 rfl rfl⟩
      · rfl
      · rfl
  · by_cases hy : sy = 1
    · subst hy
      cases fi <;> cases q
      · skip
        refine Spec.intro (n := 66) (rv := []) Try.func74 rfl rfl rfl (by simp) fun C hN hX => ?_
        refine AW.seq ?_
        apply AW.list
        apply Wk.bx 3 rfl rfl (lt_of_ble rfl)
        refine Wk.nil ?_
        refine AW.seq (AW.seq ?_)
        apply AW.list
        apply Wk.mv (by conv => lhs; whnf) (lt_of_ble rfl)
        apply Wk.nilc rfl (lt_of_ble rfl)
        apply Wk.fad 26 0 false fd111_9 rfl (lt_of_ble rfl)
        apply Wk.ld (i := 27) 1 false ty4 rfl rfl (by conv => lhs; whnf) (lt_of_ble rfl)
        refine Wk.nil ?_
        refine AW.cond rfl (fun hc => by cases hc) (fun _ => AW.skip (thenA_normal ?_))
        refine AW.seq ?_
        apply AW.draw (hm := hmix) (cs := _)
        · apply Wk.mv (by conv => lhs; whnf) (lt_of_ble rfl)
          apply Wk.nilc rfl (lt_of_ble rfl)
          apply Wk.fad 5 0 false fd111_1 rfl (lt_of_ble rfl)
          apply Wk.ld (i := 27) 1 false ty92 rfl rfl (by conv => lhs; whnf) (lt_of_ble rfl)
          apply Wk.fad 2 0 false fd42_2 rfl (lt_of_ble rfl)
          apply Wk.ld (i := 3) 1 false ty3 rfl rfl (by conv => lhs; whnf) (lt_of_ble rfl)
          apply Wk.dat cf Try.func77 rfl rfl rfl rfl rfl (lt_of_ble rfl)
          apply Wk.asg (by conv => lhs; whnf) (lt_of_ble rfl)
          refine Wk.nil ?_
          refine AW.seq (AW.seq ?_)
          apply AW.list
          apply Wk.mv (by conv => lhs; whnf) (lt_of_ble rfl)
          apply Wk.mv (by conv => lhs; whnf) (lt_of_ble rfl)
          apply Wk.nilc rfl (lt_of_ble rfl)
          apply Wk.fad 6 13 true fd111_2 rfl (lt_of_ble rfl)
          apply Wk.fad 13 0 false fd109_2 rfl (lt_of_ble rfl)
          apply Wk.ld (i := 27) 1 false ty3 rfl rfl (by conv => lhs; whnf) (lt_of_ble rfl)
          apply Wk.bin rfl rfl (r := .bool false) (fun w => by simp [go_sem] <;> omega) (lt_of_ble rfl)
          refine Wk.nil ?_
          refine AW.cond rfl (fun hc => by cases hc) (fun _ => AW.skip (thenA_normal ?_))
          refine AW.seq ?_
          apply AW.list
          apply Wk.mv (by conv => lhs; whnf) (lt_of_ble rfl)
          apply Wk.mv (by conv => lhs; whnf) (lt_of_ble rfl)
          apply Wk.cal [27, 66] [] cl (in_snd _ rfl _ _ _ _ _ _ _ _ _ _ _ _ _ _ _ _ _ _) ⟨_, _, rfl, rfl⟩ Try.func101 rfl rfl rfl rfl (fun i hi => by cases hi) rfl (two_in rfl (by exact within_parts _)) (lt_of_ble rfl)
          rintro r bs' ⟨rfl, rfl⟩
          refine Wk.nil ?_
          refine AW.seq (AW.seq ?_)
          apply AW.list
          apply Wk.fad 0 0 false fd42_0 rfl (lt_of_ble rfl)
          apply Wk.ld (i := 3) 1 false ty3 rfl rfl (by conv => lhs; whnf) (lt_of_ble rfl)
          apply Wk.bin rfl rfl (r := .bool true) (fun w => by simp [go_sem]) (lt_of_ble rfl)
          refine Wk.nil ?_
          refine AW.cond rfl (fun _ => ?_) (fun hc => by cases hc)
          apply AW.list
          apply Wk.mv (by conv => lhs; whnf) (lt_of_ble rfl)
          apply Wk.fad 5 0 false fd42_5 rfl (lt_of_ble rfl)
          apply Wk.ld (i := 3) 1 false ty3 rfl rfl (by conv => lhs; whnf) (lt_of_ble rfl)
          apply Wk.bin rfl rfl (r := .bool false) (fun w => by simp [go_sem]) (lt_of_ble rfl)
          apply Wk.nilc rfl (lt_of_ble rfl)
          apply Wk.fad 24 0 false fd111_7 rfl (lt_of_ble rfl)
          apply Wk.sto (i := 27) 1 false ty4 rfl rfl rfl rfl (Nat.le_of_ble_eq_true rfl) (lt_of_ble rfl)
          refine Wk.nil (thenA_normal ?_)
          refine AW.seq (AW.seq ?_)
          apply AW.list
          apply Wk.fad 4 0 false fd42_4 rfl (lt_of_ble rfl)
          apply Wk.ld (i := 3) 1 false ty4 rfl rfl (by conv => lhs; whnf) (lt_of_ble rfl)
          apply Wk.mv (by conv => lhs; whnf) (lt_of_ble rfl)
          apply Wk.goff 40 (ok_move _) rfl rfl (by decide)
          apply Wk.goff 40 (ok_nil _) rfl rfl (by decide)
          apply Wk.goff 40 (ok_faddr fd111_5) rfl rfl (by decide)
          apply Wk.goff 40 (ok_load 27 ty4) rfl rfl (by decide)
          apply Wk.pckF rfl (by conv => lhs; whnf) (lt_of_ble rfl)
          refine Wk.nil ?_
          refine AW.cond rfl (fun hc => by cases hc) (fun _ => AW.skip (thenA_normal ?_))
          refine AW.seq ?_
          apply AW.list
          apply Wk.fad 0 0 false fd42_0 rfl (lt_of_ble rfl)
          apply Wk.ld (i := 3) 1 false ty3 rfl rfl (by conv => lhs; whnf) (lt_of_ble rfl)
          apply Wk.bin rfl rfl (r := .bool true) (fun w => by simp [go_sem]) (lt_of_ble rfl)
          apply Wk.mv (by conv => lhs; whnf) (lt_of_ble rfl)
          apply Wk.gon 51 rfl rfl
          apply Wk.fad 5 0 false fd42_5 rfl (lt_of_ble rfl)
          apply Wk.gon 51 rfl rfl
          apply Wk.ld (i := 3) 1 false ty3 rfl rfl (by conv => lhs; whnf) (lt_of_ble rfl)
          apply Wk.gon 51 rfl rfl
          apply Wk.bin rfl rfl (r := .bool true) (fun w => by simp [go_sem]) (lt_of_ble rfl)
          apply Wk.pckT rfl (by conv => lhs; whnf) (lt_of_ble rfl)
          apply Wk.mv (by conv => lhs; whnf) (lt_of_ble rfl)
          apply Wk.gon 56 rfl rfl
          apply Wk.mv (by conv => lhs; whnf) (lt_of_ble rfl)
          apply Wk.gon 56 rfl rfl
          apply Wk.nilc rfl (lt_of_ble rfl)
          apply Wk.gon 56 rfl rfl
          apply Wk.fad 22 0 false fd111_5 rfl (lt_of_ble rfl)
          apply Wk.gon 56 rfl rfl
          apply Wk.ld (i := 27) 1 false ty4 rfl rfl (by conv => lhs; whnf) (lt_of_ble rfl)
          apply Wk.gon 56 rfl rfl
          apply Wk.un rfl (fun w => by simp [go_sem] <;> rfl) (lt_of_ble rfl)
          apply Wk.pckT rfl (by conv => lhs; whnf) (lt_of_ble rfl)
          refine Wk.nil ?_
          refine AW.cond rfl (fun _ => ?_) (fun hc => by cases hc)
          apply AW.list
          apply Wk.mv (by conv => lhs; whnf) (lt_of_ble rfl)
          apply Wk.nilc rfl (lt_of_ble rfl)
          apply Wk.fad 20 0 false fd111_3 rfl (lt_of_ble rfl)
          apply Wk.sto (i := 27) 1 false ty3 rfl rfl rfl rfl (Nat.le_of_ble_eq_true rfl) (lt_of_ble rfl)
          refine Wk.nil ?_
          have e : rest3 2 1 false s1 false t hh = (0, false, t, false) := by simp [rest3]
          exact ⟨[], sndB _ l qu, .nil, ⟨rfl, by rw [e] <;> rfl⟩, kept2 rfl rfl⟩
        · rfl
        · rfl
      · skip
        refine Spec.intro (n := 66) (rv := []) Try.func74 rfl rfl rfl (by simp) fun C hN hX => ?_
        refine AW.seq ?_
        apply AW.list
        apply Wk.bx 3 rfl rfl (lt_of_ble rfl)
        refine Wk.nil ?_
        refine AW.seq (AW.seq ?_)
        apply AW.list
        apply Wk.mv (by conv => lhs; whnf) (lt_of_ble rfl)
        apply Wk.nilc rfl (lt_of_ble rfl)
        apply Wk.fad 26 0 false fd111_9 rfl (lt_of_ble rfl)
        apply Wk.ld (i := 27) 1 false ty4 rfl rfl (by conv => lhs; whnf) (lt_of_ble rfl)
        refine Wk.nil ?_
        refine AW.cond rfl (fun hc => by cases hc) (fun _ => AW.skip (thenA_normal ?_))
        refine AW.seq ?_
        apply AW.draw (hm := hmix) (cs := _)
        · apply Wk.mv (by conv => lhs; whnf) (lt_of_ble rfl)
          apply Wk.nilc rfl (lt_of_ble rfl)
          apply Wk.fad 5 0 false fd111_1 rfl (lt_of_ble rfl)
          apply Wk.ld (i := 27) 1 false ty92 rfl rfl (by conv => lhs; whnf) (lt_of_ble rfl)
          apply Wk.fad 2 0 false fd42_2 rfl (lt_of_ble rfl)
          apply Wk.ld (i := 3) 1 false ty3 rfl rfl (by conv => lhs; whnf) (lt_of_ble rfl)
          apply Wk.dat cf Try.func77 rfl rfl rfl rfl rfl (lt_of_ble rfl)
          apply Wk.asg (by conv => lhs; whnf) (lt_of_ble rfl)
          refine Wk.nil ?_
          refine AW.seq (AW.seq ?_)
          apply AW.list
          apply Wk.mv (by conv => lhs; whnf) (lt_of_ble rfl)
          apply Wk.mv (by conv => lhs; whnf) (lt_of_ble rfl)
          apply Wk.nilc rfl (lt_of_ble rfl)
          apply Wk.fad 6 13 true fd111_2 rfl (lt_of_ble rfl)
          apply Wk.fad 13 0 false fd109_2 rfl (lt_of_ble rfl)
          apply Wk.ld (i := 27) 1 false ty3 rfl rfl (by conv => lhs; whnf) (lt_of_ble rfl)
          apply Wk.bin rfl rfl (r := .bool false) (fun w => by simp [go_sem] <;> omega) (lt_of_ble rfl)
          refine Wk.nil ?_
          refine AW.cond rfl (fun hc => by cases hc) (fun _ => AW.skip (thenA_normal ?_))
          refine AW.seq ?_
          apply AW.list
          apply Wk.mv (by conv => lhs; whnf) (lt_of_ble rfl)
          apply Wk.mv (by conv => lhs; whnf) (lt_of_ble rfl)
          apply Wk.cal [27, 66] [] cl (in_snd _ rfl _ _ _ _ _ _ _ _ _ _ _ _ _ _ _ _ _ _) ⟨_, _, rfl, rfl⟩ Try.func101 rfl rfl rfl rfl (fun i hi => by cases hi) rfl (two_in rfl (by exact within_parts _)) (lt_of_ble rfl)
          rintro r bs' ⟨rfl, rfl⟩
          refine Wk.nil ?_
          refine AW.seq (AW.seq ?_)
          apply AW.list
          apply Wk.fad 0 0 false fd42_0 rfl (lt_of_ble rfl)
          apply Wk.ld (i := 3) 1 false ty3 rfl rfl (by conv => lhs; whnf) (lt_of_ble rfl)
          apply Wk.bin rfl rfl (r := .bool true) (fun w => by simp [go_sem]) (lt_of_ble rfl)
          refine Wk.nil ?_
          refine AW.cond rfl (fun _ => ?_) (fun hc => by cases hc)
          apply AW.list
          apply Wk.mv (by conv => lhs; whnf) (lt_of_ble rfl)
          apply Wk.fad 5 0 false fd42_5 rfl (lt_of_ble rfl)
          apply Wk.ld (i := 3) 1 false ty3 rfl rfl (by conv => lhs; whnf) (lt_of_ble rfl)
          apply Wk.bin rfl rfl (r := .bool false) (fun w => by simp [go_sem]) (lt_of_ble rfl)
          apply Wk.nilc rfl (lt_of_ble rfl)
          apply Wk.fad 24 0 false fd111_7 rfl (lt_of_ble rfl)
          apply Wk.sto (i := 27) 1 false ty4 rfl rfl rfl rfl (Nat.le_of_ble_eq_true rfl) (lt_of_ble rfl)
          refine Wk.nil (thenA_normal ?_)
          refine AW.seq (AW.seq ?_)
          apply AW.list
          apply Wk.fad 4 0 false fd42_4 rfl (lt_of_ble rfl)
          apply Wk.ld (i := 3) 1 false ty4 rfl rfl (by conv => lhs; whnf) (lt_of_ble rfl)
          apply Wk.mv (by conv => lhs; whnf) (lt_of_ble rfl)
          apply Wk.goff 40 (ok_move _) rfl rfl (by decide)
          apply Wk.goff 40 (ok_nil _) rfl rfl (by decide)
          apply Wk.goff 40 (ok_faddr fd111_5) rfl rfl (by decide)
          apply Wk.goff 40 (ok_load 27 ty4) rfl rfl (by decide)
          apply Wk.pckF rfl (by conv => lhs; whnf) (lt_of_ble rfl)
          refine Wk.nil ?_
          refine AW.cond rfl (fun hc => by cases hc) (fun _ => AW.skip (thenA_normal ?_))
          refine AW.seq ?_
          apply AW.list
          apply Wk.fad 0 0 false fd42_0 rfl (lt_of_ble rfl)
          apply Wk.ld (i := 3) 1 false ty3 rfl rfl (by conv => lhs; whnf) (lt_of_ble rfl)
          apply Wk.bin rfl rfl (r := .bool true) (fun w => by simp [go_sem]) (lt_of_ble rfl)
          apply Wk.mv (by conv => lhs; whnf) (lt_of_ble rfl)
          apply Wk.gon 51 rfl rfl
          apply Wk.fad 5 0 false fd42_5 rfl (lt_of_ble rfl)
          apply Wk.gon 51 rfl rfl
          apply Wk.ld (i := 3) 1 false ty3 rfl rfl (by conv => lhs; whnf) (lt_of_ble rfl)
          apply Wk.gon 51 rfl rfl
          apply Wk.bin rfl rfl (r := .bool true) (fun w => by simp [go_sem]) (lt_of_ble rfl)
          apply Wk.pckT rfl (by conv => lhs; whnf) (lt_of_ble rfl)
          apply Wk.mv (by conv => lhs; whnf) (lt_of_ble rfl)
          apply Wk.gon 56 rfl rfl
          apply Wk.mv (by conv => lhs; whnf) (lt_of_ble rfl)
          apply Wk.gon 56 rfl rfl
          apply Wk.nilc rfl (lt_of_ble rfl)
          apply Wk.gon 56 rfl rfl
          apply Wk.fad 22 0 false fd111_5 rfl (lt_of_ble rfl)
          apply Wk.gon 56 rfl rfl
          apply Wk.ld (i := 27) 1 false ty4 rfl rfl (by conv => lhs; whnf) (lt_of_ble rfl)
          apply Wk.gon 56 rfl rfl
          apply Wk.un rfl (fun w => by simp [go_sem] <;> rfl) (lt_of_ble rfl)
          apply Wk.pckT rfl (by conv => lhs; whnf) (lt_of_ble rfl)
          refine Wk.nil ?_
          refine AW.cond rfl (fun hc => by cases hc) (fun _ => AW.skip ?_)
          have e : rest3 2 1 false s1 true t hh = (s1, true, t, false) := by simp [rest3]
          exact ⟨[], sndB _ l qu, .nil, ⟨rfl, by rw [e] <;> rfl⟩, kept2 rfl rfl⟩
        · rfl
        · rfl
      · skip
        refine Spec.intro (n := 66) (rv := []) Try.func74 rfl rfl rfl (by simp) fun C hN hX => ?_
        refine AW.seq ?_
        apply AW.list
        apply Wk.bx 3 rfl rfl (lt_of_ble rfl)
        refine Wk.nil ?_
        refine AW.seq (AW.seq ?_)
        apply AW.list
        apply Wk.mv (by conv => lhs; whnf) (lt_of_ble rfl)
        apply Wk.nilc rfl (lt_of_ble rfl)
        apply Wk.fad 26 0 false fd111_9 rfl (lt_of_ble rfl)
        apply Wk.ld (i := 27) 1 false ty4 rfl rfl (by conv => lhs; whnf) (lt_of_ble rfl)
        refine Wk.nil ?_
        refine AW.cond rfl (fun hc => by cases hc) (fun _ => AW.skip (thenA_normal ?_))
        refine AW.seq ?_
        apply AW.draw (hm := hmix) (cs := _)
        · apply Wk.mv (by conv => lhs; whnf) (lt_of_ble rfl)
          apply Wk.nilc rfl (lt_of_ble rfl)
          apply Wk.fad 5 0 false fd111_1 rfl (lt_of_ble rfl)
          apply Wk.ld (i := 27) 1 false ty92 rfl rfl (by conv => lhs; whnf) (lt_of_ble rfl)
          apply Wk.fad 2 0 false fd42_2 rfl (lt_of_ble rfl)
          apply Wk.ld (i := 3) 1 false ty3 rfl rfl (by conv => lhs; whnf) (lt_of_ble rfl)
          apply Wk.dat cf Try.func77 rfl rfl rfl rfl rfl (lt_of_ble rfl)
          apply Wk.asg (by conv => lhs; whnf) (lt_of_ble rfl)
          refine Wk.nil ?_
          refine AW.seq (AW.seq ?_)
          apply AW.list
          apply Wk.mv (by conv => lhs; whnf) (lt_of_ble rfl)
          apply Wk.mv (by conv => lhs; whnf) (lt_of_ble rfl)
          apply Wk.nilc rfl (lt_of_ble rfl)
          apply Wk.fad 6 13 true fd111_2 rfl (lt_of_ble rfl)
          apply Wk.fad 13 0 false fd109_2 rfl (lt_of_ble rfl)
          apply Wk.ld (i := 27) 1 false ty3 rfl rfl (by conv => lhs; whnf) (lt_of_ble rfl)
          apply Wk.bin rfl rfl (r := .bool false) (fun w => by simp [go_sem] <;> omega) (lt_of_ble rfl)
          refine Wk.nil ?_
          refine AW.cond rfl (fun hc => by cases hc) (fun _ => AW.skip (thenA_normal ?_))
          refine AW.seq ?_
          apply AW.list
          apply Wk.mv (by conv => lhs; whnf) (lt_of_ble rfl)
          apply Wk.mv (by conv => lhs; whnf) (lt_of_ble rfl)
          apply Wk.cal [27, 66] [] cl (in_snd _ rfl _ _ _ _ _ _ _ _ _ _ _ _ _ _ _ _ _ _) ⟨_, _, rfl, rfl⟩ Try.func101 rfl rfl rfl rfl (fun i hi => by cases hi) rfl (two_in rfl (by exact within_parts _)) (lt_of_ble rfl)
          rintro r bs' ⟨rfl, rfl⟩
          refine Wk.nil ?_
          refine AW.seq (AW.seq ?_)
          apply AW.list
          apply Wk.fad 0 0 false fd42_0 rfl (lt_of_ble rfl)
          apply Wk.ld (i := 3) 1 false ty3 rfl rfl (by conv => lhs; whnf) (lt_of_ble rfl)
          apply Wk.bin rfl rfl (r := .bool true) (fun w => by simp [go_sem]) (lt_of_ble rfl)
          refine Wk.nil ?_
          refine AW.cond rfl (fun _ => ?_) (fun hc => by cases hc)
          apply AW.list
          apply Wk.mv (by conv => lhs; whnf) (lt_of_ble rfl)
          apply Wk.fad 5 0 false fd42_5 rfl (lt_of_ble rfl)
          apply Wk.ld (i := 3) 1 false ty3 rfl rfl (by conv => lhs; whnf) (lt_of_ble rfl)
          apply Wk.bin rfl rfl (r := .bool false) (fun w => by simp [go_sem]) (lt_of_ble rfl)
          apply Wk.nilc rfl (lt_of_ble rfl)
          apply Wk.fad 24 0 false fd111_7 rfl (lt_of_ble rfl)
          apply Wk.sto (i := 27) 1 false ty4 rfl rfl rfl rfl (Nat.le_of_ble_eq_true rfl) (lt_of_ble rfl)
          refine Wk.nil (thenA_normal ?_)
          refine AW.seq (AW.seq ?_)
          apply AW.list
          apply Wk.fad 4 0 false fd42_4 rfl (lt_of_ble rfl)
          apply Wk.ld (i := 3) 1 false ty4 rfl rfl (by conv => lhs; whnf) (lt_of_ble rfl)
          apply Wk.mv (by conv => lhs; whnf) (lt_of_ble rfl)
          apply Wk.gon 40 rfl rfl
          apply Wk.mv (by conv => lhs; whnf) (lt_of_ble rfl)
          apply Wk.gon 40 rfl rfl
          apply Wk.nilc rfl (lt_of_ble rfl)
          apply Wk.gon 40 rfl rfl
          apply Wk.fad 22 0 false fd111_5 rfl (lt_of_ble rfl)
          apply Wk.gon 40 rfl rfl
          apply Wk.ld (i := 27) 1 false ty4 rfl rfl (by conv => lhs; whnf) (lt_of_ble rfl)
          apply Wk.pckT rfl (by conv => lhs; whnf) (lt_of_ble rfl)
          refine Wk.nil ?_
          refine AW.cond rfl (fun hc => by cases hc) (fun _ => AW.skip (thenA_normal ?_))
          refine AW.seq ?_
          apply AW.list
          apply Wk.fad 0 0 false fd42_0 rfl (lt_of_ble rfl)
          apply Wk.ld (i := 3) 1 false ty3 rfl rfl (by conv => lhs; whnf) (lt_of_ble rfl)
          apply Wk.bin rfl rfl (r := .bool true) (fun w => by simp [go_sem]) (lt_of_ble rfl)
          apply Wk.mv (by conv => lhs; whnf) (lt_of_ble rfl)
          apply Wk.gon 51 rfl rfl
          apply Wk.fad 5 0 false fd42_5 rfl (lt_of_ble rfl)
          apply Wk.gon 51 rfl rfl
          apply Wk.ld (i := 3) 1 false ty3 rfl rfl (by conv => lhs; whnf) (lt_of_ble rfl)
          apply Wk.gon 51 rfl rfl
          apply Wk.bin rfl rfl (r := .bool true) (fun w => by simp [go_sem]) (lt_of_ble rfl)
          apply Wk.pckT rfl (by conv => lhs; whnf) (lt_of_ble rfl)
          apply Wk.mv (by conv => lhs; whnf) (lt_of_ble rfl)
          apply Wk.gon 56 rfl rfl
          apply Wk.mv (by conv => lhs; whnf) (lt_of_ble rfl)
          apply Wk.gon 56 rfl rfl
          apply Wk.nilc rfl (lt_of_ble rfl)
          apply Wk.gon 56 rfl rfl
          apply Wk.fad 22 0 false fd111_5 rfl (lt_of_ble rfl)
          apply Wk.gon 56 rfl rfl
          apply Wk.ld (i := 27) 1 false ty4 rfl rfl (by conv => lhs; whnf) (lt_of_ble rfl)
          apply Wk.gon 56 rfl rfl
          apply Wk.un rfl (fun w => by simp [go_sem] <;> rfl) (lt_of_ble rfl)
          apply Wk.pckT rfl (by conv => lhs; whnf) (lt_of_ble rfl)
          refine Wk.nil ?_
          refine AW.cond rfl (fun _ => ?_) (fun hc => by cases hc)
          apply AW.list
          apply Wk.mv (by conv => lhs; whnf) (lt_of_ble rfl)
          apply Wk.nilc rfl (lt_of_ble rfl)
          apply Wk.fad 20 0 false fd111_3 rfl (lt_of_ble rfl)
          apply Wk.sto (i := 27) 1 false ty3 rfl rfl rfl rfl (Nat.le_of_ble_eq_true rfl) (lt_of_ble rfl)
          refine Wk.nil ?_
          have e : rest3 2 1 true s1 false t hh = (0, false, t, false) := by simp [rest3]
          exact ⟨[], sndB _ l qu, .nil, ⟨rfl, by rw [e] <;> rfl⟩, kept2 rfl rfl⟩
        · rfl
        · rfl
      · skip
        refine Spec.intro (n := 66) (rv := []) Try.func74 rfl rfl rfl (by simp) fun C hN hX => ?_
        refine AW.seq ?_
        apply AW.list
        apply Wk.bx 3 rfl rfl (lt_of_ble rfl)
        refine Wk.nil ?_
        refine AW.seq (AW.seq ?_)
        apply AW.list
        apply Wk.mv (by conv => lhs; whnf) (lt_of_ble rfl)
        apply Wk.nilc rfl (lt_of_ble rfl)
        apply Wk.fad 26 0 false fd111_9 rfl (lt_of_ble rfl)
        apply Wk.ld (i := 27) 1 false ty4 rfl rfl (by conv => lhs; whnf) (lt_of_ble rfl)
        refine Wk.nil ?_
        refine AW.cond rfl (fun hc => by cases hc) (fun _ => AW.skip (thenA_normal ?_))
        refine AW.seq ?_
        apply AW.draw (hm := hmix) (cs := _)
        · apply Wk.mv (by conv => lhs; whnf) (lt_of_ble rfl)
          apply Wk.nilc rfl (lt_of_ble rfl)
          apply Wk.fad 5 0 false fd111_1 rfl (lt_of_ble rfl)
          apply Wk.ld (i := 27) 1 false ty92 rfl rfl (by conv => lhs; whnf) (lt_of_ble rfl)
          apply Wk.fad 2 0 false fd42_2 rfl (lt_of_ble rfl)
          apply Wk.ld (i := 3) 1 false ty3 rfl rfl (by conv => lhs; whnf) (lt_of_ble rfl)
          apply Wk.dat cf Try.func77 rfl rfl rfl rfl rfl (lt_of_ble rfl)
          apply Wk.asg (by conv => lhs; whnf) (lt_of_ble rfl)
          refine Wk.nil ?_
          refine AW.seq (AW.seq ?_)
          apply AW.list
          apply Wk.mv (by conv => lhs; whnf) (lt_of_ble rfl)
          apply Wk.mv (by conv => lhs; whnf) (lt_of_ble rfl)
          apply Wk.nilc rfl (lt_of_ble rfl)
          apply Wk.fad 6 13 true fd111_2 rfl (lt_of_ble rfl)
          apply Wk.fad 13 0 false fd109_2 rfl (lt_of_ble rfl)
          apply Wk.ld (i := 27) 1 false ty3 rfl rfl (by conv => lhs; whnf) (lt_of_ble rfl)
          apply Wk.bin rfl rfl (r := .bool false) (fun w => by simp [go_sem] <;> omega) (lt_of_ble rfl)
          refine Wk.nil ?_
          refine AW.cond rfl (fun hc => by cases hc) (fun _ => AW.skip (thenA_normal ?_))
          refine AW.seq ?_
          apply AW.list
          apply Wk.mv (by conv => lhs; whnf) (lt_of_ble rfl)
          apply Wk.mv (by conv => lhs; whnf) (lt_of_ble rfl)
          apply Wk.cal [27, 66] [] cl (in_snd _ rfl _ _ _ _ _ _ _ _ _ _ _ _ _ _ _ _ _ _) ⟨_, _, rfl, rfl⟩ Try.func101 rfl rfl rfl rfl (fun i hi => by cases hi) rfl (two_in rfl (by exact within_parts _)) (lt_of_ble rfl)
          rintro r bs' ⟨rfl, rfl⟩
          refine Wk.nil ?_
          refine AW.seq (AW.seq ?_)
          apply AW.list
          apply Wk.fad 0 0 false fd42_0 rfl (lt_of_ble rfl)
          apply Wk.ld (i := 3) 1 false ty3 rfl rfl (by conv => lhs; whnf) (lt_of_ble rfl)
          apply Wk.bin rfl rfl (r := .bool true) (fun w => by simp [go_sem]) (lt_of_ble rfl)
          refine Wk.nil ?_
          refine AW.cond rfl (fun _ => ?_) (fun hc => by cases hc)
          apply AW.list
          apply Wk.mv (by conv => lhs; whnf) (lt_of_ble rfl)
          apply Wk.fad 5 0 false fd42_5 rfl (lt_of_ble rfl)
          apply Wk.ld (i := 3) 1 false ty3 rfl rfl (by conv => lhs; whnf) (lt_of_ble rfl)
          apply Wk.bin rfl rfl (r := .bool false) (fun w => by simp [go_sem]) (lt_of_ble rfl)
          apply Wk.nilc rfl (lt_of_ble rfl)
          apply Wk.fad 24 0 false fd111_7 rfl (lt_of_ble rfl)
          apply Wk.sto (i := 27) 1 false ty4 rfl rfl rfl rfl (Nat.le_of_ble_eq_true rfl) (lt_of_ble rfl)
          refine Wk.nil (thenA_normal ?_)
          refine AW.seq (AW.seq ?_)
          apply AW.list
          apply Wk.fad 4 0 false fd42_4 rfl (lt_of_ble rfl)
          apply Wk.ld (i := 3) 1 false ty4 rfl rfl (by conv => lhs; whnf) (lt_of_ble rfl)
          apply Wk.mv (by conv => lhs; whnf) (lt_of_ble rfl)
          apply Wk.gon 40 rfl rfl
          apply Wk.mv (by conv => lhs; whnf) (lt_of_ble rfl)
          apply Wk.gon 40 rfl rfl
          apply Wk.nilc rfl (lt_of_ble rfl)
          apply Wk.gon 40 rfl rfl
          apply Wk.fad 22 0 false fd111_5 rfl (lt_of_ble rfl)
          apply Wk.gon 40 rfl rfl
          apply Wk.ld (i := 27) 1 false ty4 rfl rfl (by conv => lhs; whnf) (lt_of_ble rfl)
          apply Wk.pckT rfl (by conv => lhs; whnf) (lt_of_ble rfl)
          refine Wk.nil ?_
          refine AW.cond rfl (fun _ => ?_) (fun hc => by cases hc)
          apply AW.list
          apply Wk.mv (by conv => lhs; whnf) (lt_of_ble rfl)
          apply Wk.cal [27, 66] [] (iansw _ _ _ _ _ _ _ _ _ _ _ _ _ _ _ _ _) (in_snd _ rfl _ _ _ _ _ _ _ _ _ _ _ _ _ _ _ _ _ _) ⟨_, _, rfl, rfl⟩ Try.func102 rfl rfl rfl rfl (fun i hi => by cases hi) rfl (two_in rfl (by exact within_parts _)) (lt_of_ble rfl)
          rintro r bs' ⟨rfl, rfl⟩
          refine Wk.nil (thenA_normal ?_)
          refine AW.seq ?_
          apply AW.list
          apply Wk.fad 0 0 false fd42_0 rfl (lt_of_ble rfl)
          apply Wk.ld (i := 3) 1 false ty3 rfl rfl (by conv => lhs; whnf) (lt_of_ble rfl)
          apply Wk.bin rfl rfl (r := .bool true) (fun w => by simp [go_sem]) (lt_of_ble rfl)
          apply Wk.mv (by conv => lhs; whnf) (lt_of_ble rfl)
          apply Wk.gon 51 rfl rfl
          apply Wk.fad 5 0 false fd42_5 rfl (lt_of_ble rfl)
          apply Wk.gon 51 rfl rfl
          apply Wk.ld (i := 3) 1 false ty3 rfl rfl (by conv => lhs; whnf) (lt_of_ble rfl)
          apply Wk.gon 51 rfl rfl
          apply Wk.bin rfl rfl (r := .bool true) (fun w => by simp [go_sem]) (lt_of_ble rfl)
          apply Wk.pckT rfl (by conv => lhs; whnf) (lt_of_ble rfl)
          apply Wk.mv (by conv => lhs; whnf) (lt_of_ble rfl)
          apply Wk.gon 56 rfl rfl
          apply Wk.mv (by conv => lhs; whnf) (lt_of_ble rfl)
          apply Wk.gon 56 rfl rfl
          apply Wk.nilc rfl (lt_of_ble rfl)
          apply Wk.gon 56 rfl rfl
          apply Wk.fad 22 0 false fd111_5 rfl (lt_of_ble rfl)
          apply Wk.gon 56 rfl rfl
          apply Wk.ld (i := 27) 1 false ty4 rfl rfl (by conv => lhs; whnf) (lt_of_ble rfl)
          apply Wk.gon 56 rfl rfl
          apply Wk.un rfl (fun w => by simp [go_sem] <;> rfl) (lt_of_ble rfl)
          apply Wk.pckT rfl (by conv => lhs; whnf) (lt_of_ble rfl)
          refine Wk.nil ?_
          refine AW.cond rfl (fun _ => ?_) (fun hc => by cases hc)
          apply AW.list
          apply Wk.mv (by conv => lhs; whnf) (lt_of_ble rfl)
          apply Wk.nilc rfl (lt_of_ble rfl)
          apply Wk.fad 20 0 false fd111_3 rfl (lt_of_ble rfl)
          apply Wk.sto (i := 27) 1 false ty3 rfl rfl rfl rfl (Nat.le_of_ble_eq_true rfl) (lt_of_ble rfl)
          refine Wk.nil ?_
          have e : rest3 2 1 true s1 true t hh = (0, false, 0, false) := by simp [rest3]
          exact ⟨[], sndB _ l qu, .nil, ⟨rfl, by rw [e] <;> rfl⟩, kept2 rfl rfl⟩
        · rfl
        · rfl
    · cases fi <;> cases q
      · skip
        refine Spec.intro (n := 66) (rv := []) Try.func74 rfl rfl rfl (by simp) fun C hN hX => ?_
        refine AW.seq ?_
        apply AW.list
        apply Wk.bx 3 rfl rfl (lt_of_ble rfl)
        refine Wk.nil ?_
        refine AW.seq (AW.seq ?_)
        apply AW.list
        apply Wk.mv (by conv => lhs; whnf) (lt_of_ble rfl)
        apply Wk.nilc rfl (lt_of_ble rfl)
        apply Wk.fad 26 0 false fd111_9 rfl (lt_of_ble rfl)
        apply Wk.ld (i := 27) 1 false ty4 rfl rfl (by conv => lhs; whnf) (lt_of_ble rfl)
        refine Wk.nil ?_
        refine AW.cond rfl (fun hc => by cases hc) (fun _ => AW.skip (thenA_normal ?_))
        refine AW.seq ?_
        apply AW.draw (hm := hmix) (cs := _)
        · apply Wk.mv (by conv => lhs; whnf) (lt_of_ble rfl)
          apply Wk.nilc rfl (lt_of_ble rfl)
          apply Wk.fad 5 0 false fd111_1 rfl (lt_of_ble rfl)
          apply Wk.ld (i := 27) 1 false ty92 rfl rfl (by conv => lhs; whnf) (lt_of_ble rfl)
          apply Wk.fad 2 0 false fd42_2 rfl (lt_of_ble rfl)
          apply Wk.ld (i := 3) 1 false ty3 rfl rfl (by conv => lhs; whnf) (lt_of_ble rfl)
          apply Wk.dat cf Try.func77 rfl rfl rfl rfl rfl (lt_of_ble rfl)
          apply Wk.asg (by conv => lhs; whnf) (lt_of_ble rfl)
          refine Wk.nil ?_
          refine AW.seq (AW.seq ?_)
          apply AW.list
          apply Wk.mv (by conv => lhs; whnf) (lt_of_ble rfl)
          apply Wk.mv (by conv => lhs; whnf) (lt_of_ble rfl)
          apply Wk.nilc rfl (lt_of_ble rfl)
          apply Wk.fad 6 13 true fd111_2 rfl (lt_of_ble rfl)
          apply Wk.fad 13 0 false fd109_2 rfl (lt_of_ble rfl)
          apply Wk.ld (i := 27) 1 false ty3 rfl rfl (by conv => lhs; whnf) (lt_of_ble rfl)
          apply Wk.bin rfl rfl (r := .bool false) (fun w => by simp [go_sem] <;> omega) (lt_of_ble rfl)
          refine Wk.nil ?_
          refine AW.cond rfl (fun hc => by cases hc) (fun _ => AW.skip (thenA_normal ?_))
          refine AW.seq ?_
          apply AW.list
          apply Wk.mv (by conv => lhs; whnf) (lt_of_ble rfl)
          apply Wk.mv (by conv => lhs; whnf) (lt_of_ble rfl)
          apply Wk.cal [27, 66] [] cl (in_snd _ rfl _ _ _ _ _ _ _ _ _ _ _ _ _ _ _ _ _ _) ⟨_, _, rfl, rfl⟩ Try.func101 rfl rfl rfl rfl (fun i hi => by cases hi) rfl (two_in rfl (by exact within_parts _)) (lt_of_ble rfl)
          rintro r bs' ⟨rfl, rfl⟩
          refine Wk.nil ?_
          refine AW.seq (AW.seq ?_)
          apply AW.list
          apply Wk.fad 0 0 false fd42_0 rfl (lt_of_ble rfl)
          apply Wk.ld (i := 3) 1 false ty3 rfl rfl (by conv => lhs; whnf) (lt_of_ble rfl)
          apply Wk.bin rfl rfl (r := .bool true) (fun w => by simp [go_sem]) (lt_of_ble rfl)
          refine Wk.nil ?_
          refine AW.cond rfl (fun _ => ?_) (fun hc => by cases hc)
          apply AW.list
          apply Wk.mv (by conv => lhs; whnf) (lt_of_ble rfl)
          apply Wk.fad 5 0 false fd42_5 rfl (lt_of_ble rfl)
          apply Wk.ld (i := 3) 1 false ty3 rfl rfl (by conv => lhs; whnf) (lt_of_ble rfl)
          apply Wk.bin rfl rfl (r := .bool (sy == 2)) (fun w => by simp [go_sem]) (lt_of_ble rfl)
          apply Wk.nilc rfl (lt_of_ble rfl)
          apply Wk.fad 24 0 false fd111_7 rfl (lt_of_ble rfl)
          apply Wk.sto (i := 27) 1 false ty4 rfl rfl rfl rfl (Nat.le_of_ble_eq_true rfl) (lt_of_ble rfl)
          refine Wk.nil (thenA_normal ?_)
          refine AW.seq (AW.seq ?_)
          apply AW.list
          apply Wk.fad 4 0 false fd42_4 rfl (lt_of_ble rfl)
          apply Wk.ld (i := 3) 1 false ty4 rfl rfl (by conv => lhs; whnf) (lt_of_ble rfl)
          apply Wk.mv (by conv => lhs; whnf) (lt_of_ble rfl)
          apply Wk.goff 40 (ok_move _) rfl rfl (by decide)
          apply Wk.goff 40 (ok_nil _) rfl rfl (by decide)
          apply Wk.goff 40 (ok_faddr fd111_5) rfl rfl (by decide)
          apply Wk.goff 40 (ok_load 27 ty4) rfl rfl (by decide)
          apply Wk.pckF rfl (by conv => lhs; whnf) (lt_of_ble rfl)
          refine Wk.nil ?_
          refine AW.cond rfl (fun hc => by cases hc) (fun _ => AW.skip (thenA_normal ?_))
          refine AW.seq ?_
          apply AW.list
          apply Wk.fad 0 0 false fd42_0 rfl (lt_of_ble rfl)
          apply Wk.ld (i := 3) 1 false ty3 rfl rfl (by conv => lhs; whnf) (lt_of_ble rfl)
          apply Wk.bin rfl rfl (r := .bool true) (fun w => by simp [go_sem]) (lt_of_ble rfl)
          apply Wk.mv (by conv => lhs; whnf) (lt_of_ble rfl)
          apply Wk.gon 51 rfl rfl
          apply Wk.fad 5 0 false fd42_5 rfl (lt_of_ble rfl)
          apply Wk.gon 51 rfl rfl
          apply Wk.ld (i := 3) 1 false ty3 rfl rfl (by conv => lhs; whnf) (lt_of_ble rfl)
          apply Wk.gon 51 rfl rfl
          apply Wk.bin rfl rfl (r := .bool false) (fun w => by simp [go_sem, hy]) (lt_of_ble rfl)
          apply Wk.pckT rfl (by conv => lhs; whnf) (lt_of_ble rfl)
          apply Wk.mv (by conv => lhs; whnf) (lt_of_ble rfl)
          apply Wk.goff 56 (ok_move _) rfl rfl (by decide)
          apply Wk.goff 56 (ok_nil _) rfl rfl (by decide)
          apply Wk.goff 56 (ok_faddr fd111_5) rfl rfl (by decide)
          apply Wk.goff 56 (ok_load 27 ty4) rfl rfl (by decide)
          apply Wk.goff 56 (ok_un _ _ _) rfl rfl (by decide)
          apply Wk.pckF rfl (by conv => lhs; whnf) (lt_of_ble rfl)
          refine Wk.nil ?_
          refine AW.cond rfl (fun hc => by cases hc) (fun _ => AW.skip ?_)
          have e : rest3 2 sy false s1 false t hh = (s1, false, t, decide (sy = 2)) := by simp [rest3, hy]
          exact ⟨[], sndB _ l qu, .nil, ⟨rfl, by rw [e] <;> rfl⟩, kept2 rfl rfl⟩
        · rfl
        · rfl
      · skip
        refine Spec.intro (n := 66) (rv := []) Try.func74 rfl rfl rfl (by simp) fun C hN hX => ?_
        refine AW.seq ?_
        apply AW.list
        apply Wk.bx 3 rfl rfl (lt_of_ble rfl)
        refine Wk.nil ?_
        refine AW.seq (AW.seq ?_)
        apply AW.list
        apply Wk.mv (by conv => lhs; whnf) (lt_of_ble rfl)
        apply Wk.nilc rfl (lt_of_ble rfl)
        apply Wk.fad 26 0 false fd111_9 rfl (lt_of_ble rfl)
        apply Wk.ld (i := 27) 1 false ty4 rfl rfl (by conv => lhs; whnf) (lt_of_ble rfl)
        refine Wk.nil ?_
        refine AW.cond rfl (fun hc => by cases hc) (fun _ => AW.skip (thenA_normal ?_))
        refine AW.seq ?_
        apply AW.draw (hm := hmix) (cs := _)
        · apply Wk.mv (by conv => lhs; whnf) (lt_of_ble rfl)
          apply Wk.nilc rfl (lt_of_ble rfl)
          apply Wk.fad 5 0 false fd111_1 rfl (lt_of_ble rfl)
          apply Wk.ld (i := 27) 1 false ty92 rfl rfl (by conv => lhs; whnf) (lt_of_ble rfl)
          apply Wk.fad 2 0 false fd42_2 rfl (lt_of_ble rfl)
          apply Wk.ld (i := 3) 1 false ty3 rfl rfl (by conv => lhs; whnf) (lt_of_ble rfl)
          apply Wk.dat cf Try.func77 rfl rfl rfl rfl rfl (lt_of_ble rfl)
          apply Wk.asg (by conv => lhs; whnf) (lt_of_ble rfl)
          refine Wk.nil ?_
          refine AW.seq (AW.seq ?_)
          apply AW.list
          apply Wk.mv (by conv => lhs; whnf) (lt_of_ble rfl)
          apply Wk.mv (by conv => lhs; whnf) (lt_of_ble rfl)
          apply Wk.nilc rfl (lt_of_ble rfl)
          apply Wk.fad 6 13 true fd111_2 rfl (lt_of_ble rfl)
          apply Wk.fad 13 0 false fd109_2 rfl (lt_of_ble rfl)
          apply Wk.ld (i := 27) 1 false ty3 rfl rfl (by conv => lhs; whnf) (lt_of_ble rfl)
          apply Wk.bin rfl rfl (r := .bool false) (fun w => by simp [go_sem] <;> omega) (lt_of_ble rfl)
          refine Wk.nil ?_
          refine AW.cond rfl (fun hc => by cases hc) (fun _ => AW.skip (thenA_normal ?_))
          refine AW.seq ?_
          apply AW.list
          apply Wk.mv (by conv => lhs; whnf) (lt_of_ble rfl)
          apply Wk.mv (by conv => lhs; whnf) (lt_of_ble rfl)
          apply Wk.cal [27, 66] [] cl (in_snd _ rfl _ _ _ _ _ _ _ _ _ _ _ _ _ _ _ _ _ _) ⟨_, _, rfl, rfl⟩ Try.func101 rfl rfl rfl rfl (fun i hi => by cases hi) rfl (two_in rfl (by exact within_parts _)) (lt_of_ble rfl)
          rintro r bs' ⟨rfl, rfl⟩
          refine Wk.nil ?_
          refine AW.seq (AW.seq ?_)
          apply AW.list
          apply Wk.fad 0 0 false fd42_0 rfl (lt_of_ble rfl)
          apply Wk.ld (i := 3) 1 false ty3 rfl rfl (by conv => lhs; whnf) (lt_of_ble rfl)
          apply Wk.bin rfl rfl (r := .bool true) (fun w => by simp [go_sem]) (lt_of_ble rfl)
          refine Wk.nil ?_
          refine AW.cond rfl (fun _ => ?_) (fun hc => by cases hc)
          apply AW.list
          apply Wk.mv (by conv => lhs; whnf) (lt_of_ble rfl)
          apply Wk.fad 5 0 false fd42_5 rfl (lt_of_ble rfl)
          apply Wk.ld (i := 3) 1 false ty3 rfl rfl (by conv => lhs; whnf) (lt_of_ble rfl)
          apply Wk.bin rfl rfl (r := .bool (sy == 2)) (fun w => by simp [go_sem]) (lt_of_ble rfl)
          apply Wk.nilc rfl (lt_of_ble rfl)
          apply Wk.fad 24 0 false fd111_7 rfl (lt_of_ble rfl)
          apply Wk.sto (i := 27) 1 false ty4 rfl rfl rfl rfl (Nat.le_of_ble_eq_true rfl) (lt_of_ble rfl)
          refine Wk.nil (thenA_normal ?_)
          refine AW.seq (AW.seq ?_)
          apply AW.list
          apply Wk.fad 4 0 false fd42_4 rfl (lt_of_ble rfl)
          apply Wk.ld (i := 3) 1 false ty4 rfl rfl (by conv => lhs; whnf) (lt_of_ble rfl)
          apply Wk.mv (by conv => lhs; whnf) (lt_of_ble rfl)
          apply Wk.goff 40 (ok_move _) rfl rfl (by decide)
          apply Wk.goff 40 (ok_nil _) rfl rfl (by decide)
          apply Wk.goff 40 (ok_faddr fd111_5) rfl rfl (by decide)
          apply Wk.goff 40 (ok_load 27 ty4) rfl rfl (by decide)
          apply Wk.pckF rfl (by conv => lhs; whnf) (lt_of_ble rfl)
          refine Wk.nil ?_
          refine AW.cond rfl (fun hc => by cases hc) (fun _ => AW.skip (thenA_normal ?_))
          refine AW.seq ?_
          apply AW.list
          apply Wk.fad 0 0 false fd42_0 rfl (lt_of_ble rfl)
          apply Wk.ld (i := 3) 1 false ty3 rfl rfl (by conv => lhs; whnf) (lt_of_ble rfl)
          apply Wk.bin rfl rfl (r := .bool true) (fun w => by simp [go_sem]) (lt_of_ble rfl)
          apply Wk.mv (by conv => lhs; whnf) (lt_of_ble rfl)
          apply Wk.gon 51 rfl rfl
          apply Wk.fad 5 0 false fd42_5 rfl (lt_of_ble rfl)
          apply Wk.gon 51 rfl rfl
          apply Wk.ld (i := 3) 1 false ty3 rfl rfl (by conv => lhs; whnf) (lt_of_ble rfl)
          apply Wk.gon 51 rfl rfl
          apply Wk.bin rfl rfl (r := .bool false) (fun w => by simp [go_sem, hy]) (lt_of_ble rfl)
          apply Wk.pckT rfl (by conv => lhs; whnf) (lt_of_ble rfl)
          apply Wk.mv (by conv => lhs; whnf) (lt_of_ble rfl)
          apply Wk.goff 56 (ok_move _) rfl rfl (by decide)
          apply Wk.goff 56 (ok_nil _) rfl rfl (by decide)
          apply Wk.goff 56 (ok_faddr fd111_5) rfl rfl (by decide)
          apply Wk.goff 56 (ok_load 27 ty4) rfl rfl (by decide)
          apply Wk.goff 56 (ok_un _ _ _) rfl rfl (by decide)
          apply Wk.pckF rfl (by conv => lhs; whnf) (lt_of_ble rfl)
          refine Wk.nil ?_
          refine AW.cond rfl (fun hc => by cases hc) (fun _ => AW.skip ?_)
          have e : rest3 2 sy false s1 true t hh = (s1, true, t, decide (sy = 2)) := by simp [rest3, hy]
          exact ⟨[], sndB _ l qu, .nil, ⟨rfl, by rw [e] <;> rfl⟩, kept2 rfl rfl⟩
        · rfl
        · rfl
      · skip
        refine Spec.intro (n := 66) (rv := []) Try.func74 rfl rfl rfl (by simp) fun C hN hX => ?_
        refine AW.seq ?_
        apply AW.list
        apply Wk.bx 3 rfl rfl (lt_of_ble rfl)
        refine Wk.nil ?_
        refine AW.seq (AW.seq ?_)
        apply AW.list
        apply Wk.mv (by conv => lhs; whnf) (lt_of_ble rfl)
        apply Wk.nilc rfl (lt_of_ble rfl)
        apply Wk.fad 26 0 false fd111_9 rfl (lt_of_ble rfl)
        apply Wk.ld (i := 27) 1 false ty4 rfl rfl (by conv => lhs; whnf) (lt_of_ble rfl)
        refine Wk.nil ?_
        refine AW.cond rfl (fun hc => by cases hc) (fun _ => AW.skip (thenA_normal ?_))
        refine AW.seq ?_
        apply AW.draw (hm := hmix) (cs := _)
        · apply Wk.mv (by conv => lhs; whnf) (lt_of_ble rfl)
          apply Wk.nilc rfl (lt_of_ble rfl)
          apply Wk.fad 5 0 false fd111_1 rfl (lt_of_ble rfl)
          apply Wk.ld (i := 27) 1 false ty92 rfl rfl (by conv => lhs; whnf) (lt_of_ble rfl)
          apply Wk.fad 2 0 false fd42_2 rfl (lt_of_ble rfl)
          apply Wk.ld (i := 3) 1 false ty3 rfl rfl (by conv => lhs; whnf) (lt_of_ble rfl)
          apply Wk.dat cf Try.func77 rfl rfl rfl rfl rfl (lt_of_ble rfl)
          apply Wk.asg (by conv => lhs; whnf) (lt_of_ble rfl)
          refine Wk.nil ?_
          refine AW.seq (AW.seq ?_)
          apply AW.list
          apply Wk.mv (by conv => lhs; whnf) (lt_of_ble rfl)
          apply Wk.mv (by conv => lhs; whnf) (lt_of_ble rfl)
          apply Wk.nilc rfl (lt_of_ble rfl)
          apply Wk.fad 6 13 true fd111_2 rfl (lt_of_ble rfl)
          apply Wk.fad 13 0 false fd109_2 rfl (lt_of_ble rfl)
          apply Wk.ld (i := 27) 1 false ty3 rfl rfl (by conv => lhs; whnf) (lt_of_ble rfl)
          apply Wk.bin rfl rfl (r := .bool false) (fun w => by simp [go_sem] <;> omega) (lt_of_ble rfl)
          refine Wk.nil ?_
          refine AW.cond rfl (fun hc => by cases hc) (fun _ => AW.skip (thenA_normal ?_))
          refine AW.seq ?_
          apply AW.list
          apply Wk.mv (by conv => lhs; whnf) (lt_of_ble rfl)
          apply Wk.mv (by conv => lhs; whnf) (lt_of_ble rfl)
          apply Wk.cal [27, 66] [] cl (in_snd _ rfl _ _ _ _ _ _ _ _ _ _ _ _ _ _ _ _ _ _) ⟨_, _, rfl, rfl⟩ Try.func101 rfl rfl rfl rfl (fun i hi => by cases hi) rfl (two_in rfl (by exact within_parts _)) (lt_of_ble rfl)
          rintro r bs' ⟨rfl, rfl⟩
          refine Wk.nil ?_
          refine AW.seq (AW.seq ?_)
          apply AW.list
          apply Wk.fad 0 0 false fd42_0 rfl (lt_of_ble rfl)
          apply Wk.ld (i := 3) 1 false ty3 rfl rfl (by conv => lhs; whnf) (lt_of_ble rfl)
          apply Wk.bin rfl rfl (r := .bool true) (fun w => by simp [go_sem]) (lt_of_ble rfl)
          refine Wk.nil ?_
          refine AW.cond rfl (fun _ => ?_) (fun hc => by cases hc)
          apply AW.list
          apply Wk.mv (by conv => lhs; whnf) (lt_of_ble rfl)
          apply Wk.fad 5 0 false fd42_5 rfl (lt_of_ble rfl)
          apply Wk.ld (i := 3) 1 false ty3 rfl rfl (by conv => lhs; whnf) (lt_of_ble rfl)
          apply Wk.bin rfl rfl (r := .bool (sy == 2)) (fun w => by simp [go_sem]) (lt_of_ble rfl)
          apply Wk.nilc rfl (lt_of_ble rfl)
          apply Wk.fad 24 0 false fd111_7 rfl (lt_of_ble rfl)
          apply Wk.sto (i := 27) 1 false ty4 rfl rfl rfl rfl (Nat.le_of_ble_eq_true rfl) (lt_of_ble rfl)
          refine Wk.nil (thenA_normal ?_)
          refine AW.seq (AW.seq ?_)
          apply AW.list
          apply Wk.fad 4 0 false fd42_4 rfl (lt_of_ble rfl)
          apply Wk.ld (i := 3) 1 false ty4 rfl rfl (by conv => lhs; whnf) (lt_of_ble rfl)
          apply Wk.mv (by conv => lhs; whnf) (lt_of_ble rfl)
          apply Wk.gon 40 rfl rfl
          apply Wk.mv (by conv => lhs; whnf) (lt_of_ble rfl)
          apply Wk.gon 40 rfl rfl
          apply Wk.nilc rfl (lt_of_ble rfl)
          apply Wk.gon 40 rfl rfl
          apply Wk.fad 22 0 false fd111_5 rfl (lt_of_ble rfl)
          apply Wk.gon 40 rfl rfl
          apply Wk.ld (i := 27) 1 false ty4 rfl rfl (by conv => lhs; whnf) (lt_of_ble rfl)
          apply Wk.pckT rfl (by conv => lhs; whnf) (lt_of_ble rfl)
          refine Wk.nil ?_
          refine AW.cond rfl (fun hc => by cases hc) (fun _ => AW.skip (thenA_normal ?_))
          refine AW.seq ?_
          apply AW.list
          apply Wk.fad 0 0 false fd42_0 rfl (lt_of_ble rfl)
          apply Wk.ld (i := 3) 1 false ty3 rfl rfl (by conv => lhs; whnf) (lt_of_ble rfl)
          apply Wk.bin rfl rfl (r := .bool true) (fun w => by simp [go_sem]) (lt_of_ble rfl)
          apply Wk.mv (by conv => lhs; whnf) (lt_of_ble rfl)
          apply Wk.gon 51 rfl rfl
          apply Wk.fad 5 0 false fd42_5 rfl (lt_of_ble rfl)
          apply Wk.gon 51 rfl rfl
          apply Wk.ld (i := 3) 1 false ty3 rfl rfl (by conv => lhs; whnf) (lt_of_ble rfl)
          apply Wk.gon 51 rfl rfl
          apply Wk.bin rfl rfl (r := .bool false) (fun w => by simp [go_sem, hy]) (lt_of_ble rfl)
          apply Wk.pckT rfl (by conv => lhs; whnf) (lt_of_ble rfl)
          apply Wk.mv (by conv => lhs; whnf) (lt_of_ble rfl)
          apply Wk.goff 56 (ok_move _) rfl rfl (by decide)
          apply Wk.goff 56 (ok_nil _) rfl rfl (by decide)
          apply Wk.goff 56 (ok_faddr fd111_5) rfl rfl (by decide)
          apply Wk.goff 56 (ok_load 27 ty4) rfl rfl (by decide)
          apply Wk.goff 56 (ok_un _ _ _) rfl rfl (by decide)
          apply Wk.pckF rfl (by conv => lhs; whnf) (lt_of_ble rfl)
          refine Wk.nil ?_
          refine AW.cond rfl (fun hc => by cases hc) (fun _ => AW.skip ?_)
          have e : rest3 2 sy true s1 false t hh = (s1, false, t, decide (sy = 2)) := by simp [rest3, hy]
          exact ⟨[], sndB _ l qu, .nil, ⟨rfl, by rw [e] <;> rfl⟩, kept2 rfl rfl⟩
        · rfl
        · rfl
      · skip
        refine Spec.intro (n := 66) (rv := []) Try.func74 rfl rfl rfl (by simp) fun C hN hX => ?_
        refine AW.seq ?_
        apply AW.list
        apply Wk.bx 3 rfl rfl (lt_of_ble rfl)
        refine Wk.nil ?_
        refine AW.seq (AW.seq ?_)
        apply AW.list
        apply Wk.mv (by conv => lhs; whnf) (lt_of_ble rfl)
        apply Wk.nilc rfl (lt_of_ble rfl)
        apply Wk.fad 26 0 false fd111_9 rfl (lt_of_ble rfl)
        apply Wk.ld (i := 27) 1 false ty4 rfl rfl (by conv => lhs; whnf) (lt_of_ble rfl)
        refine Wk.nil ?_
        refine AW.cond rfl (fun hc => by cases hc) (fun _ => AW.skip (thenA_normal ?_))
        refine AW.seq ?_
        apply AW.draw (hm := hmix) (cs := _)
        · apply Wk.mv (by conv => lhs; whnf) (lt_of_ble rfl)
          apply Wk.nilc rfl (lt_of_ble rfl)
          apply Wk.fad 5 0 false fd111_1 rfl (lt_of_ble rfl)
          apply Wk.ld (i := 27) 1 false ty92 rfl rfl (by conv => lhs; whnf) (lt_of_ble rfl)
          apply Wk.fad 2 0 false fd42_2 rfl (lt_of_ble rfl)
          apply Wk.ld (i := 3) 1 false ty3 rfl rfl (by conv => lhs; whnf) (lt_of_ble rfl)
          apply Wk.dat cf Try.func77 rfl rfl rfl rfl rfl (lt_of_ble rfl)
          apply Wk.asg (by conv => lhs; whnf) (lt_of_ble rfl)
          refine Wk.nil ?_
          refine AW.seq (AW.seq ?_)
          apply AW.list
          apply Wk.mv (by conv => lhs; whnf) (lt_of_ble rfl)
          apply Wk.mv (by conv => lhs; whnf) (lt_of_ble rfl)
          apply Wk.nilc rfl (lt_of_ble rfl)
          apply Wk.fad 6 13 true fd111_2 rfl (lt_of_ble rfl)
          apply Wk.fad 13 0 false fd109_2 rfl (lt_of_ble rfl)
          apply Wk.ld (i := 27) 1 false ty3 rfl rfl (by conv => lhs; whnf) (lt_of_ble rfl)
          apply Wk.bin rfl rfl (r := .bool false) (fun w => by simp [go_sem] <;> omega) (lt_of_ble rfl)
          refine Wk.nil ?_
          refine AW.cond rfl (fun hc => by cases hc) (fun _ => AW.skip (thenA_normal ?_))
          refine AW.seq ?_
          apply AW.list
          apply Wk.mv (by conv => lhs; whnf) (lt_of_ble rfl)
          apply Wk.mv (by conv => lhs; whnf) (lt_of_ble rfl)
          apply Wk.cal [27, 66] [] cl (in_snd _ rfl _ _ _ _ _ _ _ _ _ _ _ _ _ _ _ _ _ _) ⟨_, _, rfl, rfl⟩ Try.func101 rfl rfl rfl rfl (fun i hi => by cases hi) rfl (two_in rfl (by exact within_parts _)) (lt_of_ble rfl)
          rintro r bs' ⟨rfl, rfl⟩
          refine Wk.nil ?_
          refine AW.seq (AW.seq ?_)
          apply AW.list
          apply Wk.fad 0 0 false fd42_0 rfl (lt_of_ble rfl)
          apply Wk.ld (i := 3) 1 false ty3 rfl rfl (by conv => lhs; whnf) (lt_of_ble rfl)
          apply Wk.bin rfl rfl (r := .bool true) (fun w => by simp [go_sem]) (lt_of_ble rfl)
          refine Wk.nil ?_
          refine AW.cond rfl (fun _ => ?_) (fun hc => by cases hc)
          apply AW.list
          apply Wk.mv (by conv => lhs; whnf) (lt_of_ble rfl)
          apply Wk.fad 5 0 false fd42_5 rfl (lt_of_ble rfl)
          apply Wk.ld (i := 3) 1 false ty3 rfl rfl (by conv => lhs; whnf) (lt_of_ble rfl)
          apply Wk.bin rfl rfl (r := .bool (sy == 2)) (fun w => by simp [go_sem]) (lt_of_ble rfl)
          apply Wk.nilc rfl (lt_of_ble rfl)
          apply Wk.fad 24 0 false fd111_7 rfl (lt_of_ble rfl)
          apply Wk.sto (i := 27) 1 false ty4 rfl rfl rfl rfl (Nat.le_of_ble_eq_true rfl) (lt_of_ble rfl)
          refine Wk.nil (thenA_normal ?_)
          refine AW.seq (AW.seq ?_)
          apply AW.list
          apply Wk.fad 4 0 false fd42_4 rfl (lt_of_ble rfl)
          apply Wk.ld (i := 3) 1 false ty4 rfl rfl (by conv => lhs; whnf) (lt_of_ble rfl)
          apply Wk.mv (by conv => lhs; whnf) (lt_of_ble rfl)
          apply Wk.gon 40 rfl rfl
          apply Wk.mv (by conv => lhs; whnf) (lt_of_ble rfl)
          apply Wk.gon 40 rfl rfl
          apply Wk.nilc rfl (lt_of_ble rfl)
          apply Wk.gon 40 rfl rfl
          apply Wk.fad 22 0 false fd111_5 rfl (lt_of_ble rfl)
          apply Wk.gon 40 rfl rfl
          apply Wk.ld (i := 27) 1 false ty4 rfl rfl (by conv => lhs; whnf) (lt_of_ble rfl)
          apply Wk.pckT rfl (by conv => lhs; whnf) (lt_of_ble rfl)
          refine Wk.nil ?_
          refine AW.cond rfl (fun _ => ?_) (fun hc => by cases hc)
          apply AW.list
          apply Wk.mv (by conv => lhs; whnf) (lt_of_ble rfl)
          apply Wk.cal [27, 66] [] (iansw _ _ _ _ _ _ _ _ _ _ _ _ _ _ _ _ _) (in_snd _ rfl _ _ _ _ _ _ _ _ _ _ _ _ _ _ _ _ _ _) ⟨_, _, rfl, rfl⟩ Try.func102 rfl rfl rfl rfl (fun i hi => by cases hi) rfl (two_in rfl (by exact within_parts _)) (lt_of_ble rfl)
          rintro r bs' ⟨rfl, rfl⟩
          refine Wk.nil (thenA_normal ?_)
          refine AW.seq ?_
          apply AW.list
          apply Wk.fad 0 0 false fd42_0 rfl (lt_of_ble rfl)
          apply Wk.ld (i := 3) 1 false ty3 rfl rfl (by conv => lhs; whnf) (lt_of_ble rfl)
          apply Wk.bin rfl rfl (r := .bool true) (fun w => by simp [go_sem]) (lt_of_ble rfl)
          apply Wk.mv (by conv => lhs; whnf) (lt_of_ble rfl)
          apply Wk.gon 51 rfl rfl
          apply Wk.fad 5 0 false fd42_5 rfl (lt_of_ble rfl)
          apply Wk.gon 51 rfl rfl
          apply Wk.ld (i := 3) 1 false ty3 rfl rfl (by conv => lhs; whnf) (lt_of_ble rfl)
          apply Wk.gon 51 rfl rfl
          apply Wk.bin rfl rfl (r := .bool false) (fun w => by simp [go_sem, hy]) (lt_of_ble rfl)
          apply Wk.pckT rfl (by conv => lhs; whnf) (lt_of_ble rfl)
          apply Wk.mv (by conv => lhs; whnf) (lt_of_ble rfl)
          apply Wk.goff 56 (ok_move _) rfl rfl (by decide)
          apply Wk.goff 56 (ok_nil _) rfl rfl (by decide)
          apply Wk.goff 56 (ok_faddr fd111_5) rfl rfl (by decide)
          apply Wk.goff 56 (ok_load 27 ty4) rfl rfl (by decide)
          apply Wk.goff 56 (ok_un _ _ _) rfl rfl (by decide)
          apply Wk.pckF rfl (by conv => lhs; whnf) (lt_of_ble rfl)
          refine Wk.nil ?_
          refine AW.cond rfl (fun hc => by cases hc) (fun _ => AW.skip ?_)
          have e : rest3 2 sy true s1 true t hh = (0, false, 0, decide (sy = 2)) := by simp [rest3, hy]
          exact ⟨[], sndB _ l qu, .nil, ⟨rfl, by rw [e] <;> rfl⟩, kept2 rfl rfl⟩
        · rfl
        · rfl
end Go.Proofs.Ytdojkmjamilllaa

/- FrmOk over what values read as. -/
namespace Go.Proofs.Ytdojkmjamilllaa
open Go Go.RowKit
def frmA (k s c : Int) (p f : Bool) (y g l : Int) (bs : List (Fin 256)) : A := .agg [.d (.v (.int .i64 k)), .d (.v (.int .i64 s)), .d (.v (.int .i64 c)), .d (.v (.bool p)), .d (.v (.bool f)), .d (.v (.int .i64 y)), .d (.v (.int .i64 g)), .d (.v (.int .i64 l)), .d (fbytes bs)]
theorem ifrm_ok (k s c : Int) (p f : Bool) (y g l : Int) (bs : List (Fin 256)) (hl : bs.length ≤ 2000000) : DataOk Try.prog 27 [frmA k s c p f y g l bs] (.d (.v (.bool (frmB k s c p f y g l bs.length)))) := by
  refine DataOk.lift fun w F E H args hF hs hd => ?_
  obtain ⟨v, rfl, hv⟩ := arg1 hs hd
  obtain ⟨cs, rfl, hs, _, h⟩ := den_agg hv
  have hs' : cs.toList.length = 9 := by simpa using hs
  match hl' : cs.toList, hs' with
  | [x0, x1, x2, x3, x4, x5, x6, x7, x8], _ =>
    obtain rfl : cs = #[x0, x1, x2, x3, x4, x5, x6, x7, x8] := by rw [← Array.toArray_toList (xs := cs), hl']
    obtain rfl := den_v (h 0 _ rfl)
    obtain rfl := den_v (h 1 _ rfl)
    obtain rfl := den_v (h 2 _ rfl)
    obtain rfl := den_v (h 3 _ rfl)
    obtain rfl := den_v (h 4 _ rfl)
    obtain rfl := den_v (h 5 _ rfl)
    obtain rfl := den_v (h 6 _ rfl)
    obtain rfl := den_v (h 7 _ rfl)
    have h8 := den_rd (den_d (h 8 _ rfl)) hF (fin_byt bs) (by simpa using hl)
    have := impl_frm k s c p f y g l x8 _ w h8
    simpa using this
theorem sfrm_ok (k s c : Int) (p f : Bool) (y g l : Int) (bs : List (Fin 256)) : DataOk Try.prog 33 [frmA k s c p f y g l bs] (.d (.v (.bool (frmB k s c p f y g l bs.length)))) := by
  refine DataOk.lift fun w F E H args hF hs hd => ?_
  obtain ⟨v, rfl, hv⟩ := arg1 hs hd
  obtain ⟨cs, rfl, hs, _, h⟩ := den_agg hv
  have hs' : cs.toList.length = 9 := by simpa using hs
  match hl' : cs.toList, hs' with
  | [x0, x1, x2, x3, x4, x5, x6, x7, x8], _ =>
    obtain rfl : cs = #[x0, x1, x2, x3, x4, x5, x6, x7, x8] := by rw [← Array.toArray_toList (xs := cs), hl']
    obtain rfl := den_v (h 0 _ rfl)
    obtain rfl := den_v (h 1 _ rfl)
    obtain rfl := den_v (h 2 _ rfl)
    obtain rfl := den_v (h 3 _ rfl)
    obtain rfl := den_v (h 4 _ rfl)
    obtain rfl := den_v (h 5 _ rfl)
    obtain rfl := den_v (h 6 _ rfl)
    obtain rfl := den_v (h 7 _ rfl)
    obtain ⟨g', n', cap, rfl, hn⟩ := den_row (den_d (h 8 _ rfl))
    simp only [List.length_map] at hn
    subst hn
    exact spec_frm _ _ _ _ _ _ _ _ _ _ _ w
end Go.Proofs.Ytdojkmjamilllaa
