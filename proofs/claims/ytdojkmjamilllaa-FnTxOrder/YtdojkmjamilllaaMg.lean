/- Laws and contracts that the proof stands on: AbsSender2, AbsTickI, AbsSenderD, AbsSendI, AbsTxSD, AbsSendJ. -/
import Derived.Test.YtdojkmjamilllaaMa
import Derived.Test.YtdojkmjamilllaaMb
import Derived.Test.YtdojkmjamilllaaMc
import Derived.Test.YtdojkmjamilllaaMd
import Derived.Test.YtdojkmjamilllaaMe
import Derived.Test.YtdojkmjamilllaaMf
/- Who sends, the program's: made of a state; its state; what asks for an answer. Written by tools/mk_AbsSender2.py. -/
namespace Go.Proofs.Ytdojkmjamilllaa
open Go Go.RowKit
theorem snd_fillO (m w p u y a s : Int) (l : Nat) (q : Bool) (t : Int) (hh : Bool) (c : Int) (dd : Bool) : fillA ([(0, 5), (5, 1), (6, 14), (20, 1), (21, 1), (22, 1), (23, 1), (24, 1), (25, 1), (26, 1)][·]?) (([.int .i64 0, .int .i64 0, .int .i64 0, .int .i64 0, .int .i64 0, .int .i64 0, .int .i64 0, .int .i64 0, .slice none 0 0, .int .i64 0, .int .i64 0, .slice none 0 0, .int .i64 0, .int .i64 0, .slice none 0 0, .int .i64 0, .int .i64 0, .slice none 0 0, .int .i64 0, .int .i64 0, .int .i64 0, .slice none 0 0, .bool false, .int .i64 0, .bool false, .int .i64 0, .bool false] : List Value).map fun x => .d (.v x)) [(0, cfgA m w p u y), (1, .d (.v (.int .i64 a))), (3, .d (.v (.int .i64 s))), (4, .own 66 l), (5, .d (.v (.bool q))), (6, .d (.v (.int .i64 t))), (7, .d (.v (.bool hh))), (8, .d (.v (.int .i64 c))), (9, .d (.v (.bool dd)))] = some [.d (.v (.int .i64 m)), .d (.v (.int .i64 w)), .d (.v (.int .i64 p)), .d (.v (.int .i64 u)), .d (.v (.int .i64 y)), .d (.v (.int .i64 a)), .d (.v (.int .i64 0)), .d (.v (.int .i64 0)), .d (.v (.slice none 0 0)), .d (.v (.int .i64 0)), .d (.v (.int .i64 0)), .d (.v (.slice none 0 0)), .d (.v (.int .i64 0)), .d (.v (.int .i64 0)), .d (.v (.slice none 0 0)), .d (.v (.int .i64 0)), .d (.v (.int .i64 0)), .d (.v (.slice none 0 0)), .d (.v (.int .i64 0)), .d (.v (.int .i64 0)), .d (.v (.int .i64 s)), .own 66 l, .d (.v (.bool q)), .d (.v (.int .i64 t)), .d (.v (.bool hh)), .d (.v (.int .i64 c)), .d (.v (.bool dd))] := by
  simp [fillA, setA, cellsA, cfgA, Value.oneCell']
theorem snd_fillN (m w p u y a s : Int) (q : Bool) (t : Int) (hh : Bool) (c : Int) (dd : Bool) : fillA ([(0, 5), (5, 1), (6, 14), (20, 1), (21, 1), (22, 1), (23, 1), (24, 1), (25, 1), (26, 1)][·]?) (([.int .i64 0, .int .i64 0, .int .i64 0, .int .i64 0, .int .i64 0, .int .i64 0, .int .i64 0, .int .i64 0, .slice none 0 0, .int .i64 0, .int .i64 0, .slice none 0 0, .int .i64 0, .int .i64 0, .slice none 0 0, .int .i64 0, .int .i64 0, .slice none 0 0, .int .i64 0, .int .i64 0, .int .i64 0, .slice none 0 0, .bool false, .int .i64 0, .bool false, .int .i64 0, .bool false] : List Value).map fun x => .d (.v x)) [(0, cfgA m w p u y), (1, .d (.v (.int .i64 a))), (3, .d (.v (.int .i64 s))), (4, .d (.v (.slice none 0 0))), (5, .d (.v (.bool q))), (6, .d (.v (.int .i64 t))), (7, .d (.v (.bool hh))), (8, .d (.v (.int .i64 c))), (9, .d (.v (.bool dd)))] = some [.d (.v (.int .i64 m)), .d (.v (.int .i64 w)), .d (.v (.int .i64 p)), .d (.v (.int .i64 u)), .d (.v (.int .i64 y)), .d (.v (.int .i64 a)), .d (.v (.int .i64 0)), .d (.v (.int .i64 0)), .d (.v (.slice none 0 0)), .d (.v (.int .i64 0)), .d (.v (.int .i64 0)), .d (.v (.slice none 0 0)), .d (.v (.int .i64 0)), .d (.v (.int .i64 0)), .d (.v (.slice none 0 0)), .d (.v (.int .i64 0)), .d (.v (.int .i64 0)), .d (.v (.slice none 0 0)), .d (.v (.int .i64 0)), .d (.v (.int .i64 0)), .d (.v (.int .i64 s)), .d (.v (.slice none 0 0)), .d (.v (.bool q)), .d (.v (.int .i64 t)), .d (.v (.bool hh)), .d (.v (.int .i64 c)), .d (.v (.bool dd))] := by
  simp [fillA, setA, cellsA, cfgA, Value.oneCell']
set_option maxHeartbeats 1000000 in
set_option maxRecDepth 100000 in
theorem inewO (m w p u y : Int) (n a : Int) (fl : List Dat) (s : Int) (qu : List Dat) (q : Bool) (t : Int) (hh : Bool) (c : Int) (dd : Bool) (hq : qu ≠ []) (h4 : fl.length ≤ 4) (hx : TX.few ⟨n, a, fl, s, qu, q, t, hh, c, dd⟩) :
    Spec Try.prog 51 [cfgA m w p u y, txA ⟨n, a, fl, s, qu, q, t, hh, c, dd⟩] [] (fun r bs => r = .ptr 27 0 ∧ bs = sndB (sndC m w p u y a (ringF fl) 0 (fl.length : Int) s qu.length q t hh c dd) qu.length qu) := by
  have e1 : (((fl.map datD).length : Nat) : Int) = (fl.length : Int) := by rw [List.length_map]
  have cf := icopy_ok fl hx.1.1 hx.1.2
  have cq := icopyO qu hq hx.2.1 hx.2.2
  have i1 := in_slist (L := [] ++ [66]) (i := 66) (k := qu.length) (e := 47) (sz := 3) (by simp) (within_parts qu)
  refine Spec.intro (n := 43) (rv := [.tmp 4]) Try.func51 rfl rfl rfl (by simp) fun C hN hX => ?_
  refine AW.seq ?_
  apply AW.list
  apply Wk.bx 2 rfl rfl (lt_of_ble rfl)
  apply Wk.bx 3 rfl rfl (lt_of_ble rfl)
  apply Wk.asg (by conv => lhs; whnf) (lt_of_ble rfl)
  refine Wk.nil ?_
  refine AW.seq ?_
  apply AW.draw (hm := hmix) (cs := _)
  · apply Wk.ld (i := 2) 5 true ty24 rfl rfl (by conv => lhs; whnf) (lt_of_ble rfl)
    apply Wk.fad 1 0 false fd27_1 rfl (lt_of_ble rfl)
    apply Wk.ld (i := 3) 1 false ty3 rfl rfl (by conv => lhs; whnf) (lt_of_ble rfl)
    apply Wk.fad 3 0 false fd27_3 rfl (lt_of_ble rfl)
    apply Wk.ld (i := 3) 1 false ty3 rfl rfl (by conv => lhs; whnf) (lt_of_ble rfl)
    apply Wk.fad 4 0 false fd27_4 rfl (lt_of_ble rfl)
    apply Wk.ld (i := 3) 1 false ty25 rfl rfl (by conv => lhs; whnf) (lt_of_ble rfl)
    apply Wk.cal [] [66] cq i1 ⟨_, _, rfl, rfl⟩ Try.func88 rfl rfl rfl rfl (by simp; rfl) rfl (fun i hi => by cases hi) (lt_of_ble rfl)
    rintro r bs' ⟨rfl, rfl⟩
    apply Wk.fad 5 0 false fd27_5 rfl (lt_of_ble rfl)
    apply Wk.ld (i := 3) 1 false ty4 rfl rfl (by conv => lhs; whnf) (lt_of_ble rfl)
    apply Wk.fad 6 0 false fd27_6 rfl (lt_of_ble rfl)
    apply Wk.ld (i := 3) 1 false ty3 rfl rfl (by conv => lhs; whnf) (lt_of_ble rfl)
    apply Wk.fad 7 0 false fd27_7 rfl (lt_of_ble rfl)
    apply Wk.ld (i := 3) 1 false ty4 rfl rfl (by conv => lhs; whnf) (lt_of_ble rfl)
    apply Wk.fad 8 0 false fd27_8 rfl (lt_of_ble rfl)
    apply Wk.ld (i := 3) 1 false ty3 rfl rfl (by conv => lhs; whnf) (lt_of_ble rfl)
    apply Wk.fad 9 0 false fd27_9 rfl (lt_of_ble rfl)
    apply Wk.ld (i := 3) 1 false ty4 rfl rfl (by conv => lhs; whnf) (lt_of_ble rfl)
    apply Wk.bld [.int .i64 0, .int .i64 0, .int .i64 0, .int .i64 0, .int .i64 0, .int .i64 0, .int .i64 0, .int .i64 0, .slice none 0 0, .int .i64 0, .int .i64 0, .slice none 0 0, .int .i64 0, .int .i64 0, .slice none 0 0, .int .i64 0, .int .i64 0, .slice none 0 0, .int .i64 0, .int .i64 0, .int .i64 0, .slice none 0 0, .bool false, .int .i64 0, .bool false, .int .i64 0, .bool false] [(0, 5), (5, 1), (6, 14), (20, 1), (21, 1), (22, 1), (23, 1), (24, 1), (25, 1), (26, 1)] bl111 rfl (by exact snd_fillO m w p u y a s qu.length q t hh c dd) (lt_of_ble rfl)
    apply Wk.bx 27 rfl rfl (lt_of_ble rfl)
    apply Wk.asg (by conv => lhs; whnf) (lt_of_ble rfl)
    refine Wk.nil ?_
    refine AW.seq (AW.seq ?_)
    apply AW.list
    apply Wk.fad 2 0 false fd27_2 rfl (lt_of_ble rfl)
    apply Wk.ld (i := 3) 1 false ty25 rfl rfl (by conv => lhs; whnf) (lt_of_ble rfl)
    apply Wk.dat cf Try.func88 rfl rfl rfl rfl rfl (lt_of_ble rfl)
    apply Wk.len un25 rfl (lt_of_ble rfl)
    apply Wk.mv (by conv => lhs; whnf) (lt_of_ble rfl)
    refine Wk.nil (AW.block ?_)
    refine AW.loop (fun k : Nat => St.of 43 [(5, .ptr 27 0), (30, .d (partsD fl)), (31, .d (.v (.int .i64 (((fl.map datD).length : Nat) : Int)))), (32, .d (.v (.int .i64 (k : Int))))] [(27, .var (sndC m w p u y a (ringF (fl.take k)) 0 (k : Int) s qu.length q t hh c dd)), (66, .own qu.length 47 3 (piecesA qu))]) (fun k => k ≤ fl.length) (fun k => fl.length - k) 0 (Nat.zero_le _) ?_ ?_
    · exact fun a w => Rel.keep ⟨rfl, .cons rfl rfl (.cons rfl rfl (.cons rfl rfl (.cons rfl rfl .nil))), .cons rfl rfl (.cons rfl (by exact within_parts _) .nil), hN.mono (by simp [keys])⟩
    rintro k hk
    show AW Try.prog C _ _ (St.of 43 [(5, .ptr 27 0), (30, .d (partsD fl)), (31, .d (.v (.int .i64 (((fl.map datD).length : Nat) : Int)))), (32, .d (.v (.int .i64 (k : Int))))] [(27, .var (sndC m w p u y a (ringF (fl.take k)) 0 (k : Int) s qu.length q t hh c dd)), (66, .own qu.length 47 3 (piecesA qu))])
    refine AW.seq ?_
    apply AW.list
    apply Wk.bin rfl rfl (fun w => by simp [go_sem] <;> rfl) (lt_of_ble rfl)
    refine Wk.nil ?_
    refine AW.seq ?_
    refine AW.cond rfl (fun hc => ?_) (fun hc => ?_)
    · have hlt : k < fl.length := by simpa using hc
      obtain ⟨d, hd⟩ : ∃ d, fl[k]? = some d := ⟨_, List.getElem?_eq_getElem hlt⟩
      have hget : (fl.map datD)[k]? = some (datD d) := by simp [hd]
      have hklt : k < (fl.map datD).length := by simpa using hlt
      have cp := ipush m w p u y a (ringF (fl.take k)) s qu.length q t hh c dd qu k (by omega) d
      rw [ring_push hd] at cp
      refine AW.skip ?_
      repeat (first | refine thenA_normal ?_ | refine inBlockA_normal ?_)
      refine AW.seq (AW.block (AW.seq ?_))
      apply AW.list
      apply Wk.iad 3 true un25 ty47 rfl rfl hklt (datD_len _) (lt_of_ble rfl)
      apply Wk.ldr 3 true ty47 rfl hget (by conv => lhs; whnf) (lt_of_ble rfl)
      apply Wk.alc 7 [.int .i64 0, .int .i64 0, .slice none 0 0] ze47 rfl rfl (lt_of_ble rfl)
      apply Wk.sto (i := 7) 3 true ty47 rfl rfl rfl rfl (Nat.le_of_ble_eq_true rfl) (lt_of_ble rfl)
      refine Wk.nil ?_
      repeat (first | refine thenA_normal ?_ | refine inBlockA_normal ?_)
      apply AW.draw (hm := hmix) (cs := _)
      · apply Wk.mv (by conv => lhs; whnf) (lt_of_ble rfl)
        apply Wk.nilc rfl (lt_of_ble rfl)
        apply Wk.fad 6 13 true fd111_2 rfl (lt_of_ble rfl)
        apply Wk.ld (i := 7) 3 true ty47 rfl rfl (by conv => lhs; whnf) (lt_of_ble rfl)
        apply Wk.cal [27, 66] [] cp (in_snd _ rfl _ _ _ _ _ _ _ _ _ _ _ _ _ _ _ _ _ _) ⟨_, _, rfl, rfl⟩ Try.func89 rfl rfl rfl rfl (fun i hi => by cases hi) rfl (two_in rfl (by exact within_parts _)) (lt_of_ble rfl)
        rintro r bs' ⟨rfl, rfl⟩
        refine Wk.nil ?_
        repeat (first | refine thenA_normal ?_ | refine inBlockA_normal ?_)
        apply AW.list
        apply Wk.addi rfl rfl (by omega) (lt_of_ble rfl)
        apply Wk.mv (by conv => lhs; whnf) (lt_of_ble rfl)
        refine Wk.nil ?_
        refine ⟨k + 1, by omega, by omega, ?_⟩
        exact fun a w => Rel.keep ⟨rfl, .cons rfl rfl (.cons rfl rfl (.cons rfl rfl (.cons rfl rfl .nil))), .cons rfl rfl (.cons rfl (by exact within_parts _) .nil), hN.mono (by simp [keys])⟩
      · rfl
      · rfl
    · have hke : k = fl.length := by
        simp at hc
        omega
      subst hke
      refine AW.exit ?_
      repeat (first | refine inBlockA_same ?_ | refine thenA_exit ?_)
      repeat (first | refine thenA_normal ?_ | refine inBlockA_normal ?_)
      rw [List.take_length]
      refine AW.seq ?_
      apply AW.list
      apply Wk.mv (by conv => lhs; whnf) (lt_of_ble rfl)
      apply Wk.asg (by conv => lhs; whnf) (lt_of_ble rfl)
      refine Wk.nil (AW.ret ?_)
      repeat (first | refine thenA_ret ?_ | refine inBlockA_ret ?_)
      exact RetQ.ret (sndB _ qu.length qu) (.cons rfl .nil) ⟨rfl, rfl⟩ (kept2 rfl rfl)
  · rfl
  · rfl
set_option maxHeartbeats 1000000 in
set_option maxRecDepth 100000 in
theorem inewN (m w p u y : Int) (n a : Int) (fl : List Dat) (s : Int) (q : Bool) (t : Int) (hh : Bool) (c : Int) (dd : Bool) (h4 : fl.length ≤ 4) (hx : TX.few ⟨n, a, fl, s, [], q, t, hh, c, dd⟩) :
    Spec Try.prog 51 [cfgA m w p u y, txA ⟨n, a, fl, s, [], q, t, hh, c, dd⟩] [] (fun r bs => r = .ptr 27 0 ∧ bs = sndB (sndC m w p u y a (ringF fl) 0 (fl.length : Int) s 0 q t hh c dd) 0 []) := by
  have e1 : (((fl.map datD).length : Nat) : Int) = (fl.length : Int) := by rw [List.length_map]
  have cf := icopy_ok fl hx.1.1 hx.1.2
  have cq := icopyNil
  refine Spec.intro (n := 43) (rv := [.tmp 4]) Try.func51 rfl rfl rfl (by simp) fun C hN hX => ?_
  refine AW.seq ?_
  apply AW.list
  apply Wk.bx 2 rfl rfl (lt_of_ble rfl)
  apply Wk.bx 3 rfl rfl (lt_of_ble rfl)
  apply Wk.asg (by conv => lhs; whnf) (lt_of_ble rfl)
  refine Wk.nil ?_
  refine AW.seq ?_
  apply AW.draw (hm := hmix) (cs := _)
  · apply Wk.ld (i := 2) 5 true ty24 rfl rfl (by conv => lhs; whnf) (lt_of_ble rfl)
    apply Wk.fad 1 0 false fd27_1 rfl (lt_of_ble rfl)
    apply Wk.ld (i := 3) 1 false ty3 rfl rfl (by conv => lhs; whnf) (lt_of_ble rfl)
    apply Wk.fad 3 0 false fd27_3 rfl (lt_of_ble rfl)
    apply Wk.ld (i := 3) 1 false ty3 rfl rfl (by conv => lhs; whnf) (lt_of_ble rfl)
    apply Wk.fad 4 0 false fd27_4 rfl (lt_of_ble rfl)
    apply Wk.ld (i := 3) 1 false ty25 rfl rfl (by conv => lhs; whnf) (lt_of_ble rfl)
    apply Wk.dat cq Try.func88 rfl rfl rfl rfl rfl (lt_of_ble rfl)
    apply Wk.fad 5 0 false fd27_5 rfl (lt_of_ble rfl)
    apply Wk.ld (i := 3) 1 false ty4 rfl rfl (by conv => lhs; whnf) (lt_of_ble rfl)
    apply Wk.fad 6 0 false fd27_6 rfl (lt_of_ble rfl)
    apply Wk.ld (i := 3) 1 false ty3 rfl rfl (by conv => lhs; whnf) (lt_of_ble rfl)
    apply Wk.fad 7 0 false fd27_7 rfl (lt_of_ble rfl)
    apply Wk.ld (i := 3) 1 false ty4 rfl rfl (by conv => lhs; whnf) (lt_of_ble rfl)
    apply Wk.fad 8 0 false fd27_8 rfl (lt_of_ble rfl)
    apply Wk.ld (i := 3) 1 false ty3 rfl rfl (by conv => lhs; whnf) (lt_of_ble rfl)
    apply Wk.fad 9 0 false fd27_9 rfl (lt_of_ble rfl)
    apply Wk.ld (i := 3) 1 false ty4 rfl rfl (by conv => lhs; whnf) (lt_of_ble rfl)
    apply Wk.bld [.int .i64 0, .int .i64 0, .int .i64 0, .int .i64 0, .int .i64 0, .int .i64 0, .int .i64 0, .int .i64 0, .slice none 0 0, .int .i64 0, .int .i64 0, .slice none 0 0, .int .i64 0, .int .i64 0, .slice none 0 0, .int .i64 0, .int .i64 0, .slice none 0 0, .int .i64 0, .int .i64 0, .int .i64 0, .slice none 0 0, .bool false, .int .i64 0, .bool false, .int .i64 0, .bool false] [(0, 5), (5, 1), (6, 14), (20, 1), (21, 1), (22, 1), (23, 1), (24, 1), (25, 1), (26, 1)] bl111 rfl (by exact snd_fillN m w p u y a s q t hh c dd) (lt_of_ble rfl)
    apply Wk.bx 27 rfl rfl (lt_of_ble rfl)
    apply Wk.asg (by conv => lhs; whnf) (lt_of_ble rfl)
    refine Wk.nil ?_
    refine AW.nilc (j := 27) (n := 21) (i' := 66) 47 3 rfl rfl rfl ?_
    refine AW.seq (AW.seq ?_)
    apply AW.list
    apply Wk.fad 2 0 false fd27_2 rfl (lt_of_ble rfl)
    apply Wk.ld (i := 3) 1 false ty25 rfl rfl (by conv => lhs; whnf) (lt_of_ble rfl)
    apply Wk.dat cf Try.func88 rfl rfl rfl rfl rfl (lt_of_ble rfl)
    apply Wk.len un25 rfl (lt_of_ble rfl)
    apply Wk.mv (by conv => lhs; whnf) (lt_of_ble rfl)
    refine Wk.nil (AW.block ?_)
    refine AW.loop (fun k : Nat => St.of 43 [(5, .ptr 27 0), (30, .d (partsD fl)), (31, .d (.v (.int .i64 (((fl.map datD).length : Nat) : Int)))), (32, .d (.v (.int .i64 (k : Int))))] [(27, .var (sndC m w p u y a (ringF (fl.take k)) 0 (k : Int) s 0 q t hh c dd)), (66, .own 0 47 3 (piecesA []))]) (fun k => k ≤ fl.length) (fun k => fl.length - k) 0 (Nat.zero_le _) ?_ ?_
    · exact fun a w => Rel.keep ⟨rfl, .cons rfl rfl (.cons rfl rfl (.cons rfl rfl (.cons rfl rfl .nil))), .cons rfl rfl (.cons rfl rfl .nil), hN.mono (by simp [keys])⟩
    rintro k hk
    show AW Try.prog C _ _ (St.of 43 [(5, .ptr 27 0), (30, .d (partsD fl)), (31, .d (.v (.int .i64 (((fl.map datD).length : Nat) : Int)))), (32, .d (.v (.int .i64 (k : Int))))] [(27, .var (sndC m w p u y a (ringF (fl.take k)) 0 (k : Int) s 0 q t hh c dd)), (66, .own 0 47 3 (piecesA []))])
    refine AW.seq ?_
    apply AW.list
    apply Wk.bin rfl rfl (fun w => by simp [go_sem] <;> rfl) (lt_of_ble rfl)
    refine Wk.nil ?_
    refine AW.seq ?_
    refine AW.cond rfl (fun hc => ?_) (fun hc => ?_)
    · have hlt : k < fl.length := by simpa using hc
      obtain ⟨d, hd⟩ : ∃ d, fl[k]? = some d := ⟨_, List.getElem?_eq_getElem hlt⟩
      have hget : (fl.map datD)[k]? = some (datD d) := by simp [hd]
      have hklt : k < (fl.map datD).length := by simpa using hlt
      have cp := ipush m w p u y a (ringF (fl.take k)) s 0 q t hh c dd [] k (by omega) d
      rw [ring_push hd] at cp
      refine AW.skip ?_
      repeat (first | refine thenA_normal ?_ | refine inBlockA_normal ?_)
      refine AW.seq (AW.block (AW.seq ?_))
      apply AW.list
      apply Wk.iad 3 true un25 ty47 rfl rfl hklt (datD_len _) (lt_of_ble rfl)
      apply Wk.ldr 3 true ty47 rfl hget (by conv => lhs; whnf) (lt_of_ble rfl)
      apply Wk.alc 7 [.int .i64 0, .int .i64 0, .slice none 0 0] ze47 rfl rfl (lt_of_ble rfl)
      apply Wk.sto (i := 7) 3 true ty47 rfl rfl rfl rfl (Nat.le_of_ble_eq_true rfl) (lt_of_ble rfl)
      refine Wk.nil ?_
      repeat (first | refine thenA_normal ?_ | refine inBlockA_normal ?_)
      apply AW.draw (hm := hmix) (cs := _)
      · apply Wk.mv (by conv => lhs; whnf) (lt_of_ble rfl)
        apply Wk.nilc rfl (lt_of_ble rfl)
        apply Wk.fad 6 13 true fd111_2 rfl (lt_of_ble rfl)
        apply Wk.ld (i := 7) 3 true ty47 rfl rfl (by conv => lhs; whnf) (lt_of_ble rfl)
        apply Wk.cal [27, 66] [] cp (in_snd _ rfl _ _ _ _ _ _ _ _ _ _ _ _ _ _ _ _ _ _) ⟨_, _, rfl, rfl⟩ Try.func89 rfl rfl rfl rfl (fun i hi => by cases hi) rfl (two_in rfl (by exact within_parts _)) (lt_of_ble rfl)
        rintro r bs' ⟨rfl, rfl⟩
        refine Wk.nil ?_
        repeat (first | refine thenA_normal ?_ | refine inBlockA_normal ?_)
        apply AW.list
        apply Wk.addi rfl rfl (by omega) (lt_of_ble rfl)
        apply Wk.mv (by conv => lhs; whnf) (lt_of_ble rfl)
        refine Wk.nil ?_
        refine ⟨k + 1, by omega, by omega, ?_⟩
        exact fun a w => Rel.keep ⟨rfl, .cons rfl rfl (.cons rfl rfl (.cons rfl rfl (.cons rfl rfl .nil))), .cons rfl rfl (.cons rfl rfl .nil), hN.mono (by simp [keys])⟩
      · rfl
      · rfl
    · have hke : k = fl.length := by
        simp at hc
        omega
      subst hke
      refine AW.exit ?_
      repeat (first | refine inBlockA_same ?_ | refine thenA_exit ?_)
      repeat (first | refine thenA_normal ?_ | refine inBlockA_normal ?_)
      rw [List.take_length]
      refine AW.seq ?_
      apply AW.list
      apply Wk.mv (by conv => lhs; whnf) (lt_of_ble rfl)
      apply Wk.asg (by conv => lhs; whnf) (lt_of_ble rfl)
      refine Wk.nil (AW.ret ?_)
      repeat (first | refine thenA_ret ?_ | refine inBlockA_ret ?_)
      exact RetQ.ret (sndB _ 0 []) (.cons rfl .nil) ⟨rfl, rfl⟩ (kept2 rfl rfl)
  · rfl
  · rfl
/-- Who sends, made of a state. -/
theorem inew (m w p u y : Int) (x : TX) (h4 : x.fl.length ≤ 4) (hx : x.few) : Spec Try.prog 51 [cfgA m w p u y, txA x] [] (fun r bs => r = .ptr 27 0 ∧ bs = sndB (sndC m w p u y x.a (ringF x.fl) 0 (x.fl.length : Int) x.s x.qu.length x.q x.t x.h x.c x.d) x.qu.length x.qu) := by
  obtain ⟨n, a, fl, s, qu, q, t, hh, c, dd⟩ := x
  by_cases hq : qu = []
  · subst hq
    exact inewN m w p u y n a fl s q t hh c dd h4 hx
  · exact inewO m w p u y n a fl s qu q t hh c dd hq h4 hx
theorem ion_ok (n s : Int) (hn : 0 ≤ n ∧ n < 8) (hs : 0 ≤ s ∧ s < 100) : DataOk Try.prog 90 [.d (.v (.int .i64 n)), .d (.v (.int .i64 s))] (.d (.v (.int .i64 ((n + s) % 8)))) := int2 (impl_on n s hn hs)
theorem st_fillO (n a s : Int) (k : Nat) (l : Nat) (q : Bool) (t : Int) (hh : Bool) (c : Int) (dd : Bool) : fillA ([(0, 1), (1, 1), (2, 1), (3, 1), (4, 1), (5, 1), (6, 1), (7, 1), (8, 1), (9, 1)][·]?) (([.int .i64 0, .int .i64 0, .slice none 0 0, .int .i64 0, .slice none 0 0, .bool false, .int .i64 0, .bool false, .int .i64 0, .bool false] : List Value).map fun x => .d (.v x)) [(0, .d (.v (.int .i64 n))), (1, .d (.v (.int .i64 a))), (2, .own 17 k), (3, .d (.v (.int .i64 s))), (4, .own 66 l), (5, .d (.v (.bool q))), (6, .d (.v (.int .i64 t))), (7, .d (.v (.bool hh))), (8, .d (.v (.int .i64 c))), (9, .d (.v (.bool dd)))] = some [.d (.v (.int .i64 n)), .d (.v (.int .i64 a)), .own 17 k, .d (.v (.int .i64 s)), .own 66 l, .d (.v (.bool q)), .d (.v (.int .i64 t)), .d (.v (.bool hh)), .d (.v (.int .i64 c)), .d (.v (.bool dd))] := by
  simp [fillA, setA, cellsA, Value.oneCell']
theorem st_fillN (n a s : Int) (l : Nat) (q : Bool) (t : Int) (hh : Bool) (c : Int) (dd : Bool) : fillA ([(0, 1), (1, 1), (2, 1), (3, 1), (4, 1), (5, 1), (6, 1), (7, 1), (8, 1), (9, 1)][·]?) (([.int .i64 0, .int .i64 0, .slice none 0 0, .int .i64 0, .slice none 0 0, .bool false, .int .i64 0, .bool false, .int .i64 0, .bool false] : List Value).map fun x => .d (.v x)) [(0, .d (.v (.int .i64 n))), (1, .d (.v (.int .i64 a))), (2, .d (.v (.slice none 0 0))), (3, .d (.v (.int .i64 s))), (4, .own 66 l), (5, .d (.v (.bool q))), (6, .d (.v (.int .i64 t))), (7, .d (.v (.bool hh))), (8, .d (.v (.int .i64 c))), (9, .d (.v (.bool dd)))] = some [.d (.v (.int .i64 n)), .d (.v (.int .i64 a)), .d (.v (.slice none 0 0)), .d (.v (.int .i64 s)), .own 66 l, .d (.v (.bool q)), .d (.v (.int .i64 t)), .d (.v (.bool hh)), .d (.v (.int .i64 c)), .d (.v (.bool dd))] := by
  simp [fillA, setA, cellsA, Value.oneCell']
def stA0 (n a : Int) (F : A) (s : Int) (l : Nat) (q : Bool) (t : Int) (hh : Bool) (c : Int) (dd : Bool) : A := .agg [.d (.v (.int .i64 n)), .d (.v (.int .i64 a)), F, .d (.v (.int .i64 s)), .own 66 l, .d (.v (.bool q)), .d (.v (.int .i64 t)), .d (.v (.bool hh)), .d (.v (.int .i64 c)), .d (.v (.bool dd))]
theorem flX_in {L : List Dat} {i : Nat} {z : Bx} (h : (flX L).lookup i = some z) : i ∈ [17] ∧ z.within [17] = true := by
  unfold flX at h
  split at h
  · cases h
  · obtain ⟨rfl, rfl⟩ : i = 17 ∧ z = .own (L.length - 1) 47 3 (piecesA L) := by
      rw [List.lookup_cons] at h
      split at h
      · rename_i e; exact ⟨eq_of_beq e, (Option.some.inj h).symm⟩
      · cases h
    exact ⟨by simp, by simp [Bx.within, within_parts]⟩
theorem within_up {K K' : List Nat} {z : Bx} (h : z.within K = true) (hk : ∀ i ∈ K, i ∈ K') : z.within K' = true := by
  cases z with
  | none => rfl
  | fresh => rfl
  | var cs => exact withins_mono (fun i hi => by simp at hi ⊢; exact hk i hi) cs h
  | own k e sz es =>
    simp only [Bx.within, List.all_eq_true] at h ⊢
    exact fun c hc => withins_mono (fun i hi => by simp at hi ⊢; exact hk i hi) c (h c hc)
theorem lookup_app {l1 l2 : List (Nat × Bx)} {i : Nat} {z : Bx} (h : (l1 ++ l2).lookup i = some z) : l1.lookup i = some z ∨ l2.lookup i = some z := by
  induction l1 with
  | nil => exact .inr h
  | cons x l1 ih =>
    rw [List.cons_append, List.lookup_cons] at h
    rw [List.lookup_cons]
    split
    · rename_i e; rw [e] at h; exact .inl h
    · rename_i e; rw [e] at h; exact ih h
theorem in_sndF (r0 : A) (hr : r0.within [27, 66, 17] = true) (m w p u y a : Int) (f : Nat → Sl) (h k s : Int) (l : Nat) (q : Bool) (t : Int) (hh : Bool) (c : Int) (d : Bool) (l' : Nat) (qu L : List Dat) : PostIn [27, 66, 17] (fun r bs => r = r0 ∧ bs = sndB (sndC m w p u y a f h k s l q t hh c d) l' qu ++ flX L) := by
  rintro r bs ⟨rfl, rfl⟩
  refine ⟨hr, fun i z hz => ?_⟩
  rcases lookup_app hz with h | h
  · have := in_sndB h
    exact ⟨by have h1 := this.1; simp at h1 ⊢; omega, within_up this.2 (fun i hi => by simp at hi ⊢; omega)⟩
  · have := flX_in h
    exact ⟨by have h1 := this.1; simp at h1 ⊢; omega, within_up this.2 (fun i hi => by simp at hi ⊢; omega)⟩
theorem flV_in (L : List Dat) : (flV L).within [27, 66, 17] = true := by
  unfold flV
  split <;> simp [A.within]
set_option maxHeartbeats 1000000 in
set_option maxRecDepth 100000 in
theorem istateN (m w p u y a : Int) (f : Nat → Sl) (s : Int) (l : Nat) (q : Bool) (t : Int) (hh : Bool) (c : Int) (dd : Bool) (qu : List Dat) (h : Nat) (hh1 : h ≤ 4) (hn : ([] : List Dat).length ≤ 4) (hL : ∀ i d, ([] : List Dat)[i]? = some d → f ((h + i) % 4) = sl (some d)) (ha : 0 ≤ a ∧ a < 8) :
    Spec Try.prog 53 [.ptr 27 0] (sndB (sndC m w p u y a f (h : Int) (([] : List Dat).length : Int) s l q t hh c dd) l qu) (fun r bs => r = stA0 ((a + (([] : List Dat).length : Int)) % 8) a (flV []) s l q t hh c dd ∧ bs = sndB (sndC m w p u y a f (h : Int) (([] : List Dat).length : Int) s l q t hh c dd) l qu ++ flX []) := by
  have c1 := ion_ok a (([] : List Dat).length : Int) ha (by omega)
  have c2 := ilist m w p u y a f s l q t hh c dd qu h [] hh1 hn hL
  refine Spec.intro (n := 50) (rv := [.cell 2 27]) Try.func53 rfl rfl rfl (by simp) fun C hN hX => ?_
  refine AW.seq ?_
  apply AW.list
  apply Wk.alc 2 [.int .i64 0, .int .i64 0, .slice none 0 0, .int .i64 0, .slice none 0 0, .bool false, .int .i64 0, .bool false, .int .i64 0, .bool false] ze27 rfl rfl (lt_of_ble rfl)
  refine Wk.nil ?_
  refine AW.seq ?_
  apply AW.draw (hm := hmix) (cs := _)
  · apply Wk.mv (by conv => lhs; whnf) (lt_of_ble rfl)
    apply Wk.nilc rfl (lt_of_ble rfl)
    apply Wk.fad 5 0 false fd111_1 rfl (lt_of_ble rfl)
    apply Wk.ld (i := 27) 1 false ty92 rfl rfl (by conv => lhs; whnf) (lt_of_ble rfl)
    apply Wk.mv (by conv => lhs; whnf) (lt_of_ble rfl)
    apply Wk.nilc rfl (lt_of_ble rfl)
    apply Wk.fad 6 13 true fd111_2 rfl (lt_of_ble rfl)
    apply Wk.fad 13 0 false fd109_2 rfl (lt_of_ble rfl)
    apply Wk.ld (i := 27) 1 false ty3 rfl rfl (by conv => lhs; whnf) (lt_of_ble rfl)
    apply Wk.dat c1 Try.func90 rfl rfl rfl rfl rfl (lt_of_ble rfl)
    apply Wk.mv (by conv => lhs; whnf) (lt_of_ble rfl)
    apply Wk.nilc rfl (lt_of_ble rfl)
    apply Wk.fad 5 0 false fd111_1 rfl (lt_of_ble rfl)
    apply Wk.ld (i := 27) 1 false ty92 rfl rfl (by conv => lhs; whnf) (lt_of_ble rfl)
    apply Wk.mv (by conv => lhs; whnf) (lt_of_ble rfl)
    apply Wk.nilc rfl (lt_of_ble rfl)
    apply Wk.fad 6 13 true fd111_2 rfl (lt_of_ble rfl)
    apply Wk.calr [27, 66] [17] c2 (in_sndF _ rfl _ _ _ _ _ _ _ _ _ _ _ _ _ _ _ _ _ _ []) (by rintro r bs' ⟨rfl, rfl⟩; exact keep2) ⟨_, _, rfl, rfl⟩ Try.func91 rfl rfl rfl rfl (by simp; rfl) rfl (two_in rfl (by exact within_parts _)) (lt_of_ble rfl)
    rintro r bs' ⟨rfl, rfl⟩
    apply Wk.mv (by conv => lhs; whnf) (lt_of_ble rfl)
    apply Wk.nilc rfl (lt_of_ble rfl)
    apply Wk.fad 20 0 false fd111_3 rfl (lt_of_ble rfl)
    apply Wk.ld (i := 27) 1 false ty3 rfl rfl (by conv => lhs; whnf) (lt_of_ble rfl)
    apply Wk.mv (by conv => lhs; whnf) (lt_of_ble rfl)
    apply Wk.nilc rfl (lt_of_ble rfl)
    apply Wk.fad 21 0 false fd111_4 rfl (lt_of_ble rfl)
    apply Wk.ld (i := 27) 1 false ty25 rfl rfl (by conv => lhs; whnf) (lt_of_ble rfl)
    apply Wk.mv (by conv => lhs; whnf) (lt_of_ble rfl)
    apply Wk.nilc rfl (lt_of_ble rfl)
    apply Wk.fad 22 0 false fd111_5 rfl (lt_of_ble rfl)
    apply Wk.ld (i := 27) 1 false ty4 rfl rfl (by conv => lhs; whnf) (lt_of_ble rfl)
    apply Wk.mv (by conv => lhs; whnf) (lt_of_ble rfl)
    apply Wk.nilc rfl (lt_of_ble rfl)
    apply Wk.fad 23 0 false fd111_6 rfl (lt_of_ble rfl)
    apply Wk.ld (i := 27) 1 false ty3 rfl rfl (by conv => lhs; whnf) (lt_of_ble rfl)
    apply Wk.mv (by conv => lhs; whnf) (lt_of_ble rfl)
    apply Wk.nilc rfl (lt_of_ble rfl)
    apply Wk.fad 24 0 false fd111_7 rfl (lt_of_ble rfl)
    apply Wk.ld (i := 27) 1 false ty4 rfl rfl (by conv => lhs; whnf) (lt_of_ble rfl)
    apply Wk.mv (by conv => lhs; whnf) (lt_of_ble rfl)
    apply Wk.nilc rfl (lt_of_ble rfl)
    apply Wk.fad 25 0 false fd111_8 rfl (lt_of_ble rfl)
    apply Wk.ld (i := 27) 1 false ty3 rfl rfl (by conv => lhs; whnf) (lt_of_ble rfl)
    apply Wk.mv (by conv => lhs; whnf) (lt_of_ble rfl)
    apply Wk.nilc rfl (lt_of_ble rfl)
    apply Wk.fad 26 0 false fd111_9 rfl (lt_of_ble rfl)
    apply Wk.ld (i := 27) 1 false ty4 rfl rfl (by conv => lhs; whnf) (lt_of_ble rfl)
    apply Wk.bld [.int .i64 0, .int .i64 0, .slice none 0 0, .int .i64 0, .slice none 0 0, .bool false, .int .i64 0, .bool false, .int .i64 0, .bool false] [(0, 1), (1, 1), (2, 1), (3, 1), (4, 1), (5, 1), (6, 1), (7, 1), (8, 1), (9, 1)] bl27 rfl (by exact st_fillN ((a + (([] : List Dat).length : Int)) % 8) a s l q t hh c dd) (lt_of_ble rfl)
    apply Wk.sto (i := 2) 10 true ty27 rfl rfl rfl rfl (Nat.le_of_ble_eq_true rfl) (lt_of_ble rfl)
    refine Wk.nil (AW.ret ?_)
    exact RetQ.ret (sndB _ l qu) (.cons ⟨2, 0, _, _, _, rfl, rfl, ty27, rfl⟩ .nil) ⟨rfl, rfl⟩ (kept2 rfl rfl)
  · rfl
  · rfl
set_option maxHeartbeats 1000000 in
set_option maxRecDepth 100000 in
theorem istateO (m w p u y a : Int) (f : Nat → Sl) (s : Int) (l : Nat) (q : Bool) (t : Int) (hh : Bool) (c : Int) (dd : Bool) (qu : List Dat) (h : Nat) (L : List Dat) (hne : L ≠ []) (hh1 : h ≤ 4) (hn : (L : List Dat).length ≤ 4) (hL : ∀ i d, (L : List Dat)[i]? = some d → f ((h + i) % 4) = sl (some d)) (ha : 0 ≤ a ∧ a < 8) :
    Spec Try.prog 53 [.ptr 27 0] (sndB (sndC m w p u y a f (h : Int) ((L : List Dat).length : Int) s l q t hh c dd) l qu) (fun r bs => r = stA0 ((a + ((L : List Dat).length : Int)) % 8) a (flV L) s l q t hh c dd ∧ bs = sndB (sndC m w p u y a f (h : Int) ((L : List Dat).length : Int) s l q t hh c dd) l qu ++ flX L) := by
  have c1 := ion_ok a ((L : List Dat).length : Int) ha (by omega)
  have c2 := ilist m w p u y a f s l q t hh c dd qu h L hh1 hn hL
  have ev : flV L = .own 17 (L.length - 1) := if_neg hne
  have ex : flX L = [(17, .own (L.length - 1) 47 3 (piecesA L))] := if_neg hne
  have ip := in_sndF (flV L) (flV_in L) m w p u y a f (h : Int) (L.length : Int) s l q t hh c dd l qu L
  rw [ev, ex] at c2 ip
  rw [ev, ex]
  refine Spec.intro (n := 50) (rv := [.cell 2 27]) Try.func53 rfl rfl rfl (by simp) fun C hN hX => ?_
  refine AW.seq ?_
  apply AW.list
  apply Wk.alc 2 [.int .i64 0, .int .i64 0, .slice none 0 0, .int .i64 0, .slice none 0 0, .bool false, .int .i64 0, .bool false, .int .i64 0, .bool false] ze27 rfl rfl (lt_of_ble rfl)
  refine Wk.nil ?_
  refine AW.seq ?_
  apply AW.draw (hm := hmix) (cs := _)
  · apply Wk.mv (by conv => lhs; whnf) (lt_of_ble rfl)
    apply Wk.nilc rfl (lt_of_ble rfl)
    apply Wk.fad 5 0 false fd111_1 rfl (lt_of_ble rfl)
    apply Wk.ld (i := 27) 1 false ty92 rfl rfl (by conv => lhs; whnf) (lt_of_ble rfl)
    apply Wk.mv (by conv => lhs; whnf) (lt_of_ble rfl)
    apply Wk.nilc rfl (lt_of_ble rfl)
    apply Wk.fad 6 13 true fd111_2 rfl (lt_of_ble rfl)
    apply Wk.fad 13 0 false fd109_2 rfl (lt_of_ble rfl)
    apply Wk.ld (i := 27) 1 false ty3 rfl rfl (by conv => lhs; whnf) (lt_of_ble rfl)
    apply Wk.dat c1 Try.func90 rfl rfl rfl rfl rfl (lt_of_ble rfl)
    apply Wk.mv (by conv => lhs; whnf) (lt_of_ble rfl)
    apply Wk.nilc rfl (lt_of_ble rfl)
    apply Wk.fad 5 0 false fd111_1 rfl (lt_of_ble rfl)
    apply Wk.ld (i := 27) 1 false ty92 rfl rfl (by conv => lhs; whnf) (lt_of_ble rfl)
    apply Wk.mv (by conv => lhs; whnf) (lt_of_ble rfl)
    apply Wk.nilc rfl (lt_of_ble rfl)
    apply Wk.fad 6 13 true fd111_2 rfl (lt_of_ble rfl)
    apply Wk.calr [27, 66] [17] c2 ip (by rintro r bs' ⟨rfl, rfl⟩; exact keep2) ⟨_, _, rfl, rfl⟩ Try.func91 rfl rfl rfl rfl (by simp; rfl) rfl (two_in rfl (by exact within_parts _)) (lt_of_ble rfl)
    rintro r bs' ⟨rfl, rfl⟩
    apply Wk.mv (by conv => lhs; whnf) (lt_of_ble rfl)
    apply Wk.nilc rfl (lt_of_ble rfl)
    apply Wk.fad 20 0 false fd111_3 rfl (lt_of_ble rfl)
    apply Wk.ld (i := 27) 1 false ty3 rfl rfl (by conv => lhs; whnf) (lt_of_ble rfl)
    apply Wk.mv (by conv => lhs; whnf) (lt_of_ble rfl)
    apply Wk.nilc rfl (lt_of_ble rfl)
    apply Wk.fad 21 0 false fd111_4 rfl (lt_of_ble rfl)
    apply Wk.ld (i := 27) 1 false ty25 rfl rfl (by conv => lhs; whnf) (lt_of_ble rfl)
    apply Wk.mv (by conv => lhs; whnf) (lt_of_ble rfl)
    apply Wk.nilc rfl (lt_of_ble rfl)
    apply Wk.fad 22 0 false fd111_5 rfl (lt_of_ble rfl)
    apply Wk.ld (i := 27) 1 false ty4 rfl rfl (by conv => lhs; whnf) (lt_of_ble rfl)
    apply Wk.mv (by conv => lhs; whnf) (lt_of_ble rfl)
    apply Wk.nilc rfl (lt_of_ble rfl)
    apply Wk.fad 23 0 false fd111_6 rfl (lt_of_ble rfl)
    apply Wk.ld (i := 27) 1 false ty3 rfl rfl (by conv => lhs; whnf) (lt_of_ble rfl)
    apply Wk.mv (by conv => lhs; whnf) (lt_of_ble rfl)
    apply Wk.nilc rfl (lt_of_ble rfl)
    apply Wk.fad 24 0 false fd111_7 rfl (lt_of_ble rfl)
    apply Wk.ld (i := 27) 1 false ty4 rfl rfl (by conv => lhs; whnf) (lt_of_ble rfl)
    apply Wk.mv (by conv => lhs; whnf) (lt_of_ble rfl)
    apply Wk.nilc rfl (lt_of_ble rfl)
    apply Wk.fad 25 0 false fd111_8 rfl (lt_of_ble rfl)
    apply Wk.ld (i := 27) 1 false ty3 rfl rfl (by conv => lhs; whnf) (lt_of_ble rfl)
    apply Wk.mv (by conv => lhs; whnf) (lt_of_ble rfl)
    apply Wk.nilc rfl (lt_of_ble rfl)
    apply Wk.fad 26 0 false fd111_9 rfl (lt_of_ble rfl)
    apply Wk.ld (i := 27) 1 false ty4 rfl rfl (by conv => lhs; whnf) (lt_of_ble rfl)
    apply Wk.bld [.int .i64 0, .int .i64 0, .slice none 0 0, .int .i64 0, .slice none 0 0, .bool false, .int .i64 0, .bool false, .int .i64 0, .bool false] [(0, 1), (1, 1), (2, 1), (3, 1), (4, 1), (5, 1), (6, 1), (7, 1), (8, 1), (9, 1)] bl27 rfl (by exact st_fillO ((a + (L.length : Int)) % 8) a s (L.length - 1) l q t hh c dd) (lt_of_ble rfl)
    apply Wk.sto (i := 2) 10 true ty27 rfl rfl rfl rfl (Nat.le_of_ble_eq_true rfl) (lt_of_ble rfl)
    refine Wk.nil (AW.ret ?_)
    exact RetQ.ret [(27, .var (sndC m w p u y a f (h : Int) (L.length : Int) s l q t hh c dd)), (66, .own l 47 3 (piecesA qu)), (17, .own (L.length - 1) 47 3 (piecesA L))] (.cons ⟨2, 0, _, _, _, rfl, rfl, ty27, rfl⟩ .nil) ⟨rfl, rfl⟩ (kept3 rfl rfl rfl)
  · rfl
  · rfl
theorem iwait_ok (b : Bool) : DataOk Try.prog 104 [.d (.v (.bool b))] (.d (.v (.int .i64 (2 * bitZ b)))) := by
  cases b
  · skip
    refine Spec.intro (n := 4) (rv := [.tmp 2]) Try.func104 rfl rfl rfl (by simp) fun C hN hX => ?_
    refine AW.seq ?_
    apply AW.list
    apply Wk.asg (by conv => lhs; whnf) (lt_of_ble rfl)
    refine Wk.nil ?_
    refine AW.seq (AW.seq ?_)
    apply AW.list
    apply Wk.mv (by conv => lhs; whnf) (lt_of_ble rfl)
    refine Wk.nil ?_
    refine AW.cond rfl (fun hc => by cases hc) (fun _ => AW.skip (thenA_normal ?_))
    refine AW.seq ?_
    apply AW.list
    apply Wk.asg (by conv => lhs; whnf) (lt_of_ble rfl)
    refine Wk.nil (AW.ret ?_)
    exact RetQ.ret [] (.cons rfl .nil) ⟨rfl, rfl⟩ none_kept
  · skip
    refine Spec.intro (n := 4) (rv := [.tmp 2]) Try.func104 rfl rfl rfl (by simp) fun C hN hX => ?_
    refine AW.seq ?_
    apply AW.list
    apply Wk.asg (by conv => lhs; whnf) (lt_of_ble rfl)
    refine Wk.nil ?_
    refine AW.seq (AW.seq ?_)
    apply AW.list
    apply Wk.mv (by conv => lhs; whnf) (lt_of_ble rfl)
    refine Wk.nil ?_
    refine AW.cond rfl (fun _ => ?_) (fun hc => by cases hc)
    refine AW.seq ?_
    apply AW.list
    apply Wk.asg (by conv => lhs; whnf) (lt_of_ble rfl)
    refine Wk.nil (AW.ret ?_)
    repeat (first | refine thenA_ret ?_ | refine inBlockA_ret ?_)
    exact RetQ.ret [] (.cons rfl .nil) ⟨rfl, rfl⟩ none_kept
set_option maxHeartbeats 1000000 in
set_option maxRecDepth 100000 in
theorem itickIdle (m w p u y a : Int) (f : Nat → Sl) (k : Nat) (s : Int) (l : Nat) (q : Bool) (t : Int) (hh : Bool) (c : Int) (dd : Bool) (qu : List Dat) (ack : Int) (bu : Bool) (hi : dd = true ∨ (k = 0 ∧ hh = false ∧ q = false)) : Spec Try.prog 78 [.ptr 27 0, .d (.v (.int .i64 ack)), .d (.v (.bool bu))] (sndB (sndC m w p u y a f 0 (k : Int) s l q t hh c dd) l qu) (fun r bs => r = .tup [frmNo, .d (.v (.bool false))] ∧ bs = (sndB (sndC m w p u y a f 0 (k : Int) s l q t hh c dd) l qu)) := by
  cases dd
  · obtain ⟨rfl, rfl, rfl⟩ : k = 0 ∧ hh = false ∧ q = false := by simpa using hi
    refine Spec.intro (n := 65) (rv := [.cell 6 42, .tmp 7]) Try.func78 rfl rfl rfl (by simp) fun C hN hX => ?_
    refine AW.seq ?_
    apply AW.list
    apply Wk.alc 6 [.int .i64 0, .int .i64 0, .int .i64 0, .bool false, .bool false, .int .i64 0, .int .i64 0, .int .i64 0, .slice none 0 0] ze42 rfl rfl (lt_of_ble rfl)
    apply Wk.asg (by conv => lhs; whnf) (lt_of_ble rfl)
    refine Wk.nil ?_
    refine AW.seq ?_
    apply AW.list
    apply Wk.mv (by conv => lhs; whnf) (lt_of_ble rfl)
    apply Wk.nilc rfl (lt_of_ble rfl)
    apply Wk.fad 6 13 true fd111_2 rfl (lt_of_ble rfl)
    apply Wk.fad 13 0 false fd109_2 rfl (lt_of_ble rfl)
    apply Wk.ld (i := 27) 1 false ty3 rfl rfl (by conv => lhs; whnf) (lt_of_ble rfl)
    apply Wk.bin rfl rfl (r := .bool true) (fun w => by simp [go_sem]) (lt_of_ble rfl)
    apply Wk.mv (by conv => lhs; whnf) (lt_of_ble rfl)
    apply Wk.gon 15 rfl rfl
    apply Wk.mv (by conv => lhs; whnf) (lt_of_ble rfl)
    apply Wk.gon 15 rfl rfl
    apply Wk.nilc rfl (lt_of_ble rfl)
    apply Wk.gon 15 rfl rfl
    apply Wk.fad 24 0 false fd111_7 rfl (lt_of_ble rfl)
    apply Wk.gon 15 rfl rfl
    apply Wk.ld (i := 27) 1 false ty4 rfl rfl (by conv => lhs; whnf) (lt_of_ble rfl)
    apply Wk.gon 15 rfl rfl
    apply Wk.un rfl (fun w => by simp [go_sem] <;> rfl) (lt_of_ble rfl)
    apply Wk.pckT rfl (by conv => lhs; whnf) (lt_of_ble rfl)
    apply Wk.mv (by conv => lhs; whnf) (lt_of_ble rfl)
    apply Wk.gon 22 rfl rfl
    apply Wk.mv (by conv => lhs; whnf) (lt_of_ble rfl)
    apply Wk.gon 22 rfl rfl
    apply Wk.nilc rfl (lt_of_ble rfl)
    apply Wk.gon 22 rfl rfl
    apply Wk.fad 22 0 false fd111_5 rfl (lt_of_ble rfl)
    apply Wk.gon 22 rfl rfl
    apply Wk.ld (i := 27) 1 false ty4 rfl rfl (by conv => lhs; whnf) (lt_of_ble rfl)
    apply Wk.gon 22 rfl rfl
    apply Wk.un rfl (fun w => by simp [go_sem] <;> rfl) (lt_of_ble rfl)
    apply Wk.pckT rfl (by conv => lhs; whnf) (lt_of_ble rfl)
    apply Wk.asg (by conv => lhs; whnf) (lt_of_ble rfl)
    refine Wk.nil ?_
    refine AW.seq (AW.seq ?_)
    apply AW.list
    apply Wk.mv (by conv => lhs; whnf) (lt_of_ble rfl)
    apply Wk.nilc rfl (lt_of_ble rfl)
    apply Wk.fad 26 0 false fd111_9 rfl (lt_of_ble rfl)
    apply Wk.ld (i := 27) 1 false ty4 rfl rfl (by conv => lhs; whnf) (lt_of_ble rfl)
    apply Wk.mv (by conv => lhs; whnf) (lt_of_ble rfl)
    apply Wk.gon 33 rfl rfl
    apply Wk.mv (by conv => lhs; whnf) (lt_of_ble rfl)
    apply Wk.pckF rfl (by conv => lhs; whnf) (lt_of_ble rfl)
    refine Wk.nil ?_
    refine AW.cond rfl (fun _ => ?_) (fun hc => by cases hc)
    refine AW.seq ?_
    apply AW.list
    apply Wk.bld [.int .i64 0, .int .i64 0, .int .i64 0, .bool false, .bool false, .int .i64 0, .int .i64 0, .int .i64 0, .slice none 0 0] [(0, 1), (1, 1), (2, 1), (3, 1), (4, 1), (5, 1), (6, 1), (7, 1), (8, 1)] bl42 rfl (by conv => lhs; whnf) (lt_of_ble rfl)
    apply Wk.sto (i := 6) 9 true ty42 rfl rfl rfl rfl (Nat.le_of_ble_eq_true rfl) (lt_of_ble rfl)
    apply Wk.asg (by conv => lhs; whnf) (lt_of_ble rfl)
    refine Wk.nil (AW.ret ?_)
    repeat (first | refine thenA_ret ?_ | refine inBlockA_ret ?_)
    exact RetQ.ret (sndB _ l qu) (.cons ⟨6, 0, _, _, _, rfl, rfl, ty42, rfl⟩ (.cons rfl .nil)) ⟨rfl, rfl⟩ (kept2 rfl rfl)
  · by_cases hk : k = 0
    · subst hk
      cases hh
      · skip
        refine Spec.intro (n := 65) (rv := [.cell 6 42, .tmp 7]) Try.func78 rfl rfl rfl (by simp) fun C hN hX => ?_
        refine AW.seq ?_
        apply AW.list
        apply Wk.alc 6 [.int .i64 0, .int .i64 0, .int .i64 0, .bool false, .bool false, .int .i64 0, .int .i64 0, .int .i64 0, .slice none 0 0] ze42 rfl rfl (lt_of_ble rfl)
        apply Wk.asg (by conv => lhs; whnf) (lt_of_ble rfl)
        refine Wk.nil ?_
        refine AW.seq ?_
        apply AW.list
        apply Wk.mv (by conv => lhs; whnf) (lt_of_ble rfl)
        apply Wk.nilc rfl (lt_of_ble rfl)
        apply Wk.fad 6 13 true fd111_2 rfl (lt_of_ble rfl)
        apply Wk.fad 13 0 false fd109_2 rfl (lt_of_ble rfl)
        apply Wk.ld (i := 27) 1 false ty3 rfl rfl (by conv => lhs; whnf) (lt_of_ble rfl)
        apply Wk.bin rfl rfl (r := .bool true) (fun w => by simp [go_sem]) (lt_of_ble rfl)
        apply Wk.mv (by conv => lhs; whnf) (lt_of_ble rfl)
        apply Wk.gon 15 rfl rfl
        apply Wk.mv (by conv => lhs; whnf) (lt_of_ble rfl)
        apply Wk.gon 15 rfl rfl
        apply Wk.nilc rfl (lt_of_ble rfl)
        apply Wk.gon 15 rfl rfl
        apply Wk.fad 24 0 false fd111_7 rfl (lt_of_ble rfl)
        apply Wk.gon 15 rfl rfl
        apply Wk.ld (i := 27) 1 false ty4 rfl rfl (by conv => lhs; whnf) (lt_of_ble rfl)
        apply Wk.gon 15 rfl rfl
        apply Wk.un rfl (fun w => by simp [go_sem] <;> rfl) (lt_of_ble rfl)
        apply Wk.pckT rfl (by conv => lhs; whnf) (lt_of_ble rfl)
        apply Wk.mv (by conv => lhs; whnf) (lt_of_ble rfl)
        apply Wk.gon 22 rfl rfl
        apply Wk.mv (by conv => lhs; whnf) (lt_of_ble rfl)
        apply Wk.gon 22 rfl rfl
        apply Wk.nilc rfl (lt_of_ble rfl)
        apply Wk.gon 22 rfl rfl
        apply Wk.fad 22 0 false fd111_5 rfl (lt_of_ble rfl)
        apply Wk.gon 22 rfl rfl
        apply Wk.ld (i := 27) 1 false ty4 rfl rfl (by conv => lhs; whnf) (lt_of_ble rfl)
        apply Wk.gon 22 rfl rfl
        apply Wk.un rfl (fun w => by simp [go_sem] <;> rfl) (lt_of_ble rfl)
        apply Wk.pckT rfl (by conv => lhs; whnf) (lt_of_ble rfl)
        apply Wk.asg (by conv => lhs; whnf) (lt_of_ble rfl)
        refine Wk.nil ?_
        refine AW.seq (AW.seq ?_)
        apply AW.list
        apply Wk.mv (by conv => lhs; whnf) (lt_of_ble rfl)
        apply Wk.nilc rfl (lt_of_ble rfl)
        apply Wk.fad 26 0 false fd111_9 rfl (lt_of_ble rfl)
        apply Wk.ld (i := 27) 1 false ty4 rfl rfl (by conv => lhs; whnf) (lt_of_ble rfl)
        apply Wk.mv (by conv => lhs; whnf) (lt_of_ble rfl)
        apply Wk.goff 33 (ok_move _) rfl rfl (by simp)
        apply Wk.pckT rfl (by conv => lhs; whnf) (lt_of_ble rfl)
        refine Wk.nil ?_
        refine AW.cond rfl (fun _ => ?_) (fun hc => by cases hc)
        refine AW.seq ?_
        apply AW.list
        apply Wk.bld [.int .i64 0, .int .i64 0, .int .i64 0, .bool false, .bool false, .int .i64 0, .int .i64 0, .int .i64 0, .slice none 0 0] [(0, 1), (1, 1), (2, 1), (3, 1), (4, 1), (5, 1), (6, 1), (7, 1), (8, 1)] bl42 rfl (by conv => lhs; whnf) (lt_of_ble rfl)
        apply Wk.sto (i := 6) 9 true ty42 rfl rfl rfl rfl (Nat.le_of_ble_eq_true rfl) (lt_of_ble rfl)
        apply Wk.asg (by conv => lhs; whnf) (lt_of_ble rfl)
        refine Wk.nil (AW.ret ?_)
        repeat (first | refine thenA_ret ?_ | refine inBlockA_ret ?_)
        exact RetQ.ret (sndB _ l qu) (.cons ⟨6, 0, _, _, _, rfl, rfl, ty42, rfl⟩ (.cons rfl .nil)) ⟨rfl, rfl⟩ (kept2 rfl rfl)
      · skip
        refine Spec.intro (n := 65) (rv := [.cell 6 42, .tmp 7]) Try.func78 rfl rfl rfl (by simp) fun C hN hX => ?_
        refine AW.seq ?_
        apply AW.list
        apply Wk.alc 6 [.int .i64 0, .int .i64 0, .int .i64 0, .bool false, .bool false, .int .i64 0, .int .i64 0, .int .i64 0, .slice none 0 0] ze42 rfl rfl (lt_of_ble rfl)
        apply Wk.asg (by conv => lhs; whnf) (lt_of_ble rfl)
        refine Wk.nil ?_
        refine AW.seq ?_
        apply AW.list
        apply Wk.mv (by conv => lhs; whnf) (lt_of_ble rfl)
        apply Wk.nilc rfl (lt_of_ble rfl)
        apply Wk.fad 6 13 true fd111_2 rfl (lt_of_ble rfl)
        apply Wk.fad 13 0 false fd109_2 rfl (lt_of_ble rfl)
        apply Wk.ld (i := 27) 1 false ty3 rfl rfl (by conv => lhs; whnf) (lt_of_ble rfl)
        apply Wk.bin rfl rfl (r := .bool true) (fun w => by simp [go_sem]) (lt_of_ble rfl)
        apply Wk.mv (by conv => lhs; whnf) (lt_of_ble rfl)
        apply Wk.gon 15 rfl rfl
        apply Wk.mv (by conv => lhs; whnf) (lt_of_ble rfl)
        apply Wk.gon 15 rfl rfl
        apply Wk.nilc rfl (lt_of_ble rfl)
        apply Wk.gon 15 rfl rfl
        apply Wk.fad 24 0 false fd111_7 rfl (lt_of_ble rfl)
        apply Wk.gon 15 rfl rfl
        apply Wk.ld (i := 27) 1 false ty4 rfl rfl (by conv => lhs; whnf) (lt_of_ble rfl)
        apply Wk.gon 15 rfl rfl
        apply Wk.un rfl (fun w => by simp [go_sem] <;> rfl) (lt_of_ble rfl)
        apply Wk.pckT rfl (by conv => lhs; whnf) (lt_of_ble rfl)
        apply Wk.mv (by conv => lhs; whnf) (lt_of_ble rfl)
        apply Wk.goff 22 (ok_move _) rfl rfl (by simp)
        apply Wk.goff 22 (ok_nil _) rfl rfl (by simp)
        apply Wk.goff 22 (ok_faddr fd111_5) rfl rfl (by simp)
        apply Wk.goff 22 (ok_load 27 ty4) rfl rfl (by simp)
        apply Wk.goff 22 (ok_un _ _ _) rfl rfl (by simp)
        apply Wk.pckF rfl (by conv => lhs; whnf) (lt_of_ble rfl)
        apply Wk.asg (by conv => lhs; whnf) (lt_of_ble rfl)
        refine Wk.nil ?_
        refine AW.seq (AW.seq ?_)
        apply AW.list
        apply Wk.mv (by conv => lhs; whnf) (lt_of_ble rfl)
        apply Wk.nilc rfl (lt_of_ble rfl)
        apply Wk.fad 26 0 false fd111_9 rfl (lt_of_ble rfl)
        apply Wk.ld (i := 27) 1 false ty4 rfl rfl (by conv => lhs; whnf) (lt_of_ble rfl)
        apply Wk.mv (by conv => lhs; whnf) (lt_of_ble rfl)
        apply Wk.goff 33 (ok_move _) rfl rfl (by simp)
        apply Wk.pckT rfl (by conv => lhs; whnf) (lt_of_ble rfl)
        refine Wk.nil ?_
        refine AW.cond rfl (fun _ => ?_) (fun hc => by cases hc)
        refine AW.seq ?_
        apply AW.list
        apply Wk.bld [.int .i64 0, .int .i64 0, .int .i64 0, .bool false, .bool false, .int .i64 0, .int .i64 0, .int .i64 0, .slice none 0 0] [(0, 1), (1, 1), (2, 1), (3, 1), (4, 1), (5, 1), (6, 1), (7, 1), (8, 1)] bl42 rfl (by conv => lhs; whnf) (lt_of_ble rfl)
        apply Wk.sto (i := 6) 9 true ty42 rfl rfl rfl rfl (Nat.le_of_ble_eq_true rfl) (lt_of_ble rfl)
        apply Wk.asg (by conv => lhs; whnf) (lt_of_ble rfl)
        refine Wk.nil (AW.ret ?_)
        repeat (first | refine thenA_ret ?_ | refine inBlockA_ret ?_)
        exact RetQ.ret (sndB _ l qu) (.cons ⟨6, 0, _, _, _, rfl, rfl, ty42, rfl⟩ (.cons rfl .nil)) ⟨rfl, rfl⟩ (kept2 rfl rfl)
    · skip
      refine Spec.intro (n := 65) (rv := [.cell 6 42, .tmp 7]) Try.func78 rfl rfl rfl (by simp) fun C hN hX => ?_
      refine AW.seq ?_
      apply AW.list
      apply Wk.alc 6 [.int .i64 0, .int .i64 0, .int .i64 0, .bool false, .bool false, .int .i64 0, .int .i64 0, .int .i64 0, .slice none 0 0] ze42 rfl rfl (lt_of_ble rfl)
      apply Wk.asg (by conv => lhs; whnf) (lt_of_ble rfl)
      refine Wk.nil ?_
      refine AW.seq ?_
      apply AW.list
      apply Wk.mv (by conv => lhs; whnf) (lt_of_ble rfl)
      apply Wk.nilc rfl (lt_of_ble rfl)
      apply Wk.fad 6 13 true fd111_2 rfl (lt_of_ble rfl)
      apply Wk.fad 13 0 false fd109_2 rfl (lt_of_ble rfl)
      apply Wk.ld (i := 27) 1 false ty3 rfl rfl (by conv => lhs; whnf) (lt_of_ble rfl)
      apply Wk.bin rfl rfl (r := .bool false) (fun w => by simp [go_sem]; omega) (lt_of_ble rfl)
      apply Wk.mv (by conv => lhs; whnf) (lt_of_ble rfl)
      apply Wk.goff 15 (ok_move _) rfl rfl (by simp)
      apply Wk.goff 15 (ok_nil _) rfl rfl (by simp)
      apply Wk.goff 15 (ok_faddr fd111_7) rfl rfl (by simp)
      apply Wk.goff 15 (ok_load 27 ty4) rfl rfl (by simp)
      apply Wk.goff 15 (ok_un _ _ _) rfl rfl (by simp)
      apply Wk.pckF rfl (by conv => lhs; whnf) (lt_of_ble rfl)
      apply Wk.mv (by conv => lhs; whnf) (lt_of_ble rfl)
      apply Wk.goff 22 (ok_move _) rfl rfl (by simp)
      apply Wk.goff 22 (ok_nil _) rfl rfl (by simp)
      apply Wk.goff 22 (ok_faddr fd111_5) rfl rfl (by simp)
      apply Wk.goff 22 (ok_load 27 ty4) rfl rfl (by simp)
      apply Wk.goff 22 (ok_un _ _ _) rfl rfl (by simp)
      apply Wk.pckF rfl (by conv => lhs; whnf) (lt_of_ble rfl)
      apply Wk.asg (by conv => lhs; whnf) (lt_of_ble rfl)
      refine Wk.nil ?_
      refine AW.seq (AW.seq ?_)
      apply AW.list
      apply Wk.mv (by conv => lhs; whnf) (lt_of_ble rfl)
      apply Wk.nilc rfl (lt_of_ble rfl)
      apply Wk.fad 26 0 false fd111_9 rfl (lt_of_ble rfl)
      apply Wk.ld (i := 27) 1 false ty4 rfl rfl (by conv => lhs; whnf) (lt_of_ble rfl)
      apply Wk.mv (by conv => lhs; whnf) (lt_of_ble rfl)
      apply Wk.goff 33 (ok_move _) rfl rfl (by simp)
      apply Wk.pckT rfl (by conv => lhs; whnf) (lt_of_ble rfl)
      refine Wk.nil ?_
      refine AW.cond rfl (fun _ => ?_) (fun hc => by cases hc)
      refine AW.seq ?_
      apply AW.list
      apply Wk.bld [.int .i64 0, .int .i64 0, .int .i64 0, .bool false, .bool false, .int .i64 0, .int .i64 0, .int .i64 0, .slice none 0 0] [(0, 1), (1, 1), (2, 1), (3, 1), (4, 1), (5, 1), (6, 1), (7, 1), (8, 1)] bl42 rfl (by conv => lhs; whnf) (lt_of_ble rfl)
      apply Wk.sto (i := 6) 9 true ty42 rfl rfl rfl rfl (Nat.le_of_ble_eq_true rfl) (lt_of_ble rfl)
      apply Wk.asg (by conv => lhs; whnf) (lt_of_ble rfl)
      refine Wk.nil (AW.ret ?_)
      repeat (first | refine thenA_ret ?_ | refine inBlockA_ret ?_)
      exact RetQ.ret (sndB _ l qu) (.cons ⟨6, 0, _, _, _, rfl, rfl, ty42, rfl⟩ (.cons rfl .nil)) ⟨rfl, rfl⟩ (kept2 rfl rfl)
set_option maxHeartbeats 1000000 in
set_option maxRecDepth 100000 in
theorem itickOut (m w p u y a : Int) (f : Nat → Sl) (k : Nat) (s : Int) (l : Nat) (q : Bool) (t : Int) (hh : Bool) (c : Int) (dd : Bool) (qu : List Dat) (ack : Int) (bu : Bool) (hd : dd = false) (hi : ¬ (k = 0 ∧ hh = false ∧ q = false)) (ht : t = y) : Spec Try.prog 78 [.ptr 27 0, .d (.v (.int .i64 ack)), .d (.v (.bool bu))] (sndB (sndC m w p u y a f 0 (k : Int) s l q t hh c dd) l qu) (fun r bs => r = .tup [frmNo, .d (.v (.bool false))] ∧ bs = (sndB (sndC m w p u y a f 0 (k : Int) s l q t hh c true) l qu)) := by
  subst hd
  subst ht
  by_cases hk : k = 0
  · subst hk
    cases hh
    · obtain rfl : q = true := by cases q <;> simp_all
      refine Spec.intro (n := 65) (rv := [.cell 6 42, .tmp 7]) Try.func78 rfl rfl rfl (by simp) fun C hN hX => ?_
      refine AW.seq ?_
      apply AW.list
      apply Wk.alc 6 [.int .i64 0, .int .i64 0, .int .i64 0, .bool false, .bool false, .int .i64 0, .int .i64 0, .int .i64 0, .slice none 0 0] ze42 rfl rfl (lt_of_ble rfl)
      apply Wk.asg (by conv => lhs; whnf) (lt_of_ble rfl)
      refine Wk.nil ?_
      refine AW.seq ?_
      apply AW.list
      apply Wk.mv (by conv => lhs; whnf) (lt_of_ble rfl)
      apply Wk.nilc rfl (lt_of_ble rfl)
      apply Wk.fad 6 13 true fd111_2 rfl (lt_of_ble rfl)
      apply Wk.fad 13 0 false fd109_2 rfl (lt_of_ble rfl)
      apply Wk.ld (i := 27) 1 false ty3 rfl rfl (by conv => lhs; whnf) (lt_of_ble rfl)
      apply Wk.bin rfl rfl (r := .bool true) (fun w => by simp [go_sem]) (lt_of_ble rfl)
      apply Wk.mv (by conv => lhs; whnf) (lt_of_ble rfl)
      apply Wk.gon 15 rfl rfl
      apply Wk.mv (by conv => lhs; whnf) (lt_of_ble rfl)
      apply Wk.gon 15 rfl rfl
      apply Wk.nilc rfl (lt_of_ble rfl)
      apply Wk.gon 15 rfl rfl
      apply Wk.fad 24 0 false fd111_7 rfl (lt_of_ble rfl)
      apply Wk.gon 15 rfl rfl
      apply Wk.ld (i := 27) 1 false ty4 rfl rfl (by conv => lhs; whnf) (lt_of_ble rfl)
      apply Wk.gon 15 rfl rfl
      apply Wk.un rfl (fun w => by simp [go_sem] <;> rfl) (lt_of_ble rfl)
      apply Wk.pckT rfl (by conv => lhs; whnf) (lt_of_ble rfl)
      apply Wk.mv (by conv => lhs; whnf) (lt_of_ble rfl)
      apply Wk.gon 22 rfl rfl
      apply Wk.mv (by conv => lhs; whnf) (lt_of_ble rfl)
      apply Wk.gon 22 rfl rfl
      apply Wk.nilc rfl (lt_of_ble rfl)
      apply Wk.gon 22 rfl rfl
      apply Wk.fad 22 0 false fd111_5 rfl (lt_of_ble rfl)
      apply Wk.gon 22 rfl rfl
      apply Wk.ld (i := 27) 1 false ty4 rfl rfl (by conv => lhs; whnf) (lt_of_ble rfl)
      apply Wk.gon 22 rfl rfl
      apply Wk.un rfl (fun w => by simp [go_sem] <;> rfl) (lt_of_ble rfl)
      apply Wk.pckT rfl (by conv => lhs; whnf) (lt_of_ble rfl)
      apply Wk.asg (by conv => lhs; whnf) (lt_of_ble rfl)
      refine Wk.nil ?_
      refine AW.seq (AW.seq ?_)
      apply AW.list
      apply Wk.mv (by conv => lhs; whnf) (lt_of_ble rfl)
      apply Wk.nilc rfl (lt_of_ble rfl)
      apply Wk.fad 26 0 false fd111_9 rfl (lt_of_ble rfl)
      apply Wk.ld (i := 27) 1 false ty4 rfl rfl (by conv => lhs; whnf) (lt_of_ble rfl)
      apply Wk.mv (by conv => lhs; whnf) (lt_of_ble rfl)
      apply Wk.gon 33 rfl rfl
      apply Wk.mv (by conv => lhs; whnf) (lt_of_ble rfl)
      apply Wk.pckF rfl (by conv => lhs; whnf) (lt_of_ble rfl)
      refine Wk.nil ?_
      refine AW.cond rfl (fun hc => by cases hc) (fun _ => AW.skip (thenA_normal ?_))
      refine AW.seq (AW.seq ?_)
      apply AW.draw (hm := hmix) (cs := _)
      · apply Wk.mv (by conv => lhs; whnf) (lt_of_ble rfl)
        apply Wk.nilc rfl (lt_of_ble rfl)
        apply Wk.fad 23 0 false fd111_6 rfl (lt_of_ble rfl)
        apply Wk.ld (i := 27) 1 false ty3 rfl rfl (by conv => lhs; whnf) (lt_of_ble rfl)
        apply Wk.mv (by conv => lhs; whnf) (lt_of_ble rfl)
        apply Wk.nilc rfl (lt_of_ble rfl)
        apply Wk.fad 0 4 true fd111_0 rfl (lt_of_ble rfl)
        apply Wk.fad 4 0 false fd24_4 rfl (lt_of_ble rfl)
        apply Wk.ld (i := 27) 1 false ty3 rfl rfl (by conv => lhs; whnf) (lt_of_ble rfl)
        apply Wk.bin rfl rfl (r := .bool true) (fun w => by simp [go_sem]) (lt_of_ble rfl)
        refine Wk.nil ?_
        refine AW.cond rfl (fun _ => ?_) (fun hc => by cases hc)
        refine AW.seq ?_
        apply AW.list
        apply Wk.mv (by conv => lhs; whnf) (lt_of_ble rfl)
        apply Wk.nilc rfl (lt_of_ble rfl)
        apply Wk.fad 26 0 false fd111_9 rfl (lt_of_ble rfl)
        apply Wk.sto (i := 27) 1 false ty4 rfl rfl rfl rfl (Nat.le_of_ble_eq_true rfl) (lt_of_ble rfl)
        refine Wk.nil ?_
        refine AW.seq ?_
        apply AW.list
        apply Wk.bld [.int .i64 0, .int .i64 0, .int .i64 0, .bool false, .bool false, .int .i64 0, .int .i64 0, .int .i64 0, .slice none 0 0] [(0, 1), (1, 1), (2, 1), (3, 1), (4, 1), (5, 1), (6, 1), (7, 1), (8, 1)] bl42 rfl (by conv => lhs; whnf) (lt_of_ble rfl)
        apply Wk.sto (i := 6) 9 true ty42 rfl rfl rfl rfl (Nat.le_of_ble_eq_true rfl) (lt_of_ble rfl)
        apply Wk.asg (by conv => lhs; whnf) (lt_of_ble rfl)
        refine Wk.nil (AW.ret ?_)
        repeat (first | refine thenA_ret ?_ | refine inBlockA_ret ?_)
        exact RetQ.ret (sndB _ l qu) (.cons ⟨6, 0, _, _, _, rfl, rfl, ty42, rfl⟩ (.cons rfl .nil)) ⟨rfl, rfl⟩ (kept2 rfl rfl)
      · rfl
      · rfl
    · skip
      refine Spec.intro (n := 65) (rv := [.cell 6 42, .tmp 7]) Try.func78 rfl rfl rfl (by simp) fun C hN hX => ?_
      refine AW.seq ?_
      apply AW.list
      apply Wk.alc 6 [.int .i64 0, .int .i64 0, .int .i64 0, .bool false, .bool false, .int .i64 0, .int .i64 0, .int .i64 0, .slice none 0 0] ze42 rfl rfl (lt_of_ble rfl)
      apply Wk.asg (by conv => lhs; whnf) (lt_of_ble rfl)
      refine Wk.nil ?_
      refine AW.seq ?_
      apply AW.list
      apply Wk.mv (by conv => lhs; whnf) (lt_of_ble rfl)
      apply Wk.nilc rfl (lt_of_ble rfl)
      apply Wk.fad 6 13 true fd111_2 rfl (lt_of_ble rfl)
      apply Wk.fad 13 0 false fd109_2 rfl (lt_of_ble rfl)
      apply Wk.ld (i := 27) 1 false ty3 rfl rfl (by conv => lhs; whnf) (lt_of_ble rfl)
      apply Wk.bin rfl rfl (r := .bool true) (fun w => by simp [go_sem]) (lt_of_ble rfl)
      apply Wk.mv (by conv => lhs; whnf) (lt_of_ble rfl)
      apply Wk.gon 15 rfl rfl
      apply Wk.mv (by conv => lhs; whnf) (lt_of_ble rfl)
      apply Wk.gon 15 rfl rfl
      apply Wk.nilc rfl (lt_of_ble rfl)
      apply Wk.gon 15 rfl rfl
      apply Wk.fad 24 0 false fd111_7 rfl (lt_of_ble rfl)
      apply Wk.gon 15 rfl rfl
      apply Wk.ld (i := 27) 1 false ty4 rfl rfl (by conv => lhs; whnf) (lt_of_ble rfl)
      apply Wk.gon 15 rfl rfl
      apply Wk.un rfl (fun w => by simp [go_sem] <;> rfl) (lt_of_ble rfl)
      apply Wk.pckT rfl (by conv => lhs; whnf) (lt_of_ble rfl)
      apply Wk.mv (by conv => lhs; whnf) (lt_of_ble rfl)
      apply Wk.goff 22 (ok_move _) rfl rfl (by simp)
      apply Wk.goff 22 (ok_nil _) rfl rfl (by simp)
      apply Wk.goff 22 (ok_faddr fd111_5) rfl rfl (by simp)
      apply Wk.goff 22 (ok_load 27 ty4) rfl rfl (by simp)
      apply Wk.goff 22 (ok_un _ _ _) rfl rfl (by simp)
      apply Wk.pckF rfl (by conv => lhs; whnf) (lt_of_ble rfl)
      apply Wk.asg (by conv => lhs; whnf) (lt_of_ble rfl)
      refine Wk.nil ?_
      refine AW.seq (AW.seq ?_)
      apply AW.list
      apply Wk.mv (by conv => lhs; whnf) (lt_of_ble rfl)
      apply Wk.nilc rfl (lt_of_ble rfl)
      apply Wk.fad 26 0 false fd111_9 rfl (lt_of_ble rfl)
      apply Wk.ld (i := 27) 1 false ty4 rfl rfl (by conv => lhs; whnf) (lt_of_ble rfl)
      apply Wk.mv (by conv => lhs; whnf) (lt_of_ble rfl)
      apply Wk.gon 33 rfl rfl
      apply Wk.mv (by conv => lhs; whnf) (lt_of_ble rfl)
      apply Wk.pckF rfl (by conv => lhs; whnf) (lt_of_ble rfl)
      refine Wk.nil ?_
      refine AW.cond rfl (fun hc => by cases hc) (fun _ => AW.skip (thenA_normal ?_))
      refine AW.seq (AW.seq ?_)
      apply AW.draw (hm := hmix) (cs := _)
      · apply Wk.mv (by conv => lhs; whnf) (lt_of_ble rfl)
        apply Wk.nilc rfl (lt_of_ble rfl)
        apply Wk.fad 23 0 false fd111_6 rfl (lt_of_ble rfl)
        apply Wk.ld (i := 27) 1 false ty3 rfl rfl (by conv => lhs; whnf) (lt_of_ble rfl)
        apply Wk.mv (by conv => lhs; whnf) (lt_of_ble rfl)
        apply Wk.nilc rfl (lt_of_ble rfl)
        apply Wk.fad 0 4 true fd111_0 rfl (lt_of_ble rfl)
        apply Wk.fad 4 0 false fd24_4 rfl (lt_of_ble rfl)
        apply Wk.ld (i := 27) 1 false ty3 rfl rfl (by conv => lhs; whnf) (lt_of_ble rfl)
        apply Wk.bin rfl rfl (r := .bool true) (fun w => by simp [go_sem]) (lt_of_ble rfl)
        refine Wk.nil ?_
        refine AW.cond rfl (fun _ => ?_) (fun hc => by cases hc)
        refine AW.seq ?_
        apply AW.list
        apply Wk.mv (by conv => lhs; whnf) (lt_of_ble rfl)
        apply Wk.nilc rfl (lt_of_ble rfl)
        apply Wk.fad 26 0 false fd111_9 rfl (lt_of_ble rfl)
        apply Wk.sto (i := 27) 1 false ty4 rfl rfl rfl rfl (Nat.le_of_ble_eq_true rfl) (lt_of_ble rfl)
        refine Wk.nil ?_
        refine AW.seq ?_
        apply AW.list
        apply Wk.bld [.int .i64 0, .int .i64 0, .int .i64 0, .bool false, .bool false, .int .i64 0, .int .i64 0, .int .i64 0, .slice none 0 0] [(0, 1), (1, 1), (2, 1), (3, 1), (4, 1), (5, 1), (6, 1), (7, 1), (8, 1)] bl42 rfl (by conv => lhs; whnf) (lt_of_ble rfl)
        apply Wk.sto (i := 6) 9 true ty42 rfl rfl rfl rfl (Nat.le_of_ble_eq_true rfl) (lt_of_ble rfl)
        apply Wk.asg (by conv => lhs; whnf) (lt_of_ble rfl)
        refine Wk.nil (AW.ret ?_)
        repeat (first | refine thenA_ret ?_ | refine inBlockA_ret ?_)
        exact RetQ.ret (sndB _ l qu) (.cons ⟨6, 0, _, _, _, rfl, rfl, ty42, rfl⟩ (.cons rfl .nil)) ⟨rfl, rfl⟩ (kept2 rfl rfl)
      · rfl
      · rfl
  · skip
    refine Spec.intro (n := 65) (rv := [.cell 6 42, .tmp 7]) Try.func78 rfl rfl rfl (by simp) fun C hN hX => ?_
    refine AW.seq ?_
    apply AW.list
    apply Wk.alc 6 [.int .i64 0, .int .i64 0, .int .i64 0, .bool false, .bool false, .int .i64 0, .int .i64 0, .int .i64 0, .slice none 0 0] ze42 rfl rfl (lt_of_ble rfl)
    apply Wk.asg (by conv => lhs; whnf) (lt_of_ble rfl)
    refine Wk.nil ?_
    refine AW.seq ?_
    apply AW.list
    apply Wk.mv (by conv => lhs; whnf) (lt_of_ble rfl)
    apply Wk.nilc rfl (lt_of_ble rfl)
    apply Wk.fad 6 13 true fd111_2 rfl (lt_of_ble rfl)
    apply Wk.fad 13 0 false fd109_2 rfl (lt_of_ble rfl)
    apply Wk.ld (i := 27) 1 false ty3 rfl rfl (by conv => lhs; whnf) (lt_of_ble rfl)
    apply Wk.bin rfl rfl (r := .bool false) (fun w => by simp [go_sem]; omega) (lt_of_ble rfl)
    apply Wk.mv (by conv => lhs; whnf) (lt_of_ble rfl)
    apply Wk.goff 15 (ok_move _) rfl rfl (by simp)
    apply Wk.goff 15 (ok_nil _) rfl rfl (by simp)
    apply Wk.goff 15 (ok_faddr fd111_7) rfl rfl (by simp)
    apply Wk.goff 15 (ok_load 27 ty4) rfl rfl (by simp)
    apply Wk.goff 15 (ok_un _ _ _) rfl rfl (by simp)
    apply Wk.pckF rfl (by conv => lhs; whnf) (lt_of_ble rfl)
    apply Wk.mv (by conv => lhs; whnf) (lt_of_ble rfl)
    apply Wk.goff 22 (ok_move _) rfl rfl (by simp)
    apply Wk.goff 22 (ok_nil _) rfl rfl (by simp)
    apply Wk.goff 22 (ok_faddr fd111_5) rfl rfl (by simp)
    apply Wk.goff 22 (ok_load 27 ty4) rfl rfl (by simp)
    apply Wk.goff 22 (ok_un _ _ _) rfl rfl (by simp)
    apply Wk.pckF rfl (by conv => lhs; whnf) (lt_of_ble rfl)
    apply Wk.asg (by conv => lhs; whnf) (lt_of_ble rfl)
    refine Wk.nil ?_
    refine AW.seq (AW.seq ?_)
    apply AW.list
    apply Wk.mv (by conv => lhs; whnf) (lt_of_ble rfl)
    apply Wk.nilc rfl (lt_of_ble rfl)
    apply Wk.fad 26 0 false fd111_9 rfl (lt_of_ble rfl)
    apply Wk.ld (i := 27) 1 false ty4 rfl rfl (by conv => lhs; whnf) (lt_of_ble rfl)
    apply Wk.mv (by conv => lhs; whnf) (lt_of_ble rfl)
    apply Wk.gon 33 rfl rfl
    apply Wk.mv (by conv => lhs; whnf) (lt_of_ble rfl)
    apply Wk.pckF rfl (by conv => lhs; whnf) (lt_of_ble rfl)
    refine Wk.nil ?_
    refine AW.cond rfl (fun hc => by cases hc) (fun _ => AW.skip (thenA_normal ?_))
    refine AW.seq (AW.seq ?_)
    apply AW.draw (hm := hmix) (cs := _)
    · apply Wk.mv (by conv => lhs; whnf) (lt_of_ble rfl)
      apply Wk.nilc rfl (lt_of_ble rfl)
      apply Wk.fad 23 0 false fd111_6 rfl (lt_of_ble rfl)
      apply Wk.ld (i := 27) 1 false ty3 rfl rfl (by conv => lhs; whnf) (lt_of_ble rfl)
      apply Wk.mv (by conv => lhs; whnf) (lt_of_ble rfl)
      apply Wk.nilc rfl (lt_of_ble rfl)
      apply Wk.fad 0 4 true fd111_0 rfl (lt_of_ble rfl)
      apply Wk.fad 4 0 false fd24_4 rfl (lt_of_ble rfl)
      apply Wk.ld (i := 27) 1 false ty3 rfl rfl (by conv => lhs; whnf) (lt_of_ble rfl)
      apply Wk.bin rfl rfl (r := .bool true) (fun w => by simp [go_sem]) (lt_of_ble rfl)
      refine Wk.nil ?_
      refine AW.cond rfl (fun _ => ?_) (fun hc => by cases hc)
      refine AW.seq ?_
      apply AW.list
      apply Wk.mv (by conv => lhs; whnf) (lt_of_ble rfl)
      apply Wk.nilc rfl (lt_of_ble rfl)
      apply Wk.fad 26 0 false fd111_9 rfl (lt_of_ble rfl)
      apply Wk.sto (i := 27) 1 false ty4 rfl rfl rfl rfl (Nat.le_of_ble_eq_true rfl) (lt_of_ble rfl)
      refine Wk.nil ?_
      refine AW.seq ?_
      apply AW.list
      apply Wk.bld [.int .i64 0, .int .i64 0, .int .i64 0, .bool false, .bool false, .int .i64 0, .int .i64 0, .int .i64 0, .slice none 0 0] [(0, 1), (1, 1), (2, 1), (3, 1), (4, 1), (5, 1), (6, 1), (7, 1), (8, 1)] bl42 rfl (by conv => lhs; whnf) (lt_of_ble rfl)
      apply Wk.sto (i := 6) 9 true ty42 rfl rfl rfl rfl (Nat.le_of_ble_eq_true rfl) (lt_of_ble rfl)
      apply Wk.asg (by conv => lhs; whnf) (lt_of_ble rfl)
      refine Wk.nil (AW.ret ?_)
      repeat (first | refine thenA_ret ?_ | refine inBlockA_ret ?_)
      exact RetQ.ret (sndB _ l qu) (.cons ⟨6, 0, _, _, _, rfl, rfl, ty42, rfl⟩ (.cons rfl .nil)) ⟨rfl, rfl⟩ (kept2 rfl rfl)
    · rfl
    · rfl
set_option maxHeartbeats 1000000 in
set_option maxRecDepth 100000 in
theorem itickAsk (m w p u y a : Int) (f : Nat → Sl) (k : Nat) (s : Int) (l : Nat) (q : Bool) (t : Int) (hh : Bool) (c : Int) (dd : Bool) (qu : List Dat) (ack : Int) (bu : Bool) (hd : dd = false) (hi : ¬ (k = 0 ∧ hh = false ∧ q = false)) (ht : t ≠ y) (hb : 0 ≤ t ∧ t ≤ 1000000) : Spec Try.prog 78 [.ptr 27 0, .d (.v (.int .i64 ack)), .d (.v (.bool bu))] (sndB (sndC m w p u y a f 0 (k : Int) s l q t hh c dd) l qu) (fun r bs => r = .tup [frmQ ack bu, .d (.v (.bool true))] ∧ bs = (sndB (sndC m w p u y a f 0 (k : Int) s l true (t + 1) hh c dd) l qu)) := by
  subst hd
  by_cases hk : k = 0
  · subst hk
    cases hh
    · obtain rfl : q = true := by cases q <;> simp_all
      refine Spec.intro (n := 65) (rv := [.cell 6 42, .tmp 7]) Try.func78 rfl rfl rfl (by simp) fun C hN hX => ?_
      refine AW.seq ?_
      apply AW.list
      apply Wk.alc 6 [.int .i64 0, .int .i64 0, .int .i64 0, .bool false, .bool false, .int .i64 0, .int .i64 0, .int .i64 0, .slice none 0 0] ze42 rfl rfl (lt_of_ble rfl)
      apply Wk.asg (by conv => lhs; whnf) (lt_of_ble rfl)
      refine Wk.nil ?_
      refine AW.seq ?_
      apply AW.list
      apply Wk.mv (by conv => lhs; whnf) (lt_of_ble rfl)
      apply Wk.nilc rfl (lt_of_ble rfl)
      apply Wk.fad 6 13 true fd111_2 rfl (lt_of_ble rfl)
      apply Wk.fad 13 0 false fd109_2 rfl (lt_of_ble rfl)
      apply Wk.ld (i := 27) 1 false ty3 rfl rfl (by conv => lhs; whnf) (lt_of_ble rfl)
      apply Wk.bin rfl rfl (r := .bool true) (fun w => by simp [go_sem]) (lt_of_ble rfl)
      apply Wk.mv (by conv => lhs; whnf) (lt_of_ble rfl)
      apply Wk.gon 15 rfl rfl
      apply Wk.mv (by conv => lhs; whnf) (lt_of_ble rfl)
      apply Wk.gon 15 rfl rfl
      apply Wk.nilc rfl (lt_of_ble rfl)
      apply Wk.gon 15 rfl rfl
      apply Wk.fad 24 0 false fd111_7 rfl (lt_of_ble rfl)
      apply Wk.gon 15 rfl rfl
      apply Wk.ld (i := 27) 1 false ty4 rfl rfl (by conv => lhs; whnf) (lt_of_ble rfl)
      apply Wk.gon 15 rfl rfl
      apply Wk.un rfl (fun w => by simp [go_sem] <;> rfl) (lt_of_ble rfl)
      apply Wk.pckT rfl (by conv => lhs; whnf) (lt_of_ble rfl)
      apply Wk.mv (by conv => lhs; whnf) (lt_of_ble rfl)
      apply Wk.gon 22 rfl rfl
      apply Wk.mv (by conv => lhs; whnf) (lt_of_ble rfl)
      apply Wk.gon 22 rfl rfl
      apply Wk.nilc rfl (lt_of_ble rfl)
      apply Wk.gon 22 rfl rfl
      apply Wk.fad 22 0 false fd111_5 rfl (lt_of_ble rfl)
      apply Wk.gon 22 rfl rfl
      apply Wk.ld (i := 27) 1 false ty4 rfl rfl (by conv => lhs; whnf) (lt_of_ble rfl)
      apply Wk.gon 22 rfl rfl
      apply Wk.un rfl (fun w => by simp [go_sem] <;> rfl) (lt_of_ble rfl)
      apply Wk.pckT rfl (by conv => lhs; whnf) (lt_of_ble rfl)
      apply Wk.asg (by conv => lhs; whnf) (lt_of_ble rfl)
      refine Wk.nil ?_
      refine AW.seq (AW.seq ?_)
      apply AW.list
      apply Wk.mv (by conv => lhs; whnf) (lt_of_ble rfl)
      apply Wk.nilc rfl (lt_of_ble rfl)
      apply Wk.fad 26 0 false fd111_9 rfl (lt_of_ble rfl)
      apply Wk.ld (i := 27) 1 false ty4 rfl rfl (by conv => lhs; whnf) (lt_of_ble rfl)
      apply Wk.mv (by conv => lhs; whnf) (lt_of_ble rfl)
      apply Wk.gon 33 rfl rfl
      apply Wk.mv (by conv => lhs; whnf) (lt_of_ble rfl)
      apply Wk.pckF rfl (by conv => lhs; whnf) (lt_of_ble rfl)
      refine Wk.nil ?_
      refine AW.cond rfl (fun hc => by cases hc) (fun _ => AW.skip (thenA_normal ?_))
      refine AW.seq (AW.seq ?_)
      apply AW.draw (hm := hmix) (cs := _)
      · apply Wk.mv (by conv => lhs; whnf) (lt_of_ble rfl)
        apply Wk.nilc rfl (lt_of_ble rfl)
        apply Wk.fad 23 0 false fd111_6 rfl (lt_of_ble rfl)
        apply Wk.ld (i := 27) 1 false ty3 rfl rfl (by conv => lhs; whnf) (lt_of_ble rfl)
        apply Wk.mv (by conv => lhs; whnf) (lt_of_ble rfl)
        apply Wk.nilc rfl (lt_of_ble rfl)
        apply Wk.fad 0 4 true fd111_0 rfl (lt_of_ble rfl)
        apply Wk.fad 4 0 false fd24_4 rfl (lt_of_ble rfl)
        apply Wk.ld (i := 27) 1 false ty3 rfl rfl (by conv => lhs; whnf) (lt_of_ble rfl)
        apply Wk.bin rfl rfl (r := .bool false) (fun w => by simp [go_sem, ht]) (lt_of_ble rfl)
        refine Wk.nil ?_
        refine AW.cond rfl (fun hc => by cases hc) (fun _ => AW.skip (thenA_normal ?_))
        refine AW.seq ?_
        apply AW.list
        apply Wk.mv (by conv => lhs; whnf) (lt_of_ble rfl)
        apply Wk.nilc rfl (lt_of_ble rfl)
        apply Wk.fad 22 0 false fd111_5 rfl (lt_of_ble rfl)
        apply Wk.sto (i := 27) 1 false ty4 rfl rfl rfl rfl (Nat.le_of_ble_eq_true rfl) (lt_of_ble rfl)
        refine Wk.nil ?_
        refine AW.seq ?_
        apply AW.list
        apply Wk.mv (by conv => lhs; whnf) (lt_of_ble rfl)
        apply Wk.nilc rfl (lt_of_ble rfl)
        apply Wk.fad 23 0 false fd111_6 rfl (lt_of_ble rfl)
        apply Wk.ld (i := 27) 1 false ty3 rfl rfl (by conv => lhs; whnf) (lt_of_ble rfl)
        apply Wk.addi rfl rfl (by omega) (lt_of_ble rfl)
        apply Wk.nilc rfl (lt_of_ble rfl)
        apply Wk.fad 23 0 false fd111_6 rfl (lt_of_ble rfl)
        apply Wk.sto (i := 27) 1 false ty3 rfl rfl rfl rfl (Nat.le_of_ble_eq_true rfl) (lt_of_ble rfl)
        refine Wk.nil ?_
        refine AW.seq ?_
        apply AW.list
        apply Wk.mv (by conv => lhs; whnf) (lt_of_ble rfl)
        apply Wk.mv (by conv => lhs; whnf) (lt_of_ble rfl)
        apply Wk.dat (iwait_ok bu) Try.func104 rfl rfl rfl rfl rfl (lt_of_ble rfl)
        apply Wk.bld [.int .i64 0, .int .i64 0, .int .i64 0, .bool false, .bool false, .int .i64 0, .int .i64 0, .int .i64 0, .slice none 0 0] [(0, 1), (1, 1), (2, 1), (3, 1), (4, 1), (5, 1), (6, 1), (7, 1), (8, 1)] bl42 rfl (by conv => lhs; whnf) (lt_of_ble rfl)
        apply Wk.sto (i := 6) 9 true ty42 rfl rfl rfl rfl (Nat.le_of_ble_eq_true rfl) (lt_of_ble rfl)
        apply Wk.asg (by conv => lhs; whnf) (lt_of_ble rfl)
        refine Wk.nil (AW.ret ?_)
        exact RetQ.ret (sndB _ l qu) (.cons ⟨6, 0, _, _, _, rfl, rfl, ty42, rfl⟩ (.cons rfl .nil)) ⟨rfl, rfl⟩ (kept2 rfl rfl)
      · rfl
      · rfl
    · skip
      refine Spec.intro (n := 65) (rv := [.cell 6 42, .tmp 7]) Try.func78 rfl rfl rfl (by simp) fun C hN hX => ?_
      refine AW.seq ?_
      apply AW.list
      apply Wk.alc 6 [.int .i64 0, .int .i64 0, .int .i64 0, .bool false, .bool false, .int .i64 0, .int .i64 0, .int .i64 0, .slice none 0 0] ze42 rfl rfl (lt_of_ble rfl)
      apply Wk.asg (by conv => lhs; whnf) (lt_of_ble rfl)
      refine Wk.nil ?_
      refine AW.seq ?_
      apply AW.list
      apply Wk.mv (by conv => lhs; whnf) (lt_of_ble rfl)
      apply Wk.nilc rfl (lt_of_ble rfl)
      apply Wk.fad 6 13 true fd111_2 rfl (lt_of_ble rfl)
      apply Wk.fad 13 0 false fd109_2 rfl (lt_of_ble rfl)
      apply Wk.ld (i := 27) 1 false ty3 rfl rfl (by conv => lhs; whnf) (lt_of_ble rfl)
      apply Wk.bin rfl rfl (r := .bool true) (fun w => by simp [go_sem]) (lt_of_ble rfl)
      apply Wk.mv (by conv => lhs; whnf) (lt_of_ble rfl)
      apply Wk.gon 15 rfl rfl
      apply Wk.mv (by conv => lhs; whnf) (lt_of_ble rfl)
      apply Wk.gon 15 rfl rfl
      apply Wk.nilc rfl (lt_of_ble rfl)
      apply Wk.gon 15 rfl rfl
      apply Wk.fad 24 0 false fd111_7 rfl (lt_of_ble rfl)
      apply Wk.gon 15 rfl rfl
      apply Wk.ld (i := 27) 1 false ty4 rfl rfl (by conv => lhs; whnf) (lt_of_ble rfl)
      apply Wk.gon 15 rfl rfl
      apply Wk.un rfl (fun w => by simp [go_sem] <;> rfl) (lt_of_ble rfl)
      apply Wk.pckT rfl (by conv => lhs; whnf) (lt_of_ble rfl)
      apply Wk.mv (by conv => lhs; whnf) (lt_of_ble rfl)
      apply Wk.goff 22 (ok_move _) rfl rfl (by simp)
      apply Wk.goff 22 (ok_nil _) rfl rfl (by simp)
      apply Wk.goff 22 (ok_faddr fd111_5) rfl rfl (by simp)
      apply Wk.goff 22 (ok_load 27 ty4) rfl rfl (by simp)
      apply Wk.goff 22 (ok_un _ _ _) rfl rfl (by simp)
      apply Wk.pckF rfl (by conv => lhs; whnf) (lt_of_ble rfl)
      apply Wk.asg (by conv => lhs; whnf) (lt_of_ble rfl)
      refine Wk.nil ?_
      refine AW.seq (AW.seq ?_)
      apply AW.list
      apply Wk.mv (by conv => lhs; whnf) (lt_of_ble rfl)
      apply Wk.nilc rfl (lt_of_ble rfl)
      apply Wk.fad 26 0 false fd111_9 rfl (lt_of_ble rfl)
      apply Wk.ld (i := 27) 1 false ty4 rfl rfl (by conv => lhs; whnf) (lt_of_ble rfl)
      apply Wk.mv (by conv => lhs; whnf) (lt_of_ble rfl)
      apply Wk.gon 33 rfl rfl
      apply Wk.mv (by conv => lhs; whnf) (lt_of_ble rfl)
      apply Wk.pckF rfl (by conv => lhs; whnf) (lt_of_ble rfl)
      refine Wk.nil ?_
      refine AW.cond rfl (fun hc => by cases hc) (fun _ => AW.skip (thenA_normal ?_))
      refine AW.seq (AW.seq ?_)
      apply AW.draw (hm := hmix) (cs := _)
      · apply Wk.mv (by conv => lhs; whnf) (lt_of_ble rfl)
        apply Wk.nilc rfl (lt_of_ble rfl)
        apply Wk.fad 23 0 false fd111_6 rfl (lt_of_ble rfl)
        apply Wk.ld (i := 27) 1 false ty3 rfl rfl (by conv => lhs; whnf) (lt_of_ble rfl)
        apply Wk.mv (by conv => lhs; whnf) (lt_of_ble rfl)
        apply Wk.nilc rfl (lt_of_ble rfl)
        apply Wk.fad 0 4 true fd111_0 rfl (lt_of_ble rfl)
        apply Wk.fad 4 0 false fd24_4 rfl (lt_of_ble rfl)
        apply Wk.ld (i := 27) 1 false ty3 rfl rfl (by conv => lhs; whnf) (lt_of_ble rfl)
        apply Wk.bin rfl rfl (r := .bool false) (fun w => by simp [go_sem, ht]) (lt_of_ble rfl)
        refine Wk.nil ?_
        refine AW.cond rfl (fun hc => by cases hc) (fun _ => AW.skip (thenA_normal ?_))
        refine AW.seq ?_
        apply AW.list
        apply Wk.mv (by conv => lhs; whnf) (lt_of_ble rfl)
        apply Wk.nilc rfl (lt_of_ble rfl)
        apply Wk.fad 22 0 false fd111_5 rfl (lt_of_ble rfl)
        apply Wk.sto (i := 27) 1 false ty4 rfl rfl rfl rfl (Nat.le_of_ble_eq_true rfl) (lt_of_ble rfl)
        refine Wk.nil ?_
        refine AW.seq ?_
        apply AW.list
        apply Wk.mv (by conv => lhs; whnf) (lt_of_ble rfl)
        apply Wk.nilc rfl (lt_of_ble rfl)
        apply Wk.fad 23 0 false fd111_6 rfl (lt_of_ble rfl)
        apply Wk.ld (i := 27) 1 false ty3 rfl rfl (by conv => lhs; whnf) (lt_of_ble rfl)
        apply Wk.addi rfl rfl (by omega) (lt_of_ble rfl)
        apply Wk.nilc rfl (lt_of_ble rfl)
        apply Wk.fad 23 0 false fd111_6 rfl (lt_of_ble rfl)
        apply Wk.sto (i := 27) 1 false ty3 rfl rfl rfl rfl (Nat.le_of_ble_eq_true rfl) (lt_of_ble rfl)
        refine Wk.nil ?_
        refine AW.seq ?_
        apply AW.list
        apply Wk.mv (by conv => lhs; whnf) (lt_of_ble rfl)
        apply Wk.mv (by conv => lhs; whnf) (lt_of_ble rfl)
        apply Wk.dat (iwait_ok bu) Try.func104 rfl rfl rfl rfl rfl (lt_of_ble rfl)
        apply Wk.bld [.int .i64 0, .int .i64 0, .int .i64 0, .bool false, .bool false, .int .i64 0, .int .i64 0, .int .i64 0, .slice none 0 0] [(0, 1), (1, 1), (2, 1), (3, 1), (4, 1), (5, 1), (6, 1), (7, 1), (8, 1)] bl42 rfl (by conv => lhs; whnf) (lt_of_ble rfl)
        apply Wk.sto (i := 6) 9 true ty42 rfl rfl rfl rfl (Nat.le_of_ble_eq_true rfl) (lt_of_ble rfl)
        apply Wk.asg (by conv => lhs; whnf) (lt_of_ble rfl)
        refine Wk.nil (AW.ret ?_)
        exact RetQ.ret (sndB _ l qu) (.cons ⟨6, 0, _, _, _, rfl, rfl, ty42, rfl⟩ (.cons rfl .nil)) ⟨rfl, rfl⟩ (kept2 rfl rfl)
      · rfl
      · rfl
  · skip
    refine Spec.intro (n := 65) (rv := [.cell 6 42, .tmp 7]) Try.func78 rfl rfl rfl (by simp) fun C hN hX => ?_
    refine AW.seq ?_
    apply AW.list
    apply Wk.alc 6 [.int .i64 0, .int .i64 0, .int .i64 0, .bool false, .bool false, .int .i64 0, .int .i64 0, .int .i64 0, .slice none 0 0] ze42 rfl rfl (lt_of_ble rfl)
    apply Wk.asg (by conv => lhs; whnf) (lt_of_ble rfl)
    refine Wk.nil ?_
    refine AW.seq ?_
    apply AW.list
    apply Wk.mv (by conv => lhs; whnf) (lt_of_ble rfl)
    apply Wk.nilc rfl (lt_of_ble rfl)
    apply Wk.fad 6 13 true fd111_2 rfl (lt_of_ble rfl)
    apply Wk.fad 13 0 false fd109_2 rfl (lt_of_ble rfl)
    apply Wk.ld (i := 27) 1 false ty3 rfl rfl (by conv => lhs; whnf) (lt_of_ble rfl)
    apply Wk.bin rfl rfl (r := .bool false) (fun w => by simp [go_sem]; omega) (lt_of_ble rfl)
    apply Wk.mv (by conv => lhs; whnf) (lt_of_ble rfl)
    apply Wk.goff 15 (ok_move _) rfl rfl (by simp)
    apply Wk.goff 15 (ok_nil _) rfl rfl (by simp)
    apply Wk.goff 15 (ok_faddr fd111_7) rfl rfl (by simp)
    apply Wk.goff 15 (ok_load 27 ty4) rfl rfl (by simp)
    apply Wk.goff 15 (ok_un _ _ _) rfl rfl (by simp)
    apply Wk.pckF rfl (by conv => lhs; whnf) (lt_of_ble rfl)
    apply Wk.mv (by conv => lhs; whnf) (lt_of_ble rfl)
    apply Wk.goff 22 (ok_move _) rfl rfl (by simp)
    apply Wk.goff 22 (ok_nil _) rfl rfl (by simp)
    apply Wk.goff 22 (ok_faddr fd111_5) rfl rfl (by simp)
    apply Wk.goff 22 (ok_load 27 ty4) rfl rfl (by simp)
    apply Wk.goff 22 (ok_un _ _ _) rfl rfl (by simp)
    apply Wk.pckF rfl (by conv => lhs; whnf) (lt_of_ble rfl)
    apply Wk.asg (by conv => lhs; whnf) (lt_of_ble rfl)
    refine Wk.nil ?_
    refine AW.seq (AW.seq ?_)
    apply AW.list
    apply Wk.mv (by conv => lhs; whnf) (lt_of_ble rfl)
    apply Wk.nilc rfl (lt_of_ble rfl)
    apply Wk.fad 26 0 false fd111_9 rfl (lt_of_ble rfl)
    apply Wk.ld (i := 27) 1 false ty4 rfl rfl (by conv => lhs; whnf) (lt_of_ble rfl)
    apply Wk.mv (by conv => lhs; whnf) (lt_of_ble rfl)
    apply Wk.gon 33 rfl rfl
    apply Wk.mv (by conv => lhs; whnf) (lt_of_ble rfl)
    apply Wk.pckF rfl (by conv => lhs; whnf) (lt_of_ble rfl)
    refine Wk.nil ?_
    refine AW.cond rfl (fun hc => by cases hc) (fun _ => AW.skip (thenA_normal ?_))
    refine AW.seq (AW.seq ?_)
    apply AW.draw (hm := hmix) (cs := _)
    · apply Wk.mv (by conv => lhs; whnf) (lt_of_ble rfl)
      apply Wk.nilc rfl (lt_of_ble rfl)
      apply Wk.fad 23 0 false fd111_6 rfl (lt_of_ble rfl)
      apply Wk.ld (i := 27) 1 false ty3 rfl rfl (by conv => lhs; whnf) (lt_of_ble rfl)
      apply Wk.mv (by conv => lhs; whnf) (lt_of_ble rfl)
      apply Wk.nilc rfl (lt_of_ble rfl)
      apply Wk.fad 0 4 true fd111_0 rfl (lt_of_ble rfl)
      apply Wk.fad 4 0 false fd24_4 rfl (lt_of_ble rfl)
      apply Wk.ld (i := 27) 1 false ty3 rfl rfl (by conv => lhs; whnf) (lt_of_ble rfl)
      apply Wk.bin rfl rfl (r := .bool false) (fun w => by simp [go_sem, ht]) (lt_of_ble rfl)
      refine Wk.nil ?_
      refine AW.cond rfl (fun hc => by cases hc) (fun _ => AW.skip (thenA_normal ?_))
      refine AW.seq ?_
      apply AW.list
      apply Wk.mv (by conv => lhs; whnf) (lt_of_ble rfl)
      apply Wk.nilc rfl (lt_of_ble rfl)
      apply Wk.fad 22 0 false fd111_5 rfl (lt_of_ble rfl)
      apply Wk.sto (i := 27) 1 false ty4 rfl rfl rfl rfl (Nat.le_of_ble_eq_true rfl) (lt_of_ble rfl)
      refine Wk.nil ?_
      refine AW.seq ?_
      apply AW.list
      apply Wk.mv (by conv => lhs; whnf) (lt_of_ble rfl)
      apply Wk.nilc rfl (lt_of_ble rfl)
      apply Wk.fad 23 0 false fd111_6 rfl (lt_of_ble rfl)
      apply Wk.ld (i := 27) 1 false ty3 rfl rfl (by conv => lhs; whnf) (lt_of_ble rfl)
      apply Wk.addi rfl rfl (by omega) (lt_of_ble rfl)
      apply Wk.nilc rfl (lt_of_ble rfl)
      apply Wk.fad 23 0 false fd111_6 rfl (lt_of_ble rfl)
      apply Wk.sto (i := 27) 1 false ty3 rfl rfl rfl rfl (Nat.le_of_ble_eq_true rfl) (lt_of_ble rfl)
      refine Wk.nil ?_
      refine AW.seq ?_
      apply AW.list
      apply Wk.mv (by conv => lhs; whnf) (lt_of_ble rfl)
      apply Wk.mv (by conv => lhs; whnf) (lt_of_ble rfl)
      apply Wk.dat (iwait_ok bu) Try.func104 rfl rfl rfl rfl rfl (lt_of_ble rfl)
      apply Wk.bld [.int .i64 0, .int .i64 0, .int .i64 0, .bool false, .bool false, .int .i64 0, .int .i64 0, .int .i64 0, .slice none 0 0] [(0, 1), (1, 1), (2, 1), (3, 1), (4, 1), (5, 1), (6, 1), (7, 1), (8, 1)] bl42 rfl (by conv => lhs; whnf) (lt_of_ble rfl)
      apply Wk.sto (i := 6) 9 true ty42 rfl rfl rfl rfl (Nat.le_of_ble_eq_true rfl) (lt_of_ble rfl)
      apply Wk.asg (by conv => lhs; whnf) (lt_of_ble rfl)
      refine Wk.nil (AW.ret ?_)
      exact RetQ.ret (sndB _ l qu) (.cons ⟨6, 0, _, _, _, rfl, rfl, ty42, rfl⟩ (.cons rfl .nil)) ⟨rfl, rfl⟩ (kept2 rfl rfl)
    · rfl
    · rfl
end Go.Proofs.Ytdojkmjamilllaa

/- TxTick of the program, over what values read as. Written by tools/mk_AbsTickI.py. -/
namespace Go.Proofs.Ytdojkmjamilllaa
open Go Go.RowKit
theorem itxb {m w p u y : Int} {x : TX} {b : Bool} (h : txOkB ⟨m, w, p, u, y⟩ x = b) : DataOk Try.prog 17 [cfgA m w p u y, txA x] (.d (.v (.bool b))) := h ▸ itx_ok m w p u y x
theorem iisnum {n : Int} {b : Bool} (h : inB n 0 7 = b) : DataOk Try.prog 66 [.d (.v (.int .i64 n))] (.d (.v (.bool b))) := by
  subst h
  refine DataOk.lift fun w F E H args _ hs hd => ?_
  obtain ⟨v, rfl, hv⟩ := arg1 hs hd
  obtain rfl := den_v hv
  refine (number_any n w).mono ?_
  rintro e w' ⟨rfl, rfl⟩
  exact ⟨rfl, Below.refl _ _⟩
theorem txOk_four {o : Opt} {x : TX} (h : txOkB o x = true) : x.fl.length ≤ 4 ∧ x.few := by
  have f := txOk_facts h
  obtain ⟨-, hw, -, -, -, -, -, hl, -, -, hq, -, -, -, h1, h2⟩ := f
  refine ⟨by omega, ⟨by omega, fun d hd => ?_⟩, ⟨by omega, fun d hd => ?_⟩⟩
  · have := partM_len (h1 d hd); omega
  · have := partM_len (h2 d hd); omega
/-- The next number is told by the first one and how many there are. -/
theorem txOk_next {o : Opt} {x : TX} (h : txOkB o x = true) : (x.a + (x.fl.length : Int)) % 8 = x.n ∧ 0 ≤ x.a ∧ x.a < 8 := by
  have f := txOk_facts h
  have hn := (inB_iff _ _ _).1 f.2.2.2.2.2.1
  have ha := (inB_iff _ _ _).1 f.2.2.2.2.2.2.1
  have hf := f.2.2.2.2.2.2.2.2.1
  rw [farF_in (by omega) (by omega)] at hf
  omega
theorem ring_at {fl : List Dat} (h4 : fl.length ≤ 4) : ∀ i d, fl[i]? = some d → ringF fl ((0 + i) % 4) = sl (some d) := by
  intro i d h
  have hi := (List.getElem?_eq_some_iff.1 h).1
  rw [show (0 + i) % 4 = i by omega, ringF, h]
set_option maxHeartbeats 4000000 in
set_option maxRecDepth 100000 in
theorem itickNo (m0 w0 p0 u0 y0 : Int) (x : TX) (ack : Int) (bu : Bool) (hno : txOkB ⟨m0, w0, p0, u0, y0⟩ x = false ∨ inB ack 0 7 = false) :
    DataOk Try.prog 36 [cfgA m0 w0 p0 u0 y0, txA x, .d (.v (.int .i64 ack)), .d (.v (.bool bu))] (.tup [txNil, frmNo, .d (.v (.bool false))]) := by
  cases hok : txOkB ⟨m0, w0, p0, u0, y0⟩ x
  · skip
    refine Spec.intro (n := 39) (rv := [.cell 8 27, .cell 9 42, .tmp 10]) Try.func36 rfl rfl rfl (by simp) fun C hN hX => ?_
    refine AW.seq ?_
    apply AW.list
    apply Wk.bx 4 rfl rfl (lt_of_ble rfl)
    apply Wk.bx 50 rfl rfl (lt_of_ble rfl)
    apply Wk.alc 8 [.int .i64 0, .int .i64 0, .slice none 0 0, .int .i64 0, .slice none 0 0, .bool false, .int .i64 0, .bool false, .int .i64 0, .bool false] ze27 rfl rfl (lt_of_ble rfl)
    apply Wk.alc 9 [.int .i64 0, .int .i64 0, .int .i64 0, .bool false, .bool false, .int .i64 0, .int .i64 0, .int .i64 0, .slice none 0 0] ze42 rfl rfl (lt_of_ble rfl)
    apply Wk.asg (by conv => lhs; whnf) (lt_of_ble rfl)
    refine Wk.nil ?_
    refine AW.seq (AW.seq ?_)
    apply AW.list
    apply Wk.ld (i := 4) 5 true ty24 rfl rfl (by conv => lhs; whnf) (lt_of_ble rfl)
    apply Wk.ld (i := 50) 10 true ty27 rfl rfl (by conv => lhs; whnf) (lt_of_ble rfl)
    apply Wk.dat (itxb hok) Try.func17 rfl rfl rfl rfl rfl (lt_of_ble rfl)
    apply Wk.un rfl (fun w => by simp [go_sem] <;> rfl) (lt_of_ble rfl)
    apply Wk.mv (by conv => lhs; whnf) (lt_of_ble rfl)
    apply Wk.goff 18 (ok_move _) rfl rfl (by simp)
    apply Wk.goff 18 (ok_datw ((iisnum (n := 0) rfl).w rfl) Try.func66 rfl rfl) rfl rfl (by simp)
    apply Wk.goff 18 (ok_un _ _ _) rfl rfl (by simp)
    apply Wk.pckT rfl (by conv => lhs; whnf) (lt_of_ble rfl)
    refine Wk.nil ?_
    refine AW.cond rfl (fun _ => ?_) (fun hc => by cases hc)
    refine AW.seq ?_
    apply AW.list
    apply Wk.bld [.int .i64 0, .int .i64 0, .slice none 0 0, .int .i64 0, .slice none 0 0, .bool false, .int .i64 0, .bool false, .int .i64 0, .bool false] [(0, 1), (1, 1), (2, 1), (3, 1), (4, 1), (5, 1), (6, 1), (7, 1), (8, 1), (9, 1)] bl27 rfl (by conv => lhs; whnf) (lt_of_ble rfl)
    apply Wk.bld [.int .i64 0, .int .i64 0, .int .i64 0, .bool false, .bool false, .int .i64 0, .int .i64 0, .int .i64 0, .slice none 0 0] [(0, 1), (1, 1), (2, 1), (3, 1), (4, 1), (5, 1), (6, 1), (7, 1), (8, 1)] bl42 rfl (by conv => lhs; whnf) (lt_of_ble rfl)
    apply Wk.sto (i := 8) 10 true ty27 rfl rfl rfl rfl (Nat.le_of_ble_eq_true rfl) (lt_of_ble rfl)
    apply Wk.sto (i := 9) 9 true ty42 rfl rfl rfl rfl (Nat.le_of_ble_eq_true rfl) (lt_of_ble rfl)
    apply Wk.asg (by conv => lhs; whnf) (lt_of_ble rfl)
    refine Wk.nil (AW.ret ?_)
    repeat (first | refine thenA_ret ?_ | refine inBlockA_ret ?_)
    exact RetQ.ret [] (.cons ⟨8, 0, _, _, _, rfl, rfl, ty27, rfl⟩ (.cons ⟨9, 0, _, _, _, rfl, rfl, ty42, rfl⟩ (.cons rfl .nil))) ⟨rfl, rfl⟩ none_kept
  · have hack : inB ack 0 7 = false := by rcases hno with h | h <;> first | exact h | (rw [hok] at h; cases h)
    refine Spec.intro (n := 39) (rv := [.cell 8 27, .cell 9 42, .tmp 10]) Try.func36 rfl rfl rfl (by simp) fun C hN hX => ?_
    refine AW.seq ?_
    apply AW.list
    apply Wk.bx 4 rfl rfl (lt_of_ble rfl)
    apply Wk.bx 50 rfl rfl (lt_of_ble rfl)
    apply Wk.alc 8 [.int .i64 0, .int .i64 0, .slice none 0 0, .int .i64 0, .slice none 0 0, .bool false, .int .i64 0, .bool false, .int .i64 0, .bool false] ze27 rfl rfl (lt_of_ble rfl)
    apply Wk.alc 9 [.int .i64 0, .int .i64 0, .int .i64 0, .bool false, .bool false, .int .i64 0, .int .i64 0, .int .i64 0, .slice none 0 0] ze42 rfl rfl (lt_of_ble rfl)
    apply Wk.asg (by conv => lhs; whnf) (lt_of_ble rfl)
    refine Wk.nil ?_
    refine AW.seq (AW.seq ?_)
    apply AW.list
    apply Wk.ld (i := 4) 5 true ty24 rfl rfl (by conv => lhs; whnf) (lt_of_ble rfl)
    apply Wk.ld (i := 50) 10 true ty27 rfl rfl (by conv => lhs; whnf) (lt_of_ble rfl)
    apply Wk.dat (itxb hok) Try.func17 rfl rfl rfl rfl rfl (lt_of_ble rfl)
    apply Wk.un rfl (fun w => by simp [go_sem] <;> rfl) (lt_of_ble rfl)
    apply Wk.mv (by conv => lhs; whnf) (lt_of_ble rfl)
    apply Wk.gon 18 rfl rfl
    apply Wk.mv (by conv => lhs; whnf) (lt_of_ble rfl)
    apply Wk.gon 18 rfl rfl
    apply Wk.dat (iisnum hack) Try.func66 rfl rfl rfl rfl rfl (lt_of_ble rfl)
    apply Wk.gon 18 rfl rfl
    apply Wk.un rfl (fun w => by simp [go_sem] <;> rfl) (lt_of_ble rfl)
    apply Wk.pckF rfl (by conv => lhs; whnf) (lt_of_ble rfl)
    refine Wk.nil ?_
    refine AW.cond rfl (fun _ => ?_) (fun hc => by cases hc)
    refine AW.seq ?_
    apply AW.list
    apply Wk.bld [.int .i64 0, .int .i64 0, .slice none 0 0, .int .i64 0, .slice none 0 0, .bool false, .int .i64 0, .bool false, .int .i64 0, .bool false] [(0, 1), (1, 1), (2, 1), (3, 1), (4, 1), (5, 1), (6, 1), (7, 1), (8, 1), (9, 1)] bl27 rfl (by conv => lhs; whnf) (lt_of_ble rfl)
    apply Wk.bld [.int .i64 0, .int .i64 0, .int .i64 0, .bool false, .bool false, .int .i64 0, .int .i64 0, .int .i64 0, .slice none 0 0] [(0, 1), (1, 1), (2, 1), (3, 1), (4, 1), (5, 1), (6, 1), (7, 1), (8, 1)] bl42 rfl (by conv => lhs; whnf) (lt_of_ble rfl)
    apply Wk.sto (i := 8) 10 true ty27 rfl rfl rfl rfl (Nat.le_of_ble_eq_true rfl) (lt_of_ble rfl)
    apply Wk.sto (i := 9) 9 true ty42 rfl rfl rfl rfl (Nat.le_of_ble_eq_true rfl) (lt_of_ble rfl)
    apply Wk.asg (by conv => lhs; whnf) (lt_of_ble rfl)
    refine Wk.nil (AW.ret ?_)
    repeat (first | refine thenA_ret ?_ | refine inBlockA_ret ?_)
    exact RetQ.ret [] (.cons ⟨8, 0, _, _, _, rfl, rfl, ty27, rfl⟩ (.cons ⟨9, 0, _, _, _, rfl, rfl, ty42, rfl⟩ (.cons rfl .nil))) ⟨rfl, rfl⟩ none_kept
set_option maxHeartbeats 4000000 in
set_option maxRecDepth 100000 in
theorem itickYesN (m0 w0 p0 u0 y0 n a : Int) (s : Int) (qu : List Dat) (q : Bool) (t : Int) (hh : Bool) (c : Int) (dd : Bool) (q' : Bool) (t' : Int) (d' : Bool) (ack : Int) (bu : Bool) (k1 s1 c1 : Int) (p1 f1 : Bool) (y1 g1 l1 : Int) (b : Bool) (hok : txOkB ⟨m0, w0, p0, u0, y0⟩ ⟨n, a, [], s, qu, q, t, hh, c, dd⟩ = true) (hack : inB ack 0 7 = true)
    (ht : Spec Try.prog 78 [.ptr 27 0, .d (.v (.int .i64 ack)), .d (.v (.bool bu))] (sndB (sndC m0 w0 p0 u0 y0 a (ringF []) 0 (([] : List Dat).length : Int) s qu.length q t hh c dd) qu.length qu) (fun r bs => r = .tup [frmG k1 s1 c1 p1 f1 y1 g1 l1, .d (.v (.bool b))] ∧ bs = sndB (sndC m0 w0 p0 u0 y0 a (ringF []) 0 (([] : List Dat).length : Int) s qu.length q' t' hh c d') qu.length qu)) :
    DataOk Try.prog 36 [cfgA m0 w0 p0 u0 y0, txA ⟨n, a, [], s, qu, q, t, hh, c, dd⟩, .d (.v (.int .i64 ack)), .d (.v (.bool bu))] (.tup [txA ⟨n, a, [], s, qu, q', t', hh, c, d'⟩, frmG k1 s1 c1 p1 f1 y1 g1 l1, .d (.v (.bool b))]) := by
  have h4 := txOk_four hok
  have hn := txOk_next hok
  simp only at h4 hn
  have cn := inew m0 w0 p0 u0 y0 ⟨n, a, [], s, qu, q, t, hh, c, dd⟩ h4.1 h4.2
  simp only at cn
  have cs := istateN m0 w0 p0 u0 y0 a (ringF []) s qu.length q' t' hh c d' qu 0 (by omega) h4.1 (ring_at h4.1) ⟨hn.2.1, hn.2.2⟩
  rw [hn.1] at cs
  refine Spec.intro (n := 39) (rv := [.cell 8 27, .cell 9 42, .tmp 10]) Try.func36 rfl rfl rfl (by simp) fun C hN hX => ?_
  refine AW.seq ?_
  apply AW.list
  apply Wk.bx 4 rfl rfl (lt_of_ble rfl)
  apply Wk.bx 50 rfl rfl (lt_of_ble rfl)
  apply Wk.alc 8 [.int .i64 0, .int .i64 0, .slice none 0 0, .int .i64 0, .slice none 0 0, .bool false, .int .i64 0, .bool false, .int .i64 0, .bool false] ze27 rfl rfl (lt_of_ble rfl)
  apply Wk.alc 9 [.int .i64 0, .int .i64 0, .int .i64 0, .bool false, .bool false, .int .i64 0, .int .i64 0, .int .i64 0, .slice none 0 0] ze42 rfl rfl (lt_of_ble rfl)
  apply Wk.asg (by conv => lhs; whnf) (lt_of_ble rfl)
  refine Wk.nil ?_
  refine AW.seq (AW.seq ?_)
  apply AW.list
  apply Wk.ld (i := 4) 5 true ty24 rfl rfl (by conv => lhs; whnf) (lt_of_ble rfl)
  apply Wk.ld (i := 50) 10 true ty27 rfl rfl (by conv => lhs; whnf) (lt_of_ble rfl)
  apply Wk.dat (itxb hok) Try.func17 rfl rfl rfl rfl rfl (lt_of_ble rfl)
  apply Wk.un rfl (fun w => by simp [go_sem] <;> rfl) (lt_of_ble rfl)
  apply Wk.mv (by conv => lhs; whnf) (lt_of_ble rfl)
  apply Wk.gon 18 rfl rfl
  apply Wk.mv (by conv => lhs; whnf) (lt_of_ble rfl)
  apply Wk.gon 18 rfl rfl
  apply Wk.dat (iisnum hack) Try.func66 rfl rfl rfl rfl rfl (lt_of_ble rfl)
  apply Wk.gon 18 rfl rfl
  apply Wk.un rfl (fun w => by simp [go_sem] <;> rfl) (lt_of_ble rfl)
  apply Wk.pckF rfl (by conv => lhs; whnf) (lt_of_ble rfl)
  refine Wk.nil ?_
  refine AW.cond rfl (fun hc => by cases hc) (fun _ => AW.skip (thenA_normal ?_))
  refine AW.seq ?_
  apply AW.list
  apply Wk.ld (i := 4) 5 true ty24 rfl rfl (by conv => lhs; whnf) (lt_of_ble rfl)
  apply Wk.ld (i := 50) 10 true ty27 rfl rfl (by conv => lhs; whnf) (lt_of_ble rfl)
  apply Wk.cal [] [27, 66] cn (in_snd _ rfl _ _ _ _ _ _ _ _ _ _ _ _ _ _ _ _ _ _) ⟨_, _, rfl, rfl⟩ Try.func51 rfl rfl rfl rfl (by simp; exact ⟨rfl, rfl⟩) rfl (fun i hi => by cases hi) (lt_of_ble rfl)
  rintro r bs' ⟨rfl, rfl⟩
  apply Wk.asg (by conv => lhs; whnf) (lt_of_ble rfl)
  refine Wk.nil ?_
  refine AW.seq ?_
  apply AW.list
  apply Wk.mv (by conv => lhs; whnf) (lt_of_ble rfl)
  apply Wk.mv (by conv => lhs; whnf) (lt_of_ble rfl)
  apply Wk.mv (by conv => lhs; whnf) (lt_of_ble rfl)
  apply Wk.cal [27, 66] [] ht (in_snd _ rfl _ _ _ _ _ _ _ _ _ _ _ _ _ _ _ _ _ _) ⟨_, _, rfl, rfl⟩ Try.func78 rfl rfl rfl rfl (fun i hi => by cases hi) rfl (two_in rfl (by exact within_parts _)) (lt_of_ble rfl)
  rintro r bs' ⟨rfl, rfl⟩
  apply Wk.mv (by conv => lhs; whnf) (lt_of_ble rfl)
  apply Wk.ext rfl rfl (lt_of_ble rfl)
  apply Wk.ext rfl rfl (lt_of_ble rfl)
  apply Wk.alc 12 [.int .i64 0, .int .i64 0, .int .i64 0, .bool false, .bool false, .int .i64 0, .int .i64 0, .int .i64 0, .slice none 0 0] ze42 rfl rfl (lt_of_ble rfl)
  apply Wk.sto (i := 12) 9 true ty42 rfl rfl rfl rfl (Nat.le_of_ble_eq_true rfl) (lt_of_ble rfl)
  apply Wk.asg (by conv => lhs; whnf) (lt_of_ble rfl)
  refine Wk.nil ?_
  refine AW.seq ?_
  apply AW.draw (hm := hmix) (cs := _)
  · apply Wk.mv (by conv => lhs; whnf) (lt_of_ble rfl)
    apply Wk.calr [27, 66] [17] cs (in_sndF _ rfl _ _ _ _ _ _ _ _ _ _ _ _ _ _ _ _ _ _ []) (by rintro r bs' ⟨rfl, rfl⟩; exact keep2) ⟨_, _, rfl, rfl⟩ Try.func53 rfl rfl rfl rfl (by simp; rfl) rfl (two_in rfl (by exact within_parts _)) (lt_of_ble rfl)
    rintro r bs' ⟨rfl, rfl⟩
    apply Wk.ld (i := 12) 9 true ty42 rfl rfl (by conv => lhs; whnf) (lt_of_ble rfl)
    apply Wk.mv (by conv => lhs; whnf) (lt_of_ble rfl)
    apply Wk.sto (i := 8) 10 true ty27 rfl rfl rfl rfl (Nat.le_of_ble_eq_true rfl) (lt_of_ble rfl)
    apply Wk.sto (i := 9) 9 true ty42 rfl rfl rfl rfl (Nat.le_of_ble_eq_true rfl) (lt_of_ble rfl)
    apply Wk.asg (by conv => lhs; whnf) (lt_of_ble rfl)
    refine Wk.nil ?_
    refine AW.thawc (j := 8) (c := 4) (i := 66) _ rfl rfl rfl (asData_parts qu) hX.none ?_
    refine AW.nrmb (j := 8) rfl ?_
    refine AW.ret ?_
    exact RetQ.ret [] (.cons ⟨8, 0, _, _, _, rfl, rfl, ty27, rfl⟩ (.cons ⟨9, 0, _, _, _, rfl, rfl, ty42, rfl⟩ (.cons rfl .nil))) ⟨rfl, rfl⟩ none_kept
  · rfl
  · rfl
set_option maxHeartbeats 4000000 in
set_option maxRecDepth 100000 in
theorem itickYesO (m0 w0 p0 u0 y0 n a : Int) (fl : List Dat) (hne : fl ≠ []) (s : Int) (qu : List Dat) (q : Bool) (t : Int) (hh : Bool) (c : Int) (dd : Bool) (q' : Bool) (t' : Int) (d' : Bool) (ack : Int) (bu : Bool) (k1 s1 c1 : Int) (p1 f1 : Bool) (y1 g1 l1 : Int) (b : Bool) (hok : txOkB ⟨m0, w0, p0, u0, y0⟩ ⟨n, a, fl, s, qu, q, t, hh, c, dd⟩ = true) (hack : inB ack 0 7 = true)
    (ht : Spec Try.prog 78 [.ptr 27 0, .d (.v (.int .i64 ack)), .d (.v (.bool bu))] (sndB (sndC m0 w0 p0 u0 y0 a (ringF fl) 0 ((fl : List Dat).length : Int) s qu.length q t hh c dd) qu.length qu) (fun r bs => r = .tup [frmG k1 s1 c1 p1 f1 y1 g1 l1, .d (.v (.bool b))] ∧ bs = sndB (sndC m0 w0 p0 u0 y0 a (ringF fl) 0 ((fl : List Dat).length : Int) s qu.length q' t' hh c d') qu.length qu)) :
    DataOk Try.prog 36 [cfgA m0 w0 p0 u0 y0, txA ⟨n, a, fl, s, qu, q, t, hh, c, dd⟩, .d (.v (.int .i64 ack)), .d (.v (.bool bu))] (.tup [txA ⟨n, a, fl, s, qu, q', t', hh, c, d'⟩, frmG k1 s1 c1 p1 f1 y1 g1 l1, .d (.v (.bool b))]) := by
  have h4 := txOk_four hok
  have hn := txOk_next hok
  simp only at h4 hn
  have cn := inew m0 w0 p0 u0 y0 ⟨n, a, fl, s, qu, q, t, hh, c, dd⟩ h4.1 h4.2
  simp only at cn
  have cs := istateO m0 w0 p0 u0 y0 a (ringF fl) s qu.length q' t' hh c d' qu 0 fl hne (by omega) h4.1 (ring_at h4.1) ⟨hn.2.1, hn.2.2⟩
  rw [hn.1] at cs
  have ev : flV fl = .own 17 (fl.length - 1) := if_neg hne
  have ex : flX fl = [(17, .own (fl.length - 1) 47 3 (piecesA fl))] := if_neg hne
  have ip : PostIn [27, 66, 17] (fun r bs => r = stA0 n a (flV fl) s qu.length q' t' hh c d' ∧ bs = sndB (sndC m0 w0 p0 u0 y0 a (ringF fl) 0 ((fl : List Dat).length : Int) s qu.length q' t' hh c d') qu.length qu ++ flX fl) := in_sndF _ (by rw [ev]; rfl) _ _ _ _ _ _ _ _ _ _ _ _ _ _ _ _ _ _ _
  rw [ev, ex] at cs ip
  refine Spec.intro (n := 39) (rv := [.cell 8 27, .cell 9 42, .tmp 10]) Try.func36 rfl rfl rfl (by simp) fun C hN hX => ?_
  refine AW.seq ?_
  apply AW.list
  apply Wk.bx 4 rfl rfl (lt_of_ble rfl)
  apply Wk.bx 50 rfl rfl (lt_of_ble rfl)
  apply Wk.alc 8 [.int .i64 0, .int .i64 0, .slice none 0 0, .int .i64 0, .slice none 0 0, .bool false, .int .i64 0, .bool false, .int .i64 0, .bool false] ze27 rfl rfl (lt_of_ble rfl)
  apply Wk.alc 9 [.int .i64 0, .int .i64 0, .int .i64 0, .bool false, .bool false, .int .i64 0, .int .i64 0, .int .i64 0, .slice none 0 0] ze42 rfl rfl (lt_of_ble rfl)
  apply Wk.asg (by conv => lhs; whnf) (lt_of_ble rfl)
  refine Wk.nil ?_
  refine AW.seq (AW.seq ?_)
  apply AW.list
  apply Wk.ld (i := 4) 5 true ty24 rfl rfl (by conv => lhs; whnf) (lt_of_ble rfl)
  apply Wk.ld (i := 50) 10 true ty27 rfl rfl (by conv => lhs; whnf) (lt_of_ble rfl)
  apply Wk.dat (itxb hok) Try.func17 rfl rfl rfl rfl rfl (lt_of_ble rfl)
  apply Wk.un rfl (fun w => by simp [go_sem] <;> rfl) (lt_of_ble rfl)
  apply Wk.mv (by conv => lhs; whnf) (lt_of_ble rfl)
  apply Wk.gon 18 rfl rfl
  apply Wk.mv (by conv => lhs; whnf) (lt_of_ble rfl)
  apply Wk.gon 18 rfl rfl
  apply Wk.dat (iisnum hack) Try.func66 rfl rfl rfl rfl rfl (lt_of_ble rfl)
  apply Wk.gon 18 rfl rfl
  apply Wk.un rfl (fun w => by simp [go_sem] <;> rfl) (lt_of_ble rfl)
  apply Wk.pckF rfl (by conv => lhs; whnf) (lt_of_ble rfl)
  refine Wk.nil ?_
  refine AW.cond rfl (fun hc => by cases hc) (fun _ => AW.skip (thenA_normal ?_))
  refine AW.seq ?_
  apply AW.list
  apply Wk.ld (i := 4) 5 true ty24 rfl rfl (by conv => lhs; whnf) (lt_of_ble rfl)
  apply Wk.ld (i := 50) 10 true ty27 rfl rfl (by conv => lhs; whnf) (lt_of_ble rfl)
  apply Wk.cal [] [27, 66] cn (in_snd _ rfl _ _ _ _ _ _ _ _ _ _ _ _ _ _ _ _ _ _) ⟨_, _, rfl, rfl⟩ Try.func51 rfl rfl rfl rfl (by simp; exact ⟨rfl, rfl⟩) rfl (fun i hi => by cases hi) (lt_of_ble rfl)
  rintro r bs' ⟨rfl, rfl⟩
  apply Wk.asg (by conv => lhs; whnf) (lt_of_ble rfl)
  refine Wk.nil ?_
  refine AW.seq ?_
  apply AW.list
  apply Wk.mv (by conv => lhs; whnf) (lt_of_ble rfl)
  apply Wk.mv (by conv => lhs; whnf) (lt_of_ble rfl)
  apply Wk.mv (by conv => lhs; whnf) (lt_of_ble rfl)
  apply Wk.cal [27, 66] [] ht (in_snd _ rfl _ _ _ _ _ _ _ _ _ _ _ _ _ _ _ _ _ _) ⟨_, _, rfl, rfl⟩ Try.func78 rfl rfl rfl rfl (fun i hi => by cases hi) rfl (two_in rfl (by exact within_parts _)) (lt_of_ble rfl)
  rintro r bs' ⟨rfl, rfl⟩
  apply Wk.mv (by conv => lhs; whnf) (lt_of_ble rfl)
  apply Wk.ext rfl rfl (lt_of_ble rfl)
  apply Wk.ext rfl rfl (lt_of_ble rfl)
  apply Wk.alc 12 [.int .i64 0, .int .i64 0, .int .i64 0, .bool false, .bool false, .int .i64 0, .int .i64 0, .int .i64 0, .slice none 0 0] ze42 rfl rfl (lt_of_ble rfl)
  apply Wk.sto (i := 12) 9 true ty42 rfl rfl rfl rfl (Nat.le_of_ble_eq_true rfl) (lt_of_ble rfl)
  apply Wk.asg (by conv => lhs; whnf) (lt_of_ble rfl)
  refine Wk.nil ?_
  refine AW.seq ?_
  apply AW.draw (hm := hmix) (cs := _)
  · apply Wk.mv (by conv => lhs; whnf) (lt_of_ble rfl)
    apply Wk.calr [27, 66] [17] cs ip (by rintro r bs' ⟨rfl, rfl⟩; exact keep2) ⟨_, _, rfl, rfl⟩ Try.func53 rfl rfl rfl rfl (by simp; rfl) rfl (two_in rfl (by exact within_parts _)) (lt_of_ble rfl)
    rintro r bs' ⟨rfl, rfl⟩
    apply Wk.ld (i := 12) 9 true ty42 rfl rfl (by conv => lhs; whnf) (lt_of_ble rfl)
    apply Wk.mv (by conv => lhs; whnf) (lt_of_ble rfl)
    apply Wk.sto (i := 8) 10 true ty27 rfl rfl rfl rfl (Nat.le_of_ble_eq_true rfl) (lt_of_ble rfl)
    apply Wk.sto (i := 9) 9 true ty42 rfl rfl rfl rfl (Nat.le_of_ble_eq_true rfl) (lt_of_ble rfl)
    apply Wk.asg (by conv => lhs; whnf) (lt_of_ble rfl)
    refine Wk.nil ?_
    refine AW.thawc (j := 8) (c := 4) (i := 66) _ rfl rfl rfl (asData_parts qu) hX.none ?_
    refine AW.thawc (j := 8) (c := 2) (i := 17) _ rfl rfl rfl (asData_parts fl) hX.none ?_
    refine AW.ret ?_
    exact RetQ.ret [] (.cons ⟨8, 0, _, _, _, rfl, rfl, ty27, rfl⟩ (.cons ⟨9, 0, _, _, _, rfl, rfl, ty42, rfl⟩ (.cons rfl .nil))) ⟨rfl, rfl⟩ none_kept
  · rfl
  · rfl
/-- What a tick leaves. -/
def tickX (y : Int) (x : TX) : TX := if x.d = true ∨ (x.fl = [] ∧ x.h = false ∧ x.q = false) then x else if x.t = y then { x with d := true } else { x with q := true, t := x.t + 1 }
def tickB (y : Int) (x : TX) : Bool := decide (¬ (x.d = true ∨ (x.fl = [] ∧ x.h = false ∧ x.q = false)) ∧ x.t ≠ y)
theorem itick_ok (m0 w0 p0 u0 y0 : Int) (x : TX) (ack : Int) (bu : Bool) (hok : txOkB ⟨m0, w0, p0, u0, y0⟩ x = true) (hack : inB ack 0 7 = true) :
    DataOk Try.prog 36 [cfgA m0 w0 p0 u0 y0, txA x, .d (.v (.int .i64 ack)), .d (.v (.bool bu))] (.tup [txA (tickX y0 x), if tickB y0 x then frmQ ack bu else frmNo, .d (.v (.bool (tickB y0 x)))]) := by
  have f := txOk_facts hok
  have ht0 := f.2.2.2.2.2.2.2.2.2.2.2.1
  have hy := f.2.2.2.2.1
  obtain ⟨n, a, fl, s, qu, q, t, hh, c, dd⟩ := x
  simp only at ht0 hy
  have one : ∀ (q' : Bool) (t' : Int) (d' : Bool) (F : A) (k1 s1 c1 : Int) (p1 f1 : Bool) (y1 g1 l1 : Int) (b : Bool), F = frmG k1 s1 c1 p1 f1 y1 g1 l1 →
      Spec Try.prog 78 [.ptr 27 0, .d (.v (.int .i64 ack)), .d (.v (.bool bu))] (sndB (sndC m0 w0 p0 u0 y0 a (ringF fl) 0 (fl.length : Int) s qu.length q t hh c dd) qu.length qu) (fun r bs => r = .tup [F, .d (.v (.bool b))] ∧ bs = sndB (sndC m0 w0 p0 u0 y0 a (ringF fl) 0 (fl.length : Int) s qu.length q' t' hh c d') qu.length qu) →
      DataOk Try.prog 36 [cfgA m0 w0 p0 u0 y0, txA ⟨n, a, fl, s, qu, q, t, hh, c, dd⟩, .d (.v (.int .i64 ack)), .d (.v (.bool bu))] (.tup [txA ⟨n, a, fl, s, qu, q', t', hh, c, d'⟩, F, .d (.v (.bool b))]) := by
    intro q' t' d' F k1 s1 c1 p1 f1 y1 g1 l1 b hF hs
    subst hF
    by_cases h0 : fl = []
    · subst h0
      exact itickYesN m0 w0 p0 u0 y0 n a s qu q t hh c dd q' t' d' ack bu k1 s1 c1 p1 f1 y1 g1 l1 b hok hack hs
    · exact itickYesO m0 w0 p0 u0 y0 n a fl h0 s qu q t hh c dd q' t' d' ack bu k1 s1 c1 p1 f1 y1 g1 l1 b hok hack hs
  have hk : (fl.length = 0 ∧ hh = false ∧ q = false) ↔ (fl = [] ∧ hh = false ∧ q = false) := by rw [List.length_eq_zero_iff]
  by_cases hi : dd = true ∨ (fl = [] ∧ hh = false ∧ q = false)
  · have e1 : tickX y0 ⟨n, a, fl, s, qu, q, t, hh, c, dd⟩ = ⟨n, a, fl, s, qu, q, t, hh, c, dd⟩ := if_pos hi
    have e2 : tickB y0 ⟨n, a, fl, s, qu, q, t, hh, c, dd⟩ = false := decide_eq_false (fun h => h.1 hi)
    rw [e1, e2]
    exact one q t dd frmNo 0 0 0 false false 0 0 0 false rfl (itickIdle m0 w0 p0 u0 y0 a (ringF fl) fl.length s qu.length q t hh c dd qu ack bu (by rw [hk]; exact hi))
  · have hd : dd = false := by cases dd <;> simp_all
    have hi' : ¬ (fl.length = 0 ∧ hh = false ∧ q = false) := fun h => hi (.inr (hk.1 h))
    by_cases ht : t = y0
    · have e1 : tickX y0 ⟨n, a, fl, s, qu, q, t, hh, c, dd⟩ = ⟨n, a, fl, s, qu, q, t, hh, c, true⟩ := by rw [tickX, if_neg hi, if_pos ht]
      have e2 : tickB y0 ⟨n, a, fl, s, qu, q, t, hh, c, dd⟩ = false := decide_eq_false (fun h => h.2 ht)
      rw [e1, e2]
      exact one q t true frmNo 0 0 0 false false 0 0 0 false rfl (itickOut m0 w0 p0 u0 y0 a (ringF fl) fl.length s qu.length q t hh c dd qu ack bu hd hi' ht)
    · have e1 : tickX y0 ⟨n, a, fl, s, qu, q, t, hh, c, dd⟩ = ⟨n, a, fl, s, qu, true, t + 1, hh, c, dd⟩ := by rw [tickX, if_neg hi, if_neg ht]
      have e2 : tickB y0 ⟨n, a, fl, s, qu, q, t, hh, c, dd⟩ = true := decide_eq_true ⟨hi, ht⟩
      rw [e1, e2]
      exact one true (t + 1) dd (frmQ ack bu) 2 0 ack true false (2 * bitZ bu) 0 0 true rfl (itickAsk m0 w0 p0 u0 y0 a (ringF fl) fl.length s qu.length q t hh c dd qu ack bu hd hi' ht (by omega))
end Go.Proofs.Ytdojkmjamilllaa

/- Who sends, the program's, whose queue is plain data: push, at, list, state. Written by tools/mk_AbsSenderD.py. -/
namespace Go.Proofs.Ytdojkmjamilllaa
open Go Go.RowKit
def sndD (m w p u y a : Int) (f : Nat → Sl) (h k s : Int) (Q : D) (q : Bool) (t : Int) (hh : Bool) (c : Int) (d : Bool) : List A :=
  [.d (.v (.int .i64 m)), .d (.v (.int .i64 w)), .d (.v (.int .i64 p)), .d (.v (.int .i64 u)), .d (.v (.int .i64 y)), .d (.v (.int .i64 a)), .d (f 0).x, .d (f 0).y, .d (f 0).z, .d (f 1).x, .d (f 1).y, .d (f 1).z, .d (f 2).x, .d (f 2).y, .d (f 2).z, .d (f 3).x, .d (f 3).y, .d (f 3).z, .d (.v (.int .i64 h)), .d (.v (.int .i64 k)), .d (.v (.int .i64 s)), .d Q, .d (.v (.bool q)), .d (.v (.int .i64 t)), .d (.v (.bool hh)), .d (.v (.int .i64 c)), .d (.v (.bool d))]
theorem in_sndD (r0 : A) (hr : r0.within [27] = true) (m w p u y a : Int) (f : Nat → Sl) (h k s : Int) (Q : D) (q : Bool) (t : Int) (hh : Bool) (c : Int) (d : Bool) : PostIn [27] (fun r bs => r = r0 ∧ bs = [(27, .var (sndD m w p u y a f h k s Q q t hh c d))]) := by
  rintro r bs ⟨rfl, rfl⟩
  refine ⟨hr, fun i z hz => ?_⟩
  obtain ⟨rfl, rfl⟩ := lookup1 hz
  exact ⟨by simp, by simp [Bx.within, sndD, A.withins, A.within]⟩
theorem keep1 {i : Nat} {x : Bx} {ex : List (Nat × Bx)} : ∀ q ∈ [i], ∀ z, ([(i, x)] : List (Nat × Bx)).lookup q = some z → ([(i, x)] ++ ex).lookup q = some z := by
  intro q hq z hz
  obtain rfl := List.mem_singleton.1 hq
  simpa using hz
set_option maxHeartbeats 8000000 in
set_option maxRecDepth 100000 in
theorem ipushD (m w p u y a : Int) (f : Nat → Sl) (s : Int) (Q : D) (q : Bool) (t : Int) (hh : Bool) (c : Int) (dd : Bool) (k : Nat) (hk : k < 4) (d : Dat) : Spec Try.prog 89 [.ptr 27 6, partN d] ([(27, .var (sndD m w p u y a f 0 (k : Int) s Q q t hh c dd))]) (fun r bs => r = .tup [] ∧ bs = [(27, .var (sndD m w p u y a (upd f k (sl (some d))) 0 ((k : Int) + 1) s Q q t hh c dd))]) := by
  obtain ⟨g, n, ys⟩ := d
  rcases (show k = 0 ∨ k = 1 ∨ k = 2 ∨ k = 3 by omega) with rfl | rfl | rfl | rfl
  · skip
    refine Spec.intro (n := 26) (rv := []) Try.func89 rfl rfl rfl (by simp) fun C hN hX => ?_
    refine AW.seq ?_
    apply AW.list
    apply Wk.bx 3 rfl rfl (lt_of_ble rfl)
    refine Wk.nil ?_
    refine AW.seq ?_
    apply AW.draw (hm := hmix) (cs := _)
    · apply Wk.mv (by conv => lhs; whnf) (lt_of_ble rfl)
      apply Wk.mv (by conv => lhs; whnf) (lt_of_ble rfl)
      apply Wk.nilc rfl (lt_of_ble rfl)
      apply Wk.fad 12 0 false fd109_1 rfl (lt_of_ble rfl)
      apply Wk.ld (i := 27) 1 false ty3 rfl rfl (by conv => lhs; whnf) (lt_of_ble rfl)
      apply Wk.mv (by conv => lhs; whnf) (lt_of_ble rfl)
      apply Wk.nilc rfl (lt_of_ble rfl)
      apply Wk.fad 13 0 false fd109_2 rfl (lt_of_ble rfl)
      apply Wk.ld (i := 27) 1 false ty3 rfl rfl (by conv => lhs; whnf) (lt_of_ble rfl)
      apply Wk.addi rfl rfl (by decide) (lt_of_ble rfl)
      apply Wk.bin rfl rfl (r := .int .i64 ((0 : Nat) : Int)) (fun w => by simp [go_sem]) (lt_of_ble rfl)
      apply Wk.ld (i := 3) 3 true ty47 rfl rfl (by conv => lhs; whnf) (lt_of_ble rfl)
      apply Wk.nilc rfl (lt_of_ble rfl)
      apply Wk.fad 0 11 true fd109_0 rfl (lt_of_ble rfl)
      apply Wk.iap 3 4 true ua107 ty47 rfl rfl (show 0 < 4 by decide) (lt_of_ble rfl)
      apply Wk.sto (i := 27) 3 true ty47 rfl rfl rfl rfl (Nat.le_of_ble_eq_true rfl) (lt_of_ble rfl)
      refine Wk.nil ?_
      apply AW.list
      apply Wk.mv (by conv => lhs; whnf) (lt_of_ble rfl)
      apply Wk.nilc rfl (lt_of_ble rfl)
      apply Wk.fad 13 0 false fd109_2 rfl (lt_of_ble rfl)
      apply Wk.ld (i := 27) 1 false ty3 rfl rfl (by conv => lhs; whnf) (lt_of_ble rfl)
      apply Wk.addi rfl rfl (by decide) (lt_of_ble rfl)
      apply Wk.nilc rfl (lt_of_ble rfl)
      apply Wk.fad 13 0 false fd109_2 rfl (lt_of_ble rfl)
      apply Wk.sto (i := 27) 1 false ty3 rfl rfl rfl rfl (Nat.le_of_ble_eq_true rfl) (lt_of_ble rfl)
      refine Wk.nil ?_
      exact ⟨[], [(27, .var _)], .nil, ⟨rfl, rfl⟩, kept1 rfl⟩
    · rfl
    · rfl
  · skip
    refine Spec.intro (n := 26) (rv := []) Try.func89 rfl rfl rfl (by simp) fun C hN hX => ?_
    refine AW.seq ?_
    apply AW.list
    apply Wk.bx 3 rfl rfl (lt_of_ble rfl)
    refine Wk.nil ?_
    refine AW.seq ?_
    apply AW.draw (hm := hmix) (cs := _)
    · apply Wk.mv (by conv => lhs; whnf) (lt_of_ble rfl)
      apply Wk.mv (by conv => lhs; whnf) (lt_of_ble rfl)
      apply Wk.nilc rfl (lt_of_ble rfl)
      apply Wk.fad 12 0 false fd109_1 rfl (lt_of_ble rfl)
      apply Wk.ld (i := 27) 1 false ty3 rfl rfl (by conv => lhs; whnf) (lt_of_ble rfl)
      apply Wk.mv (by conv => lhs; whnf) (lt_of_ble rfl)
      apply Wk.nilc rfl (lt_of_ble rfl)
      apply Wk.fad 13 0 false fd109_2 rfl (lt_of_ble rfl)
      apply Wk.ld (i := 27) 1 false ty3 rfl rfl (by conv => lhs; whnf) (lt_of_ble rfl)
      apply Wk.addi rfl rfl (by decide) (lt_of_ble rfl)
      apply Wk.bin rfl rfl (r := .int .i64 ((1 : Nat) : Int)) (fun w => by simp [go_sem]) (lt_of_ble rfl)
      apply Wk.ld (i := 3) 3 true ty47 rfl rfl (by conv => lhs; whnf) (lt_of_ble rfl)
      apply Wk.nilc rfl (lt_of_ble rfl)
      apply Wk.fad 0 11 true fd109_0 rfl (lt_of_ble rfl)
      apply Wk.iap 3 4 true ua107 ty47 rfl rfl (show 1 < 4 by decide) (lt_of_ble rfl)
      apply Wk.sto (i := 27) 3 true ty47 rfl rfl rfl rfl (Nat.le_of_ble_eq_true rfl) (lt_of_ble rfl)
      refine Wk.nil ?_
      apply AW.list
      apply Wk.mv (by conv => lhs; whnf) (lt_of_ble rfl)
      apply Wk.nilc rfl (lt_of_ble rfl)
      apply Wk.fad 13 0 false fd109_2 rfl (lt_of_ble rfl)
      apply Wk.ld (i := 27) 1 false ty3 rfl rfl (by conv => lhs; whnf) (lt_of_ble rfl)
      apply Wk.addi rfl rfl (by decide) (lt_of_ble rfl)
      apply Wk.nilc rfl (lt_of_ble rfl)
      apply Wk.fad 13 0 false fd109_2 rfl (lt_of_ble rfl)
      apply Wk.sto (i := 27) 1 false ty3 rfl rfl rfl rfl (Nat.le_of_ble_eq_true rfl) (lt_of_ble rfl)
      refine Wk.nil ?_
      exact ⟨[], [(27, .var _)], .nil, ⟨rfl, rfl⟩, kept1 rfl⟩
    · rfl
    · rfl
  · skip
    refine Spec.intro (n := 26) (rv := []) Try.func89 rfl rfl rfl (by simp) fun C hN hX => ?_
    refine AW.seq ?_
    apply AW.list
    apply Wk.bx 3 rfl rfl (lt_of_ble rfl)
    refine Wk.nil ?_
    refine AW.seq ?_
    apply AW.draw (hm := hmix) (cs := _)
    · apply Wk.mv (by conv => lhs; whnf) (lt_of_ble rfl)
      apply Wk.mv (by conv => lhs; whnf) (lt_of_ble rfl)
      apply Wk.nilc rfl (lt_of_ble rfl)
      apply Wk.fad 12 0 false fd109_1 rfl (lt_of_ble rfl)
      apply Wk.ld (i := 27) 1 false ty3 rfl rfl (by conv => lhs; whnf) (lt_of_ble rfl)
      apply Wk.mv (by conv => lhs; whnf) (lt_of_ble rfl)
      apply Wk.nilc rfl (lt_of_ble rfl)
      apply Wk.fad 13 0 false fd109_2 rfl (lt_of_ble rfl)
      apply Wk.ld (i := 27) 1 false ty3 rfl rfl (by conv => lhs; whnf) (lt_of_ble rfl)
      apply Wk.addi rfl rfl (by decide) (lt_of_ble rfl)
      apply Wk.bin rfl rfl (r := .int .i64 ((2 : Nat) : Int)) (fun w => by simp [go_sem]) (lt_of_ble rfl)
      apply Wk.ld (i := 3) 3 true ty47 rfl rfl (by conv => lhs; whnf) (lt_of_ble rfl)
      apply Wk.nilc rfl (lt_of_ble rfl)
      apply Wk.fad 0 11 true fd109_0 rfl (lt_of_ble rfl)
      apply Wk.iap 3 4 true ua107 ty47 rfl rfl (show 2 < 4 by decide) (lt_of_ble rfl)
      apply Wk.sto (i := 27) 3 true ty47 rfl rfl rfl rfl (Nat.le_of_ble_eq_true rfl) (lt_of_ble rfl)
      refine Wk.nil ?_
      apply AW.list
      apply Wk.mv (by conv => lhs; whnf) (lt_of_ble rfl)
      apply Wk.nilc rfl (lt_of_ble rfl)
      apply Wk.fad 13 0 false fd109_2 rfl (lt_of_ble rfl)
      apply Wk.ld (i := 27) 1 false ty3 rfl rfl (by conv => lhs; whnf) (lt_of_ble rfl)
      apply Wk.addi rfl rfl (by decide) (lt_of_ble rfl)
      apply Wk.nilc rfl (lt_of_ble rfl)
      apply Wk.fad 13 0 false fd109_2 rfl (lt_of_ble rfl)
      apply Wk.sto (i := 27) 1 false ty3 rfl rfl rfl rfl (Nat.le_of_ble_eq_true rfl) (lt_of_ble rfl)
      refine Wk.nil ?_
      exact ⟨[], [(27, .var _)], .nil, ⟨rfl, rfl⟩, kept1 rfl⟩
    · rfl
    · rfl
  · skip
    refine Spec.intro (n := 26) (rv := []) Try.func89 rfl rfl rfl (by simp) fun C hN hX => ?_
    refine AW.seq ?_
    apply AW.list
    apply Wk.bx 3 rfl rfl (lt_of_ble rfl)
    refine Wk.nil ?_
    refine AW.seq ?_
    apply AW.draw (hm := hmix) (cs := _)
    · apply Wk.mv (by conv => lhs; whnf) (lt_of_ble rfl)
      apply Wk.mv (by conv => lhs; whnf) (lt_of_ble rfl)
      apply Wk.nilc rfl (lt_of_ble rfl)
      apply Wk.fad 12 0 false fd109_1 rfl (lt_of_ble rfl)
      apply Wk.ld (i := 27) 1 false ty3 rfl rfl (by conv => lhs; whnf) (lt_of_ble rfl)
      apply Wk.mv (by conv => lhs; whnf) (lt_of_ble rfl)
      apply Wk.nilc rfl (lt_of_ble rfl)
      apply Wk.fad 13 0 false fd109_2 rfl (lt_of_ble rfl)
      apply Wk.ld (i := 27) 1 false ty3 rfl rfl (by conv => lhs; whnf) (lt_of_ble rfl)
      apply Wk.addi rfl rfl (by decide) (lt_of_ble rfl)
      apply Wk.bin rfl rfl (r := .int .i64 ((3 : Nat) : Int)) (fun w => by simp [go_sem]) (lt_of_ble rfl)
      apply Wk.ld (i := 3) 3 true ty47 rfl rfl (by conv => lhs; whnf) (lt_of_ble rfl)
      apply Wk.nilc rfl (lt_of_ble rfl)
      apply Wk.fad 0 11 true fd109_0 rfl (lt_of_ble rfl)
      apply Wk.iap 3 4 true ua107 ty47 rfl rfl (show 3 < 4 by decide) (lt_of_ble rfl)
      apply Wk.sto (i := 27) 3 true ty47 rfl rfl rfl rfl (Nat.le_of_ble_eq_true rfl) (lt_of_ble rfl)
      refine Wk.nil ?_
      apply AW.list
      apply Wk.mv (by conv => lhs; whnf) (lt_of_ble rfl)
      apply Wk.nilc rfl (lt_of_ble rfl)
      apply Wk.fad 13 0 false fd109_2 rfl (lt_of_ble rfl)
      apply Wk.ld (i := 27) 1 false ty3 rfl rfl (by conv => lhs; whnf) (lt_of_ble rfl)
      apply Wk.addi rfl rfl (by decide) (lt_of_ble rfl)
      apply Wk.nilc rfl (lt_of_ble rfl)
      apply Wk.fad 13 0 false fd109_2 rfl (lt_of_ble rfl)
      apply Wk.sto (i := 27) 1 false ty3 rfl rfl rfl rfl (Nat.le_of_ble_eq_true rfl) (lt_of_ble rfl)
      refine Wk.nil ?_
      exact ⟨[], [(27, .var _)], .nil, ⟨rfl, rfl⟩, kept1 rfl⟩
    · rfl
    · rfl
set_option maxHeartbeats 8000000 in
set_option maxRecDepth 100000 in
theorem iatD (m w p u y a : Int) (f : Nat → Sl) (s : Int) (Q : D) (q : Bool) (t : Int) (hh : Bool) (c : Int) (dd : Bool) (h n : Nat) (k : Int) (hh1 : h ≤ 4) (hn : n ≤ 4) (j : Nat) (hj : (h + n) % 4 = j) : Spec Try.prog 98 [.ptr 27 6, .d (.v (.int .i64 (n : Int)))] ([(27, .var (sndD m w p u y a f (h : Int) k s Q q t hh c dd))]) (fun r bs => r = .agg [.d (f j).x, .d (f j).y, .d (f j).z] ∧ bs = [(27, .var (sndD m w p u y a f (h : Int) k s Q q t hh c dd))]) := by
  rcases (show j = 0 ∨ j = 1 ∨ j = 2 ∨ j = 3 by omega) with rfl | rfl | rfl | rfl
  · skip
    refine Spec.intro (n := 17) (rv := [.cell 4 47]) Try.func98 rfl rfl rfl (by simp) fun C hN hX => ?_
    refine AW.seq ?_
    apply AW.list
    apply Wk.alc 4 [.int .i64 0, .int .i64 0, .slice none 0 0] ze47 rfl rfl (lt_of_ble rfl)
    refine Wk.nil ?_
    refine AW.seq ?_
    apply AW.draw (hm := hmix) (cs := _)
    · apply Wk.mv (by conv => lhs; whnf) (lt_of_ble rfl)
      apply Wk.mv (by conv => lhs; whnf) (lt_of_ble rfl)
      apply Wk.nilc rfl (lt_of_ble rfl)
      apply Wk.fad 12 0 false fd109_1 rfl (lt_of_ble rfl)
      apply Wk.ld (i := 27) 1 false ty3 rfl rfl (by conv => lhs; whnf) (lt_of_ble rfl)
      apply Wk.mv (by conv => lhs; whnf) (lt_of_ble rfl)
      apply Wk.addi rfl rfl (by omega) (lt_of_ble rfl)
      apply Wk.bin rfl rfl (r := .int .i64 ((0 : Nat) : Int)) (fun w => by simp [go_sem]; rw [Int.tmod_eq_emod_of_nonneg (by omega)]; omega) (lt_of_ble rfl)
      apply Wk.nilc rfl (lt_of_ble rfl)
      apply Wk.fad 0 11 true fd109_0 rfl (lt_of_ble rfl)
      apply Wk.iap 3 4 true ua107 ty47 rfl rfl (show 0 < 4 by decide) (lt_of_ble rfl)
      apply Wk.ld (i := 27) 3 true ty47 rfl rfl (by conv => lhs; whnf) (lt_of_ble rfl)
      apply Wk.sto (i := 4) 3 true ty47 rfl rfl rfl rfl (Nat.le_of_ble_eq_true rfl) (lt_of_ble rfl)
      refine Wk.nil (AW.ret ?_)
      exact RetQ.ret ([(27, .var _)]) (.cons ⟨4, 0, _, _, _, rfl, rfl, ty47, rfl⟩ .nil) ⟨rfl, rfl⟩ (kept1 rfl)
    · rfl
    · rfl
  · skip
    refine Spec.intro (n := 17) (rv := [.cell 4 47]) Try.func98 rfl rfl rfl (by simp) fun C hN hX => ?_
    refine AW.seq ?_
    apply AW.list
    apply Wk.alc 4 [.int .i64 0, .int .i64 0, .slice none 0 0] ze47 rfl rfl (lt_of_ble rfl)
    refine Wk.nil ?_
    refine AW.seq ?_
    apply AW.draw (hm := hmix) (cs := _)
    · apply Wk.mv (by conv => lhs; whnf) (lt_of_ble rfl)
      apply Wk.mv (by conv => lhs; whnf) (lt_of_ble rfl)
      apply Wk.nilc rfl (lt_of_ble rfl)
      apply Wk.fad 12 0 false fd109_1 rfl (lt_of_ble rfl)
      apply Wk.ld (i := 27) 1 false ty3 rfl rfl (by conv => lhs; whnf) (lt_of_ble rfl)
      apply Wk.mv (by conv => lhs; whnf) (lt_of_ble rfl)
      apply Wk.addi rfl rfl (by omega) (lt_of_ble rfl)
      apply Wk.bin rfl rfl (r := .int .i64 ((1 : Nat) : Int)) (fun w => by simp [go_sem]; rw [Int.tmod_eq_emod_of_nonneg (by omega)]; omega) (lt_of_ble rfl)
      apply Wk.nilc rfl (lt_of_ble rfl)
      apply Wk.fad 0 11 true fd109_0 rfl (lt_of_ble rfl)
      apply Wk.iap 3 4 true ua107 ty47 rfl rfl (show 1 < 4 by decide) (lt_of_ble rfl)
      apply Wk.ld (i := 27) 3 true ty47 rfl rfl (by conv => lhs; whnf) (lt_of_ble rfl)
      apply Wk.sto (i := 4) 3 true ty47 rfl rfl rfl rfl (Nat.le_of_ble_eq_true rfl) (lt_of_ble rfl)
      refine Wk.nil (AW.ret ?_)
      exact RetQ.ret ([(27, .var _)]) (.cons ⟨4, 0, _, _, _, rfl, rfl, ty47, rfl⟩ .nil) ⟨rfl, rfl⟩ (kept1 rfl)
    · rfl
    · rfl
  · skip
    refine Spec.intro (n := 17) (rv := [.cell 4 47]) Try.func98 rfl rfl rfl (by simp) fun C hN hX => ?_
    refine AW.seq ?_
    apply AW.list
    apply Wk.alc 4 [.int .i64 0, .int .i64 0, .slice none 0 0] ze47 rfl rfl (lt_of_ble rfl)
    refine Wk.nil ?_
    refine AW.seq ?_
    apply AW.draw (hm := hmix) (cs := _)
    · apply Wk.mv (by conv => lhs; whnf) (lt_of_ble rfl)
      apply Wk.mv (by conv => lhs; whnf) (lt_of_ble rfl)
      apply Wk.nilc rfl (lt_of_ble rfl)
      apply Wk.fad 12 0 false fd109_1 rfl (lt_of_ble rfl)
      apply Wk.ld (i := 27) 1 false ty3 rfl rfl (by conv => lhs; whnf) (lt_of_ble rfl)
      apply Wk.mv (by conv => lhs; whnf) (lt_of_ble rfl)
      apply Wk.addi rfl rfl (by omega) (lt_of_ble rfl)
      apply Wk.bin rfl rfl (r := .int .i64 ((2 : Nat) : Int)) (fun w => by simp [go_sem]; rw [Int.tmod_eq_emod_of_nonneg (by omega)]; omega) (lt_of_ble rfl)
      apply Wk.nilc rfl (lt_of_ble rfl)
      apply Wk.fad 0 11 true fd109_0 rfl (lt_of_ble rfl)
      apply Wk.iap 3 4 true ua107 ty47 rfl rfl (show 2 < 4 by decide) (lt_of_ble rfl)
      apply Wk.ld (i := 27) 3 true ty47 rfl rfl (by conv => lhs; whnf) (lt_of_ble rfl)
      apply Wk.sto (i := 4) 3 true ty47 rfl rfl rfl rfl (Nat.le_of_ble_eq_true rfl) (lt_of_ble rfl)
      refine Wk.nil (AW.ret ?_)
      exact RetQ.ret ([(27, .var _)]) (.cons ⟨4, 0, _, _, _, rfl, rfl, ty47, rfl⟩ .nil) ⟨rfl, rfl⟩ (kept1 rfl)
    · rfl
    · rfl
  · skip
    refine Spec.intro (n := 17) (rv := [.cell 4 47]) Try.func98 rfl rfl rfl (by simp) fun C hN hX => ?_
    refine AW.seq ?_
    apply AW.list
    apply Wk.alc 4 [.int .i64 0, .int .i64 0, .slice none 0 0] ze47 rfl rfl (lt_of_ble rfl)
    refine Wk.nil ?_
    refine AW.seq ?_
    apply AW.draw (hm := hmix) (cs := _)
    · apply Wk.mv (by conv => lhs; whnf) (lt_of_ble rfl)
      apply Wk.mv (by conv => lhs; whnf) (lt_of_ble rfl)
      apply Wk.nilc rfl (lt_of_ble rfl)
      apply Wk.fad 12 0 false fd109_1 rfl (lt_of_ble rfl)
      apply Wk.ld (i := 27) 1 false ty3 rfl rfl (by conv => lhs; whnf) (lt_of_ble rfl)
      apply Wk.mv (by conv => lhs; whnf) (lt_of_ble rfl)
      apply Wk.addi rfl rfl (by omega) (lt_of_ble rfl)
      apply Wk.bin rfl rfl (r := .int .i64 ((3 : Nat) : Int)) (fun w => by simp [go_sem]; rw [Int.tmod_eq_emod_of_nonneg (by omega)]; omega) (lt_of_ble rfl)
      apply Wk.nilc rfl (lt_of_ble rfl)
      apply Wk.fad 0 11 true fd109_0 rfl (lt_of_ble rfl)
      apply Wk.iap 3 4 true ua107 ty47 rfl rfl (show 3 < 4 by decide) (lt_of_ble rfl)
      apply Wk.ld (i := 27) 3 true ty47 rfl rfl (by conv => lhs; whnf) (lt_of_ble rfl)
      apply Wk.sto (i := 4) 3 true ty47 rfl rfl rfl rfl (Nat.le_of_ble_eq_true rfl) (lt_of_ble rfl)
      refine Wk.nil (AW.ret ?_)
      exact RetQ.ret ([(27, .var _)]) (.cons ⟨4, 0, _, _, _, rfl, rfl, ty47, rfl⟩ .nil) ⟨rfl, rfl⟩ (kept1 rfl)
    · rfl
    · rfl
set_option maxHeartbeats 8000000 in
set_option maxRecDepth 100000 in
theorem ilistD (m w p u y a : Int) (f : Nat → Sl) (s : Int) (Q : D) (q : Bool) (t : Int) (hh : Bool) (c : Int) (dd : Bool) (h : Nat) (L : List Dat) (hh1 : h ≤ 4) (hn : L.length ≤ 4) (hL : ∀ i d, L[i]? = some d → f ((h + i) % 4) = sl (some d)) : Spec Try.prog 91 [.ptr 27 6] ([(27, .var (sndD m w p u y a f (h : Int) (L.length : Int) s Q q t hh c dd))]) (fun r bs => r = flV L ∧ bs = [(27, .var (sndD m w p u y a f (h : Int) (L.length : Int) s Q q t hh c dd))] ++ flX L) := by
  refine Spec.intro (n := 20) (rv := [.tmp 2]) Try.func91 rfl rfl rfl (by simp) fun C hN hX => ?_
  refine AW.seq ?_
  apply AW.list
  apply Wk.asg (by conv => lhs; whnf) (lt_of_ble rfl)
  refine Wk.nil ?_
  refine AW.seq ?_
  apply AW.list
  apply Wk.asg (by conv => lhs; whnf) (lt_of_ble rfl)
  refine Wk.nil ?_
  refine AW.seq (AW.seq ?_)
  apply AW.list
  apply Wk.mv (by conv => lhs; whnf) (lt_of_ble rfl)
  apply Wk.nilc rfl (lt_of_ble rfl)
  apply Wk.fad 13 0 false fd109_2 rfl (lt_of_ble rfl)
  apply Wk.ld (i := 27) 1 false ty3 rfl rfl (by conv => lhs; whnf) (lt_of_ble rfl)
  apply Wk.mv (by conv => lhs; whnf) (lt_of_ble rfl)
  refine Wk.nil (AW.block ?_)
  let inv : Nat → St := fun k => match k with
    | 0 => St.of 20 [(0, .ptr 27 6), (3, .d (.v (.slice none 0 0))), (8, .d (.v (.int .i64 (L.length : Int)))), (9, .d (.v (.int .i64 0)))] [(27, .var (sndD m w p u y a f (h : Int) (L.length : Int) s Q q t hh c dd))]
    | k + 1 => St.of 20 [(0, .ptr 27 6), (3, .own 17 k), (8, .d (.v (.int .i64 (L.length : Int)))), (9, .d (.v (.int .i64 ((k + 1 : Nat) : Int))))] [(27, .var (sndD m w p u y a f (h : Int) (L.length : Int) s Q q t hh c dd)), (17, .own k 47 3 (piecesA (L.take (k + 1))))]
  refine AW.loop inv (fun k => k ≤ L.length) (fun k => L.length - k) 0 (Nat.zero_le _) ?_ ?_
  · exact fun a w => Rel.keep ⟨rfl, .cons rfl rfl (.cons rfl rfl (.cons rfl rfl (.cons rfl rfl .nil))), .cons rfl rfl .nil, hN.mono (by simp [keys])⟩
  rintro k hk
  cases k with
  | zero =>
    show AW Try.prog C _ _ (St.of 20 [(0, .ptr 27 6), (3, .d (.v (.slice none 0 0))), (8, .d (.v (.int .i64 (L.length : Int)))), (9, .d (.v (.int .i64 0)))] [(27, .var (sndD m w p u y a f (h : Int) (L.length : Int) s Q q t hh c dd))])
    refine AW.seq ?_
    by_cases hlt : 0 < L.length
    · obtain ⟨d, hd⟩ : ∃ d, L[0]? = some d := ⟨_, List.getElem?_eq_getElem hlt⟩
      have htk : L.take 1 = L.take 0 ++ [d] := by rw [List.take_add_one, hd]; rfl
      have cat := iatD m w p u y a f s Q q t hh c dd h 0 (L.length : Int) hh1 (by omega) _ rfl
      rw [hL 0 d hd] at cat
      apply AW.list
      apply Wk.bin rfl rfl (r := .bool true) (fun w => by simp [go_sem] <;> omega) (lt_of_ble rfl)
      refine Wk.nil ?_
      refine AW.seq ?_
      refine AW.cond rfl (fun _ => AW.skip ?_) (fun hc => by cases hc)
      repeat (first | refine thenA_normal ?_ | refine inBlockA_normal ?_)
      refine AW.seq (AW.block (AW.seq ?_))
      apply AW.list
      apply Wk.mv (by conv => lhs; whnf) (lt_of_ble rfl)
      apply Wk.asg (by conv => lhs; whnf) (lt_of_ble rfl)
      refine Wk.nil ?_
      repeat (first | refine thenA_normal ?_ | refine inBlockA_normal ?_)
      apply AW.list
      apply Wk.mv (by conv => lhs; whnf) (lt_of_ble rfl)
      apply Wk.mv (by conv => lhs; whnf) (lt_of_ble rfl)
      apply Wk.mv (by conv => lhs; whnf) (lt_of_ble rfl)
      apply Wk.cal [27] [] cat (in_sndD _ rfl _ _ _ _ _ _ _ _ _ _ _ _ _ _ _ _) ⟨_, _, rfl, rfl⟩ Try.func98 rfl rfl rfl rfl (fun i hi => by cases hi) rfl (one_in rfl) (lt_of_ble rfl)
      rintro r bs' ⟨rfl, rfl⟩
      apply Wk.lst 16 3 true [.int .i64 0, .int .i64 0, .slice none 0 0] un25 ty47 ze47 rfl rfl (by rfl) (by rfl) (by decide) (by decide) rfl rfl (all_len rfl) (lt_of_ble rfl)
      apply Wk.appNO 17 16 3 un25 ap47 rfl rfl rfl rfl (by decide) (all_len rfl) (by simp) (lt_of_ble rfl)
      apply Wk.asg (by conv => lhs; whnf) (lt_of_ble rfl)
      refine Wk.nil ?_
      repeat (first | refine thenA_normal ?_ | refine inBlockA_normal ?_)
      apply AW.list
      apply Wk.addi rfl rfl (by omega) (lt_of_ble rfl)
      apply Wk.mv (by conv => lhs; whnf) (lt_of_ble rfl)
      refine Wk.nil ?_
      refine ⟨1, by omega, by omega, ?_⟩
      refine fun a w => Rel.keep ⟨rfl, .cons rfl rfl (.cons rfl rfl (.cons rfl rfl (.cons rfl rfl .nil))), .cons rfl rfl (.cons ?_ (by exact within_parts _) .nil), hN.mono (by simp [keys])⟩
      simp only [htk, piecesA, List.map_append]
      rfl
    · have hlen : L.length = 0 := by omega
      apply AW.list
      apply Wk.bin rfl rfl (r := .bool false) (fun w => by rw [hlen]; simp [go_sem]) (lt_of_ble rfl)
      refine Wk.nil ?_
      refine AW.seq ?_
      refine AW.cond rfl (fun hc => by cases hc) (fun _ => AW.exit ?_)
      repeat (first | refine inBlockA_same ?_ | refine thenA_exit ?_)
      repeat (first | refine thenA_normal ?_ | refine inBlockA_normal ?_)
      refine AW.seq ?_
      apply AW.list
      apply Wk.mv (by conv => lhs; whnf) (lt_of_ble rfl)
      apply Wk.asg (by conv => lhs; whnf) (lt_of_ble rfl)
      refine Wk.nil ?_
      refine AW.ret ?_
      repeat (first | refine thenA_ret ?_ | refine inBlockA_ret ?_)
      obtain rfl : L = [] := List.length_eq_zero_iff.1 hlen
      exact RetQ.ret ([(27, .var _)]) (.cons rfl .nil) ⟨rfl, rfl⟩ (kept1 rfl)
  | succ k =>
    show AW Try.prog C _ _ (St.of 20 [(0, .ptr 27 6), (3, .own 17 k), (8, .d (.v (.int .i64 (L.length : Int)))), (9, .d (.v (.int .i64 ((k + 1 : Nat) : Int))))] [(27, .var (sndD m w p u y a f (h : Int) (L.length : Int) s Q q t hh c dd)), (17, .own k 47 3 (piecesA (L.take (k + 1))))])
    refine AW.seq ?_
    by_cases hlt : (k + 1) < L.length
    · obtain ⟨d, hd⟩ : ∃ d, L[(k + 1)]? = some d := ⟨_, List.getElem?_eq_getElem hlt⟩
      have htk : L.take ((k + 1) + 1) = L.take (k + 1) ++ [d] := by rw [List.take_add_one, hd]; rfl
      have cat := iatD m w p u y a f s Q q t hh c dd h (k + 1) (L.length : Int) hh1 (by omega) _ rfl
      rw [hL (k + 1) d hd] at cat
      apply AW.list
      apply Wk.bin rfl rfl (r := .bool true) (fun w => by simp [go_sem] <;> omega) (lt_of_ble rfl)
      refine Wk.nil ?_
      refine AW.seq ?_
      refine AW.cond rfl (fun _ => AW.skip ?_) (fun hc => by cases hc)
      repeat (first | refine thenA_normal ?_ | refine inBlockA_normal ?_)
      refine AW.seq (AW.block (AW.seq ?_))
      apply AW.list
      apply Wk.mv (by conv => lhs; whnf) (lt_of_ble rfl)
      apply Wk.asg (by conv => lhs; whnf) (lt_of_ble rfl)
      refine Wk.nil ?_
      repeat (first | refine thenA_normal ?_ | refine inBlockA_normal ?_)
      apply AW.list
      apply Wk.mv (by conv => lhs; whnf) (lt_of_ble rfl)
      apply Wk.mv (by conv => lhs; whnf) (lt_of_ble rfl)
      apply Wk.mv (by conv => lhs; whnf) (lt_of_ble rfl)
      apply Wk.cal [27] [] cat (in_sndD _ rfl _ _ _ _ _ _ _ _ _ _ _ _ _ _ _ _) ⟨_, _, rfl, rfl⟩ Try.func98 rfl rfl rfl rfl (fun i hi => by cases hi) rfl (one_in rfl) (lt_of_ble rfl)
      rintro r bs' ⟨rfl, rfl⟩
      apply Wk.lst 16 3 true [.int .i64 0, .int .i64 0, .slice none 0 0] un25 ty47 ze47 rfl rfl (by rfl) (by rfl) (by decide) (by decide) rfl rfl (all_len rfl) (lt_of_ble rfl)
      apply Wk.appOO 17 16 3 un25 ap47 rfl rfl rfl rfl (by decide) (all_len rfl) (three_parts _) (by simp [piecesA]; omega) (lt_of_ble rfl)
      apply Wk.asg (by conv => lhs; whnf) (lt_of_ble rfl)
      refine Wk.nil ?_
      repeat (first | refine thenA_normal ?_ | refine inBlockA_normal ?_)
      apply AW.list
      apply Wk.addi rfl rfl (by omega) (lt_of_ble rfl)
      apply Wk.mv (by conv => lhs; whnf) (lt_of_ble rfl)
      refine Wk.nil ?_
      refine ⟨k + 1 + 1, by omega, by omega, ?_⟩
      refine fun a w => Rel.keep ⟨rfl, .cons rfl rfl (.cons rfl rfl (.cons rfl rfl (.cons rfl rfl .nil))), .cons rfl rfl (.cons ?_ (by exact within_parts _) .nil), hN.mono (by simp [keys])⟩
      simp only [htk, piecesA, List.map_append]
      rfl
    · have hlen : L.length = k + 1 := by omega
      apply AW.list
      apply Wk.bin rfl rfl (r := .bool false) (fun w => by rw [hlen]; simp [go_sem]) (lt_of_ble rfl)
      refine Wk.nil ?_
      refine AW.seq ?_
      refine AW.cond rfl (fun hc => by cases hc) (fun _ => AW.exit ?_)
      repeat (first | refine inBlockA_same ?_ | refine thenA_exit ?_)
      repeat (first | refine thenA_normal ?_ | refine inBlockA_normal ?_)
      refine AW.seq ?_
      apply AW.list
      apply Wk.mv (by conv => lhs; whnf) (lt_of_ble rfl)
      apply Wk.asg (by conv => lhs; whnf) (lt_of_ble rfl)
      refine Wk.nil ?_
      refine AW.ret ?_
      repeat (first | refine thenA_ret ?_ | refine inBlockA_ret ?_)
      have hne : L ≠ [] := fun e => by rw [e] at hlen; cases hlen
      have e1 : flV L = .own 17 k := by rw [flV, if_neg hne, hlen]; rfl
      have e2 : flX L = [(17, .own k 47 3 (piecesA (L.take (k + 1))))] := by rw [flX, if_neg hne, ← hlen, List.take_length, hlen]; rfl
      rw [e1, e2]
      exact RetQ.ret [(27, .var (sndD m w p u y a f (h : Int) (L.length : Int) s Q q t hh c dd)), (17, .own k 47 3 (piecesA (L.take (k + 1))))] (.cons rfl .nil) ⟨rfl, rfl⟩ (kept2 rfl rfl)
theorem st_fillOD (n a s : Int) (k : Nat) (q : Bool) (t : Int) (hh : Bool) (c : Int) (dd : Bool) : fillA ([(0, 1), (1, 1), (2, 1), (3, 1), (4, 1), (5, 1), (6, 1), (7, 1), (8, 1), (9, 1)][·]?) (([.int .i64 0, .int .i64 0, .slice none 0 0, .int .i64 0, .slice none 0 0, .bool false, .int .i64 0, .bool false, .int .i64 0, .bool false] : List Value).map fun x => .d (.v x)) [(0, .d (.v (.int .i64 n))), (1, .d (.v (.int .i64 a))), (2, .own 17 k), (3, .d (.v (.int .i64 s))), (4, .d (.v (.slice none 0 0))), (5, .d (.v (.bool q))), (6, .d (.v (.int .i64 t))), (7, .d (.v (.bool hh))), (8, .d (.v (.int .i64 c))), (9, .d (.v (.bool dd)))] = some [.d (.v (.int .i64 n)), .d (.v (.int .i64 a)), .own 17 k, .d (.v (.int .i64 s)), .d (.v (.slice none 0 0)), .d (.v (.bool q)), .d (.v (.int .i64 t)), .d (.v (.bool hh)), .d (.v (.int .i64 c)), .d (.v (.bool dd))] := by
  simp [fillA, setA, cellsA, Value.oneCell']
theorem st_fillND (n a s : Int) (q : Bool) (t : Int) (hh : Bool) (c : Int) (dd : Bool) : fillA ([(0, 1), (1, 1), (2, 1), (3, 1), (4, 1), (5, 1), (6, 1), (7, 1), (8, 1), (9, 1)][·]?) (([.int .i64 0, .int .i64 0, .slice none 0 0, .int .i64 0, .slice none 0 0, .bool false, .int .i64 0, .bool false, .int .i64 0, .bool false] : List Value).map fun x => .d (.v x)) [(0, .d (.v (.int .i64 n))), (1, .d (.v (.int .i64 a))), (2, .d (.v (.slice none 0 0))), (3, .d (.v (.int .i64 s))), (4, .d (.v (.slice none 0 0))), (5, .d (.v (.bool q))), (6, .d (.v (.int .i64 t))), (7, .d (.v (.bool hh))), (8, .d (.v (.int .i64 c))), (9, .d (.v (.bool dd)))] = some [.d (.v (.int .i64 n)), .d (.v (.int .i64 a)), .d (.v (.slice none 0 0)), .d (.v (.int .i64 s)), .d (.v (.slice none 0 0)), .d (.v (.bool q)), .d (.v (.int .i64 t)), .d (.v (.bool hh)), .d (.v (.int .i64 c)), .d (.v (.bool dd))] := by
  simp [fillA, setA, cellsA, Value.oneCell']
def stAD (n a : Int) (F : A) (s : Int) (Q : D) (q : Bool) (t : Int) (hh : Bool) (c : Int) (dd : Bool) : A := .agg [.d (.v (.int .i64 n)), .d (.v (.int .i64 a)), F, .d (.v (.int .i64 s)), .d Q, .d (.v (.bool q)), .d (.v (.int .i64 t)), .d (.v (.bool hh)), .d (.v (.int .i64 c)), .d (.v (.bool dd))]
theorem in_sndFD (r0 : A) (hr : r0.within [27, 17] = true) (m w p u y a : Int) (f : Nat → Sl) (h k s : Int) (Q : D) (q : Bool) (t : Int) (hh : Bool) (c : Int) (d : Bool) (L : List Dat) : PostIn [27, 17] (fun r bs => r = r0 ∧ bs = [(27, .var (sndD m w p u y a f h k s Q q t hh c d))] ++ flX L) := by
  rintro r bs ⟨rfl, rfl⟩
  refine ⟨hr, fun i z hz => ?_⟩
  rcases lookup_app hz with h | h
  · obtain ⟨rfl, rfl⟩ := lookup1 h
    exact ⟨by simp, by simp [Bx.within, sndD, A.withins, A.within]⟩
  · have := flX_in h
    exact ⟨by have h1 := this.1; simp at h1 ⊢; omega, within_up this.2 (fun i hi => by simp at hi ⊢; omega)⟩
theorem flV_inD (L : List Dat) : (flV L).within [27, 17] = true := by
  unfold flV
  split <;> simp [A.within]
set_option maxHeartbeats 1000000 in
set_option maxRecDepth 100000 in
theorem istateND (m w p u y a : Int) (f : Nat → Sl) (s : Int) (q : Bool) (t : Int) (hh : Bool) (c : Int) (dd : Bool) (h : Nat) (hh1 : h ≤ 4) (hn : ([] : List Dat).length ≤ 4) (hL : ∀ i d, ([] : List Dat)[i]? = some d → f ((h + i) % 4) = sl (some d)) (ha : 0 ≤ a ∧ a < 8) :
    Spec Try.prog 53 [.ptr 27 0] ([(27, .var (sndD m w p u y a f (h : Int) (([] : List Dat).length : Int) s (.v (.slice none 0 0)) q t hh c dd))]) (fun r bs => r = stAD ((a + (([] : List Dat).length : Int)) % 8) a (flV []) s (.v (.slice none 0 0)) q t hh c dd ∧ bs = [(27, .var (sndD m w p u y a f (h : Int) (([] : List Dat).length : Int) s (.v (.slice none 0 0)) q t hh c dd))] ++ flX []) := by
  have c1 := ion_ok a (([] : List Dat).length : Int) ha (by omega)
  have c2 := ilistD m w p u y a f s (.v (.slice none 0 0)) q t hh c dd h [] hh1 hn hL
  refine Spec.intro (n := 50) (rv := [.cell 2 27]) Try.func53 rfl rfl rfl (by simp) fun C hN hX => ?_
  refine AW.seq ?_
  apply AW.list
  apply Wk.alc 2 [.int .i64 0, .int .i64 0, .slice none 0 0, .int .i64 0, .slice none 0 0, .bool false, .int .i64 0, .bool false, .int .i64 0, .bool false] ze27 rfl rfl (lt_of_ble rfl)
  refine Wk.nil ?_
  refine AW.seq ?_
  apply AW.draw (hm := hmix) (cs := _)
  · apply Wk.mv (by conv => lhs; whnf) (lt_of_ble rfl)
    apply Wk.nilc rfl (lt_of_ble rfl)
    apply Wk.fad 5 0 false fd111_1 rfl (lt_of_ble rfl)
    apply Wk.ld (i := 27) 1 false ty92 rfl rfl (by conv => lhs; whnf) (lt_of_ble rfl)
    apply Wk.mv (by conv => lhs; whnf) (lt_of_ble rfl)
    apply Wk.nilc rfl (lt_of_ble rfl)
    apply Wk.fad 6 13 true fd111_2 rfl (lt_of_ble rfl)
    apply Wk.fad 13 0 false fd109_2 rfl (lt_of_ble rfl)
    apply Wk.ld (i := 27) 1 false ty3 rfl rfl (by conv => lhs; whnf) (lt_of_ble rfl)
    apply Wk.dat c1 Try.func90 rfl rfl rfl rfl rfl (lt_of_ble rfl)
    apply Wk.mv (by conv => lhs; whnf) (lt_of_ble rfl)
    apply Wk.nilc rfl (lt_of_ble rfl)
    apply Wk.fad 5 0 false fd111_1 rfl (lt_of_ble rfl)
    apply Wk.ld (i := 27) 1 false ty92 rfl rfl (by conv => lhs; whnf) (lt_of_ble rfl)
    apply Wk.mv (by conv => lhs; whnf) (lt_of_ble rfl)
    apply Wk.nilc rfl (lt_of_ble rfl)
    apply Wk.fad 6 13 true fd111_2 rfl (lt_of_ble rfl)
    apply Wk.calr [27] [17] c2 (in_sndFD _ rfl _ _ _ _ _ _ _ _ _ _ _ _ _ _ _ _ []) (by rintro r bs' ⟨rfl, rfl⟩; exact keep1) ⟨_, _, rfl, rfl⟩ Try.func91 rfl rfl rfl rfl (by simp; rfl) rfl (one_in rfl) (lt_of_ble rfl)
    rintro r bs' ⟨rfl, rfl⟩
    apply Wk.mv (by conv => lhs; whnf) (lt_of_ble rfl)
    apply Wk.nilc rfl (lt_of_ble rfl)
    apply Wk.fad 20 0 false fd111_3 rfl (lt_of_ble rfl)
    apply Wk.ld (i := 27) 1 false ty3 rfl rfl (by conv => lhs; whnf) (lt_of_ble rfl)
    apply Wk.mv (by conv => lhs; whnf) (lt_of_ble rfl)
    apply Wk.nilc rfl (lt_of_ble rfl)
    apply Wk.fad 21 0 false fd111_4 rfl (lt_of_ble rfl)
    apply Wk.ld (i := 27) 1 false ty25 rfl rfl (by conv => lhs; whnf) (lt_of_ble rfl)
    apply Wk.mv (by conv => lhs; whnf) (lt_of_ble rfl)
    apply Wk.nilc rfl (lt_of_ble rfl)
    apply Wk.fad 22 0 false fd111_5 rfl (lt_of_ble rfl)
    apply Wk.ld (i := 27) 1 false ty4 rfl rfl (by conv => lhs; whnf) (lt_of_ble rfl)
    apply Wk.mv (by conv => lhs; whnf) (lt_of_ble rfl)
    apply Wk.nilc rfl (lt_of_ble rfl)
    apply Wk.fad 23 0 false fd111_6 rfl (lt_of_ble rfl)
    apply Wk.ld (i := 27) 1 false ty3 rfl rfl (by conv => lhs; whnf) (lt_of_ble rfl)
    apply Wk.mv (by conv => lhs; whnf) (lt_of_ble rfl)
    apply Wk.nilc rfl (lt_of_ble rfl)
    apply Wk.fad 24 0 false fd111_7 rfl (lt_of_ble rfl)
    apply Wk.ld (i := 27) 1 false ty4 rfl rfl (by conv => lhs; whnf) (lt_of_ble rfl)
    apply Wk.mv (by conv => lhs; whnf) (lt_of_ble rfl)
    apply Wk.nilc rfl (lt_of_ble rfl)
    apply Wk.fad 25 0 false fd111_8 rfl (lt_of_ble rfl)
    apply Wk.ld (i := 27) 1 false ty3 rfl rfl (by conv => lhs; whnf) (lt_of_ble rfl)
    apply Wk.mv (by conv => lhs; whnf) (lt_of_ble rfl)
    apply Wk.nilc rfl (lt_of_ble rfl)
    apply Wk.fad 26 0 false fd111_9 rfl (lt_of_ble rfl)
    apply Wk.ld (i := 27) 1 false ty4 rfl rfl (by conv => lhs; whnf) (lt_of_ble rfl)
    apply Wk.bld [.int .i64 0, .int .i64 0, .slice none 0 0, .int .i64 0, .slice none 0 0, .bool false, .int .i64 0, .bool false, .int .i64 0, .bool false] [(0, 1), (1, 1), (2, 1), (3, 1), (4, 1), (5, 1), (6, 1), (7, 1), (8, 1), (9, 1)] bl27 rfl (by exact st_fillND ((a + (([] : List Dat).length : Int)) % 8) a s q t hh c dd) (lt_of_ble rfl)
    apply Wk.sto (i := 2) 10 true ty27 rfl rfl rfl rfl (Nat.le_of_ble_eq_true rfl) (lt_of_ble rfl)
    refine Wk.nil (AW.ret ?_)
    exact RetQ.ret ([(27, .var _)]) (.cons ⟨2, 0, _, _, _, rfl, rfl, ty27, rfl⟩ .nil) ⟨rfl, rfl⟩ (kept1 rfl)
  · rfl
  · rfl
set_option maxHeartbeats 1000000 in
set_option maxRecDepth 100000 in
theorem istateOD (m w p u y a : Int) (f : Nat → Sl) (s : Int) (q : Bool) (t : Int) (hh : Bool) (c : Int) (dd : Bool) (h : Nat) (L : List Dat) (hne : L ≠ []) (hh1 : h ≤ 4) (hn : (L : List Dat).length ≤ 4) (hL : ∀ i d, (L : List Dat)[i]? = some d → f ((h + i) % 4) = sl (some d)) (ha : 0 ≤ a ∧ a < 8) :
    Spec Try.prog 53 [.ptr 27 0] ([(27, .var (sndD m w p u y a f (h : Int) ((L : List Dat).length : Int) s (.v (.slice none 0 0)) q t hh c dd))]) (fun r bs => r = stAD ((a + ((L : List Dat).length : Int)) % 8) a (flV L) s (.v (.slice none 0 0)) q t hh c dd ∧ bs = [(27, .var (sndD m w p u y a f (h : Int) ((L : List Dat).length : Int) s (.v (.slice none 0 0)) q t hh c dd))] ++ flX L) := by
  have c1 := ion_ok a ((L : List Dat).length : Int) ha (by omega)
  have c2 := ilistD m w p u y a f s (.v (.slice none 0 0)) q t hh c dd h L hh1 hn hL
  have ev : flV L = .own 17 (L.length - 1) := if_neg hne
  have ex : flX L = [(17, .own (L.length - 1) 47 3 (piecesA L))] := if_neg hne
  have ip := in_sndFD (flV L) (flV_inD L) m w p u y a f (h : Int) (L.length : Int) s (.v (.slice none 0 0)) q t hh c dd L
  rw [ev, ex] at c2 ip
  rw [ev, ex]
  refine Spec.intro (n := 50) (rv := [.cell 2 27]) Try.func53 rfl rfl rfl (by simp) fun C hN hX => ?_
  refine AW.seq ?_
  apply AW.list
  apply Wk.alc 2 [.int .i64 0, .int .i64 0, .slice none 0 0, .int .i64 0, .slice none 0 0, .bool false, .int .i64 0, .bool false, .int .i64 0, .bool false] ze27 rfl rfl (lt_of_ble rfl)
  refine Wk.nil ?_
  refine AW.seq ?_
  apply AW.draw (hm := hmix) (cs := _)
  · apply Wk.mv (by conv => lhs; whnf) (lt_of_ble rfl)
    apply Wk.nilc rfl (lt_of_ble rfl)
    apply Wk.fad 5 0 false fd111_1 rfl (lt_of_ble rfl)
    apply Wk.ld (i := 27) 1 false ty92 rfl rfl (by conv => lhs; whnf) (lt_of_ble rfl)
    apply Wk.mv (by conv => lhs; whnf) (lt_of_ble rfl)
    apply Wk.nilc rfl (lt_of_ble rfl)
    apply Wk.fad 6 13 true fd111_2 rfl (lt_of_ble rfl)
    apply Wk.fad 13 0 false fd109_2 rfl (lt_of_ble rfl)
    apply Wk.ld (i := 27) 1 false ty3 rfl rfl (by conv => lhs; whnf) (lt_of_ble rfl)
    apply Wk.dat c1 Try.func90 rfl rfl rfl rfl rfl (lt_of_ble rfl)
    apply Wk.mv (by conv => lhs; whnf) (lt_of_ble rfl)
    apply Wk.nilc rfl (lt_of_ble rfl)
    apply Wk.fad 5 0 false fd111_1 rfl (lt_of_ble rfl)
    apply Wk.ld (i := 27) 1 false ty92 rfl rfl (by conv => lhs; whnf) (lt_of_ble rfl)
    apply Wk.mv (by conv => lhs; whnf) (lt_of_ble rfl)
    apply Wk.nilc rfl (lt_of_ble rfl)
    apply Wk.fad 6 13 true fd111_2 rfl (lt_of_ble rfl)
    apply Wk.calr [27] [17] c2 ip (by rintro r bs' ⟨rfl, rfl⟩; exact keep1) ⟨_, _, rfl, rfl⟩ Try.func91 rfl rfl rfl rfl (by simp; rfl) rfl (one_in rfl) (lt_of_ble rfl)
    rintro r bs' ⟨rfl, rfl⟩
    apply Wk.mv (by conv => lhs; whnf) (lt_of_ble rfl)
    apply Wk.nilc rfl (lt_of_ble rfl)
    apply Wk.fad 20 0 false fd111_3 rfl (lt_of_ble rfl)
    apply Wk.ld (i := 27) 1 false ty3 rfl rfl (by conv => lhs; whnf) (lt_of_ble rfl)
    apply Wk.mv (by conv => lhs; whnf) (lt_of_ble rfl)
    apply Wk.nilc rfl (lt_of_ble rfl)
    apply Wk.fad 21 0 false fd111_4 rfl (lt_of_ble rfl)
    apply Wk.ld (i := 27) 1 false ty25 rfl rfl (by conv => lhs; whnf) (lt_of_ble rfl)
    apply Wk.mv (by conv => lhs; whnf) (lt_of_ble rfl)
    apply Wk.nilc rfl (lt_of_ble rfl)
    apply Wk.fad 22 0 false fd111_5 rfl (lt_of_ble rfl)
    apply Wk.ld (i := 27) 1 false ty4 rfl rfl (by conv => lhs; whnf) (lt_of_ble rfl)
    apply Wk.mv (by conv => lhs; whnf) (lt_of_ble rfl)
    apply Wk.nilc rfl (lt_of_ble rfl)
    apply Wk.fad 23 0 false fd111_6 rfl (lt_of_ble rfl)
    apply Wk.ld (i := 27) 1 false ty3 rfl rfl (by conv => lhs; whnf) (lt_of_ble rfl)
    apply Wk.mv (by conv => lhs; whnf) (lt_of_ble rfl)
    apply Wk.nilc rfl (lt_of_ble rfl)
    apply Wk.fad 24 0 false fd111_7 rfl (lt_of_ble rfl)
    apply Wk.ld (i := 27) 1 false ty4 rfl rfl (by conv => lhs; whnf) (lt_of_ble rfl)
    apply Wk.mv (by conv => lhs; whnf) (lt_of_ble rfl)
    apply Wk.nilc rfl (lt_of_ble rfl)
    apply Wk.fad 25 0 false fd111_8 rfl (lt_of_ble rfl)
    apply Wk.ld (i := 27) 1 false ty3 rfl rfl (by conv => lhs; whnf) (lt_of_ble rfl)
    apply Wk.mv (by conv => lhs; whnf) (lt_of_ble rfl)
    apply Wk.nilc rfl (lt_of_ble rfl)
    apply Wk.fad 26 0 false fd111_9 rfl (lt_of_ble rfl)
    apply Wk.ld (i := 27) 1 false ty4 rfl rfl (by conv => lhs; whnf) (lt_of_ble rfl)
    apply Wk.bld [.int .i64 0, .int .i64 0, .slice none 0 0, .int .i64 0, .slice none 0 0, .bool false, .int .i64 0, .bool false, .int .i64 0, .bool false] [(0, 1), (1, 1), (2, 1), (3, 1), (4, 1), (5, 1), (6, 1), (7, 1), (8, 1), (9, 1)] bl27 rfl (by exact st_fillOD ((a + (L.length : Int)) % 8) a s (L.length - 1) q t hh c dd) (lt_of_ble rfl)
    apply Wk.sto (i := 2) 10 true ty27 rfl rfl rfl rfl (Nat.le_of_ble_eq_true rfl) (lt_of_ble rfl)
    refine Wk.nil (AW.ret ?_)
    exact RetQ.ret [(27, .var (sndD m w p u y a f (h : Int) (L.length : Int) s (.v (.slice none 0 0)) q t hh c dd)), (17, .own (L.length - 1) 47 3 (piecesA L))] (.cons ⟨2, 0, _, _, _, rfl, rfl, ty27, rfl⟩ .nil) ⟨rfl, rfl⟩ (kept2 rfl rfl)
  · rfl
  · rfl
end Go.Proofs.Ytdojkmjamilllaa

/- The sender's send, of the program, over what values read as. Written by tools/mk_AbsSendI.py. -/
namespace Go.Proofs.Ytdojkmjamilllaa
open Go Go.RowKit
set_option maxHeartbeats 4000000 in
set_option maxRecDepth 100000 in
theorem isetNo (m w p u y a : Int) (f : Nat → Sl) (k : Nat) (s : Int) (l : Nat) (q : Bool) (t : Int) (hh : Bool) (c : Int) (dd : Bool) (qu : List Dat) (hi : (k : Int) = w ∨ qu = [] ∨ c + (k : Int) = 9999) (hq : qu.length ≤ 1000) : Spec Try.prog 96 [.ptr 27 0] (sndB (sndC m w p u y a f 0 (k : Int) s l q t hh c dd) l qu) (fun r bs => r = .d (.v (.bool false)) ∧ bs = sndB (sndC m w p u y a f 0 (k : Int) s l q t hh c dd) l qu) := by
  have e3 : (((piecesA qu).length : Nat) : Int) = (qu.length : Int) := by rw [piecesA, List.length_map]
  refine Spec.intro (n := 52) (rv := [.tmp 2]) Try.func96 rfl rfl rfl (by simp) fun C hN hX => ?_
  refine AW.seq ?_
  apply AW.list
  apply Wk.asg (by conv => lhs; whnf) (lt_of_ble rfl)
  refine Wk.nil ?_
  refine AW.seq ?_
  apply AW.list
  apply Wk.mv (by conv => lhs; whnf) (lt_of_ble rfl)
  apply Wk.nilc rfl (lt_of_ble rfl)
  apply Wk.fad 6 13 true fd111_2 rfl (lt_of_ble rfl)
  apply Wk.fad 13 0 false fd109_2 rfl (lt_of_ble rfl)
  apply Wk.ld (i := 27) 1 false ty3 rfl rfl (by conv => lhs; whnf) (lt_of_ble rfl)
  apply Wk.asg (by conv => lhs; whnf) (lt_of_ble rfl)
  refine Wk.nil ?_
  refine AW.seq (AW.seq ?_)
  by_cases c1 : (k : Int) = w
  · skip
    apply AW.list
    apply Wk.mv (by conv => lhs; whnf) (lt_of_ble rfl)
    apply Wk.mv (by conv => lhs; whnf) (lt_of_ble rfl)
    apply Wk.nilc rfl (lt_of_ble rfl)
    apply Wk.fad 0 4 true fd111_0 rfl (lt_of_ble rfl)
    apply Wk.fad 1 0 false fd24_1 rfl (lt_of_ble rfl)
    apply Wk.ld (i := 27) 1 false ty3 rfl rfl (by conv => lhs; whnf) (lt_of_ble rfl)
    apply Wk.bin rfl rfl (r := .bool true) (fun w => by simp [go_sem] <;> omega) (lt_of_ble rfl)
    apply Wk.mv (by conv => lhs; whnf) (lt_of_ble rfl)
    apply Wk.goff 16 (ok_move _) rfl rfl (by simp)
    apply Wk.goff 16 (ok_nil _) rfl rfl (by simp)
    apply Wk.goff 16 (ok_faddr fd111_4) rfl rfl (by simp)
    apply Wk.goff 16 (ok_load 27 ty25) rfl rfl (by simp)
    apply Wk.goff 16 (ok_leno 66 un25) rfl rfl (by simp)
    apply Wk.goff 16 (ok_bin _ _ _ _ _) rfl rfl (by simp)
    apply Wk.pckT rfl (by conv => lhs; whnf) (lt_of_ble rfl)
    apply Wk.mv (by conv => lhs; whnf) (lt_of_ble rfl)
    apply Wk.goff 24 (ok_move _) rfl rfl (by simp)
    apply Wk.goff 24 (ok_nil _) rfl rfl (by simp)
    apply Wk.goff 24 (ok_faddr fd111_8) rfl rfl (by simp)
    apply Wk.goff 24 (ok_load 27 ty3) rfl rfl (by simp)
    apply Wk.goff 24 (ok_move _) rfl rfl (by simp)
    apply Wk.goff 24 (ok_bin _ _ _ _ _) rfl rfl (by simp)
    apply Wk.goff 24 (ok_bin _ _ _ _ _) rfl rfl (by simp)
    apply Wk.pckT rfl (by conv => lhs; whnf) (lt_of_ble rfl)
    refine Wk.nil ?_
    refine AW.cond rfl (fun _ => ?_) (fun hc => by cases hc)
    refine AW.seq ?_
    apply AW.list
    apply Wk.asg (by conv => lhs; whnf) (lt_of_ble rfl)
    refine Wk.nil (AW.ret ?_)
    repeat (first | refine thenA_ret ?_ | refine inBlockA_ret ?_)
    exact RetQ.ret (sndB _ l qu) (.cons rfl .nil) ⟨rfl, rfl⟩ (kept2 rfl rfl)
  · by_cases c2 : qu = []
    · subst c2
      apply AW.list
      apply Wk.mv (by conv => lhs; whnf) (lt_of_ble rfl)
      apply Wk.mv (by conv => lhs; whnf) (lt_of_ble rfl)
      apply Wk.nilc rfl (lt_of_ble rfl)
      apply Wk.fad 0 4 true fd111_0 rfl (lt_of_ble rfl)
      apply Wk.fad 1 0 false fd24_1 rfl (lt_of_ble rfl)
      apply Wk.ld (i := 27) 1 false ty3 rfl rfl (by conv => lhs; whnf) (lt_of_ble rfl)
      apply Wk.bin rfl rfl (r := .bool false) (fun w => by simp [go_sem] <;> omega) (lt_of_ble rfl)
      apply Wk.mv (by conv => lhs; whnf) (lt_of_ble rfl)
      apply Wk.gon 16 rfl rfl
      apply Wk.mv (by conv => lhs; whnf) (lt_of_ble rfl)
      apply Wk.gon 16 rfl rfl
      apply Wk.nilc rfl (lt_of_ble rfl)
      apply Wk.gon 16 rfl rfl
      apply Wk.fad 21 0 false fd111_4 rfl (lt_of_ble rfl)
      apply Wk.gon 16 rfl rfl
      apply Wk.ld (i := 27) 1 false ty25 rfl rfl (by conv => lhs; whnf) (lt_of_ble rfl)
      apply Wk.gon 16 rfl rfl
      apply Wk.leno (i := 66) un25 rfl rfl (lt_of_ble rfl)
      apply Wk.gon 16 rfl rfl
      apply Wk.bin rfl rfl (r := .bool true) (fun w => by simp [go_sem, piecesA]) (lt_of_ble rfl)
      apply Wk.pckF rfl (by conv => lhs; whnf) (lt_of_ble rfl)
      apply Wk.mv (by conv => lhs; whnf) (lt_of_ble rfl)
      apply Wk.goff 24 (ok_move _) rfl rfl (by simp)
      apply Wk.goff 24 (ok_nil _) rfl rfl (by simp)
      apply Wk.goff 24 (ok_faddr fd111_8) rfl rfl (by simp)
      apply Wk.goff 24 (ok_load 27 ty3) rfl rfl (by simp)
      apply Wk.goff 24 (ok_move _) rfl rfl (by simp)
      apply Wk.goff 24 (ok_bin _ _ _ _ _) rfl rfl (by simp)
      apply Wk.goff 24 (ok_bin _ _ _ _ _) rfl rfl (by simp)
      apply Wk.pckT rfl (by conv => lhs; whnf) (lt_of_ble rfl)
      refine Wk.nil ?_
      refine AW.cond rfl (fun _ => ?_) (fun hc => by cases hc)
      refine AW.seq ?_
      apply AW.list
      apply Wk.asg (by conv => lhs; whnf) (lt_of_ble rfl)
      refine Wk.nil (AW.ret ?_)
      repeat (first | refine thenA_ret ?_ | refine inBlockA_ret ?_)
      exact RetQ.ret (sndB _ l []) (.cons rfl .nil) ⟨rfl, rfl⟩ (kept2 rfl rfl)
    · have c3 : c + (k : Int) = 9999 := by rcases hi with h | h | h <;> first | exact absurd h c1 | exact absurd h c2 | exact h
      have hq0 : ¬ ((qu.length : Nat) : Int) = 0 := by have := List.length_pos_iff.2 c2; omega
      apply AW.list
      apply Wk.mv (by conv => lhs; whnf) (lt_of_ble rfl)
      apply Wk.mv (by conv => lhs; whnf) (lt_of_ble rfl)
      apply Wk.nilc rfl (lt_of_ble rfl)
      apply Wk.fad 0 4 true fd111_0 rfl (lt_of_ble rfl)
      apply Wk.fad 1 0 false fd24_1 rfl (lt_of_ble rfl)
      apply Wk.ld (i := 27) 1 false ty3 rfl rfl (by conv => lhs; whnf) (lt_of_ble rfl)
      apply Wk.bin rfl rfl (r := .bool false) (fun w => by simp [go_sem] <;> omega) (lt_of_ble rfl)
      apply Wk.mv (by conv => lhs; whnf) (lt_of_ble rfl)
      apply Wk.gon 16 rfl rfl
      apply Wk.mv (by conv => lhs; whnf) (lt_of_ble rfl)
      apply Wk.gon 16 rfl rfl
      apply Wk.nilc rfl (lt_of_ble rfl)
      apply Wk.gon 16 rfl rfl
      apply Wk.fad 21 0 false fd111_4 rfl (lt_of_ble rfl)
      apply Wk.gon 16 rfl rfl
      apply Wk.ld (i := 27) 1 false ty25 rfl rfl (by conv => lhs; whnf) (lt_of_ble rfl)
      apply Wk.gon 16 rfl rfl
      apply Wk.leno (i := 66) un25 rfl rfl (lt_of_ble rfl)
      apply Wk.gon 16 rfl rfl
      apply Wk.bin rfl rfl (r := .bool false) (fun w => by rw [e3]; simp [go_sem] <;> first | omega | exact c2) (lt_of_ble rfl)
      apply Wk.pckF rfl (by conv => lhs; whnf) (lt_of_ble rfl)
      apply Wk.mv (by conv => lhs; whnf) (lt_of_ble rfl)
      apply Wk.gon 24 rfl rfl
      apply Wk.mv (by conv => lhs; whnf) (lt_of_ble rfl)
      apply Wk.gon 24 rfl rfl
      apply Wk.nilc rfl (lt_of_ble rfl)
      apply Wk.gon 24 rfl rfl
      apply Wk.fad 25 0 false fd111_8 rfl (lt_of_ble rfl)
      apply Wk.gon 24 rfl rfl
      apply Wk.ld (i := 27) 1 false ty3 rfl rfl (by conv => lhs; whnf) (lt_of_ble rfl)
      apply Wk.gon 24 rfl rfl
      apply Wk.mv (by conv => lhs; whnf) (lt_of_ble rfl)
      apply Wk.gon 24 rfl rfl
      apply Wk.addi rfl rfl (by omega) (lt_of_ble rfl)
      apply Wk.gon 24 rfl rfl
      apply Wk.bin rfl rfl (r := .bool true) (fun w => by simp [go_sem] <;> omega) (lt_of_ble rfl)
      apply Wk.pckF rfl (by conv => lhs; whnf) (lt_of_ble rfl)
      refine Wk.nil ?_
      refine AW.cond rfl (fun _ => ?_) (fun hc => by cases hc)
      refine AW.seq ?_
      apply AW.list
      apply Wk.asg (by conv => lhs; whnf) (lt_of_ble rfl)
      refine Wk.nil (AW.ret ?_)
      repeat (first | refine thenA_ret ?_ | refine inBlockA_ret ?_)
      exact RetQ.ret (sndB _ l qu) (.cons rfl .nil) ⟨rfl, rfl⟩ (kept2 rfl rfl)
set_option maxHeartbeats 4000000 in
set_option maxRecDepth 100000 in
theorem isetYes (m w p u y a : Int) (f : Nat → Sl) (k : Nat) (s : Int) (q : Bool) (t : Int) (hh : Bool) (c : Int) (dd : Bool) (e : Dat) (qs : List Dat) (hw : ¬ (k : Int) = w) (hk4 : k < 4) (hc : 0 ≤ c ∧ c ≤ 1000000) (h9 : ¬ c + (k : Int) = 9999) (hq : qs.length ≤ 1000) : Spec Try.prog 96 [.ptr 27 0] [(27, .var (sndD m w p u y a f 0 (k : Int) s (partsD (e :: qs)) q t hh c dd))] (fun r bs => r = .d (.v (.bool true)) ∧ bs = sndB (sndC m w p u y a (upd f k (sl (some e))) 0 ((k : Int) + 1) s 0 q t hh c dd) 0 qs) := by
  have cp := ipushD m w p u y a f s (partsD (e :: qs)) q t hh c dd k hk4 e
  have e4 : ((((e :: qs).map datD).length : Nat) : Int) = ((qs.length : Nat) : Int) + 1 := by simp
  have ez : ∀ c ∈ ((e :: qs).map datD), c.length = 3 := datD_len _
  refine Spec.intro (n := 52) (rv := [.tmp 2]) Try.func96 rfl rfl rfl (by simp) fun C hN hX => ?_
  refine AW.seq ?_
  apply AW.list
  apply Wk.asg (by conv => lhs; whnf) (lt_of_ble rfl)
  refine Wk.nil ?_
  refine AW.seq ?_
  apply AW.list
  apply Wk.mv (by conv => lhs; whnf) (lt_of_ble rfl)
  apply Wk.nilc rfl (lt_of_ble rfl)
  apply Wk.fad 6 13 true fd111_2 rfl (lt_of_ble rfl)
  apply Wk.fad 13 0 false fd109_2 rfl (lt_of_ble rfl)
  apply Wk.ld (i := 27) 1 false ty3 rfl rfl (by conv => lhs; whnf) (lt_of_ble rfl)
  apply Wk.asg (by conv => lhs; whnf) (lt_of_ble rfl)
  refine Wk.nil ?_
  refine AW.seq (AW.seq ?_)
  apply AW.list
  apply Wk.mv (by conv => lhs; whnf) (lt_of_ble rfl)
  apply Wk.mv (by conv => lhs; whnf) (lt_of_ble rfl)
  apply Wk.nilc rfl (lt_of_ble rfl)
  apply Wk.fad 0 4 true fd111_0 rfl (lt_of_ble rfl)
  apply Wk.fad 1 0 false fd24_1 rfl (lt_of_ble rfl)
  apply Wk.ld (i := 27) 1 false ty3 rfl rfl (by conv => lhs; whnf) (lt_of_ble rfl)
  apply Wk.bin rfl rfl (r := .bool false) (fun w => by simp [go_sem] <;> omega) (lt_of_ble rfl)
  apply Wk.mv (by conv => lhs; whnf) (lt_of_ble rfl)
  apply Wk.gon 16 rfl rfl
  apply Wk.mv (by conv => lhs; whnf) (lt_of_ble rfl)
  apply Wk.gon 16 rfl rfl
  apply Wk.nilc rfl (lt_of_ble rfl)
  apply Wk.gon 16 rfl rfl
  apply Wk.fad 21 0 false fd111_4 rfl (lt_of_ble rfl)
  apply Wk.gon 16 rfl rfl
  apply Wk.ld (i := 27) 1 false ty25 rfl rfl (by conv => lhs; whnf) (lt_of_ble rfl)
  apply Wk.gon 16 rfl rfl
  apply Wk.len un25 rfl (lt_of_ble rfl)
  apply Wk.gon 16 rfl rfl
  apply Wk.bin rfl rfl (r := .bool false) (fun w => by rw [e4]; simp [go_sem] <;> omega) (lt_of_ble rfl)
  apply Wk.pckF rfl (by conv => lhs; whnf) (lt_of_ble rfl)
  apply Wk.mv (by conv => lhs; whnf) (lt_of_ble rfl)
  apply Wk.gon 24 rfl rfl
  apply Wk.mv (by conv => lhs; whnf) (lt_of_ble rfl)
  apply Wk.gon 24 rfl rfl
  apply Wk.nilc rfl (lt_of_ble rfl)
  apply Wk.gon 24 rfl rfl
  apply Wk.fad 25 0 false fd111_8 rfl (lt_of_ble rfl)
  apply Wk.gon 24 rfl rfl
  apply Wk.ld (i := 27) 1 false ty3 rfl rfl (by conv => lhs; whnf) (lt_of_ble rfl)
  apply Wk.gon 24 rfl rfl
  apply Wk.mv (by conv => lhs; whnf) (lt_of_ble rfl)
  apply Wk.gon 24 rfl rfl
  apply Wk.addi rfl rfl (by omega) (lt_of_ble rfl)
  apply Wk.gon 24 rfl rfl
  apply Wk.bin rfl rfl (r := .bool false) (fun w => by simp [go_sem] <;> omega) (lt_of_ble rfl)
  apply Wk.pckF rfl (by conv => lhs; whnf) (lt_of_ble rfl)
  refine Wk.nil ?_
  refine AW.cond rfl (fun hc => by cases hc) (fun _ => AW.skip (thenA_normal ?_))
  refine AW.seq ?_
  apply AW.draw (hm := hmix) (cs := _)
  · apply Wk.mv (by conv => lhs; whnf) (lt_of_ble rfl)
    apply Wk.nilc rfl (lt_of_ble rfl)
    apply Wk.fad 6 13 true fd111_2 rfl (lt_of_ble rfl)
    apply Wk.mv (by conv => lhs; whnf) (lt_of_ble rfl)
    apply Wk.nilc rfl (lt_of_ble rfl)
    apply Wk.fad 21 0 false fd111_4 rfl (lt_of_ble rfl)
    apply Wk.ld (i := 27) 1 false ty25 rfl rfl (by conv => lhs; whnf) (lt_of_ble rfl)
    apply Wk.iad 3 true un25 ty47 rfl rfl (k := 0) (by simp) ez (lt_of_ble rfl)
    apply Wk.ldr 3 true ty47 rfl rfl (by conv => lhs; whnf) (lt_of_ble rfl)
    apply Wk.cal [27] [] cp (in_sndD _ rfl _ _ _ _ _ _ _ _ _ _ _ _ _ _ _ _) ⟨_, _, rfl, rfl⟩ Try.func89 rfl rfl rfl rfl (fun i hi => by cases hi) rfl (one_in rfl) (lt_of_ble rfl)
    rintro r bs' ⟨rfl, rfl⟩
    refine Wk.nil ?_
    refine AW.seq ?_
    apply AW.list
    apply Wk.mv (by conv => lhs; whnf) (lt_of_ble rfl)
    apply Wk.mv (by conv => lhs; whnf) (lt_of_ble rfl)
    apply Wk.nilc rfl (lt_of_ble rfl)
    apply Wk.fad 21 0 false fd111_4 rfl (lt_of_ble rfl)
    apply Wk.ld (i := 27) 1 false ty25 rfl rfl (by conv => lhs; whnf) (lt_of_ble rfl)
    apply Wk.slc (m := ((e :: qs).map datD).length) (l := 1) 3 true un25 ty47 rfl rfl (by exact if_pos ⟨by omega, by rw [e4]; omega⟩) ez (lt_of_ble rfl)
    apply Wk.appNR 66 1000 3 un25 ap47 rfl rfl rfl (.inr rfl) (by decide) (fun c hc => ez c (List.mem_of_mem_drop (List.mem_of_mem_take hc))) (by simp; omega) (lt_of_ble rfl)
    rw [show ((((e :: qs).map datD).drop 1).take (((e :: qs).map datD).length - 1)) = qs.map datD by rw [List.map_cons, List.drop_one, List.tail_cons, List.take_of_length_le (by simp)], show (qs.map datD).map (·.map A.d) = piecesA qs by simp [piecesA]]
    apply Wk.nilc rfl (lt_of_ble rfl)
    apply Wk.fad 21 0 false fd111_4 rfl (lt_of_ble rfl)
    apply Wk.sto (i := 27) 1 false ty25 rfl rfl rfl rfl (Nat.le_of_ble_eq_true rfl) (lt_of_ble rfl)
    refine Wk.nil ?_
    refine AW.seq ?_
    apply AW.list
    apply Wk.asg (by conv => lhs; whnf) (lt_of_ble rfl)
    refine Wk.nil (AW.ret ?_)
    exact RetQ.ret [(27, .var (sndC m w p u y a (upd f k (sl (some e))) 0 ((k : Int) + 1) s 0 q t hh c dd)), (66, .own 0 47 3 (piecesA qs))] (.cons rfl .nil) ⟨rfl, rfl⟩ (kept2 rfl rfl)
  · rfl
  · rfl
set_option maxHeartbeats 4000000 in
set_option maxRecDepth 100000 in
theorem isendIdle (m w p u y a : Int) (f : Nat → Sl) (k : Nat) (s : Int) (l : Nat) (q : Bool) (t : Int) (hh : Bool) (c : Int) (dd : Bool) (qu : List Dat) (ack : Int) (hi : dd = true ∨ q = true ∨ hh = true) : Spec Try.prog 67 [.ptr 27 0, .d (.v (.int .i64 ack))] (sndB (sndC m w p u y a f 0 (k : Int) s l q t hh c dd) l qu) (fun r bs => r = .tup [frmNo, .d (.v (.bool false))] ∧ bs = sndB (sndC m w p u y a f 0 (k : Int) s l q t hh c dd) l qu) := by
  cases dd
  · cases q
    · obtain rfl : hh = true := by simpa using hi
      refine Spec.intro (n := 75) (rv := [.cell 4 42, .tmp 5]) Try.func67 rfl rfl rfl (by simp) fun C hN hX => ?_
      refine AW.seq ?_
      apply AW.list
      apply Wk.alc 4 [.int .i64 0, .int .i64 0, .int .i64 0, .bool false, .bool false, .int .i64 0, .int .i64 0, .int .i64 0, .slice none 0 0] ze42 rfl rfl (lt_of_ble rfl)
      apply Wk.asg (by conv => lhs; whnf) (lt_of_ble rfl)
      refine Wk.nil ?_
      refine AW.seq (AW.seq ?_)
      apply AW.list
      apply Wk.mv (by conv => lhs; whnf) (lt_of_ble rfl)
      apply Wk.nilc rfl (lt_of_ble rfl)
      apply Wk.fad 26 0 false fd111_9 rfl (lt_of_ble rfl)
      apply Wk.ld (i := 27) 1 false ty4 rfl rfl (by conv => lhs; whnf) (lt_of_ble rfl)
      apply Wk.mv (by conv => lhs; whnf) (lt_of_ble rfl)
      apply Wk.gon 12 rfl rfl
      apply Wk.mv (by conv => lhs; whnf) (lt_of_ble rfl)
      apply Wk.gon 12 rfl rfl
      apply Wk.nilc rfl (lt_of_ble rfl)
      apply Wk.gon 12 rfl rfl
      apply Wk.fad 22 0 false fd111_5 rfl (lt_of_ble rfl)
      apply Wk.gon 12 rfl rfl
      apply Wk.ld (i := 27) 1 false ty4 rfl rfl (by conv => lhs; whnf) (lt_of_ble rfl)
      apply Wk.pckF rfl (by conv => lhs; whnf) (lt_of_ble rfl)
      apply Wk.mv (by conv => lhs; whnf) (lt_of_ble rfl)
      apply Wk.gon 18 rfl rfl
      apply Wk.mv (by conv => lhs; whnf) (lt_of_ble rfl)
      apply Wk.gon 18 rfl rfl
      apply Wk.nilc rfl (lt_of_ble rfl)
      apply Wk.gon 18 rfl rfl
      apply Wk.fad 24 0 false fd111_7 rfl (lt_of_ble rfl)
      apply Wk.gon 18 rfl rfl
      apply Wk.ld (i := 27) 1 false ty4 rfl rfl (by conv => lhs; whnf) (lt_of_ble rfl)
      apply Wk.pckF rfl (by conv => lhs; whnf) (lt_of_ble rfl)
      refine Wk.nil ?_
      refine AW.cond rfl (fun _ => ?_) (fun hc => by cases hc)
      refine AW.seq ?_
      apply AW.list
      apply Wk.bld [.int .i64 0, .int .i64 0, .int .i64 0, .bool false, .bool false, .int .i64 0, .int .i64 0, .int .i64 0, .slice none 0 0] [(0, 1), (1, 1), (2, 1), (3, 1), (4, 1), (5, 1), (6, 1), (7, 1), (8, 1)] bl42 rfl (by conv => lhs; whnf) (lt_of_ble rfl)
      apply Wk.sto (i := 4) 9 true ty42 rfl rfl rfl rfl (Nat.le_of_ble_eq_true rfl) (lt_of_ble rfl)
      apply Wk.asg (by conv => lhs; whnf) (lt_of_ble rfl)
      refine Wk.nil (AW.ret ?_)
      repeat (first | refine thenA_ret ?_ | refine inBlockA_ret ?_)
      exact RetQ.ret (sndB _ l qu) (.cons ⟨4, 0, _, _, _, rfl, rfl, ty42, rfl⟩ (.cons rfl .nil)) ⟨rfl, rfl⟩ (kept2 rfl rfl)
    · skip
      refine Spec.intro (n := 75) (rv := [.cell 4 42, .tmp 5]) Try.func67 rfl rfl rfl (by simp) fun C hN hX => ?_
      refine AW.seq ?_
      apply AW.list
      apply Wk.alc 4 [.int .i64 0, .int .i64 0, .int .i64 0, .bool false, .bool false, .int .i64 0, .int .i64 0, .int .i64 0, .slice none 0 0] ze42 rfl rfl (lt_of_ble rfl)
      apply Wk.asg (by conv => lhs; whnf) (lt_of_ble rfl)
      refine Wk.nil ?_
      refine AW.seq (AW.seq ?_)
      apply AW.list
      apply Wk.mv (by conv => lhs; whnf) (lt_of_ble rfl)
      apply Wk.nilc rfl (lt_of_ble rfl)
      apply Wk.fad 26 0 false fd111_9 rfl (lt_of_ble rfl)
      apply Wk.ld (i := 27) 1 false ty4 rfl rfl (by conv => lhs; whnf) (lt_of_ble rfl)
      apply Wk.mv (by conv => lhs; whnf) (lt_of_ble rfl)
      apply Wk.gon 12 rfl rfl
      apply Wk.mv (by conv => lhs; whnf) (lt_of_ble rfl)
      apply Wk.gon 12 rfl rfl
      apply Wk.nilc rfl (lt_of_ble rfl)
      apply Wk.gon 12 rfl rfl
      apply Wk.fad 22 0 false fd111_5 rfl (lt_of_ble rfl)
      apply Wk.gon 12 rfl rfl
      apply Wk.ld (i := 27) 1 false ty4 rfl rfl (by conv => lhs; whnf) (lt_of_ble rfl)
      apply Wk.pckF rfl (by conv => lhs; whnf) (lt_of_ble rfl)
      apply Wk.mv (by conv => lhs; whnf) (lt_of_ble rfl)
      apply Wk.goff 18 (ok_move _) rfl rfl (by simp)
      apply Wk.goff 18 (ok_nil _) rfl rfl (by simp)
      apply Wk.goff 18 (ok_faddr fd111_7) rfl rfl (by simp)
      apply Wk.goff 18 (ok_load 27 ty4) rfl rfl (by simp)
      apply Wk.pckT rfl (by conv => lhs; whnf) (lt_of_ble rfl)
      refine Wk.nil ?_
      refine AW.cond rfl (fun _ => ?_) (fun hc => by cases hc)
      refine AW.seq ?_
      apply AW.list
      apply Wk.bld [.int .i64 0, .int .i64 0, .int .i64 0, .bool false, .bool false, .int .i64 0, .int .i64 0, .int .i64 0, .slice none 0 0] [(0, 1), (1, 1), (2, 1), (3, 1), (4, 1), (5, 1), (6, 1), (7, 1), (8, 1)] bl42 rfl (by conv => lhs; whnf) (lt_of_ble rfl)
      apply Wk.sto (i := 4) 9 true ty42 rfl rfl rfl rfl (Nat.le_of_ble_eq_true rfl) (lt_of_ble rfl)
      apply Wk.asg (by conv => lhs; whnf) (lt_of_ble rfl)
      refine Wk.nil (AW.ret ?_)
      repeat (first | refine thenA_ret ?_ | refine inBlockA_ret ?_)
      exact RetQ.ret (sndB _ l qu) (.cons ⟨4, 0, _, _, _, rfl, rfl, ty42, rfl⟩ (.cons rfl .nil)) ⟨rfl, rfl⟩ (kept2 rfl rfl)
  · skip
    refine Spec.intro (n := 75) (rv := [.cell 4 42, .tmp 5]) Try.func67 rfl rfl rfl (by simp) fun C hN hX => ?_
    refine AW.seq ?_
    apply AW.list
    apply Wk.alc 4 [.int .i64 0, .int .i64 0, .int .i64 0, .bool false, .bool false, .int .i64 0, .int .i64 0, .int .i64 0, .slice none 0 0] ze42 rfl rfl (lt_of_ble rfl)
    apply Wk.asg (by conv => lhs; whnf) (lt_of_ble rfl)
    refine Wk.nil ?_
    refine AW.seq (AW.seq ?_)
    apply AW.list
    apply Wk.mv (by conv => lhs; whnf) (lt_of_ble rfl)
    apply Wk.nilc rfl (lt_of_ble rfl)
    apply Wk.fad 26 0 false fd111_9 rfl (lt_of_ble rfl)
    apply Wk.ld (i := 27) 1 false ty4 rfl rfl (by conv => lhs; whnf) (lt_of_ble rfl)
    apply Wk.mv (by conv => lhs; whnf) (lt_of_ble rfl)
    apply Wk.goff 12 (ok_move _) rfl rfl (by simp)
    apply Wk.goff 12 (ok_nil _) rfl rfl (by simp)
    apply Wk.goff 12 (ok_faddr fd111_5) rfl rfl (by simp)
    apply Wk.goff 12 (ok_load 27 ty4) rfl rfl (by simp)
    apply Wk.pckT rfl (by conv => lhs; whnf) (lt_of_ble rfl)
    apply Wk.mv (by conv => lhs; whnf) (lt_of_ble rfl)
    apply Wk.goff 18 (ok_move _) rfl rfl (by simp)
    apply Wk.goff 18 (ok_nil _) rfl rfl (by simp)
    apply Wk.goff 18 (ok_faddr fd111_7) rfl rfl (by simp)
    apply Wk.goff 18 (ok_load 27 ty4) rfl rfl (by simp)
    apply Wk.pckT rfl (by conv => lhs; whnf) (lt_of_ble rfl)
    refine Wk.nil ?_
    refine AW.cond rfl (fun _ => ?_) (fun hc => by cases hc)
    refine AW.seq ?_
    apply AW.list
    apply Wk.bld [.int .i64 0, .int .i64 0, .int .i64 0, .bool false, .bool false, .int .i64 0, .int .i64 0, .int .i64 0, .slice none 0 0] [(0, 1), (1, 1), (2, 1), (3, 1), (4, 1), (5, 1), (6, 1), (7, 1), (8, 1)] bl42 rfl (by conv => lhs; whnf) (lt_of_ble rfl)
    apply Wk.sto (i := 4) 9 true ty42 rfl rfl rfl rfl (Nat.le_of_ble_eq_true rfl) (lt_of_ble rfl)
    apply Wk.asg (by conv => lhs; whnf) (lt_of_ble rfl)
    refine Wk.nil (AW.ret ?_)
    repeat (first | refine thenA_ret ?_ | refine inBlockA_ret ?_)
    exact RetQ.ret (sndB _ l qu) (.cons ⟨4, 0, _, _, _, rfl, rfl, ty42, rfl⟩ (.cons rfl .nil)) ⟨rfl, rfl⟩ (kept2 rfl rfl)
set_option maxHeartbeats 4000000 in
set_option maxRecDepth 100000 in
theorem isendFull (m w p u y a : Int) (f : Nat → Sl) (k : Nat) (l : Nat) (t : Int) (c : Int) (qu : List Dat) (ack : Int) (hi : (k : Int) = w ∨ qu = [] ∨ c + (k : Int) = 9999) (hq : qu.length ≤ 1000) : Spec Try.prog 67 [.ptr 27 0, .d (.v (.int .i64 ack))] (sndB (sndC m w p u y a f 0 (k : Int) (k : Int) l false t false c false) l qu) (fun r bs => r = .tup [frmNo, .d (.v (.bool false))] ∧ bs = sndB (sndC m w p u y a f 0 (k : Int) (k : Int) l false t false c false) l qu) := by
  have cs := isetNo m w p u y a f k (k : Int) l false t false c false qu hi hq
  refine Spec.intro (n := 75) (rv := [.cell 4 42, .tmp 5]) Try.func67 rfl rfl rfl (by simp) fun C hN hX => ?_
  refine AW.seq ?_
  apply AW.list
  apply Wk.alc 4 [.int .i64 0, .int .i64 0, .int .i64 0, .bool false, .bool false, .int .i64 0, .int .i64 0, .int .i64 0, .slice none 0 0] ze42 rfl rfl (lt_of_ble rfl)
  apply Wk.asg (by conv => lhs; whnf) (lt_of_ble rfl)
  refine Wk.nil ?_
  refine AW.seq (AW.seq ?_)
  apply AW.list
  apply Wk.mv (by conv => lhs; whnf) (lt_of_ble rfl)
  apply Wk.nilc rfl (lt_of_ble rfl)
  apply Wk.fad 26 0 false fd111_9 rfl (lt_of_ble rfl)
  apply Wk.ld (i := 27) 1 false ty4 rfl rfl (by conv => lhs; whnf) (lt_of_ble rfl)
  apply Wk.mv (by conv => lhs; whnf) (lt_of_ble rfl)
  apply Wk.gon 12 rfl rfl
  apply Wk.mv (by conv => lhs; whnf) (lt_of_ble rfl)
  apply Wk.gon 12 rfl rfl
  apply Wk.nilc rfl (lt_of_ble rfl)
  apply Wk.gon 12 rfl rfl
  apply Wk.fad 22 0 false fd111_5 rfl (lt_of_ble rfl)
  apply Wk.gon 12 rfl rfl
  apply Wk.ld (i := 27) 1 false ty4 rfl rfl (by conv => lhs; whnf) (lt_of_ble rfl)
  apply Wk.pckF rfl (by conv => lhs; whnf) (lt_of_ble rfl)
  apply Wk.mv (by conv => lhs; whnf) (lt_of_ble rfl)
  apply Wk.gon 18 rfl rfl
  apply Wk.mv (by conv => lhs; whnf) (lt_of_ble rfl)
  apply Wk.gon 18 rfl rfl
  apply Wk.nilc rfl (lt_of_ble rfl)
  apply Wk.gon 18 rfl rfl
  apply Wk.fad 24 0 false fd111_7 rfl (lt_of_ble rfl)
  apply Wk.gon 18 rfl rfl
  apply Wk.ld (i := 27) 1 false ty4 rfl rfl (by conv => lhs; whnf) (lt_of_ble rfl)
  apply Wk.pckF rfl (by conv => lhs; whnf) (lt_of_ble rfl)
  refine Wk.nil ?_
  refine AW.cond rfl (fun hc => by cases hc) (fun _ => AW.skip (thenA_normal ?_))
  refine AW.seq (AW.seq ?_)
  apply AW.draw (hm := hmix) (cs := _)
  · apply Wk.mv (by conv => lhs; whnf) (lt_of_ble rfl)
    apply Wk.nilc rfl (lt_of_ble rfl)
    apply Wk.fad 20 0 false fd111_3 rfl (lt_of_ble rfl)
    apply Wk.ld (i := 27) 1 false ty3 rfl rfl (by conv => lhs; whnf) (lt_of_ble rfl)
    apply Wk.mv (by conv => lhs; whnf) (lt_of_ble rfl)
    apply Wk.nilc rfl (lt_of_ble rfl)
    apply Wk.fad 6 13 true fd111_2 rfl (lt_of_ble rfl)
    apply Wk.fad 13 0 false fd109_2 rfl (lt_of_ble rfl)
    apply Wk.ld (i := 27) 1 false ty3 rfl rfl (by conv => lhs; whnf) (lt_of_ble rfl)
    apply Wk.bin rfl rfl (r := .bool true) (fun w => by simp [go_sem]) (lt_of_ble rfl)
    apply Wk.mv (by conv => lhs; whnf) (lt_of_ble rfl)
    apply Wk.gon 35 rfl rfl
    apply Wk.mv (by conv => lhs; whnf) (lt_of_ble rfl)
    apply Wk.gon 35 rfl rfl
    apply Wk.cal [27, 66] [] cs (in_snd _ rfl _ _ _ _ _ _ _ _ _ _ _ _ _ _ _ _ _ _) ⟨_, _, rfl, rfl⟩ Try.func96 rfl rfl rfl rfl (fun i hi => by cases hi) rfl (two_in rfl (by exact within_parts _)) (lt_of_ble rfl)
    rintro r bs' ⟨rfl, rfl⟩
    apply Wk.gon 35 rfl rfl
    apply Wk.un rfl (fun w => by simp [go_sem] <;> rfl) (lt_of_ble rfl)
    apply Wk.pckT rfl (by conv => lhs; whnf) (lt_of_ble rfl)
    refine Wk.nil ?_
    refine AW.cond rfl (fun _ => ?_) (fun hc => by cases hc)
    refine AW.seq ?_
    apply AW.list
    apply Wk.bld [.int .i64 0, .int .i64 0, .int .i64 0, .bool false, .bool false, .int .i64 0, .int .i64 0, .int .i64 0, .slice none 0 0] [(0, 1), (1, 1), (2, 1), (3, 1), (4, 1), (5, 1), (6, 1), (7, 1), (8, 1)] bl42 rfl (by conv => lhs; whnf) (lt_of_ble rfl)
    apply Wk.sto (i := 4) 9 true ty42 rfl rfl rfl rfl (Nat.le_of_ble_eq_true rfl) (lt_of_ble rfl)
    apply Wk.asg (by conv => lhs; whnf) (lt_of_ble rfl)
    refine Wk.nil (AW.ret ?_)
    repeat (first | refine thenA_ret ?_ | refine inBlockA_ret ?_)
    exact RetQ.ret (sndB _ l qu) (.cons ⟨4, 0, _, _, _, rfl, rfl, ty42, rfl⟩ (.cons rfl .nil)) ⟨rfl, rfl⟩ (kept2 rfl rfl)
  · rfl
  · rfl
set_option maxHeartbeats 4000000 in
set_option maxRecDepth 100000 in
theorem isendOn (m w p u y a : Int) (f : Nat → Sl) (k : Nat) (l : Nat) (t : Int) (c : Int) (qu : List Dat) (j : Nat) (ack : Int) (e : Dat) (he : f j = sl (some e)) (hl : e.2.2.length ≤ 1000) (hj : j < k) (hk4 : k ≤ 4) (ha : 0 ≤ a ∧ a < 8) : Spec Try.prog 67 [.ptr 27 0, .d (.v (.int .i64 ack))] (sndB (sndC m w p u y a f 0 (k : Int) (j : Int) l false t false c false) l qu) (fun r bs => r = .tup [frmD 1 ((a + (j : Int)) % 8) ack false false 0 e.1 e.2.1 e.2.2, .d (.v (.bool true))] ∧ bs = sndB (sndC m w p u y a f 0 (k : Int) ((j : Int) + 1) l false t false c false) l qu) := by
  have cx := isetNo m w p u y a f 0 0 0 false 0 false 0 false [] (.inr (.inl rfl)) (by simp)
  have cat := iat m w p u y a f (j : Int) l false t false c false qu 0 j (k : Int) (by omega) (by omega) j (by omega)
  rw [he] at cat
  have ccp := icpart_ok e hl
  have co := ion_ok a (j : Int) ha (by omega)
  refine Spec.intro (n := 75) (rv := [.cell 4 42, .tmp 5]) Try.func67 rfl rfl rfl (by simp) fun C hN hX => ?_
  refine AW.seq ?_
  apply AW.list
  apply Wk.alc 4 [.int .i64 0, .int .i64 0, .int .i64 0, .bool false, .bool false, .int .i64 0, .int .i64 0, .int .i64 0, .slice none 0 0] ze42 rfl rfl (lt_of_ble rfl)
  apply Wk.asg (by conv => lhs; whnf) (lt_of_ble rfl)
  refine Wk.nil ?_
  refine AW.seq (AW.seq ?_)
  apply AW.list
  apply Wk.mv (by conv => lhs; whnf) (lt_of_ble rfl)
  apply Wk.nilc rfl (lt_of_ble rfl)
  apply Wk.fad 26 0 false fd111_9 rfl (lt_of_ble rfl)
  apply Wk.ld (i := 27) 1 false ty4 rfl rfl (by conv => lhs; whnf) (lt_of_ble rfl)
  apply Wk.mv (by conv => lhs; whnf) (lt_of_ble rfl)
  apply Wk.gon 12 rfl rfl
  apply Wk.mv (by conv => lhs; whnf) (lt_of_ble rfl)
  apply Wk.gon 12 rfl rfl
  apply Wk.nilc rfl (lt_of_ble rfl)
  apply Wk.gon 12 rfl rfl
  apply Wk.fad 22 0 false fd111_5 rfl (lt_of_ble rfl)
  apply Wk.gon 12 rfl rfl
  apply Wk.ld (i := 27) 1 false ty4 rfl rfl (by conv => lhs; whnf) (lt_of_ble rfl)
  apply Wk.pckF rfl (by conv => lhs; whnf) (lt_of_ble rfl)
  apply Wk.mv (by conv => lhs; whnf) (lt_of_ble rfl)
  apply Wk.gon 18 rfl rfl
  apply Wk.mv (by conv => lhs; whnf) (lt_of_ble rfl)
  apply Wk.gon 18 rfl rfl
  apply Wk.nilc rfl (lt_of_ble rfl)
  apply Wk.gon 18 rfl rfl
  apply Wk.fad 24 0 false fd111_7 rfl (lt_of_ble rfl)
  apply Wk.gon 18 rfl rfl
  apply Wk.ld (i := 27) 1 false ty4 rfl rfl (by conv => lhs; whnf) (lt_of_ble rfl)
  apply Wk.pckF rfl (by conv => lhs; whnf) (lt_of_ble rfl)
  refine Wk.nil ?_
  refine AW.cond rfl (fun hc => by cases hc) (fun _ => AW.skip (thenA_normal ?_))
  refine AW.seq (AW.seq ?_)
  apply AW.draw (hm := hmix) (cs := _)
  · apply Wk.mv (by conv => lhs; whnf) (lt_of_ble rfl)
    apply Wk.nilc rfl (lt_of_ble rfl)
    apply Wk.fad 20 0 false fd111_3 rfl (lt_of_ble rfl)
    apply Wk.ld (i := 27) 1 false ty3 rfl rfl (by conv => lhs; whnf) (lt_of_ble rfl)
    apply Wk.mv (by conv => lhs; whnf) (lt_of_ble rfl)
    apply Wk.nilc rfl (lt_of_ble rfl)
    apply Wk.fad 6 13 true fd111_2 rfl (lt_of_ble rfl)
    apply Wk.fad 13 0 false fd109_2 rfl (lt_of_ble rfl)
    apply Wk.ld (i := 27) 1 false ty3 rfl rfl (by conv => lhs; whnf) (lt_of_ble rfl)
    apply Wk.bin rfl rfl (r := .bool false) (fun w => by simp [go_sem] <;> omega) (lt_of_ble rfl)
    apply Wk.mv (by conv => lhs; whnf) (lt_of_ble rfl)
    apply Wk.goff 35 (ok_move _) rfl rfl (by simp)
    apply Wk.goff 35 (ok_call [27, 66] [] Try.func96 rfl rfl (Con.at_ok cx (in_snd _ rfl _ _ _ _ _ _ _ _ _ _ _ _ _ _ _ _ _ _))) rfl rfl (by simp)
    apply Wk.goff 35 (ok_un _ _ _) rfl rfl (by simp)
    apply Wk.pckF rfl (by conv => lhs; whnf) (lt_of_ble rfl)
    refine Wk.nil ?_
    refine AW.cond rfl (fun hc => by cases hc) (fun _ => AW.skip (thenA_normal ?_))
    refine AW.seq ?_
    apply AW.draw (hm := hmix) (cs := _)
    · apply Wk.mv (by conv => lhs; whnf) (lt_of_ble rfl)
      apply Wk.nilc rfl (lt_of_ble rfl)
      apply Wk.fad 6 13 true fd111_2 rfl (lt_of_ble rfl)
      apply Wk.mv (by conv => lhs; whnf) (lt_of_ble rfl)
      apply Wk.nilc rfl (lt_of_ble rfl)
      apply Wk.fad 20 0 false fd111_3 rfl (lt_of_ble rfl)
      apply Wk.ld (i := 27) 1 false ty3 rfl rfl (by conv => lhs; whnf) (lt_of_ble rfl)
      apply Wk.cal [27, 66] [] cat (in_snd _ rfl _ _ _ _ _ _ _ _ _ _ _ _ _ _ _ _ _ _) ⟨_, _, rfl, rfl⟩ Try.func98 rfl rfl rfl rfl (fun i hi => by cases hi) rfl (two_in rfl (by exact within_parts _)) (lt_of_ble rfl)
      rintro r bs' ⟨rfl, rfl⟩
      apply Wk.dat ccp Try.func97 rfl rfl rfl rfl rfl (lt_of_ble rfl)
      apply Wk.alc 6 [.int .i64 0, .int .i64 0, .slice none 0 0] ze47 rfl rfl (lt_of_ble rfl)
      apply Wk.sto (i := 6) 3 true ty47 rfl rfl rfl rfl (Nat.le_of_ble_eq_true rfl) (lt_of_ble rfl)
      refine Wk.nil ?_
      refine AW.seq ?_
      apply AW.draw (hm := hmix) (cs := _)
      · apply Wk.mv (by conv => lhs; whnf) (lt_of_ble rfl)
        apply Wk.nilc rfl (lt_of_ble rfl)
        apply Wk.fad 5 0 false fd111_1 rfl (lt_of_ble rfl)
        apply Wk.ld (i := 27) 1 false ty92 rfl rfl (by conv => lhs; whnf) (lt_of_ble rfl)
        apply Wk.mv (by conv => lhs; whnf) (lt_of_ble rfl)
        apply Wk.nilc rfl (lt_of_ble rfl)
        apply Wk.fad 20 0 false fd111_3 rfl (lt_of_ble rfl)
        apply Wk.ld (i := 27) 1 false ty3 rfl rfl (by conv => lhs; whnf) (lt_of_ble rfl)
        apply Wk.dat co Try.func90 rfl rfl rfl rfl rfl (lt_of_ble rfl)
        apply Wk.asg (by conv => lhs; whnf) (lt_of_ble rfl)
        refine Wk.nil ?_
        refine AW.seq ?_
        apply AW.list
        apply Wk.mv (by conv => lhs; whnf) (lt_of_ble rfl)
        apply Wk.nilc rfl (lt_of_ble rfl)
        apply Wk.fad 20 0 false fd111_3 rfl (lt_of_ble rfl)
        apply Wk.ld (i := 27) 1 false ty3 rfl rfl (by conv => lhs; whnf) (lt_of_ble rfl)
        apply Wk.addi rfl rfl (by omega) (lt_of_ble rfl)
        apply Wk.nilc rfl (lt_of_ble rfl)
        apply Wk.fad 20 0 false fd111_3 rfl (lt_of_ble rfl)
        apply Wk.sto (i := 27) 1 false ty3 rfl rfl rfl rfl (Nat.le_of_ble_eq_true rfl) (lt_of_ble rfl)
        refine Wk.nil ?_
        refine AW.seq ?_
        apply AW.list
        apply Wk.mv (by conv => lhs; whnf) (lt_of_ble rfl)
        apply Wk.mv (by conv => lhs; whnf) (lt_of_ble rfl)
        apply Wk.fad 0 0 false fd47_0 rfl (lt_of_ble rfl)
        apply Wk.ld (i := 6) 1 false ty3 rfl rfl (by conv => lhs; whnf) (lt_of_ble rfl)
        apply Wk.fad 1 0 false fd47_1 rfl (lt_of_ble rfl)
        apply Wk.ld (i := 6) 1 false ty3 rfl rfl (by conv => lhs; whnf) (lt_of_ble rfl)
        apply Wk.fad 2 0 false fd47_2 rfl (lt_of_ble rfl)
        apply Wk.ld (i := 6) 1 false ty22 rfl rfl (by conv => lhs; whnf) (lt_of_ble rfl)
        apply Wk.bld [.int .i64 0, .int .i64 0, .int .i64 0, .bool false, .bool false, .int .i64 0, .int .i64 0, .int .i64 0, .slice none 0 0] [(0, 1), (1, 1), (2, 1), (3, 1), (4, 1), (5, 1), (6, 1), (7, 1), (8, 1)] bl42 rfl (by conv => lhs; whnf) (lt_of_ble rfl)
        apply Wk.sto (i := 4) 9 true ty42 rfl rfl rfl rfl (Nat.le_of_ble_eq_true rfl) (lt_of_ble rfl)
        apply Wk.asg (by conv => lhs; whnf) (lt_of_ble rfl)
        refine Wk.nil (AW.ret ?_)
        exact RetQ.ret (sndB _ l qu) (.cons ⟨4, 0, _, _, _, rfl, rfl, ty42, rfl⟩ (.cons rfl .nil)) ⟨rfl, rfl⟩ (kept2 rfl rfl)
      · rfl
      · rfl
    · rfl
    · rfl
  · rfl
  · rfl
set_option maxHeartbeats 4000000 in
set_option maxRecDepth 100000 in
theorem isendNew (m w p u y a : Int) (f : Nat → Sl) (k : Nat) (t : Int) (c : Int) (ack : Int) (e : Dat) (qs : List Dat) (hl : e.2.2.length ≤ 1000) (hw : ¬ (k : Int) = w) (hk4 : k < 4) (hc : 0 ≤ c ∧ c ≤ 1000000) (h9 : ¬ c + (k : Int) = 9999) (hq : qs.length ≤ 1000) (ha : 0 ≤ a ∧ a < 8) : Spec Try.prog 67 [.ptr 27 0, .d (.v (.int .i64 ack))] [(27, .var (sndD m w p u y a f 0 (k : Int) (k : Int) (partsD (e :: qs)) false t false c false))] (fun r bs => r = .tup [frmD 1 ((a + (k : Int)) % 8) ack false false 0 e.1 e.2.1 e.2.2, .d (.v (.bool true))] ∧ bs = sndB (sndC m w p u y a (upd f k (sl (some e))) 0 ((k : Int) + 1) ((k : Int) + 1) 0 false t false c false) 0 qs) := by
  have cs := isetYes m w p u y a f k (k : Int) false t false c false e qs hw hk4 hc h9 hq
  have cat := iat m w p u y a (upd f k (sl (some e))) (k : Int) 0 false t false c false qs 0 k ((k : Int) + 1) (by omega) (by omega) k (by omega)
  rw [show upd f k (sl (some e)) k = sl (some e) by simp [upd]] at cat
  have ccp := icpart_ok e hl
  have co := ion_ok a (k : Int) ha (by omega)
  refine Spec.intro (n := 75) (rv := [.cell 4 42, .tmp 5]) Try.func67 rfl rfl rfl (by simp) fun C hN hX => ?_
  refine AW.seq ?_
  apply AW.list
  apply Wk.alc 4 [.int .i64 0, .int .i64 0, .int .i64 0, .bool false, .bool false, .int .i64 0, .int .i64 0, .int .i64 0, .slice none 0 0] ze42 rfl rfl (lt_of_ble rfl)
  apply Wk.asg (by conv => lhs; whnf) (lt_of_ble rfl)
  refine Wk.nil ?_
  refine AW.seq (AW.seq ?_)
  apply AW.list
  apply Wk.mv (by conv => lhs; whnf) (lt_of_ble rfl)
  apply Wk.nilc rfl (lt_of_ble rfl)
  apply Wk.fad 26 0 false fd111_9 rfl (lt_of_ble rfl)
  apply Wk.ld (i := 27) 1 false ty4 rfl rfl (by conv => lhs; whnf) (lt_of_ble rfl)
  apply Wk.mv (by conv => lhs; whnf) (lt_of_ble rfl)
  apply Wk.gon 12 rfl rfl
  apply Wk.mv (by conv => lhs; whnf) (lt_of_ble rfl)
  apply Wk.gon 12 rfl rfl
  apply Wk.nilc rfl (lt_of_ble rfl)
  apply Wk.gon 12 rfl rfl
  apply Wk.fad 22 0 false fd111_5 rfl (lt_of_ble rfl)
  apply Wk.gon 12 rfl rfl
  apply Wk.ld (i := 27) 1 false ty4 rfl rfl (by conv => lhs; whnf) (lt_of_ble rfl)
  apply Wk.pckF rfl (by conv => lhs; whnf) (lt_of_ble rfl)
  apply Wk.mv (by conv => lhs; whnf) (lt_of_ble rfl)
  apply Wk.gon 18 rfl rfl
  apply Wk.mv (by conv => lhs; whnf) (lt_of_ble rfl)
  apply Wk.gon 18 rfl rfl
  apply Wk.nilc rfl (lt_of_ble rfl)
  apply Wk.gon 18 rfl rfl
  apply Wk.fad 24 0 false fd111_7 rfl (lt_of_ble rfl)
  apply Wk.gon 18 rfl rfl
  apply Wk.ld (i := 27) 1 false ty4 rfl rfl (by conv => lhs; whnf) (lt_of_ble rfl)
  apply Wk.pckF rfl (by conv => lhs; whnf) (lt_of_ble rfl)
  refine Wk.nil ?_
  refine AW.cond rfl (fun hc => by cases hc) (fun _ => AW.skip (thenA_normal ?_))
  refine AW.seq (AW.seq ?_)
  apply AW.draw (hm := hmix) (cs := _)
  · apply Wk.mv (by conv => lhs; whnf) (lt_of_ble rfl)
    apply Wk.nilc rfl (lt_of_ble rfl)
    apply Wk.fad 20 0 false fd111_3 rfl (lt_of_ble rfl)
    apply Wk.ld (i := 27) 1 false ty3 rfl rfl (by conv => lhs; whnf) (lt_of_ble rfl)
    apply Wk.mv (by conv => lhs; whnf) (lt_of_ble rfl)
    apply Wk.nilc rfl (lt_of_ble rfl)
    apply Wk.fad 6 13 true fd111_2 rfl (lt_of_ble rfl)
    apply Wk.fad 13 0 false fd109_2 rfl (lt_of_ble rfl)
    apply Wk.ld (i := 27) 1 false ty3 rfl rfl (by conv => lhs; whnf) (lt_of_ble rfl)
    apply Wk.bin rfl rfl (r := .bool true) (fun w => by simp [go_sem]) (lt_of_ble rfl)
    apply Wk.mv (by conv => lhs; whnf) (lt_of_ble rfl)
    apply Wk.gon 35 rfl rfl
    apply Wk.mv (by conv => lhs; whnf) (lt_of_ble rfl)
    apply Wk.gon 35 rfl rfl
    apply Wk.cal [27] [66] cs (in_snd _ rfl _ _ _ _ _ _ _ _ _ _ _ _ _ _ _ _ _ _) ⟨_, _, rfl, rfl⟩ Try.func96 rfl rfl rfl rfl (by simp; rfl) rfl (one_in rfl) (lt_of_ble rfl)
    rintro r bs' ⟨rfl, rfl⟩
    apply Wk.gon 35 rfl rfl
    apply Wk.un rfl (fun w => by simp [go_sem] <;> rfl) (lt_of_ble rfl)
    apply Wk.pckT rfl (by conv => lhs; whnf) (lt_of_ble rfl)
    refine Wk.nil ?_
    refine AW.cond rfl (fun hc => by cases hc) (fun _ => AW.skip (thenA_normal ?_))
    refine AW.seq ?_
    apply AW.draw (hm := hmix) (cs := _)
    · apply Wk.mv (by conv => lhs; whnf) (lt_of_ble rfl)
      apply Wk.nilc rfl (lt_of_ble rfl)
      apply Wk.fad 6 13 true fd111_2 rfl (lt_of_ble rfl)
      apply Wk.mv (by conv => lhs; whnf) (lt_of_ble rfl)
      apply Wk.nilc rfl (lt_of_ble rfl)
      apply Wk.fad 20 0 false fd111_3 rfl (lt_of_ble rfl)
      apply Wk.ld (i := 27) 1 false ty3 rfl rfl (by conv => lhs; whnf) (lt_of_ble rfl)
      apply Wk.cal [27, 66] [] cat (in_snd _ rfl _ _ _ _ _ _ _ _ _ _ _ _ _ _ _ _ _ _) ⟨_, _, rfl, rfl⟩ Try.func98 rfl rfl rfl rfl (fun i hi => by cases hi) rfl (two_in rfl (by exact within_parts _)) (lt_of_ble rfl)
      rintro r bs' ⟨rfl, rfl⟩
      apply Wk.dat ccp Try.func97 rfl rfl rfl rfl rfl (lt_of_ble rfl)
      apply Wk.alc 6 [.int .i64 0, .int .i64 0, .slice none 0 0] ze47 rfl rfl (lt_of_ble rfl)
      apply Wk.sto (i := 6) 3 true ty47 rfl rfl rfl rfl (Nat.le_of_ble_eq_true rfl) (lt_of_ble rfl)
      refine Wk.nil ?_
      refine AW.seq ?_
      apply AW.draw (hm := hmix) (cs := _)
      · apply Wk.mv (by conv => lhs; whnf) (lt_of_ble rfl)
        apply Wk.nilc rfl (lt_of_ble rfl)
        apply Wk.fad 5 0 false fd111_1 rfl (lt_of_ble rfl)
        apply Wk.ld (i := 27) 1 false ty92 rfl rfl (by conv => lhs; whnf) (lt_of_ble rfl)
        apply Wk.mv (by conv => lhs; whnf) (lt_of_ble rfl)
        apply Wk.nilc rfl (lt_of_ble rfl)
        apply Wk.fad 20 0 false fd111_3 rfl (lt_of_ble rfl)
        apply Wk.ld (i := 27) 1 false ty3 rfl rfl (by conv => lhs; whnf) (lt_of_ble rfl)
        apply Wk.dat co Try.func90 rfl rfl rfl rfl rfl (lt_of_ble rfl)
        apply Wk.asg (by conv => lhs; whnf) (lt_of_ble rfl)
        refine Wk.nil ?_
        refine AW.seq ?_
        apply AW.list
        apply Wk.mv (by conv => lhs; whnf) (lt_of_ble rfl)
        apply Wk.nilc rfl (lt_of_ble rfl)
        apply Wk.fad 20 0 false fd111_3 rfl (lt_of_ble rfl)
        apply Wk.ld (i := 27) 1 false ty3 rfl rfl (by conv => lhs; whnf) (lt_of_ble rfl)
        apply Wk.addi rfl rfl (by omega) (lt_of_ble rfl)
        apply Wk.nilc rfl (lt_of_ble rfl)
        apply Wk.fad 20 0 false fd111_3 rfl (lt_of_ble rfl)
        apply Wk.sto (i := 27) 1 false ty3 rfl rfl rfl rfl (Nat.le_of_ble_eq_true rfl) (lt_of_ble rfl)
        refine Wk.nil ?_
        refine AW.seq ?_
        apply AW.list
        apply Wk.mv (by conv => lhs; whnf) (lt_of_ble rfl)
        apply Wk.mv (by conv => lhs; whnf) (lt_of_ble rfl)
        apply Wk.fad 0 0 false fd47_0 rfl (lt_of_ble rfl)
        apply Wk.ld (i := 6) 1 false ty3 rfl rfl (by conv => lhs; whnf) (lt_of_ble rfl)
        apply Wk.fad 1 0 false fd47_1 rfl (lt_of_ble rfl)
        apply Wk.ld (i := 6) 1 false ty3 rfl rfl (by conv => lhs; whnf) (lt_of_ble rfl)
        apply Wk.fad 2 0 false fd47_2 rfl (lt_of_ble rfl)
        apply Wk.ld (i := 6) 1 false ty22 rfl rfl (by conv => lhs; whnf) (lt_of_ble rfl)
        apply Wk.bld [.int .i64 0, .int .i64 0, .int .i64 0, .bool false, .bool false, .int .i64 0, .int .i64 0, .int .i64 0, .slice none 0 0] [(0, 1), (1, 1), (2, 1), (3, 1), (4, 1), (5, 1), (6, 1), (7, 1), (8, 1)] bl42 rfl (by conv => lhs; whnf) (lt_of_ble rfl)
        apply Wk.sto (i := 4) 9 true ty42 rfl rfl rfl rfl (Nat.le_of_ble_eq_true rfl) (lt_of_ble rfl)
        apply Wk.asg (by conv => lhs; whnf) (lt_of_ble rfl)
        refine Wk.nil (AW.ret ?_)
        exact RetQ.ret (sndB _ 0 qs) (.cons ⟨4, 0, _, _, _, rfl, rfl, ty42, rfl⟩ (.cons rfl .nil)) ⟨rfl, rfl⟩ (kept2 rfl rfl)
      · rfl
      · rfl
    · rfl
    · rfl
  · rfl
  · rfl
end Go.Proofs.Ytdojkmjamilllaa

/- TxPut, TxSend, TxHear of the specification: answers of data alone. Written by tools/mk_AbsTxSD.py. -/
namespace Go.Proofs.Ytdojkmjamilllaa
open Go Go.RowKit
set_option maxHeartbeats 4000000 in
set_option maxRecDepth 100000 in
theorem sputD (m0 w0 p0 u0 y0 : Int) (x x' : TX) (k l : Nat) (b : Bool) (sdu : List Nat) (hok : txOkB ⟨m0, w0, p0, u0, y0⟩ x = true) (hx : x.few) (hx' : x'.few)
    (ht : Spec Try.prog 54 [cfgA m0 w0 p0 u0 y0, txO x 5 x.fl.length 66 x.qu.length, .d (bytesD sdu)] (txB x.fl x.qu x.fl.length x.qu.length) (fun r bs => r = .tup [txO x' 5 k 66 l, .d (.v (.bool b))] ∧ bs = txB x'.fl x'.qu k l)) :
    DataOk Try.prog 15 [cfgA m0 w0 p0 u0 y0, txA x, .d (bytesD sdu)] (.tup [txA x', .d (.v (.bool b))]) := by
  have c1 := scopyO x hx
  have c2 := scopy_ok x' hx'
  refine Spec.intro (n := 26) (rv := [.cell 6 27, .tmp 7]) Try.func15 rfl rfl rfl (by simp) fun C hN hX => ?_
  refine AW.seq ?_
  apply AW.list
  apply Wk.bx 3 rfl rfl (lt_of_ble rfl)
  apply Wk.bx 4 rfl rfl (lt_of_ble rfl)
  apply Wk.alc 6 [.int .i64 0, .int .i64 0, .slice none 0 0, .int .i64 0, .slice none 0 0, .bool false, .int .i64 0, .bool false, .int .i64 0, .bool false] ze27 rfl rfl (lt_of_ble rfl)
  apply Wk.asg (by conv => lhs; whnf) (lt_of_ble rfl)
  refine Wk.nil ?_
  refine AW.seq (AW.seq ?_)
  apply AW.list
  apply Wk.ld (i := 3) 5 true ty24 rfl rfl (by conv => lhs; whnf) (lt_of_ble rfl)
  apply Wk.ld (i := 4) 10 true ty27 rfl rfl (by conv => lhs; whnf) (lt_of_ble rfl)
  apply Wk.dat (stxb hok) Try.func18 rfl rfl rfl rfl rfl (lt_of_ble rfl)
  apply Wk.un rfl (fun w => by simp [go_sem] <;> rfl) (lt_of_ble rfl)
  refine Wk.nil ?_
  refine AW.cond rfl (fun hc => by cases hc) (fun _ => AW.skip (thenA_normal ?_))
  refine AW.seq ?_
  apply AW.draw (hm := hmix) (cs := _)
  · apply Wk.ld (i := 3) 5 true ty24 rfl rfl (by conv => lhs; whnf) (lt_of_ble rfl)
    apply Wk.ld (i := 4) 10 true ty27 rfl rfl (by conv => lhs; whnf) (lt_of_ble rfl)
    apply Wk.cal [] [5, 66] c1 (in_copy x _ _) ⟨_, _, rfl, rfl⟩ Try.func55 rfl rfl rfl rfl (by simp; exact ⟨rfl, rfl⟩) rfl (fun i hi => by cases hi) (lt_of_ble rfl)
    rintro r bs' ⟨rfl, rfl⟩
    apply Wk.mv (by conv => lhs; whnf) (lt_of_ble rfl)
    apply Wk.cal [5, 66] [] ht (in_put x' _ _ b) ⟨_, _, rfl, rfl⟩ Try.func54 rfl rfl rfl rfl (fun i hi => by cases hi) rfl (two_in (by exact within_parts x.fl) (by exact within_parts x.qu)) (lt_of_ble rfl)
    rintro r bs' ⟨rfl, rfl⟩
    apply Wk.mv (by conv => lhs; whnf) (lt_of_ble rfl)
    apply Wk.ext rfl rfl (lt_of_ble rfl)
    apply Wk.ext rfl rfl (lt_of_ble rfl)
    apply Wk.alc 8 [.int .i64 0, .int .i64 0, .slice none 0 0, .int .i64 0, .slice none 0 0, .bool false, .int .i64 0, .bool false, .int .i64 0, .bool false] ze27 rfl rfl (lt_of_ble rfl)
    apply Wk.sto (i := 8) 10 true ty27 rfl rfl rfl rfl (Nat.le_of_ble_eq_true rfl) (lt_of_ble rfl)
    apply Wk.asg (by conv => lhs; whnf) (lt_of_ble rfl)
    refine Wk.nil ?_
    refine AW.thawc (j := 8) (c := 2) (i := 5) _ rfl rfl rfl (asData_parts x'.fl) hX.none ?_
    refine AW.thawc (j := 8) (c := 4) (i := 66) _ rfl rfl rfl (asData_parts x'.qu) hX.none ?_
    refine AW.keep (n := 26) (ts := [(6, .ptr 6 0), (8, .ptr 8 0), (9, .d (.v (.bool b)))]) (bs := [(6, .var txN), (8, .var (txC x'))]) ⟨rfl, .cons rfl rfl (.cons rfl rfl (.cons rfl rfl .nil)), .cons rfl rfl (.cons rfl rfl .nil), hN.mono (by simp [keys])⟩ ?_
    refine AW.seq ?_
    apply AW.list
    apply Wk.ld (i := 8) 10 true ty27 rfl rfl (by conv => lhs; whnf) (lt_of_ble rfl)
    apply Wk.dat c2 Try.func55 rfl rfl rfl rfl rfl (lt_of_ble rfl)
    apply Wk.mv (by conv => lhs; whnf) (lt_of_ble rfl)
    apply Wk.sto (i := 6) 10 true ty27 rfl rfl rfl rfl (Nat.le_of_ble_eq_true rfl) (lt_of_ble rfl)
    apply Wk.asg (by conv => lhs; whnf) (lt_of_ble rfl)
    refine Wk.nil (AW.ret ?_)
    exact RetQ.ret [] (.cons ⟨6, 0, _, _, _, rfl, rfl, ty27, rfl⟩ (.cons rfl .nil)) ⟨rfl, rfl⟩ none_kept
  · rfl
  · rfl
set_option maxHeartbeats 4000000 in
set_option maxRecDepth 100000 in
theorem ssendFD (m0 w0 p0 u0 y0 : Int) (x x' : TX) (ack : Int) (k : Nat) (k1 s c : Int) (p f : Bool) (y g l1 : Int) (z : D) (b : Bool) (hok : txOkB ⟨m0, w0, p0, u0, y0⟩ x = true) (hack : inB ack 0 7 = true) (hx : x.few) (hx' : x'.few)
    (ht : Spec Try.prog 68 [cfgA m0 w0 p0 u0 y0, txF x 5 x.fl.length, .d (.v (.int .i64 ack))] (flB x.fl x.fl.length) (fun r bs => r = .tup [txF x' 5 k, frmZ k1 s c p f y g l1 z, .d (.v (.bool b))] ∧ bs = flB x'.fl k)) :
    DataOk Try.prog 25 [cfgA m0 w0 p0 u0 y0, txA x, .d (.v (.int .i64 ack))] (.tup [txA x', frmZ k1 s c p f y g l1 z, .d (.v (.bool b))]) := by
  have c1 := scopyF x hx
  have c2 := scopy_ok x' hx'
  refine Spec.intro (n := 36) (rv := [.cell 6 27, .cell 7 42, .tmp 8]) Try.func25 rfl rfl rfl (by simp) fun C hN hX => ?_
  refine AW.seq ?_
  apply AW.list
  apply Wk.bx 3 rfl rfl (lt_of_ble rfl)
  apply Wk.bx 4 rfl rfl (lt_of_ble rfl)
  apply Wk.alc 6 [.int .i64 0, .int .i64 0, .slice none 0 0, .int .i64 0, .slice none 0 0, .bool false, .int .i64 0, .bool false, .int .i64 0, .bool false] ze27 rfl rfl (lt_of_ble rfl)
  apply Wk.alc 7 [.int .i64 0, .int .i64 0, .int .i64 0, .bool false, .bool false, .int .i64 0, .int .i64 0, .int .i64 0, .slice none 0 0] ze42 rfl rfl (lt_of_ble rfl)
  apply Wk.asg (by conv => lhs; whnf) (lt_of_ble rfl)
  refine Wk.nil ?_
  refine AW.seq (AW.seq ?_)
  apply AW.list
  apply Wk.ld (i := 3) 5 true ty24 rfl rfl (by conv => lhs; whnf) (lt_of_ble rfl)
  apply Wk.ld (i := 4) 10 true ty27 rfl rfl (by conv => lhs; whnf) (lt_of_ble rfl)
  apply Wk.dat (stxb hok) Try.func18 rfl rfl rfl rfl rfl (lt_of_ble rfl)
  apply Wk.un rfl (fun w => by simp [go_sem] <;> rfl) (lt_of_ble rfl)
  apply Wk.mv (by conv => lhs; whnf) (lt_of_ble rfl)
  apply Wk.gon 16 rfl rfl
  apply Wk.mv (by conv => lhs; whnf) (lt_of_ble rfl)
  apply Wk.gon 16 rfl rfl
  apply Wk.dat (sinb hack) Try.func60 rfl rfl rfl rfl rfl (lt_of_ble rfl)
  apply Wk.gon 16 rfl rfl
  apply Wk.un rfl (fun w => by simp [go_sem] <;> rfl) (lt_of_ble rfl)
  apply Wk.pckF rfl (by conv => lhs; whnf) (lt_of_ble rfl)
  refine Wk.nil ?_
  refine AW.cond rfl (fun hc => by cases hc) (fun _ => AW.skip (thenA_normal ?_))
  refine AW.seq ?_
  apply AW.draw (hm := hmix) (cs := _)
  · apply Wk.ld (i := 3) 5 true ty24 rfl rfl (by conv => lhs; whnf) (lt_of_ble rfl)
    apply Wk.ld (i := 4) 10 true ty27 rfl rfl (by conv => lhs; whnf) (lt_of_ble rfl)
    apply Wk.cal [] [5] c1 (in_copyF x _) ⟨_, _, rfl, rfl⟩ Try.func55 rfl rfl rfl rfl (by simp; rfl) rfl (fun i hi => by cases hi) (lt_of_ble rfl)
    rintro r bs' ⟨rfl, rfl⟩
    apply Wk.mv (by conv => lhs; whnf) (lt_of_ble rfl)
    apply Wk.cal [5] [] ht (in_send x' _ _ b rfl) ⟨_, _, rfl, rfl⟩ Try.func68 rfl rfl rfl rfl (fun i hi => by cases hi) rfl (one_in (by exact within_parts x.fl)) (lt_of_ble rfl)
    rintro r bs' ⟨rfl, rfl⟩
    apply Wk.mv (by conv => lhs; whnf) (lt_of_ble rfl)
    apply Wk.ext rfl rfl (lt_of_ble rfl)
    apply Wk.ext rfl rfl (lt_of_ble rfl)
    apply Wk.ext rfl rfl (lt_of_ble rfl)
    apply Wk.alc 9 [.int .i64 0, .int .i64 0, .slice none 0 0, .int .i64 0, .slice none 0 0, .bool false, .int .i64 0, .bool false, .int .i64 0, .bool false] ze27 rfl rfl (lt_of_ble rfl)
    apply Wk.alc 10 [.int .i64 0, .int .i64 0, .int .i64 0, .bool false, .bool false, .int .i64 0, .int .i64 0, .int .i64 0, .slice none 0 0] ze42 rfl rfl (lt_of_ble rfl)
    apply Wk.sto (i := 9) 10 true ty27 rfl rfl rfl rfl (Nat.le_of_ble_eq_true rfl) (lt_of_ble rfl)
    apply Wk.sto (i := 10) 9 true ty42 rfl rfl rfl rfl (Nat.le_of_ble_eq_true rfl) (lt_of_ble rfl)
    apply Wk.asg (by conv => lhs; whnf) (lt_of_ble rfl)
    refine Wk.nil ?_
    refine AW.thawc (j := 9) (c := 2) (i := 5) _ rfl rfl rfl (asData_parts x'.fl) hX.none ?_
    refine AW.keep (n := 36) (ts := [(6, .ptr 6 0), (7, .ptr 7 0), (9, .ptr 9 0), (10, .ptr 10 0), (11, .d (.v (.bool b)))]) (bs := [(6, .var txN), (7, .var frmNC), (9, .var (txC x')), (10, .var (frmZC k1 s c p f y g l1 z))]) ⟨rfl, .cons rfl rfl (.cons rfl rfl (.cons rfl rfl (.cons rfl rfl (.cons rfl rfl .nil)))), .cons rfl rfl (.cons rfl rfl (.cons rfl rfl (.cons rfl rfl .nil))), hN.mono (by simp [keys])⟩ ?_
    refine AW.seq ?_
    apply AW.draw (hm := hmix) (cs := _)
    · apply Wk.ld (i := 9) 10 true ty27 rfl rfl (by conv => lhs; whnf) (lt_of_ble rfl)
      apply Wk.dat c2 Try.func55 rfl rfl rfl rfl rfl (lt_of_ble rfl)
      apply Wk.ld (i := 10) 9 true ty42 rfl rfl (by conv => lhs; whnf) (lt_of_ble rfl)
      apply Wk.mv (by conv => lhs; whnf) (lt_of_ble rfl)
      apply Wk.sto (i := 6) 10 true ty27 rfl rfl rfl rfl (Nat.le_of_ble_eq_true rfl) (lt_of_ble rfl)
      apply Wk.sto (i := 7) 9 true ty42 rfl rfl rfl rfl (Nat.le_of_ble_eq_true rfl) (lt_of_ble rfl)
      apply Wk.asg (by conv => lhs; whnf) (lt_of_ble rfl)
      refine Wk.nil (AW.ret ?_)
      exact RetQ.ret [] (.cons ⟨6, 0, _, _, _, rfl, rfl, ty27, rfl⟩ (.cons ⟨7, 0, _, _, _, rfl, rfl, ty42, rfl⟩ (.cons rfl .nil))) ⟨rfl, rfl⟩ none_kept
    · rfl
    · rfl
  · rfl
  · rfl
set_option maxHeartbeats 4000000 in
set_option maxRecDepth 100000 in
theorem ssendOD (m0 w0 p0 u0 y0 : Int) (x x' : TX) (ack : Int) (k l : Nat) (k1 s c : Int) (p f : Bool) (y g l1 : Int) (z : D) (b : Bool) (hok : txOkB ⟨m0, w0, p0, u0, y0⟩ x = true) (hack : inB ack 0 7 = true) (hx : x.few) (hx' : x'.few)
    (ht : Spec Try.prog 68 [cfgA m0 w0 p0 u0 y0, txF x 5 x.fl.length, .d (.v (.int .i64 ack))] (flB x.fl x.fl.length) (fun r bs => r = .tup [txO x' 5 k 66 l, frmZ k1 s c p f y g l1 z, .d (.v (.bool b))] ∧ bs = txB x'.fl x'.qu k l)) :
    DataOk Try.prog 25 [cfgA m0 w0 p0 u0 y0, txA x, .d (.v (.int .i64 ack))] (.tup [txA x', frmZ k1 s c p f y g l1 z, .d (.v (.bool b))]) := by
  have c1 := scopyF x hx
  have c2 := scopy_ok x' hx'
  refine Spec.intro (n := 36) (rv := [.cell 6 27, .cell 7 42, .tmp 8]) Try.func25 rfl rfl rfl (by simp) fun C hN hX => ?_
  refine AW.seq ?_
  apply AW.list
  apply Wk.bx 3 rfl rfl (lt_of_ble rfl)
  apply Wk.bx 4 rfl rfl (lt_of_ble rfl)
  apply Wk.alc 6 [.int .i64 0, .int .i64 0, .slice none 0 0, .int .i64 0, .slice none 0 0, .bool false, .int .i64 0, .bool false, .int .i64 0, .bool false] ze27 rfl rfl (lt_of_ble rfl)
  apply Wk.alc 7 [.int .i64 0, .int .i64 0, .int .i64 0, .bool false, .bool false, .int .i64 0, .int .i64 0, .int .i64 0, .slice none 0 0] ze42 rfl rfl (lt_of_ble rfl)
  apply Wk.asg (by conv => lhs; whnf) (lt_of_ble rfl)
  refine Wk.nil ?_
  refine AW.seq (AW.seq ?_)
  apply AW.list
  apply Wk.ld (i := 3) 5 true ty24 rfl rfl (by conv => lhs; whnf) (lt_of_ble rfl)
  apply Wk.ld (i := 4) 10 true ty27 rfl rfl (by conv => lhs; whnf) (lt_of_ble rfl)
  apply Wk.dat (stxb hok) Try.func18 rfl rfl rfl rfl rfl (lt_of_ble rfl)
  apply Wk.un rfl (fun w => by simp [go_sem] <;> rfl) (lt_of_ble rfl)
  apply Wk.mv (by conv => lhs; whnf) (lt_of_ble rfl)
  apply Wk.gon 16 rfl rfl
  apply Wk.mv (by conv => lhs; whnf) (lt_of_ble rfl)
  apply Wk.gon 16 rfl rfl
  apply Wk.dat (sinb hack) Try.func60 rfl rfl rfl rfl rfl (lt_of_ble rfl)
  apply Wk.gon 16 rfl rfl
  apply Wk.un rfl (fun w => by simp [go_sem] <;> rfl) (lt_of_ble rfl)
  apply Wk.pckF rfl (by conv => lhs; whnf) (lt_of_ble rfl)
  refine Wk.nil ?_
  refine AW.cond rfl (fun hc => by cases hc) (fun _ => AW.skip (thenA_normal ?_))
  refine AW.seq ?_
  apply AW.draw (hm := hmix) (cs := _)
  · apply Wk.ld (i := 3) 5 true ty24 rfl rfl (by conv => lhs; whnf) (lt_of_ble rfl)
    apply Wk.ld (i := 4) 10 true ty27 rfl rfl (by conv => lhs; whnf) (lt_of_ble rfl)
    apply Wk.cal [] [5] c1 (in_copyF x _) ⟨_, _, rfl, rfl⟩ Try.func55 rfl rfl rfl rfl (by simp; rfl) rfl (fun i hi => by cases hi) (lt_of_ble rfl)
    rintro r bs' ⟨rfl, rfl⟩
    apply Wk.mv (by conv => lhs; whnf) (lt_of_ble rfl)
    apply Wk.cal [5] [66] ht (in_send2 x' _ _ _ _ _ _ _ _ _ _ _ b) ⟨_, _, rfl, rfl⟩ Try.func68 rfl rfl rfl rfl (by simp; rfl) rfl (one_in (by exact within_parts x.fl)) (lt_of_ble rfl)
    rintro r bs' ⟨rfl, rfl⟩
    apply Wk.mv (by conv => lhs; whnf) (lt_of_ble rfl)
    apply Wk.ext rfl rfl (lt_of_ble rfl)
    apply Wk.ext rfl rfl (lt_of_ble rfl)
    apply Wk.ext rfl rfl (lt_of_ble rfl)
    apply Wk.alc 9 [.int .i64 0, .int .i64 0, .slice none 0 0, .int .i64 0, .slice none 0 0, .bool false, .int .i64 0, .bool false, .int .i64 0, .bool false] ze27 rfl rfl (lt_of_ble rfl)
    apply Wk.alc 10 [.int .i64 0, .int .i64 0, .int .i64 0, .bool false, .bool false, .int .i64 0, .int .i64 0, .int .i64 0, .slice none 0 0] ze42 rfl rfl (lt_of_ble rfl)
    apply Wk.sto (i := 9) 10 true ty27 rfl rfl rfl rfl (Nat.le_of_ble_eq_true rfl) (lt_of_ble rfl)
    apply Wk.sto (i := 10) 9 true ty42 rfl rfl rfl rfl (Nat.le_of_ble_eq_true rfl) (lt_of_ble rfl)
    apply Wk.asg (by conv => lhs; whnf) (lt_of_ble rfl)
    refine Wk.nil ?_
    refine AW.thawc (j := 9) (c := 2) (i := 5) _ rfl rfl rfl (asData_parts x'.fl) hX.none ?_
    refine AW.thawc (j := 9) (c := 4) (i := 66) _ rfl rfl rfl (asData_parts x'.qu) hX.none ?_
    refine AW.keep (n := 36) (ts := [(6, .ptr 6 0), (7, .ptr 7 0), (9, .ptr 9 0), (10, .ptr 10 0), (11, .d (.v (.bool b)))]) (bs := [(6, .var txN), (7, .var frmNC), (9, .var (txC x')), (10, .var (frmZC k1 s c p f y g l1 z))]) ⟨rfl, .cons rfl rfl (.cons rfl rfl (.cons rfl rfl (.cons rfl rfl (.cons rfl rfl .nil)))), .cons rfl rfl (.cons rfl rfl (.cons rfl rfl (.cons rfl rfl .nil))), hN.mono (by simp [keys])⟩ ?_
    refine AW.seq ?_
    apply AW.draw (hm := hmix) (cs := _)
    · apply Wk.ld (i := 9) 10 true ty27 rfl rfl (by conv => lhs; whnf) (lt_of_ble rfl)
      apply Wk.dat c2 Try.func55 rfl rfl rfl rfl rfl (lt_of_ble rfl)
      apply Wk.ld (i := 10) 9 true ty42 rfl rfl (by conv => lhs; whnf) (lt_of_ble rfl)
      apply Wk.mv (by conv => lhs; whnf) (lt_of_ble rfl)
      apply Wk.sto (i := 6) 10 true ty27 rfl rfl rfl rfl (Nat.le_of_ble_eq_true rfl) (lt_of_ble rfl)
      apply Wk.sto (i := 7) 9 true ty42 rfl rfl rfl rfl (Nat.le_of_ble_eq_true rfl) (lt_of_ble rfl)
      apply Wk.asg (by conv => lhs; whnf) (lt_of_ble rfl)
      refine Wk.nil (AW.ret ?_)
      exact RetQ.ret [] (.cons ⟨6, 0, _, _, _, rfl, rfl, ty27, rfl⟩ (.cons ⟨7, 0, _, _, _, rfl, rfl, ty42, rfl⟩ (.cons rfl .nil))) ⟨rfl, rfl⟩ none_kept
    · rfl
    · rfl
  · rfl
  · rfl
set_option maxHeartbeats 4000000 in
set_option maxRecDepth 100000 in
theorem shearD (m0 w0 p0 u0 y0 : Int) (x x' : TX) (k sq ack : Int) (p f : Bool) (y g l : Int) (zs : List Nat) (hok : txOkB ⟨m0, w0, p0, u0, y0⟩ x = true) (hfr : DataOk Try.prog 33 [frmZ k sq ack p f y g l (bytesD zs)] (.d (.v (.bool true)))) (hk : k = 1 ∨ k = 2) (hx : x.few) (hx' : x'.few)
    (ht : DataOk Try.prog 75 [txA x, frmZ k sq ack p f y g l (bytesD zs)] (txA x')) :
    DataOk Try.prog 32 [cfgA m0 w0 p0 u0 y0, txA x, frmZ k sq ack p f y g l (bytesD zs)] (txA x') := by
  simp only [frmZ, frmZC] at hfr ht ⊢
  have c1 := scopy_ok x hx
  have c2 := scopy_ok x' hx'
  rcases hk with rfl | rfl
  · skip
    refine Spec.intro (n := 32) (rv := [.cell 6 27]) Try.func32 rfl rfl rfl (by simp) fun C hN hX => ?_
    refine AW.seq ?_
    apply AW.list
    apply Wk.bx 3 rfl rfl (lt_of_ble rfl)
    apply Wk.bx 4 rfl rfl (lt_of_ble rfl)
    apply Wk.bx 50 rfl rfl (lt_of_ble rfl)
    apply Wk.alc 6 [.int .i64 0, .int .i64 0, .slice none 0 0, .int .i64 0, .slice none 0 0, .bool false, .int .i64 0, .bool false, .int .i64 0, .bool false] ze27 rfl rfl (lt_of_ble rfl)
    refine Wk.nil ?_
    refine AW.seq (AW.seq ?_)
    apply AW.list
    apply Wk.ld (i := 3) 5 true ty24 rfl rfl (by conv => lhs; whnf) (lt_of_ble rfl)
    apply Wk.ld (i := 4) 10 true ty27 rfl rfl (by conv => lhs; whnf) (lt_of_ble rfl)
    apply Wk.dat (stxb hok) Try.func18 rfl rfl rfl rfl rfl (lt_of_ble rfl)
    apply Wk.un rfl (fun w => by simp [go_sem] <;> rfl) (lt_of_ble rfl)
    apply Wk.mv (by conv => lhs; whnf) (lt_of_ble rfl)
    apply Wk.gon 11 rfl rfl
    apply Wk.ld (i := 50) 9 true ty42 rfl rfl (by conv => lhs; whnf) (lt_of_ble rfl)
    apply Wk.gon 11 rfl rfl
    apply Wk.dat hfr Try.func33 rfl rfl rfl rfl rfl (lt_of_ble rfl)
    apply Wk.gon 11 rfl rfl
    apply Wk.un rfl (fun w => by simp [go_sem] <;> rfl) (lt_of_ble rfl)
    apply Wk.pckF rfl (by conv => lhs; whnf) (lt_of_ble rfl)
    apply Wk.mv (by conv => lhs; whnf) (lt_of_ble rfl)
    apply Wk.gon 16 rfl rfl
    apply Wk.fad 0 0 false fd42_0 rfl (lt_of_ble rfl)
    apply Wk.gon 16 rfl rfl
    apply Wk.ld (i := 50) 1 false ty3 rfl rfl (by conv => lhs; whnf) (lt_of_ble rfl)
    apply Wk.gon 16 rfl rfl
    apply Wk.bin rfl rfl (r := .bool false) (fun w => by simp [go_sem]) (lt_of_ble rfl)
    apply Wk.gon 16 rfl rfl
    apply Wk.mv (by conv => lhs; whnf) (lt_of_ble rfl)
    apply Wk.goff 20 (ok_faddr fd42_0) rfl rfl (by simp)
    apply Wk.goff 20 (ok_load 50 ty3) rfl rfl (by simp)
    apply Wk.goff 20 (ok_bin _ _ _ _ _) rfl rfl (by simp)
    apply Wk.gon 16 rfl rfl
    apply Wk.pckF rfl (by conv => lhs; whnf) (lt_of_ble rfl)
    apply Wk.pckF rfl (by conv => lhs; whnf) (lt_of_ble rfl)
    refine Wk.nil ?_
    refine AW.cond rfl (fun hc => by cases hc) (fun _ => AW.skip (thenA_normal ?_))
    refine AW.seq ?_
    apply AW.draw (hm := hmix) (cs := _)
    · apply Wk.ld (i := 4) 10 true ty27 rfl rfl (by conv => lhs; whnf) (lt_of_ble rfl)
      apply Wk.dat c1 Try.func55 rfl rfl rfl rfl rfl (lt_of_ble rfl)
      apply Wk.ld (i := 50) 9 true ty42 rfl rfl (by conv => lhs; whnf) (lt_of_ble rfl)
      apply Wk.dat ht Try.func75 rfl rfl rfl rfl rfl (lt_of_ble rfl)
      apply Wk.dat c2 Try.func55 rfl rfl rfl rfl rfl (lt_of_ble rfl)
      apply Wk.sto (i := 6) 10 true ty27 rfl rfl rfl rfl (Nat.le_of_ble_eq_true rfl) (lt_of_ble rfl)
      refine Wk.nil (AW.ret ?_)
      exact RetQ.ret [] (.cons ⟨6, 0, _, _, _, rfl, rfl, ty27, rfl⟩ .nil) ⟨rfl, rfl⟩ none_kept
    · rfl
    · rfl
  · skip
    refine Spec.intro (n := 32) (rv := [.cell 6 27]) Try.func32 rfl rfl rfl (by simp) fun C hN hX => ?_
    refine AW.seq ?_
    apply AW.list
    apply Wk.bx 3 rfl rfl (lt_of_ble rfl)
    apply Wk.bx 4 rfl rfl (lt_of_ble rfl)
    apply Wk.bx 50 rfl rfl (lt_of_ble rfl)
    apply Wk.alc 6 [.int .i64 0, .int .i64 0, .slice none 0 0, .int .i64 0, .slice none 0 0, .bool false, .int .i64 0, .bool false, .int .i64 0, .bool false] ze27 rfl rfl (lt_of_ble rfl)
    refine Wk.nil ?_
    refine AW.seq (AW.seq ?_)
    apply AW.list
    apply Wk.ld (i := 3) 5 true ty24 rfl rfl (by conv => lhs; whnf) (lt_of_ble rfl)
    apply Wk.ld (i := 4) 10 true ty27 rfl rfl (by conv => lhs; whnf) (lt_of_ble rfl)
    apply Wk.dat (stxb hok) Try.func18 rfl rfl rfl rfl rfl (lt_of_ble rfl)
    apply Wk.un rfl (fun w => by simp [go_sem] <;> rfl) (lt_of_ble rfl)
    apply Wk.mv (by conv => lhs; whnf) (lt_of_ble rfl)
    apply Wk.gon 11 rfl rfl
    apply Wk.ld (i := 50) 9 true ty42 rfl rfl (by conv => lhs; whnf) (lt_of_ble rfl)
    apply Wk.gon 11 rfl rfl
    apply Wk.dat hfr Try.func33 rfl rfl rfl rfl rfl (lt_of_ble rfl)
    apply Wk.gon 11 rfl rfl
    apply Wk.un rfl (fun w => by simp [go_sem] <;> rfl) (lt_of_ble rfl)
    apply Wk.pckF rfl (by conv => lhs; whnf) (lt_of_ble rfl)
    apply Wk.mv (by conv => lhs; whnf) (lt_of_ble rfl)
    apply Wk.gon 16 rfl rfl
    apply Wk.fad 0 0 false fd42_0 rfl (lt_of_ble rfl)
    apply Wk.gon 16 rfl rfl
    apply Wk.ld (i := 50) 1 false ty3 rfl rfl (by conv => lhs; whnf) (lt_of_ble rfl)
    apply Wk.gon 16 rfl rfl
    apply Wk.bin rfl rfl (r := .bool true) (fun w => by simp [go_sem]) (lt_of_ble rfl)
    apply Wk.gon 16 rfl rfl
    apply Wk.mv (by conv => lhs; whnf) (lt_of_ble rfl)
    apply Wk.gon 20 rfl rfl
    apply Wk.fad 0 0 false fd42_0 rfl (lt_of_ble rfl)
    apply Wk.gon 20 rfl rfl
    apply Wk.ld (i := 50) 1 false ty3 rfl rfl (by conv => lhs; whnf) (lt_of_ble rfl)
    apply Wk.gon 20 rfl rfl
    apply Wk.bin rfl rfl (r := .bool false) (fun w => by simp [go_sem]) (lt_of_ble rfl)
    apply Wk.gon 16 rfl rfl
    apply Wk.pckT rfl (by conv => lhs; whnf) (lt_of_ble rfl)
    apply Wk.pckF rfl (by conv => lhs; whnf) (lt_of_ble rfl)
    refine Wk.nil ?_
    refine AW.cond rfl (fun hc => by cases hc) (fun _ => AW.skip (thenA_normal ?_))
    refine AW.seq ?_
    apply AW.draw (hm := hmix) (cs := _)
    · apply Wk.ld (i := 4) 10 true ty27 rfl rfl (by conv => lhs; whnf) (lt_of_ble rfl)
      apply Wk.dat c1 Try.func55 rfl rfl rfl rfl rfl (lt_of_ble rfl)
      apply Wk.ld (i := 50) 9 true ty42 rfl rfl (by conv => lhs; whnf) (lt_of_ble rfl)
      apply Wk.dat ht Try.func75 rfl rfl rfl rfl rfl (lt_of_ble rfl)
      apply Wk.dat c2 Try.func55 rfl rfl rfl rfl rfl (lt_of_ble rfl)
      apply Wk.sto (i := 6) 10 true ty27 rfl rfl rfl rfl (Nat.le_of_ble_eq_true rfl) (lt_of_ble rfl)
      refine Wk.nil (AW.ret ?_)
      exact RetQ.ret [] (.cons ⟨6, 0, _, _, _, rfl, rfl, ty27, rfl⟩ .nil) ⟨rfl, rfl⟩ none_kept
    · rfl
    · rfl
end Go.Proofs.Ytdojkmjamilllaa

/- TxSend of the program, as a whole. Written by tools/mk_AbsSendJ.py. -/
namespace Go.Proofs.Ytdojkmjamilllaa
open Go Go.RowKit
set_option maxHeartbeats 4000000 in
set_option maxRecDepth 100000 in
theorem itsendNo (m0 w0 p0 u0 y0 : Int) (x : TX) (ack : Int) (hno : txOkB ⟨m0, w0, p0, u0, y0⟩ x = false ∨ inB ack 0 7 = false) :
    DataOk Try.prog 24 [cfgA m0 w0 p0 u0 y0, txA x, .d (.v (.int .i64 ack))] (.tup [txNil, frmNo, .d (.v (.bool false))]) := by
  cases hok : txOkB ⟨m0, w0, p0, u0, y0⟩ x
  · skip
    refine Spec.intro (n := 36) (rv := [.cell 6 27, .cell 7 42, .tmp 8]) Try.func24 rfl rfl rfl (by simp) fun C hN hX => ?_
    refine AW.seq ?_
    apply AW.list
    apply Wk.bx 3 rfl rfl (lt_of_ble rfl)
    apply Wk.bx 50 rfl rfl (lt_of_ble rfl)
    apply Wk.alc 6 [.int .i64 0, .int .i64 0, .slice none 0 0, .int .i64 0, .slice none 0 0, .bool false, .int .i64 0, .bool false, .int .i64 0, .bool false] ze27 rfl rfl (lt_of_ble rfl)
    apply Wk.alc 7 [.int .i64 0, .int .i64 0, .int .i64 0, .bool false, .bool false, .int .i64 0, .int .i64 0, .int .i64 0, .slice none 0 0] ze42 rfl rfl (lt_of_ble rfl)
    apply Wk.asg (by conv => lhs; whnf) (lt_of_ble rfl)
    refine Wk.nil ?_
    refine AW.seq (AW.seq ?_)
    apply AW.list
    apply Wk.ld (i := 3) 5 true ty24 rfl rfl (by conv => lhs; whnf) (lt_of_ble rfl)
    apply Wk.ld (i := 50) 10 true ty27 rfl rfl (by conv => lhs; whnf) (lt_of_ble rfl)
    apply Wk.dat (itxb hok) Try.func17 rfl rfl rfl rfl rfl (lt_of_ble rfl)
    apply Wk.un rfl (fun w => by simp [go_sem] <;> rfl) (lt_of_ble rfl)
    apply Wk.mv (by conv => lhs; whnf) (lt_of_ble rfl)
    apply Wk.goff 16 (ok_move _) rfl rfl (by simp)
    apply Wk.goff 16 (ok_datw ((iisnum (n := 0) rfl).w rfl) Try.func66 rfl rfl) rfl rfl (by simp)
    apply Wk.goff 16 (ok_un _ _ _) rfl rfl (by simp)
    apply Wk.pckT rfl (by conv => lhs; whnf) (lt_of_ble rfl)
    refine Wk.nil ?_
    refine AW.cond rfl (fun _ => ?_) (fun hc => by cases hc)
    refine AW.seq ?_
    apply AW.list
    apply Wk.bld [.int .i64 0, .int .i64 0, .slice none 0 0, .int .i64 0, .slice none 0 0, .bool false, .int .i64 0, .bool false, .int .i64 0, .bool false] [(0, 1), (1, 1), (2, 1), (3, 1), (4, 1), (5, 1), (6, 1), (7, 1), (8, 1), (9, 1)] bl27 rfl (by conv => lhs; whnf) (lt_of_ble rfl)
    apply Wk.bld [.int .i64 0, .int .i64 0, .int .i64 0, .bool false, .bool false, .int .i64 0, .int .i64 0, .int .i64 0, .slice none 0 0] [(0, 1), (1, 1), (2, 1), (3, 1), (4, 1), (5, 1), (6, 1), (7, 1), (8, 1)] bl42 rfl (by conv => lhs; whnf) (lt_of_ble rfl)
    apply Wk.sto (i := 6) 10 true ty27 rfl rfl rfl rfl (Nat.le_of_ble_eq_true rfl) (lt_of_ble rfl)
    apply Wk.sto (i := 7) 9 true ty42 rfl rfl rfl rfl (Nat.le_of_ble_eq_true rfl) (lt_of_ble rfl)
    apply Wk.asg (by conv => lhs; whnf) (lt_of_ble rfl)
    refine Wk.nil (AW.ret ?_)
    repeat (first | refine thenA_ret ?_ | refine inBlockA_ret ?_)
    exact RetQ.ret [] (.cons ⟨6, 0, _, _, _, rfl, rfl, ty27, rfl⟩ (.cons ⟨7, 0, _, _, _, rfl, rfl, ty42, rfl⟩ (.cons rfl .nil))) ⟨rfl, rfl⟩ none_kept
  · have hack : inB ack 0 7 = false := by rcases hno with h | h <;> first | exact h | (rw [hok] at h; cases h)
    refine Spec.intro (n := 36) (rv := [.cell 6 27, .cell 7 42, .tmp 8]) Try.func24 rfl rfl rfl (by simp) fun C hN hX => ?_
    refine AW.seq ?_
    apply AW.list
    apply Wk.bx 3 rfl rfl (lt_of_ble rfl)
    apply Wk.bx 50 rfl rfl (lt_of_ble rfl)
    apply Wk.alc 6 [.int .i64 0, .int .i64 0, .slice none 0 0, .int .i64 0, .slice none 0 0, .bool false, .int .i64 0, .bool false, .int .i64 0, .bool false] ze27 rfl rfl (lt_of_ble rfl)
    apply Wk.alc 7 [.int .i64 0, .int .i64 0, .int .i64 0, .bool false, .bool false, .int .i64 0, .int .i64 0, .int .i64 0, .slice none 0 0] ze42 rfl rfl (lt_of_ble rfl)
    apply Wk.asg (by conv => lhs; whnf) (lt_of_ble rfl)
    refine Wk.nil ?_
    refine AW.seq (AW.seq ?_)
    apply AW.list
    apply Wk.ld (i := 3) 5 true ty24 rfl rfl (by conv => lhs; whnf) (lt_of_ble rfl)
    apply Wk.ld (i := 50) 10 true ty27 rfl rfl (by conv => lhs; whnf) (lt_of_ble rfl)
    apply Wk.dat (itxb hok) Try.func17 rfl rfl rfl rfl rfl (lt_of_ble rfl)
    apply Wk.un rfl (fun w => by simp [go_sem] <;> rfl) (lt_of_ble rfl)
    apply Wk.mv (by conv => lhs; whnf) (lt_of_ble rfl)
    apply Wk.gon 16 rfl rfl
    apply Wk.mv (by conv => lhs; whnf) (lt_of_ble rfl)
    apply Wk.gon 16 rfl rfl
    apply Wk.dat (iisnum hack) Try.func66 rfl rfl rfl rfl rfl (lt_of_ble rfl)
    apply Wk.gon 16 rfl rfl
    apply Wk.un rfl (fun w => by simp [go_sem] <;> rfl) (lt_of_ble rfl)
    apply Wk.pckF rfl (by conv => lhs; whnf) (lt_of_ble rfl)
    refine Wk.nil ?_
    refine AW.cond rfl (fun _ => ?_) (fun hc => by cases hc)
    refine AW.seq ?_
    apply AW.list
    apply Wk.bld [.int .i64 0, .int .i64 0, .slice none 0 0, .int .i64 0, .slice none 0 0, .bool false, .int .i64 0, .bool false, .int .i64 0, .bool false] [(0, 1), (1, 1), (2, 1), (3, 1), (4, 1), (5, 1), (6, 1), (7, 1), (8, 1), (9, 1)] bl27 rfl (by conv => lhs; whnf) (lt_of_ble rfl)
    apply Wk.bld [.int .i64 0, .int .i64 0, .int .i64 0, .bool false, .bool false, .int .i64 0, .int .i64 0, .int .i64 0, .slice none 0 0] [(0, 1), (1, 1), (2, 1), (3, 1), (4, 1), (5, 1), (6, 1), (7, 1), (8, 1)] bl42 rfl (by conv => lhs; whnf) (lt_of_ble rfl)
    apply Wk.sto (i := 6) 10 true ty27 rfl rfl rfl rfl (Nat.le_of_ble_eq_true rfl) (lt_of_ble rfl)
    apply Wk.sto (i := 7) 9 true ty42 rfl rfl rfl rfl (Nat.le_of_ble_eq_true rfl) (lt_of_ble rfl)
    apply Wk.asg (by conv => lhs; whnf) (lt_of_ble rfl)
    refine Wk.nil (AW.ret ?_)
    repeat (first | refine thenA_ret ?_ | refine inBlockA_ret ?_)
    exact RetQ.ret [] (.cons ⟨6, 0, _, _, _, rfl, rfl, ty27, rfl⟩ (.cons ⟨7, 0, _, _, _, rfl, rfl, ty42, rfl⟩ (.cons rfl .nil))) ⟨rfl, rfl⟩ none_kept
set_option maxHeartbeats 4000000 in
set_option maxRecDepth 100000 in
theorem itsendN (m0 w0 p0 u0 y0 n a : Int) (s : Int) (qu : List Dat) (q : Bool) (t : Int) (hh : Bool) (c : Int) (dd : Bool) (s' : Int) (ack : Int) (k1 s1 c1 : Int) (p1 f1 : Bool) (y1 g1 l1 : Int) (z1 : D) (b : Bool) (hok : txOkB ⟨m0, w0, p0, u0, y0⟩ ⟨n, a, [], s, qu, q, t, hh, c, dd⟩ = true) (hack : inB ack 0 7 = true)
    (ht : Spec Try.prog 67 [.ptr 27 0, .d (.v (.int .i64 ack))] (sndB (sndC m0 w0 p0 u0 y0 a (ringF []) 0 (([] : List Dat).length : Int) s qu.length q t hh c dd) qu.length qu) (fun r bs => r = .tup [frmZ k1 s1 c1 p1 f1 y1 g1 l1 z1, .d (.v (.bool b))] ∧ bs = sndB (sndC m0 w0 p0 u0 y0 a (ringF []) 0 (([] : List Dat).length : Int) s' qu.length q t hh c dd) qu.length qu)) :
    DataOk Try.prog 24 [cfgA m0 w0 p0 u0 y0, txA ⟨n, a, [], s, qu, q, t, hh, c, dd⟩, .d (.v (.int .i64 ack))] (.tup [txA ⟨n, a, [], s', qu, q, t, hh, c, dd⟩, frmZ k1 s1 c1 p1 f1 y1 g1 l1 z1, .d (.v (.bool b))]) := by
  have h4 := txOk_four hok
  have hn := txOk_next hok
  simp only at h4 hn
  have cn := inew m0 w0 p0 u0 y0 ⟨n, a, [], s, qu, q, t, hh, c, dd⟩ h4.1 h4.2
  simp only at cn
  have cs := istateN m0 w0 p0 u0 y0 a (ringF []) s' qu.length q t hh c dd qu 0 (by omega) h4.1 (ring_at h4.1) ⟨hn.2.1, hn.2.2⟩
  rw [hn.1] at cs
  simp only [frmZ, frmZC] at ht ⊢
  refine Spec.intro (n := 36) (rv := [.cell 6 27, .cell 7 42, .tmp 8]) Try.func24 rfl rfl rfl (by simp) fun C hN hX => ?_
  refine AW.seq ?_
  apply AW.list
  apply Wk.bx 3 rfl rfl (lt_of_ble rfl)
  apply Wk.bx 50 rfl rfl (lt_of_ble rfl)
  apply Wk.alc 6 [.int .i64 0, .int .i64 0, .slice none 0 0, .int .i64 0, .slice none 0 0, .bool false, .int .i64 0, .bool false, .int .i64 0, .bool false] ze27 rfl rfl (lt_of_ble rfl)
  apply Wk.alc 7 [.int .i64 0, .int .i64 0, .int .i64 0, .bool false, .bool false, .int .i64 0, .int .i64 0, .int .i64 0, .slice none 0 0] ze42 rfl rfl (lt_of_ble rfl)
  apply Wk.asg (by conv => lhs; whnf) (lt_of_ble rfl)
  refine Wk.nil ?_
  refine AW.seq (AW.seq ?_)
  apply AW.list
  apply Wk.ld (i := 3) 5 true ty24 rfl rfl (by conv => lhs; whnf) (lt_of_ble rfl)
  apply Wk.ld (i := 50) 10 true ty27 rfl rfl (by conv => lhs; whnf) (lt_of_ble rfl)
  apply Wk.dat (itxb hok) Try.func17 rfl rfl rfl rfl rfl (lt_of_ble rfl)
  apply Wk.un rfl (fun w => by simp [go_sem] <;> rfl) (lt_of_ble rfl)
  apply Wk.mv (by conv => lhs; whnf) (lt_of_ble rfl)
  apply Wk.gon 16 rfl rfl
  apply Wk.mv (by conv => lhs; whnf) (lt_of_ble rfl)
  apply Wk.gon 16 rfl rfl
  apply Wk.dat (iisnum hack) Try.func66 rfl rfl rfl rfl rfl (lt_of_ble rfl)
  apply Wk.gon 16 rfl rfl
  apply Wk.un rfl (fun w => by simp [go_sem] <;> rfl) (lt_of_ble rfl)
  apply Wk.pckF rfl (by conv => lhs; whnf) (lt_of_ble rfl)
  refine Wk.nil ?_
  refine AW.cond rfl (fun hc => by cases hc) (fun _ => AW.skip (thenA_normal ?_))
  refine AW.seq ?_
  apply AW.list
  apply Wk.ld (i := 3) 5 true ty24 rfl rfl (by conv => lhs; whnf) (lt_of_ble rfl)
  apply Wk.ld (i := 50) 10 true ty27 rfl rfl (by conv => lhs; whnf) (lt_of_ble rfl)
  apply Wk.cal [] [27, 66] cn (in_snd _ rfl _ _ _ _ _ _ _ _ _ _ _ _ _ _ _ _ _ _) ⟨_, _, rfl, rfl⟩ Try.func51 rfl rfl rfl rfl (by simp; exact ⟨rfl, rfl⟩) rfl (fun i hi => by cases hi) (lt_of_ble rfl)
  rintro r bs' ⟨rfl, rfl⟩
  apply Wk.asg (by conv => lhs; whnf) (lt_of_ble rfl)
  refine Wk.nil ?_
  refine AW.seq ?_
  apply AW.list
  apply Wk.mv (by conv => lhs; whnf) (lt_of_ble rfl)
  apply Wk.mv (by conv => lhs; whnf) (lt_of_ble rfl)
  apply Wk.cal [27, 66] [] ht (in_snd _ (by rfl) _ _ _ _ _ _ _ _ _ _ _ _ _ _ _ _ _ _) ⟨_, _, rfl, rfl⟩ Try.func67 rfl rfl rfl rfl (fun i hi => by cases hi) rfl (two_in rfl (by exact within_parts _)) (lt_of_ble rfl)
  rintro r bs' ⟨rfl, rfl⟩
  apply Wk.mv (by conv => lhs; whnf) (lt_of_ble rfl)
  apply Wk.ext rfl rfl (lt_of_ble rfl)
  apply Wk.ext rfl rfl (lt_of_ble rfl)
  apply Wk.alc 10 [.int .i64 0, .int .i64 0, .int .i64 0, .bool false, .bool false, .int .i64 0, .int .i64 0, .int .i64 0, .slice none 0 0] ze42 rfl rfl (lt_of_ble rfl)
  apply Wk.sto (i := 10) 9 true ty42 rfl rfl rfl rfl (Nat.le_of_ble_eq_true rfl) (lt_of_ble rfl)
  apply Wk.asg (by conv => lhs; whnf) (lt_of_ble rfl)
  refine Wk.nil ?_
  refine AW.seq ?_
  apply AW.draw (hm := hmix) (cs := _)
  · apply Wk.mv (by conv => lhs; whnf) (lt_of_ble rfl)
    apply Wk.calr [27, 66] [17] cs (in_sndF _ rfl _ _ _ _ _ _ _ _ _ _ _ _ _ _ _ _ _ _ []) (by rintro r bs' ⟨rfl, rfl⟩; exact keep2) ⟨_, _, rfl, rfl⟩ Try.func53 rfl rfl rfl rfl (by simp; rfl) rfl (two_in rfl (by exact within_parts _)) (lt_of_ble rfl)
    rintro r bs' ⟨rfl, rfl⟩
    apply Wk.ld (i := 10) 9 true ty42 rfl rfl (by conv => lhs; whnf) (lt_of_ble rfl)
    apply Wk.mv (by conv => lhs; whnf) (lt_of_ble rfl)
    apply Wk.sto (i := 6) 10 true ty27 rfl rfl rfl rfl (Nat.le_of_ble_eq_true rfl) (lt_of_ble rfl)
    apply Wk.sto (i := 7) 9 true ty42 rfl rfl rfl rfl (Nat.le_of_ble_eq_true rfl) (lt_of_ble rfl)
    apply Wk.asg (by conv => lhs; whnf) (lt_of_ble rfl)
    refine Wk.nil ?_
    refine AW.thawc (j := 6) (c := 4) (i := 66) _ rfl rfl rfl (asData_parts qu) hX.none ?_
    refine AW.nrmb (j := 6) rfl ?_
    refine AW.ret ?_
    exact RetQ.ret [] (.cons ⟨6, 0, _, _, _, rfl, rfl, ty27, rfl⟩ (.cons ⟨7, 0, _, _, _, rfl, rfl, ty42, rfl⟩ (.cons rfl .nil))) ⟨rfl, rfl⟩ none_kept
  · rfl
  · rfl
set_option maxHeartbeats 4000000 in
set_option maxRecDepth 100000 in
theorem itsendO (m0 w0 p0 u0 y0 n a : Int) (fl : List Dat) (hne : fl ≠ []) (s : Int) (qu : List Dat) (q : Bool) (t : Int) (hh : Bool) (c : Int) (dd : Bool) (s' : Int) (ack : Int) (k1 s1 c1 : Int) (p1 f1 : Bool) (y1 g1 l1 : Int) (z1 : D) (b : Bool) (hok : txOkB ⟨m0, w0, p0, u0, y0⟩ ⟨n, a, fl, s, qu, q, t, hh, c, dd⟩ = true) (hack : inB ack 0 7 = true)
    (ht : Spec Try.prog 67 [.ptr 27 0, .d (.v (.int .i64 ack))] (sndB (sndC m0 w0 p0 u0 y0 a (ringF fl) 0 ((fl : List Dat).length : Int) s qu.length q t hh c dd) qu.length qu) (fun r bs => r = .tup [frmZ k1 s1 c1 p1 f1 y1 g1 l1 z1, .d (.v (.bool b))] ∧ bs = sndB (sndC m0 w0 p0 u0 y0 a (ringF fl) 0 ((fl : List Dat).length : Int) s' qu.length q t hh c dd) qu.length qu)) :
    DataOk Try.prog 24 [cfgA m0 w0 p0 u0 y0, txA ⟨n, a, fl, s, qu, q, t, hh, c, dd⟩, .d (.v (.int .i64 ack))] (.tup [txA ⟨n, a, fl, s', qu, q, t, hh, c, dd⟩, frmZ k1 s1 c1 p1 f1 y1 g1 l1 z1, .d (.v (.bool b))]) := by
  have h4 := txOk_four hok
  have hn := txOk_next hok
  simp only at h4 hn
  have cn := inew m0 w0 p0 u0 y0 ⟨n, a, fl, s, qu, q, t, hh, c, dd⟩ h4.1 h4.2
  simp only at cn
  have cs := istateO m0 w0 p0 u0 y0 a (ringF fl) s' qu.length q t hh c dd qu 0 fl hne (by omega) h4.1 (ring_at h4.1) ⟨hn.2.1, hn.2.2⟩
  rw [hn.1] at cs
  simp only [frmZ, frmZC] at ht ⊢
  have ev : flV fl = .own 17 (fl.length - 1) := if_neg hne
  have ex : flX fl = [(17, .own (fl.length - 1) 47 3 (piecesA fl))] := if_neg hne
  have ip : PostIn [27, 66, 17] (fun r bs => r = stA0 n a (flV fl) s' qu.length q t hh c dd ∧ bs = sndB (sndC m0 w0 p0 u0 y0 a (ringF fl) 0 ((fl : List Dat).length : Int) s' qu.length q t hh c dd) qu.length qu ++ flX fl) := in_sndF _ (by rw [ev]; rfl) _ _ _ _ _ _ _ _ _ _ _ _ _ _ _ _ _ _ _
  rw [ev, ex] at cs ip
  refine Spec.intro (n := 36) (rv := [.cell 6 27, .cell 7 42, .tmp 8]) Try.func24 rfl rfl rfl (by simp) fun C hN hX => ?_
  refine AW.seq ?_
  apply AW.list
  apply Wk.bx 3 rfl rfl (lt_of_ble rfl)
  apply Wk.bx 50 rfl rfl (lt_of_ble rfl)
  apply Wk.alc 6 [.int .i64 0, .int .i64 0, .slice none 0 0, .int .i64 0, .slice none 0 0, .bool false, .int .i64 0, .bool false, .int .i64 0, .bool false] ze27 rfl rfl (lt_of_ble rfl)
  apply Wk.alc 7 [.int .i64 0, .int .i64 0, .int .i64 0, .bool false, .bool false, .int .i64 0, .int .i64 0, .int .i64 0, .slice none 0 0] ze42 rfl rfl (lt_of_ble rfl)
  apply Wk.asg (by conv => lhs; whnf) (lt_of_ble rfl)
  refine Wk.nil ?_
  refine AW.seq (AW.seq ?_)
  apply AW.list
  apply Wk.ld (i := 3) 5 true ty24 rfl rfl (by conv => lhs; whnf) (lt_of_ble rfl)
  apply Wk.ld (i := 50) 10 true ty27 rfl rfl (by conv => lhs; whnf) (lt_of_ble rfl)
  apply Wk.dat (itxb hok) Try.func17 rfl rfl rfl rfl rfl (lt_of_ble rfl)
  apply Wk.un rfl (fun w => by simp [go_sem] <;> rfl) (lt_of_ble rfl)
  apply Wk.mv (by conv => lhs; whnf) (lt_of_ble rfl)
  apply Wk.gon 16 rfl rfl
  apply Wk.mv (by conv => lhs; whnf) (lt_of_ble rfl)
  apply Wk.gon 16 rfl rfl
  apply Wk.dat (iisnum hack) Try.func66 rfl rfl rfl rfl rfl (lt_of_ble rfl)
  apply Wk.gon 16 rfl rfl
  apply Wk.un rfl (fun w => by simp [go_sem] <;> rfl) (lt_of_ble rfl)
  apply Wk.pckF rfl (by conv => lhs; whnf) (lt_of_ble rfl)
  refine Wk.nil ?_
  refine AW.cond rfl (fun hc => by cases hc) (fun _ => AW.skip (thenA_normal ?_))
  refine AW.seq ?_
  apply AW.list
  apply Wk.ld (i := 3) 5 true ty24 rfl rfl (by conv => lhs; whnf) (lt_of_ble rfl)
  apply Wk.ld (i := 50) 10 true ty27 rfl rfl (by conv => lhs; whnf) (lt_of_ble rfl)
  apply Wk.cal [] [27, 66] cn (in_snd _ rfl _ _ _ _ _ _ _ _ _ _ _ _ _ _ _ _ _ _) ⟨_, _, rfl, rfl⟩ Try.func51 rfl rfl rfl rfl (by simp; exact ⟨rfl, rfl⟩) rfl (fun i hi => by cases hi) (lt_of_ble rfl)
  rintro r bs' ⟨rfl, rfl⟩
  apply Wk.asg (by conv => lhs; whnf) (lt_of_ble rfl)
  refine Wk.nil ?_
  refine AW.seq ?_
  apply AW.list
  apply Wk.mv (by conv => lhs; whnf) (lt_of_ble rfl)
  apply Wk.mv (by conv => lhs; whnf) (lt_of_ble rfl)
  apply Wk.cal [27, 66] [] ht (in_snd _ (by rfl) _ _ _ _ _ _ _ _ _ _ _ _ _ _ _ _ _ _) ⟨_, _, rfl, rfl⟩ Try.func67 rfl rfl rfl rfl (fun i hi => by cases hi) rfl (two_in rfl (by exact within_parts _)) (lt_of_ble rfl)
  rintro r bs' ⟨rfl, rfl⟩
  apply Wk.mv (by conv => lhs; whnf) (lt_of_ble rfl)
  apply Wk.ext rfl rfl (lt_of_ble rfl)
  apply Wk.ext rfl rfl (lt_of_ble rfl)
  apply Wk.alc 10 [.int .i64 0, .int .i64 0, .int .i64 0, .bool false, .bool false, .int .i64 0, .int .i64 0, .int .i64 0, .slice none 0 0] ze42 rfl rfl (lt_of_ble rfl)
  apply Wk.sto (i := 10) 9 true ty42 rfl rfl rfl rfl (Nat.le_of_ble_eq_true rfl) (lt_of_ble rfl)
  apply Wk.asg (by conv => lhs; whnf) (lt_of_ble rfl)
  refine Wk.nil ?_
  refine AW.seq ?_
  apply AW.draw (hm := hmix) (cs := _)
  · apply Wk.mv (by conv => lhs; whnf) (lt_of_ble rfl)
    apply Wk.calr [27, 66] [17] cs ip (by rintro r bs' ⟨rfl, rfl⟩; exact keep2) ⟨_, _, rfl, rfl⟩ Try.func53 rfl rfl rfl rfl (by simp; rfl) rfl (two_in rfl (by exact within_parts _)) (lt_of_ble rfl)
    rintro r bs' ⟨rfl, rfl⟩
    apply Wk.ld (i := 10) 9 true ty42 rfl rfl (by conv => lhs; whnf) (lt_of_ble rfl)
    apply Wk.mv (by conv => lhs; whnf) (lt_of_ble rfl)
    apply Wk.sto (i := 6) 10 true ty27 rfl rfl rfl rfl (Nat.le_of_ble_eq_true rfl) (lt_of_ble rfl)
    apply Wk.sto (i := 7) 9 true ty42 rfl rfl rfl rfl (Nat.le_of_ble_eq_true rfl) (lt_of_ble rfl)
    apply Wk.asg (by conv => lhs; whnf) (lt_of_ble rfl)
    refine Wk.nil ?_
    refine AW.thawc (j := 6) (c := 4) (i := 66) _ rfl rfl rfl (asData_parts qu) hX.none ?_
    refine AW.thawc (j := 6) (c := 2) (i := 17) _ rfl rfl rfl (asData_parts (fl)) hX.none ?_
    refine AW.ret ?_
    exact RetQ.ret [] (.cons ⟨6, 0, _, _, _, rfl, rfl, ty27, rfl⟩ (.cons ⟨7, 0, _, _, _, rfl, rfl, ty42, rfl⟩ (.cons rfl .nil))) ⟨rfl, rfl⟩ none_kept
  · rfl
  · rfl
theorem ring_more {fl : List Dat} (e : Dat) (h4 : fl.length < 4) : ∀ i d, (fl ++ [e])[i]? = some d → upd (ringF fl) fl.length (sl (some e)) ((0 + i) % 4) = sl (some d) := by
  intro i d h
  have hi := (List.getElem?_eq_some_iff.1 h).1
  rw [List.length_append, List.length_singleton] at hi
  rw [show (0 + i) % 4 = i by omega]
  unfold upd
  by_cases hl : i = fl.length
  · rw [if_pos hl]
    subst hl
    rw [List.getElem?_append_right (by omega)] at h
    simp at h
    rw [h]
  · rw [if_neg hl, ringF]
    rw [List.getElem?_append_left (by omega)] at h
    rw [h]
set_option maxHeartbeats 4000000 in
set_option maxRecDepth 100000 in
theorem itsendNew (m0 w0 p0 u0 y0 n a : Int) (fl : List Dat) (e : Dat) (qs : List Dat) (t : Int) (c : Int) (ack : Int) (hok : txOkB ⟨m0, w0, p0, u0, y0⟩ ⟨n, a, fl, (fl.length : Int), e :: qs, false, t, false, c, false⟩ = true) (hack : inB ack 0 7 = true) (hw : ¬ (fl.length : Int) = w0) (h9 : ¬ c + (fl.length : Int) = 9999) :
    DataOk Try.prog 24 [cfgA m0 w0 p0 u0 y0, txA ⟨n, a, fl, (fl.length : Int), e :: qs, false, t, false, c, false⟩, .d (.v (.int .i64 ack))] (.tup [txA ⟨(n + 1) % 8, a, fl ++ [e], (fl.length : Int) + 1, qs, false, t, false, c, false⟩, frmZ 1 ((a + (fl.length : Int)) % 8) ack false false 0 e.1 e.2.1 (bytesD e.2.2), .d (.v (.bool true))]) := by
  have f := txOk_facts hok
  have h4 := txOk_four hok
  have hn := txOk_next hok
  have hw4 := f.2.1
  have hlw := f.2.2.2.2.2.2.2.1
  have hc0 := f.2.2.2.2.2.2.2.2.2.2.2.2.1
  simp only at h4 hn hw4 hlw hc0
  have hq1 := h4.2.2.1
  have hq2 := h4.2.2.2 e (by simp)
  simp only [List.length_cons] at hq1
  have hk4 : fl.length < 4 := by omega
  have cn := inew m0 w0 p0 u0 y0 ⟨n, a, fl, (fl.length : Int), e :: qs, false, t, false, c, false⟩ h4.1 h4.2
  simp only at cn
  have ht := isendNew m0 w0 p0 u0 y0 a (ringF fl) fl.length t c ack e qs hq2 hw hk4 (by omega) h9 (by omega) ⟨hn.2.1, hn.2.2⟩
  have hne : fl ++ [e] ≠ [] := by simp
  have el : ((fl ++ [e]).length : Int) = (fl.length : Int) + 1 := by simp
  have cs := istateO m0 w0 p0 u0 y0 a (upd (ringF fl) fl.length (sl (some e))) ((fl.length : Int) + 1) 0 false t false c false qs 0 (fl ++ [e]) hne (by omega) (by simp; omega) (ring_more e hk4) ⟨hn.2.1, hn.2.2⟩
  have ev : flV (fl ++ [e]) = .own 17 ((fl ++ [e]).length - 1) := if_neg hne
  have ex : flX (fl ++ [e]) = [(17, .own ((fl ++ [e]).length - 1) 47 3 (piecesA (fl ++ [e])))] := if_neg hne
  have hnx : (a + ((fl.length : Int) + 1)) % 8 = (n + 1) % 8 := by omega
  rw [el, hnx] at cs
  have ip : PostIn [27, 66, 17] (fun r bs => r = stA0 ((n + 1) % 8) a (flV (fl ++ [e])) ((fl.length : Int) + 1) 0 false t false c false ∧ bs = sndB (sndC m0 w0 p0 u0 y0 a (upd (ringF fl) fl.length (sl (some e))) ((0 : Nat) : Int) ((fl.length : Int) + 1) ((fl.length : Int) + 1) 0 false t false c false) 0 qs ++ flX (fl ++ [e])) := in_sndF _ (by rw [ev]; rfl) _ _ _ _ _ _ _ _ _ _ _ _ _ _ _ _ _ _ _
  rw [ev, ex] at cs ip
  simp only [frmZ, frmZC]
  simp only [frmD] at ht
  refine Spec.intro (n := 36) (rv := [.cell 6 27, .cell 7 42, .tmp 8]) Try.func24 rfl rfl rfl (by simp) fun C hN hX => ?_
  refine AW.seq ?_
  apply AW.list
  apply Wk.bx 3 rfl rfl (lt_of_ble rfl)
  apply Wk.bx 50 rfl rfl (lt_of_ble rfl)
  apply Wk.alc 6 [.int .i64 0, .int .i64 0, .slice none 0 0, .int .i64 0, .slice none 0 0, .bool false, .int .i64 0, .bool false, .int .i64 0, .bool false] ze27 rfl rfl (lt_of_ble rfl)
  apply Wk.alc 7 [.int .i64 0, .int .i64 0, .int .i64 0, .bool false, .bool false, .int .i64 0, .int .i64 0, .int .i64 0, .slice none 0 0] ze42 rfl rfl (lt_of_ble rfl)
  apply Wk.asg (by conv => lhs; whnf) (lt_of_ble rfl)
  refine Wk.nil ?_
  refine AW.seq (AW.seq ?_)
  apply AW.list
  apply Wk.ld (i := 3) 5 true ty24 rfl rfl (by conv => lhs; whnf) (lt_of_ble rfl)
  apply Wk.ld (i := 50) 10 true ty27 rfl rfl (by conv => lhs; whnf) (lt_of_ble rfl)
  apply Wk.dat (itxb hok) Try.func17 rfl rfl rfl rfl rfl (lt_of_ble rfl)
  apply Wk.un rfl (fun w => by simp [go_sem] <;> rfl) (lt_of_ble rfl)
  apply Wk.mv (by conv => lhs; whnf) (lt_of_ble rfl)
  apply Wk.gon 16 rfl rfl
  apply Wk.mv (by conv => lhs; whnf) (lt_of_ble rfl)
  apply Wk.gon 16 rfl rfl
  apply Wk.dat (iisnum hack) Try.func66 rfl rfl rfl rfl rfl (lt_of_ble rfl)
  apply Wk.gon 16 rfl rfl
  apply Wk.un rfl (fun w => by simp [go_sem] <;> rfl) (lt_of_ble rfl)
  apply Wk.pckF rfl (by conv => lhs; whnf) (lt_of_ble rfl)
  refine Wk.nil ?_
  refine AW.cond rfl (fun hc => by cases hc) (fun _ => AW.skip (thenA_normal ?_))
  refine AW.seq ?_
  apply AW.list
  apply Wk.ld (i := 3) 5 true ty24 rfl rfl (by conv => lhs; whnf) (lt_of_ble rfl)
  apply Wk.ld (i := 50) 10 true ty27 rfl rfl (by conv => lhs; whnf) (lt_of_ble rfl)
  apply Wk.cal [] [27, 66] cn (in_snd _ rfl _ _ _ _ _ _ _ _ _ _ _ _ _ _ _ _ _ _) ⟨_, _, rfl, rfl⟩ Try.func51 rfl rfl rfl rfl (by simp; exact ⟨rfl, rfl⟩) rfl (fun i hi => by cases hi) (lt_of_ble rfl)
  rintro r bs' ⟨rfl, rfl⟩
  apply Wk.asg (by conv => lhs; whnf) (lt_of_ble rfl)
  refine Wk.nil ?_
  refine AW.thawc (j := 27) (c := 21) (i := 66) _ rfl rfl rfl (asData_parts (e :: qs)) hX.none ?_
  refine AW.keep (n := 36) (ts := [(2, .d (.v (.int .i64 ack))), (6, .ptr 6 0), (7, .ptr 7 0), (8, .d (.v (.bool false))), (9, .ptr 27 0)]) (bs := [(6, .var txN), (7, .var frmNC), (27, .var (sndD m0 w0 p0 u0 y0 a (ringF fl) 0 (fl.length : Int) (fl.length : Int) (partsD (e :: qs)) false t false c false))]) ⟨rfl, .cons rfl rfl (.cons rfl rfl (.cons rfl rfl (.cons rfl rfl (.cons rfl rfl .nil)))), .cons rfl rfl (.cons rfl rfl (.cons rfl rfl .nil)), hN.mono (by simp [keys])⟩ ?_
  refine AW.seq ?_
  apply AW.list
  apply Wk.mv (by conv => lhs; whnf) (lt_of_ble rfl)
  apply Wk.mv (by conv => lhs; whnf) (lt_of_ble rfl)
  apply Wk.cal [27] [66] ht (in_snd _ (by rfl) _ _ _ _ _ _ _ _ _ _ _ _ _ _ _ _ _ _) ⟨_, _, rfl, rfl⟩ Try.func67 rfl rfl rfl rfl (by simp; rfl) rfl (one_in rfl) (lt_of_ble rfl)
  rintro r bs' ⟨rfl, rfl⟩
  apply Wk.mv (by conv => lhs; whnf) (lt_of_ble rfl)
  apply Wk.ext rfl rfl (lt_of_ble rfl)
  apply Wk.ext rfl rfl (lt_of_ble rfl)
  apply Wk.alc 10 [.int .i64 0, .int .i64 0, .int .i64 0, .bool false, .bool false, .int .i64 0, .int .i64 0, .int .i64 0, .slice none 0 0] ze42 rfl rfl (lt_of_ble rfl)
  apply Wk.sto (i := 10) 9 true ty42 rfl rfl rfl rfl (Nat.le_of_ble_eq_true rfl) (lt_of_ble rfl)
  apply Wk.asg (by conv => lhs; whnf) (lt_of_ble rfl)
  refine Wk.nil ?_
  refine AW.seq ?_
  apply AW.draw (hm := hmix) (cs := _)
  · apply Wk.mv (by conv => lhs; whnf) (lt_of_ble rfl)
    apply Wk.calr [27, 66] [17] cs ip (by rintro r bs' ⟨rfl, rfl⟩; exact keep2) ⟨_, _, rfl, rfl⟩ Try.func53 rfl rfl rfl rfl (by simp; rfl) rfl (two_in rfl (by exact within_parts _)) (lt_of_ble rfl)
    rintro r bs' ⟨rfl, rfl⟩
    apply Wk.ld (i := 10) 9 true ty42 rfl rfl (by conv => lhs; whnf) (lt_of_ble rfl)
    apply Wk.mv (by conv => lhs; whnf) (lt_of_ble rfl)
    apply Wk.sto (i := 6) 10 true ty27 rfl rfl rfl rfl (Nat.le_of_ble_eq_true rfl) (lt_of_ble rfl)
    apply Wk.sto (i := 7) 9 true ty42 rfl rfl rfl rfl (Nat.le_of_ble_eq_true rfl) (lt_of_ble rfl)
    apply Wk.asg (by conv => lhs; whnf) (lt_of_ble rfl)
    refine Wk.nil ?_
    refine AW.thawc (j := 6) (c := 4) (i := 66) _ rfl rfl rfl (asData_parts qs) hX.none ?_
    refine AW.thawc (j := 6) (c := 2) (i := 17) _ rfl rfl rfl (asData_parts (fl ++ [e])) hX.none ?_
    refine AW.ret ?_
    exact RetQ.ret [] (.cons ⟨6, 0, _, _, _, rfl, rfl, ty27, rfl⟩ (.cons ⟨7, 0, _, _, _, rfl, rfl, ty42, rfl⟩ (.cons rfl .nil))) ⟨rfl, rfl⟩ none_kept
  · rfl
  · rfl
end Go.Proofs.Ytdojkmjamilllaa
