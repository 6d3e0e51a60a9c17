/- Laws and contracts that the proof stands on: AbsSender2, AbsTickI, LiParts, AbsLiTx, LiFrm. -/
import Derived.Test.YtpiihfogdjihdaaMa
import Derived.Test.YtpiihfogdjihdaaMb
import Derived.Test.YtpiihfogdjihdaaMc
import Derived.Test.YtpiihfogdjihdaaMd
import Derived.Test.YtpiihfogdjihdaaMe
import Derived.Test.YtpiihfogdjihdaaMf
/- Who sends, the program's: made of a state; its state; what asks for an answer. Written by tools/mk_AbsSender2.py. -/
namespace Go.Proofs.Ytpiihfogdjihdaa
open Go Go.RowKit
theorem snd_fillO (m w p u y a s : Int) (l : Nat) (q : Bool) (t : Int) (hh : Bool) (c : Int) (dd : Bool) : fillA ([(0, 5), (5, 1), (6, 14), (20, 1), (21, 1), (22, 1), (23, 1), (24, 1), (25, 1), (26, 1)][·]?) (([.int .i64 0, .int .i64 0, .int .i64 0, .int .i64 0, .int .i64 0, .int .i64 0, .int .i64 0, .int .i64 0, .slice none 0 0, .int .i64 0, .int .i64 0, .slice none 0 0, .int .i64 0, .int .i64 0, .slice none 0 0, .int .i64 0, .int .i64 0, .slice none 0 0, .int .i64 0, .int .i64 0, .int .i64 0, .slice none 0 0, .bool false, .int .i64 0, .bool false, .int .i64 0, .bool false] : List Value).map fun x => .d (.v x)) [(0, cfgA m w p u y), (1, .d (.v (.int .i64 a))), (3, .d (.v (.int .i64 s))), (4, .own 66 l), (5, .d (.v (.bool q))), (6, .d (.v (.int .i64 t))), (7, .d (.v (.bool hh))), (8, .d (.v (.int .i64 c))), (9, .d (.v (.bool dd)))] = some [.d (.v (.int .i64 m)), .d (.v (.int .i64 w)), .d (.v (.int .i64 p)), .d (.v (.int .i64 u)), .d (.v (.int .i64 y)), .d (.v (.int .i64 a)), .d (.v (.int .i64 0)), .d (.v (.int .i64 0)), .d (.v (.slice none 0 0)), .d (.v (.int .i64 0)), .d (.v (.int .i64 0)), .d (.v (.slice none 0 0)), .d (.v (.int .i64 0)), .d (.v (.int .i64 0)), .d (.v (.slice none 0 0)), .d (.v (.int .i64 0)), .d (.v (.int .i64 0)), .d (.v (.slice none 0 0)), .d (.v (.int .i64 0)), .d (.v (.int .i64 0)), .d (.v (.int .i64 s)), .own 66 l, .d (.v (.bool q)), .d (.v (.int .i64 t)), .d (.v (.bool hh)), .d (.v (.int .i64 c)), .d (.v (.bool dd))] := by
  simp [fillA, setA, cellsA, cfgA, Value.oneCell']
theorem snd_fillN (m w p u y a s : Int) (q : Bool) (t : Int) (hh : Bool) (c : Int) (dd : Bool) : fillA ([(0, 5), (5, 1), (6, 14), (20, 1), (21, 1), (22, 1), (23, 1), (24, 1), (25, 1), (26, 1)][·]?) (([.int .i64 0, .int .i64 0, .int .i64 0, .int .i64 0, .int .i64 0, .int .i64 0, .int .i64 0, .int .i64 0, .slice none 0 0, .int .i64 0, .int .i64 0, .slice none 0 0, .int .i64 0, .int .i64 0, .slice none 0 0, .int .i64 0, .int .i64 0, .slice none 0 0, .int .i64 0, .int .i64 0, .int .i64 0, .slice none 0 0, .bool false, .int .i64 0, .bool false, .int .i64 0, .bool false] : List Value).map fun x => .d (.v x)) [(0, cfgA m w p u y), (1, .d (.v (.int .i64 a))), (3, .d (.v (.int .i64 s))), (4, .d (.v (.slice none 0 0))), (5, .d (.v (.bool q))), (6, .d (.v (.int .i64 t))), (7, .d (.v (.bool hh))), (8, .d (.v (.int .i64 c))), (9, .d (.v (.bool dd)))] = some [.d (.v (.int .i64 m)), .d (.v (.int .i64 w)), .d (.v (.int .i64 p)), .d (.v (.int .i64 u)), .d (.v (.int .i64 y)), .d (.v (.int .i64 a)), .d (.v (.int .i64 0)), .d (.v (.int .i64 0)), .d (.v (.slice none 0 0)), .d (.v (.int .i64 0)), .d (.v (.int .i64 0)), .d (.v (.slice none 0 0)), .d (.v (.int .i64 0)), .d (.v (.int .i64 0)), .d (.v (.slice none 0 0)), .d (.v (.int .i64 0)), .d (.v (.int .i64 0)), .d (.v (.slice none 0 0)), .d (.v (.int .i64 0)), .d (.v (.int .i64 0)), .d (.v (.int .i64 s)), .d (.v (.slice none 0 0)), .d (.v (.bool q)), .d (.v (.int .i64 t)), .d (.v (.bool hh)), .d (.v (.int .i64 c)), .d (.v (.bool dd))] := by
  simp [fillA, setA, cellsA, cfgA, Value.oneCell']
set_option maxHeartbeats 1000000 in
set_option maxRecDepth 100000 in
theorem inewO (m w p u y : Int) (n a : Int) (fl : List Dat) (s : Int) (qu : List Dat) (q : Bool) (t : Int) (hh : Bool) (c : Int) (dd : Bool) (hq : qu ≠ []) (h4 : fl.length ≤ 4) (hx : TX.few ⟨n, a, fl, s, qu, q, t, hh, c, dd⟩) :
    Spec Try.prog 40 [cfgA m w p u y, txA ⟨n, a, fl, s, qu, q, t, hh, c, dd⟩] [] (fun r bs => r = .ptr 27 0 ∧ bs = sndB (sndC m w p u y a (ringF fl) 0 (fl.length : Int) s qu.length q t hh c dd) qu.length qu) := by
  have e1 : (((fl.map datD).length : Nat) : Int) = (fl.length : Int) := by rw [List.length_map]
  have cf := icopy_ok fl hx.1.1 hx.1.2
  have cq := icopyO qu hq hx.2.1 hx.2.2
  have i1 := in_slist (L := [] ++ [66]) (i := 66) (k := qu.length) (e := 37) (sz := 3) (by simp) (within_parts qu)
  refine Spec.intro (n := 43) (rv := [.tmp 4]) Try.func40 rfl rfl rfl (by simp) fun C hN hX => ?_
  refine AW.seq ?_
  apply AW.list
  apply Wk.bx 2 rfl rfl (lt_of_ble rfl)
  apply Wk.bx 3 rfl rfl (lt_of_ble rfl)
  apply Wk.asg (by conv => lhs; whnf) (lt_of_ble rfl)
  refine Wk.nil ?_
  refine AW.seq ?_
  apply AW.draw (hm := hmix) (cs := _)
  · apply Wk.ld (i := 2) 5 true ty31 rfl rfl (by conv => lhs; whnf) (lt_of_ble rfl)
    apply Wk.fad 1 0 false fd25_1 rfl (lt_of_ble rfl)
    apply Wk.ld (i := 3) 1 false ty3 rfl rfl (by conv => lhs; whnf) (lt_of_ble rfl)
    apply Wk.fad 3 0 false fd25_3 rfl (lt_of_ble rfl)
    apply Wk.ld (i := 3) 1 false ty3 rfl rfl (by conv => lhs; whnf) (lt_of_ble rfl)
    apply Wk.fad 4 0 false fd25_4 rfl (lt_of_ble rfl)
    apply Wk.ld (i := 3) 1 false ty23 rfl rfl (by conv => lhs; whnf) (lt_of_ble rfl)
    apply Wk.cal [] [66] cq i1 ⟨_, _, rfl, rfl⟩ Try.func61 rfl rfl rfl rfl (by simp; rfl) rfl (fun i hi => by cases hi) (lt_of_ble rfl)
    rintro r bs' ⟨rfl, rfl⟩
    apply Wk.fad 5 0 false fd25_5 rfl (lt_of_ble rfl)
    apply Wk.ld (i := 3) 1 false ty4 rfl rfl (by conv => lhs; whnf) (lt_of_ble rfl)
    apply Wk.fad 6 0 false fd25_6 rfl (lt_of_ble rfl)
    apply Wk.ld (i := 3) 1 false ty3 rfl rfl (by conv => lhs; whnf) (lt_of_ble rfl)
    apply Wk.fad 7 0 false fd25_7 rfl (lt_of_ble rfl)
    apply Wk.ld (i := 3) 1 false ty4 rfl rfl (by conv => lhs; whnf) (lt_of_ble rfl)
    apply Wk.fad 8 0 false fd25_8 rfl (lt_of_ble rfl)
    apply Wk.ld (i := 3) 1 false ty3 rfl rfl (by conv => lhs; whnf) (lt_of_ble rfl)
    apply Wk.fad 9 0 false fd25_9 rfl (lt_of_ble rfl)
    apply Wk.ld (i := 3) 1 false ty4 rfl rfl (by conv => lhs; whnf) (lt_of_ble rfl)
    apply Wk.bld [.int .i64 0, .int .i64 0, .int .i64 0, .int .i64 0, .int .i64 0, .int .i64 0, .int .i64 0, .int .i64 0, .slice none 0 0, .int .i64 0, .int .i64 0, .slice none 0 0, .int .i64 0, .int .i64 0, .slice none 0 0, .int .i64 0, .int .i64 0, .slice none 0 0, .int .i64 0, .int .i64 0, .int .i64 0, .slice none 0 0, .bool false, .int .i64 0, .bool false, .int .i64 0, .bool false] [(0, 5), (5, 1), (6, 14), (20, 1), (21, 1), (22, 1), (23, 1), (24, 1), (25, 1), (26, 1)] bl90 rfl (by exact snd_fillO m w p u y a s qu.length q t hh c dd) (lt_of_ble rfl)
    apply Wk.bx 27 rfl rfl (lt_of_ble rfl)
    apply Wk.asg (by conv => lhs; whnf) (lt_of_ble rfl)
    refine Wk.nil ?_
    refine AW.seq (AW.seq ?_)
    apply AW.list
    apply Wk.fad 2 0 false fd25_2 rfl (lt_of_ble rfl)
    apply Wk.ld (i := 3) 1 false ty23 rfl rfl (by conv => lhs; whnf) (lt_of_ble rfl)
    apply Wk.dat cf Try.func61 rfl rfl rfl rfl rfl (lt_of_ble rfl)
    apply Wk.len un23 rfl (lt_of_ble rfl)
    apply Wk.mv (by conv => lhs; whnf) (lt_of_ble rfl)
    refine Wk.nil (AW.block ?_)
    refine AW.loop (fun k : Nat => St.of 43 [(5, .ptr 27 0), (30, .d (partsD fl)), (31, .d (.v (.int .i64 (((fl.map datD).length : Nat) : Int)))), (32, .d (.v (.int .i64 (k : Int))))] [(27, .var (sndC m w p u y a (ringF (fl.take k)) 0 (k : Int) s qu.length q t hh c dd)), (66, .own qu.length 37 3 (piecesA qu))]) (fun k => k ≤ fl.length) (fun k => fl.length - k) 0 (Nat.zero_le _) ?_ ?_
    · exact fun a w => Rel.keep ⟨rfl, .cons rfl rfl (.cons rfl rfl (.cons rfl rfl (.cons rfl rfl .nil))), .cons rfl rfl (.cons rfl (by exact within_parts _) .nil), hN.mono (by simp [keys])⟩
    rintro k hk
    show AW Try.prog C _ _ (St.of 43 [(5, .ptr 27 0), (30, .d (partsD fl)), (31, .d (.v (.int .i64 (((fl.map datD).length : Nat) : Int)))), (32, .d (.v (.int .i64 (k : Int))))] [(27, .var (sndC m w p u y a (ringF (fl.take k)) 0 (k : Int) s qu.length q t hh c dd)), (66, .own qu.length 37 3 (piecesA qu))])
    refine AW.seq ?_
    apply AW.list
    apply Wk.bin rfl rfl (fun w => by simp [go_sem] <;> rfl) (lt_of_ble rfl)
    refine Wk.nil ?_
    refine AW.seq ?_
    refine AW.cond rfl (fun hc => ?_) (fun hc => ?_)
    · have hlt : k < fl.length := by simpa using hc
      obtain ⟨d, hd⟩ : ∃ d, fl[k]? = some d := ⟨_, List.getElem?_eq_getElem hlt⟩
      have hget : (fl.map datD)[k]? = some (datD d) := by simp [hd]
      have hklt : k < (fl.map datD).length := by simpa using hlt
      have cp := ipush m w p u y a (ringF (fl.take k)) s qu.length q t hh c dd qu k (by omega) d
      rw [ring_push hd] at cp
      refine AW.skip ?_
      repeat (first | refine thenA_normal ?_ | refine inBlockA_normal ?_)
      refine AW.seq (AW.block (AW.seq ?_))
      apply AW.list
      apply Wk.iad 3 true un23 ty37 rfl rfl hklt (datD_len _) (lt_of_ble rfl)
      apply Wk.ldr 3 true ty37 rfl hget (by conv => lhs; whnf) (lt_of_ble rfl)
      apply Wk.alc 7 [.int .i64 0, .int .i64 0, .slice none 0 0] ze37 rfl rfl (lt_of_ble rfl)
      apply Wk.sto (i := 7) 3 true ty37 rfl rfl rfl rfl (Nat.le_of_ble_eq_true rfl) (lt_of_ble rfl)
      refine Wk.nil ?_
      repeat (first | refine thenA_normal ?_ | refine inBlockA_normal ?_)
      apply AW.draw (hm := hmix) (cs := _)
      · apply Wk.mv (by conv => lhs; whnf) (lt_of_ble rfl)
        apply Wk.nilc rfl (lt_of_ble rfl)
        apply Wk.fad 6 13 true fd90_2 rfl (lt_of_ble rfl)
        apply Wk.ld (i := 7) 3 true ty37 rfl rfl (by conv => lhs; whnf) (lt_of_ble rfl)
        apply Wk.cal [27, 66] [] cp (in_snd _ rfl _ _ _ _ _ _ _ _ _ _ _ _ _ _ _ _ _ _) ⟨_, _, rfl, rfl⟩ Try.func62 rfl rfl rfl rfl (fun i hi => by cases hi) rfl (two_in rfl (by exact within_parts _)) (lt_of_ble rfl)
        rintro r bs' ⟨rfl, rfl⟩
        refine Wk.nil ?_
        repeat (first | refine thenA_normal ?_ | refine inBlockA_normal ?_)
        apply AW.list
        apply Wk.addi rfl rfl (by omega) (lt_of_ble rfl)
        apply Wk.mv (by conv => lhs; whnf) (lt_of_ble rfl)
        refine Wk.nil ?_
        refine ⟨k + 1, by omega, by omega, ?_⟩
        exact fun a w => Rel.keep ⟨rfl, .cons rfl rfl (.cons rfl rfl (.cons rfl rfl (.cons rfl rfl .nil))), .cons rfl rfl (.cons rfl (by exact within_parts _) .nil), hN.mono (by simp [keys])⟩
      · rfl
      · rfl
    · have hke : k = fl.length := by
        simp at hc
        omega
      subst hke
      refine AW.exit ?_
      repeat (first | refine inBlockA_same ?_ | refine thenA_exit ?_)
      repeat (first | refine thenA_normal ?_ | refine inBlockA_normal ?_)
      rw [List.take_length]
      refine AW.seq ?_
      apply AW.list
      apply Wk.mv (by conv => lhs; whnf) (lt_of_ble rfl)
      apply Wk.asg (by conv => lhs; whnf) (lt_of_ble rfl)
      refine Wk.nil (AW.ret ?_)
      repeat (first | refine thenA_ret ?_ | refine inBlockA_ret ?_)
      exact RetQ.ret (sndB _ qu.length qu) (.cons rfl .nil) ⟨rfl, rfl⟩ (kept2 rfl rfl)
  · rfl
  · rfl
set_option maxHeartbeats 1000000 in
set_option maxRecDepth 100000 in
theorem inewN (m w p u y : Int) (n a : Int) (fl : List Dat) (s : Int) (q : Bool) (t : Int) (hh : Bool) (c : Int) (dd : Bool) (h4 : fl.length ≤ 4) (hx : TX.few ⟨n, a, fl, s, [], q, t, hh, c, dd⟩) :
    Spec Try.prog 40 [cfgA m w p u y, txA ⟨n, a, fl, s, [], q, t, hh, c, dd⟩] [] (fun r bs => r = .ptr 27 0 ∧ bs = sndB (sndC m w p u y a (ringF fl) 0 (fl.length : Int) s 0 q t hh c dd) 0 []) := by
  have e1 : (((fl.map datD).length : Nat) : Int) = (fl.length : Int) := by rw [List.length_map]
  have cf := icopy_ok fl hx.1.1 hx.1.2
  have cq := icopyNil
  refine Spec.intro (n := 43) (rv := [.tmp 4]) Try.func40 rfl rfl rfl (by simp) fun C hN hX => ?_
  refine AW.seq ?_
  apply AW.list
  apply Wk.bx 2 rfl rfl (lt_of_ble rfl)
  apply Wk.bx 3 rfl rfl (lt_of_ble rfl)
  apply Wk.asg (by conv => lhs; whnf) (lt_of_ble rfl)
  refine Wk.nil ?_
  refine AW.seq ?_
  apply AW.draw (hm := hmix) (cs := _)
  · apply Wk.ld (i := 2) 5 true ty31 rfl rfl (by conv => lhs; whnf) (lt_of_ble rfl)
    apply Wk.fad 1 0 false fd25_1 rfl (lt_of_ble rfl)
    apply Wk.ld (i := 3) 1 false ty3 rfl rfl (by conv => lhs; whnf) (lt_of_ble rfl)
    apply Wk.fad 3 0 false fd25_3 rfl (lt_of_ble rfl)
    apply Wk.ld (i := 3) 1 false ty3 rfl rfl (by conv => lhs; whnf) (lt_of_ble rfl)
    apply Wk.fad 4 0 false fd25_4 rfl (lt_of_ble rfl)
    apply Wk.ld (i := 3) 1 false ty23 rfl rfl (by conv => lhs; whnf) (lt_of_ble rfl)
    apply Wk.dat cq Try.func61 rfl rfl rfl rfl rfl (lt_of_ble rfl)
    apply Wk.fad 5 0 false fd25_5 rfl (lt_of_ble rfl)
    apply Wk.ld (i := 3) 1 false ty4 rfl rfl (by conv => lhs; whnf) (lt_of_ble rfl)
    apply Wk.fad 6 0 false fd25_6 rfl (lt_of_ble rfl)
    apply Wk.ld (i := 3) 1 false ty3 rfl rfl (by conv => lhs; whnf) (lt_of_ble rfl)
    apply Wk.fad 7 0 false fd25_7 rfl (lt_of_ble rfl)
    apply Wk.ld (i := 3) 1 false ty4 rfl rfl (by conv => lhs; whnf) (lt_of_ble rfl)
    apply Wk.fad 8 0 false fd25_8 rfl (lt_of_ble rfl)
    apply Wk.ld (i := 3) 1 false ty3 rfl rfl (by conv => lhs; whnf) (lt_of_ble rfl)
    apply Wk.fad 9 0 false fd25_9 rfl (lt_of_ble rfl)
    apply Wk.ld (i := 3) 1 false ty4 rfl rfl (by conv => lhs; whnf) (lt_of_ble rfl)
    apply Wk.bld [.int .i64 0, .int .i64 0, .int .i64 0, .int .i64 0, .int .i64 0, .int .i64 0, .int .i64 0, .int .i64 0, .slice none 0 0, .int .i64 0, .int .i64 0, .slice none 0 0, .int .i64 0, .int .i64 0, .slice none 0 0, .int .i64 0, .int .i64 0, .slice none 0 0, .int .i64 0, .int .i64 0, .int .i64 0, .slice none 0 0, .bool false, .int .i64 0, .bool false, .int .i64 0, .bool false] [(0, 5), (5, 1), (6, 14), (20, 1), (21, 1), (22, 1), (23, 1), (24, 1), (25, 1), (26, 1)] bl90 rfl (by exact snd_fillN m w p u y a s q t hh c dd) (lt_of_ble rfl)
    apply Wk.bx 27 rfl rfl (lt_of_ble rfl)
    apply Wk.asg (by conv => lhs; whnf) (lt_of_ble rfl)
    refine Wk.nil ?_
    refine AW.nilc (j := 27) (n := 21) (i' := 66) 37 3 rfl rfl rfl ?_
    refine AW.seq (AW.seq ?_)
    apply AW.list
    apply Wk.fad 2 0 false fd25_2 rfl (lt_of_ble rfl)
    apply Wk.ld (i := 3) 1 false ty23 rfl rfl (by conv => lhs; whnf) (lt_of_ble rfl)
    apply Wk.dat cf Try.func61 rfl rfl rfl rfl rfl (lt_of_ble rfl)
    apply Wk.len un23 rfl (lt_of_ble rfl)
    apply Wk.mv (by conv => lhs; whnf) (lt_of_ble rfl)
    refine Wk.nil (AW.block ?_)
    refine AW.loop (fun k : Nat => St.of 43 [(5, .ptr 27 0), (30, .d (partsD fl)), (31, .d (.v (.int .i64 (((fl.map datD).length : Nat) : Int)))), (32, .d (.v (.int .i64 (k : Int))))] [(27, .var (sndC m w p u y a (ringF (fl.take k)) 0 (k : Int) s 0 q t hh c dd)), (66, .own 0 37 3 (piecesA []))]) (fun k => k ≤ fl.length) (fun k => fl.length - k) 0 (Nat.zero_le _) ?_ ?_
    · exact fun a w => Rel.keep ⟨rfl, .cons rfl rfl (.cons rfl rfl (.cons rfl rfl (.cons rfl rfl .nil))), .cons rfl rfl (.cons rfl rfl .nil), hN.mono (by simp [keys])⟩
    rintro k hk
    show AW Try.prog C _ _ (St.of 43 [(5, .ptr 27 0), (30, .d (partsD fl)), (31, .d (.v (.int .i64 (((fl.map datD).length : Nat) : Int)))), (32, .d (.v (.int .i64 (k : Int))))] [(27, .var (sndC m w p u y a (ringF (fl.take k)) 0 (k : Int) s 0 q t hh c dd)), (66, .own 0 37 3 (piecesA []))])
    refine AW.seq ?_
    apply AW.list
    apply Wk.bin rfl rfl (fun w => by simp [go_sem] <;> rfl) (lt_of_ble rfl)
    refine Wk.nil ?_
    refine AW.seq ?_
    refine AW.cond rfl (fun hc => ?_) (fun hc => ?_)
    · have hlt : k < fl.length := by simpa using hc
      obtain ⟨d, hd⟩ : ∃ d, fl[k]? = some d := ⟨_, List.getElem?_eq_getElem hlt⟩
      have hget : (fl.map datD)[k]? = some (datD d) := by simp [hd]
      have hklt : k < (fl.map datD).length := by simpa using hlt
      have cp := ipush m w p u y a (ringF (fl.take k)) s 0 q t hh c dd [] k (by omega) d
      rw [ring_push hd] at cp
      refine AW.skip ?_
      repeat (first | refine thenA_normal ?_ | refine inBlockA_normal ?_)
      refine AW.seq (AW.block (AW.seq ?_))
      apply AW.list
      apply Wk.iad 3 true un23 ty37 rfl rfl hklt (datD_len _) (lt_of_ble rfl)
      apply Wk.ldr 3 true ty37 rfl hget (by conv => lhs; whnf) (lt_of_ble rfl)
      apply Wk.alc 7 [.int .i64 0, .int .i64 0, .slice none 0 0] ze37 rfl rfl (lt_of_ble rfl)
      apply Wk.sto (i := 7) 3 true ty37 rfl rfl rfl rfl (Nat.le_of_ble_eq_true rfl) (lt_of_ble rfl)
      refine Wk.nil ?_
      repeat (first | refine thenA_normal ?_ | refine inBlockA_normal ?_)
      apply AW.draw (hm := hmix) (cs := _)
      · apply Wk.mv (by conv => lhs; whnf) (lt_of_ble rfl)
        apply Wk.nilc rfl (lt_of_ble rfl)
        apply Wk.fad 6 13 true fd90_2 rfl (lt_of_ble rfl)
        apply Wk.ld (i := 7) 3 true ty37 rfl rfl (by conv => lhs; whnf) (lt_of_ble rfl)
        apply Wk.cal [27, 66] [] cp (in_snd _ rfl _ _ _ _ _ _ _ _ _ _ _ _ _ _ _ _ _ _) ⟨_, _, rfl, rfl⟩ Try.func62 rfl rfl rfl rfl (fun i hi => by cases hi) rfl (two_in rfl (by exact within_parts _)) (lt_of_ble rfl)
        rintro r bs' ⟨rfl, rfl⟩
        refine Wk.nil ?_
        repeat (first | refine thenA_normal ?_ | refine inBlockA_normal ?_)
        apply AW.list
        apply Wk.addi rfl rfl (by omega) (lt_of_ble rfl)
        apply Wk.mv (by conv => lhs; whnf) (lt_of_ble rfl)
        refine Wk.nil ?_
        refine ⟨k + 1, by omega, by omega, ?_⟩
        exact fun a w => Rel.keep ⟨rfl, .cons rfl rfl (.cons rfl rfl (.cons rfl rfl (.cons rfl rfl .nil))), .cons rfl rfl (.cons rfl rfl .nil), hN.mono (by simp [keys])⟩
      · rfl
      · rfl
    · have hke : k = fl.length := by
        simp at hc
        omega
      subst hke
      refine AW.exit ?_
      repeat (first | refine inBlockA_same ?_ | refine thenA_exit ?_)
      repeat (first | refine thenA_normal ?_ | refine inBlockA_normal ?_)
      rw [List.take_length]
      refine AW.seq ?_
      apply AW.list
      apply Wk.mv (by conv => lhs; whnf) (lt_of_ble rfl)
      apply Wk.asg (by conv => lhs; whnf) (lt_of_ble rfl)
      refine Wk.nil (AW.ret ?_)
      repeat (first | refine thenA_ret ?_ | refine inBlockA_ret ?_)
      exact RetQ.ret (sndB _ 0 []) (.cons rfl .nil) ⟨rfl, rfl⟩ (kept2 rfl rfl)
  · rfl
  · rfl
/-- Who sends, made of a state. -/
theorem inew (m w p u y : Int) (x : TX) (h4 : x.fl.length ≤ 4) (hx : x.few) : Spec Try.prog 40 [cfgA m w p u y, txA x] [] (fun r bs => r = .ptr 27 0 ∧ bs = sndB (sndC m w p u y x.a (ringF x.fl) 0 (x.fl.length : Int) x.s x.qu.length x.q x.t x.h x.c x.d) x.qu.length x.qu) := by
  obtain ⟨n, a, fl, s, qu, q, t, hh, c, dd⟩ := x
  by_cases hq : qu = []
  · subst hq
    exact inewN m w p u y n a fl s q t hh c dd h4 hx
  · exact inewO m w p u y n a fl s qu q t hh c dd hq h4 hx
theorem ion_ok (n s : Int) (hn : 0 ≤ n ∧ n < 8) (hs : 0 ≤ s ∧ s < 100) : DataOk Try.prog 60 [.d (.v (.int .i64 n)), .d (.v (.int .i64 s))] (.d (.v (.int .i64 ((n + s) % 8)))) := int2 (impl_on n s hn hs)
theorem st_fillO (n a s : Int) (k : Nat) (l : Nat) (q : Bool) (t : Int) (hh : Bool) (c : Int) (dd : Bool) : fillA ([(0, 1), (1, 1), (2, 1), (3, 1), (4, 1), (5, 1), (6, 1), (7, 1), (8, 1), (9, 1)][·]?) (([.int .i64 0, .int .i64 0, .slice none 0 0, .int .i64 0, .slice none 0 0, .bool false, .int .i64 0, .bool false, .int .i64 0, .bool false] : List Value).map fun x => .d (.v x)) [(0, .d (.v (.int .i64 n))), (1, .d (.v (.int .i64 a))), (2, .own 17 k), (3, .d (.v (.int .i64 s))), (4, .own 66 l), (5, .d (.v (.bool q))), (6, .d (.v (.int .i64 t))), (7, .d (.v (.bool hh))), (8, .d (.v (.int .i64 c))), (9, .d (.v (.bool dd)))] = some [.d (.v (.int .i64 n)), .d (.v (.int .i64 a)), .own 17 k, .d (.v (.int .i64 s)), .own 66 l, .d (.v (.bool q)), .d (.v (.int .i64 t)), .d (.v (.bool hh)), .d (.v (.int .i64 c)), .d (.v (.bool dd))] := by
  simp [fillA, setA, cellsA, Value.oneCell']
theorem st_fillN (n a s : Int) (l : Nat) (q : Bool) (t : Int) (hh : Bool) (c : Int) (dd : Bool) : fillA ([(0, 1), (1, 1), (2, 1), (3, 1), (4, 1), (5, 1), (6, 1), (7, 1), (8, 1), (9, 1)][·]?) (([.int .i64 0, .int .i64 0, .slice none 0 0, .int .i64 0, .slice none 0 0, .bool false, .int .i64 0, .bool false, .int .i64 0, .bool false] : List Value).map fun x => .d (.v x)) [(0, .d (.v (.int .i64 n))), (1, .d (.v (.int .i64 a))), (2, .d (.v (.slice none 0 0))), (3, .d (.v (.int .i64 s))), (4, .own 66 l), (5, .d (.v (.bool q))), (6, .d (.v (.int .i64 t))), (7, .d (.v (.bool hh))), (8, .d (.v (.int .i64 c))), (9, .d (.v (.bool dd)))] = some [.d (.v (.int .i64 n)), .d (.v (.int .i64 a)), .d (.v (.slice none 0 0)), .d (.v (.int .i64 s)), .own 66 l, .d (.v (.bool q)), .d (.v (.int .i64 t)), .d (.v (.bool hh)), .d (.v (.int .i64 c)), .d (.v (.bool dd))] := by
  simp [fillA, setA, cellsA, Value.oneCell']
def stA0 (n a : Int) (F : A) (s : Int) (l : Nat) (q : Bool) (t : Int) (hh : Bool) (c : Int) (dd : Bool) : A := .agg [.d (.v (.int .i64 n)), .d (.v (.int .i64 a)), F, .d (.v (.int .i64 s)), .own 66 l, .d (.v (.bool q)), .d (.v (.int .i64 t)), .d (.v (.bool hh)), .d (.v (.int .i64 c)), .d (.v (.bool dd))]
theorem flX_in {L : List Dat} {i : Nat} {z : Bx} (h : (flX L).lookup i = some z) : i ∈ [17] ∧ z.within [17] = true := by
  unfold flX at h
  split at h
  · cases h
  · obtain ⟨rfl, rfl⟩ : i = 17 ∧ z = .own (L.length - 1) 37 3 (piecesA L) := by
      rw [List.lookup_cons] at h
      split at h
      · rename_i e; exact ⟨eq_of_beq e, (Option.some.inj h).symm⟩
      · cases h
    exact ⟨by simp, by simp [Bx.within, within_parts]⟩
theorem within_up {K K' : List Nat} {z : Bx} (h : z.within K = true) (hk : ∀ i ∈ K, i ∈ K') : z.within K' = true := by
  cases z with
  | none => rfl
  | fresh => rfl
  | var cs => exact withins_mono (fun i hi => by simp at hi ⊢; exact hk i hi) cs h
  | own k e sz es =>
    simp only [Bx.within, List.all_eq_true] at h ⊢
    exact fun c hc => withins_mono (fun i hi => by simp at hi ⊢; exact hk i hi) c (h c hc)
theorem lookup_app {l1 l2 : List (Nat × Bx)} {i : Nat} {z : Bx} (h : (l1 ++ l2).lookup i = some z) : l1.lookup i = some z ∨ l2.lookup i = some z := by
  induction l1 with
  | nil => exact .inr h
  | cons x l1 ih =>
    rw [List.cons_append, List.lookup_cons] at h
    rw [List.lookup_cons]
    split
    · rename_i e; rw [e] at h; exact .inl h
    · rename_i e; rw [e] at h; exact ih h
theorem in_sndF (r0 : A) (hr : r0.within [27, 66, 17] = true) (m w p u y a : Int) (f : Nat → Sl) (h k s : Int) (l : Nat) (q : Bool) (t : Int) (hh : Bool) (c : Int) (d : Bool) (l' : Nat) (qu L : List Dat) : PostIn [27, 66, 17] (fun r bs => r = r0 ∧ bs = sndB (sndC m w p u y a f h k s l q t hh c d) l' qu ++ flX L) := by
  rintro r bs ⟨rfl, rfl⟩
  refine ⟨hr, fun i z hz => ?_⟩
  rcases lookup_app hz with h | h
  · have := in_sndB h
    exact ⟨by have h1 := this.1; simp at h1 ⊢; omega, within_up this.2 (fun i hi => by simp at hi ⊢; omega)⟩
  · have := flX_in h
    exact ⟨by have h1 := this.1; simp at h1 ⊢; omega, within_up this.2 (fun i hi => by simp at hi ⊢; omega)⟩
theorem flV_in (L : List Dat) : (flV L).within [27, 66, 17] = true := by
  unfold flV
  split <;> simp [A.within]
set_option maxHeartbeats 1000000 in
set_option maxRecDepth 100000 in
theorem istateN (m w p u y a : Int) (f : Nat → Sl) (s : Int) (l : Nat) (q : Bool) (t : Int) (hh : Bool) (c : Int) (dd : Bool) (qu : List Dat) (h : Nat) (hh1 : h ≤ 4) (hn : ([] : List Dat).length ≤ 4) (hL : ∀ i d, ([] : List Dat)[i]? = some d → f ((h + i) % 4) = sl (some d)) (ha : 0 ≤ a ∧ a < 8) :
    Spec Try.prog 42 [.ptr 27 0] (sndB (sndC m w p u y a f (h : Int) (([] : List Dat).length : Int) s l q t hh c dd) l qu) (fun r bs => r = stA0 ((a + (([] : List Dat).length : Int)) % 8) a (flV []) s l q t hh c dd ∧ bs = sndB (sndC m w p u y a f (h : Int) (([] : List Dat).length : Int) s l q t hh c dd) l qu ++ flX []) := by
  have c1 := ion_ok a (([] : List Dat).length : Int) ha (by omega)
  have c2 := ilist m w p u y a f s l q t hh c dd qu h [] hh1 hn hL
  refine Spec.intro (n := 50) (rv := [.cell 2 25]) Try.func42 rfl rfl rfl (by simp) fun C hN hX => ?_
  refine AW.seq ?_
  apply AW.list
  apply Wk.alc 2 [.int .i64 0, .int .i64 0, .slice none 0 0, .int .i64 0, .slice none 0 0, .bool false, .int .i64 0, .bool false, .int .i64 0, .bool false] ze25 rfl rfl (lt_of_ble rfl)
  refine Wk.nil ?_
  refine AW.seq ?_
  apply AW.draw (hm := hmix) (cs := _)
  · apply Wk.mv (by conv => lhs; whnf) (lt_of_ble rfl)
    apply Wk.nilc rfl (lt_of_ble rfl)
    apply Wk.fad 5 0 false fd90_1 rfl (lt_of_ble rfl)
    apply Wk.ld (i := 27) 1 false ty60 rfl rfl (by conv => lhs; whnf) (lt_of_ble rfl)
    apply Wk.mv (by conv => lhs; whnf) (lt_of_ble rfl)
    apply Wk.nilc rfl (lt_of_ble rfl)
    apply Wk.fad 6 13 true fd90_2 rfl (lt_of_ble rfl)
    apply Wk.fad 13 0 false fd88_2 rfl (lt_of_ble rfl)
    apply Wk.ld (i := 27) 1 false ty3 rfl rfl (by conv => lhs; whnf) (lt_of_ble rfl)
    apply Wk.dat c1 Try.func60 rfl rfl rfl rfl rfl (lt_of_ble rfl)
    apply Wk.mv (by conv => lhs; whnf) (lt_of_ble rfl)
    apply Wk.nilc rfl (lt_of_ble rfl)
    apply Wk.fad 5 0 false fd90_1 rfl (lt_of_ble rfl)
    apply Wk.ld (i := 27) 1 false ty60 rfl rfl (by conv => lhs; whnf) (lt_of_ble rfl)
    apply Wk.mv (by conv => lhs; whnf) (lt_of_ble rfl)
    apply Wk.nilc rfl (lt_of_ble rfl)
    apply Wk.fad 6 13 true fd90_2 rfl (lt_of_ble rfl)
    apply Wk.calr [27, 66] [17] c2 (in_sndF _ rfl _ _ _ _ _ _ _ _ _ _ _ _ _ _ _ _ _ _ []) (by rintro r bs' ⟨rfl, rfl⟩; exact keep2) ⟨_, _, rfl, rfl⟩ Try.func64 rfl rfl rfl rfl (by simp; rfl) rfl (two_in rfl (by exact within_parts _)) (lt_of_ble rfl)
    rintro r bs' ⟨rfl, rfl⟩
    apply Wk.mv (by conv => lhs; whnf) (lt_of_ble rfl)
    apply Wk.nilc rfl (lt_of_ble rfl)
    apply Wk.fad 20 0 false fd90_3 rfl (lt_of_ble rfl)
    apply Wk.ld (i := 27) 1 false ty3 rfl rfl (by conv => lhs; whnf) (lt_of_ble rfl)
    apply Wk.mv (by conv => lhs; whnf) (lt_of_ble rfl)
    apply Wk.nilc rfl (lt_of_ble rfl)
    apply Wk.fad 21 0 false fd90_4 rfl (lt_of_ble rfl)
    apply Wk.ld (i := 27) 1 false ty23 rfl rfl (by conv => lhs; whnf) (lt_of_ble rfl)
    apply Wk.mv (by conv => lhs; whnf) (lt_of_ble rfl)
    apply Wk.nilc rfl (lt_of_ble rfl)
    apply Wk.fad 22 0 false fd90_5 rfl (lt_of_ble rfl)
    apply Wk.ld (i := 27) 1 false ty4 rfl rfl (by conv => lhs; whnf) (lt_of_ble rfl)
    apply Wk.mv (by conv => lhs; whnf) (lt_of_ble rfl)
    apply Wk.nilc rfl (lt_of_ble rfl)
    apply Wk.fad 23 0 false fd90_6 rfl (lt_of_ble rfl)
    apply Wk.ld (i := 27) 1 false ty3 rfl rfl (by conv => lhs; whnf) (lt_of_ble rfl)
    apply Wk.mv (by conv => lhs; whnf) (lt_of_ble rfl)
    apply Wk.nilc rfl (lt_of_ble rfl)
    apply Wk.fad 24 0 false fd90_7 rfl (lt_of_ble rfl)
    apply Wk.ld (i := 27) 1 false ty4 rfl rfl (by conv => lhs; whnf) (lt_of_ble rfl)
    apply Wk.mv (by conv => lhs; whnf) (lt_of_ble rfl)
    apply Wk.nilc rfl (lt_of_ble rfl)
    apply Wk.fad 25 0 false fd90_8 rfl (lt_of_ble rfl)
    apply Wk.ld (i := 27) 1 false ty3 rfl rfl (by conv => lhs; whnf) (lt_of_ble rfl)
    apply Wk.mv (by conv => lhs; whnf) (lt_of_ble rfl)
    apply Wk.nilc rfl (lt_of_ble rfl)
    apply Wk.fad 26 0 false fd90_9 rfl (lt_of_ble rfl)
    apply Wk.ld (i := 27) 1 false ty4 rfl rfl (by conv => lhs; whnf) (lt_of_ble rfl)
    apply Wk.bld [.int .i64 0, .int .i64 0, .slice none 0 0, .int .i64 0, .slice none 0 0, .bool false, .int .i64 0, .bool false, .int .i64 0, .bool false] [(0, 1), (1, 1), (2, 1), (3, 1), (4, 1), (5, 1), (6, 1), (7, 1), (8, 1), (9, 1)] bl25 rfl (by exact st_fillN ((a + (([] : List Dat).length : Int)) % 8) a s l q t hh c dd) (lt_of_ble rfl)
    apply Wk.sto (i := 2) 10 true ty25 rfl rfl rfl rfl (Nat.le_of_ble_eq_true rfl) (lt_of_ble rfl)
    refine Wk.nil (AW.ret ?_)
    exact RetQ.ret (sndB _ l qu) (.cons ⟨2, 0, _, _, _, rfl, rfl, ty25, rfl⟩ .nil) ⟨rfl, rfl⟩ (kept2 rfl rfl)
  · rfl
  · rfl
set_option maxHeartbeats 1000000 in
set_option maxRecDepth 100000 in
theorem istateO (m w p u y a : Int) (f : Nat → Sl) (s : Int) (l : Nat) (q : Bool) (t : Int) (hh : Bool) (c : Int) (dd : Bool) (qu : List Dat) (h : Nat) (L : List Dat) (hne : L ≠ []) (hh1 : h ≤ 4) (hn : (L : List Dat).length ≤ 4) (hL : ∀ i d, (L : List Dat)[i]? = some d → f ((h + i) % 4) = sl (some d)) (ha : 0 ≤ a ∧ a < 8) :
    Spec Try.prog 42 [.ptr 27 0] (sndB (sndC m w p u y a f (h : Int) ((L : List Dat).length : Int) s l q t hh c dd) l qu) (fun r bs => r = stA0 ((a + ((L : List Dat).length : Int)) % 8) a (flV L) s l q t hh c dd ∧ bs = sndB (sndC m w p u y a f (h : Int) ((L : List Dat).length : Int) s l q t hh c dd) l qu ++ flX L) := by
  have c1 := ion_ok a ((L : List Dat).length : Int) ha (by omega)
  have c2 := ilist m w p u y a f s l q t hh c dd qu h L hh1 hn hL
  have ev : flV L = .own 17 (L.length - 1) := if_neg hne
  have ex : flX L = [(17, .own (L.length - 1) 37 3 (piecesA L))] := if_neg hne
  have ip := in_sndF (flV L) (flV_in L) m w p u y a f (h : Int) (L.length : Int) s l q t hh c dd l qu L
  rw [ev, ex] at c2 ip
  rw [ev, ex]
  refine Spec.intro (n := 50) (rv := [.cell 2 25]) Try.func42 rfl rfl rfl (by simp) fun C hN hX => ?_
  refine AW.seq ?_
  apply AW.list
  apply Wk.alc 2 [.int .i64 0, .int .i64 0, .slice none 0 0, .int .i64 0, .slice none 0 0, .bool false, .int .i64 0, .bool false, .int .i64 0, .bool false] ze25 rfl rfl (lt_of_ble rfl)
  refine Wk.nil ?_
  refine AW.seq ?_
  apply AW.draw (hm := hmix) (cs := _)
  · apply Wk.mv (by conv => lhs; whnf) (lt_of_ble rfl)
    apply Wk.nilc rfl (lt_of_ble rfl)
    apply Wk.fad 5 0 false fd90_1 rfl (lt_of_ble rfl)
    apply Wk.ld (i := 27) 1 false ty60 rfl rfl (by conv => lhs; whnf) (lt_of_ble rfl)
    apply Wk.mv (by conv => lhs; whnf) (lt_of_ble rfl)
    apply Wk.nilc rfl (lt_of_ble rfl)
    apply Wk.fad 6 13 true fd90_2 rfl (lt_of_ble rfl)
    apply Wk.fad 13 0 false fd88_2 rfl (lt_of_ble rfl)
    apply Wk.ld (i := 27) 1 false ty3 rfl rfl (by conv => lhs; whnf) (lt_of_ble rfl)
    apply Wk.dat c1 Try.func60 rfl rfl rfl rfl rfl (lt_of_ble rfl)
    apply Wk.mv (by conv => lhs; whnf) (lt_of_ble rfl)
    apply Wk.nilc rfl (lt_of_ble rfl)
    apply Wk.fad 5 0 false fd90_1 rfl (lt_of_ble rfl)
    apply Wk.ld (i := 27) 1 false ty60 rfl rfl (by conv => lhs; whnf) (lt_of_ble rfl)
    apply Wk.mv (by conv => lhs; whnf) (lt_of_ble rfl)
    apply Wk.nilc rfl (lt_of_ble rfl)
    apply Wk.fad 6 13 true fd90_2 rfl (lt_of_ble rfl)
    apply Wk.calr [27, 66] [17] c2 ip (by rintro r bs' ⟨rfl, rfl⟩; exact keep2) ⟨_, _, rfl, rfl⟩ Try.func64 rfl rfl rfl rfl (by simp; rfl) rfl (two_in rfl (by exact within_parts _)) (lt_of_ble rfl)
    rintro r bs' ⟨rfl, rfl⟩
    apply Wk.mv (by conv => lhs; whnf) (lt_of_ble rfl)
    apply Wk.nilc rfl (lt_of_ble rfl)
    apply Wk.fad 20 0 false fd90_3 rfl (lt_of_ble rfl)
    apply Wk.ld (i := 27) 1 false ty3 rfl rfl (by conv => lhs; whnf) (lt_of_ble rfl)
    apply Wk.mv (by conv => lhs; whnf) (lt_of_ble rfl)
    apply Wk.nilc rfl (lt_of_ble rfl)
    apply Wk.fad 21 0 false fd90_4 rfl (lt_of_ble rfl)
    apply Wk.ld (i := 27) 1 false ty23 rfl rfl (by conv => lhs; whnf) (lt_of_ble rfl)
    apply Wk.mv (by conv => lhs; whnf) (lt_of_ble rfl)
    apply Wk.nilc rfl (lt_of_ble rfl)
    apply Wk.fad 22 0 false fd90_5 rfl (lt_of_ble rfl)
    apply Wk.ld (i := 27) 1 false ty4 rfl rfl (by conv => lhs; whnf) (lt_of_ble rfl)
    apply Wk.mv (by conv => lhs; whnf) (lt_of_ble rfl)
    apply Wk.nilc rfl (lt_of_ble rfl)
    apply Wk.fad 23 0 false fd90_6 rfl (lt_of_ble rfl)
    apply Wk.ld (i := 27) 1 false ty3 rfl rfl (by conv => lhs; whnf) (lt_of_ble rfl)
    apply Wk.mv (by conv => lhs; whnf) (lt_of_ble rfl)
    apply Wk.nilc rfl (lt_of_ble rfl)
    apply Wk.fad 24 0 false fd90_7 rfl (lt_of_ble rfl)
    apply Wk.ld (i := 27) 1 false ty4 rfl rfl (by conv => lhs; whnf) (lt_of_ble rfl)
    apply Wk.mv (by conv => lhs; whnf) (lt_of_ble rfl)
    apply Wk.nilc rfl (lt_of_ble rfl)
    apply Wk.fad 25 0 false fd90_8 rfl (lt_of_ble rfl)
    apply Wk.ld (i := 27) 1 false ty3 rfl rfl (by conv => lhs; whnf) (lt_of_ble rfl)
    apply Wk.mv (by conv => lhs; whnf) (lt_of_ble rfl)
    apply Wk.nilc rfl (lt_of_ble rfl)
    apply Wk.fad 26 0 false fd90_9 rfl (lt_of_ble rfl)
    apply Wk.ld (i := 27) 1 false ty4 rfl rfl (by conv => lhs; whnf) (lt_of_ble rfl)
    apply Wk.bld [.int .i64 0, .int .i64 0, .slice none 0 0, .int .i64 0, .slice none 0 0, .bool false, .int .i64 0, .bool false, .int .i64 0, .bool false] [(0, 1), (1, 1), (2, 1), (3, 1), (4, 1), (5, 1), (6, 1), (7, 1), (8, 1), (9, 1)] bl25 rfl (by exact st_fillO ((a + (L.length : Int)) % 8) a s (L.length - 1) l q t hh c dd) (lt_of_ble rfl)
    apply Wk.sto (i := 2) 10 true ty25 rfl rfl rfl rfl (Nat.le_of_ble_eq_true rfl) (lt_of_ble rfl)
    refine Wk.nil (AW.ret ?_)
    exact RetQ.ret [(27, .var (sndC m w p u y a f (h : Int) (L.length : Int) s l q t hh c dd)), (66, .own l 37 3 (piecesA qu)), (17, .own (L.length - 1) 37 3 (piecesA L))] (.cons ⟨2, 0, _, _, _, rfl, rfl, ty25, rfl⟩ .nil) ⟨rfl, rfl⟩ (kept3 rfl rfl rfl)
  · rfl
  · rfl
theorem iwait_ok (b : Bool) : DataOk Try.prog 63 [.d (.v (.bool b))] (.d (.v (.int .i64 (2 * bitZ b)))) := by
  cases b
  · skip
    refine Spec.intro (n := 4) (rv := [.tmp 2]) Try.func63 rfl rfl rfl (by simp) fun C hN hX => ?_
    refine AW.seq ?_
    apply AW.list
    apply Wk.asg (by conv => lhs; whnf) (lt_of_ble rfl)
    refine Wk.nil ?_
    refine AW.seq (AW.seq ?_)
    apply AW.list
    apply Wk.mv (by conv => lhs; whnf) (lt_of_ble rfl)
    refine Wk.nil ?_
    refine AW.cond rfl (fun hc => by cases hc) (fun _ => AW.skip (thenA_normal ?_))
    refine AW.seq ?_
    apply AW.list
    apply Wk.asg (by conv => lhs; whnf) (lt_of_ble rfl)
    refine Wk.nil (AW.ret ?_)
    exact RetQ.ret [] (.cons rfl .nil) ⟨rfl, rfl⟩ none_kept
  · skip
    refine Spec.intro (n := 4) (rv := [.tmp 2]) Try.func63 rfl rfl rfl (by simp) fun C hN hX => ?_
    refine AW.seq ?_
    apply AW.list
    apply Wk.asg (by conv => lhs; whnf) (lt_of_ble rfl)
    refine Wk.nil ?_
    refine AW.seq (AW.seq ?_)
    apply AW.list
    apply Wk.mv (by conv => lhs; whnf) (lt_of_ble rfl)
    refine Wk.nil ?_
    refine AW.cond rfl (fun _ => ?_) (fun hc => by cases hc)
    refine AW.seq ?_
    apply AW.list
    apply Wk.asg (by conv => lhs; whnf) (lt_of_ble rfl)
    refine Wk.nil (AW.ret ?_)
    repeat (first | refine thenA_ret ?_ | refine inBlockA_ret ?_)
    exact RetQ.ret [] (.cons rfl .nil) ⟨rfl, rfl⟩ none_kept
set_option maxHeartbeats 1000000 in
set_option maxRecDepth 100000 in
theorem itickIdle (m w p u y a : Int) (f : Nat → Sl) (k : Nat) (s : Int) (l : Nat) (q : Bool) (t : Int) (hh : Bool) (c : Int) (dd : Bool) (qu : List Dat) (ack : Int) (bu : Bool) (hi : dd = true ∨ (k = 0 ∧ hh = false ∧ q = false)) : Spec Try.prog 41 [.ptr 27 0, .d (.v (.int .i64 ack)), .d (.v (.bool bu))] (sndB (sndC m w p u y a f 0 (k : Int) s l q t hh c dd) l qu) (fun r bs => r = .tup [frmNo, .d (.v (.bool false))] ∧ bs = (sndB (sndC m w p u y a f 0 (k : Int) s l q t hh c dd) l qu)) := by
  cases dd
  · obtain ⟨rfl, rfl, rfl⟩ : k = 0 ∧ hh = false ∧ q = false := by simpa using hi
    refine Spec.intro (n := 65) (rv := [.cell 6 41, .tmp 7]) Try.func41 rfl rfl rfl (by simp) fun C hN hX => ?_
    refine AW.seq ?_
    apply AW.list
    apply Wk.alc 6 [.int .i64 0, .int .i64 0, .int .i64 0, .bool false, .bool false, .int .i64 0, .int .i64 0, .int .i64 0, .slice none 0 0] ze41 rfl rfl (lt_of_ble rfl)
    apply Wk.asg (by conv => lhs; whnf) (lt_of_ble rfl)
    refine Wk.nil ?_
    refine AW.seq ?_
    apply AW.list
    apply Wk.mv (by conv => lhs; whnf) (lt_of_ble rfl)
    apply Wk.nilc rfl (lt_of_ble rfl)
    apply Wk.fad 6 13 true fd90_2 rfl (lt_of_ble rfl)
    apply Wk.fad 13 0 false fd88_2 rfl (lt_of_ble rfl)
    apply Wk.ld (i := 27) 1 false ty3 rfl rfl (by conv => lhs; whnf) (lt_of_ble rfl)
    apply Wk.bin rfl rfl (r := .bool true) (fun w => by simp [go_sem]) (lt_of_ble rfl)
    apply Wk.mv (by conv => lhs; whnf) (lt_of_ble rfl)
    apply Wk.gon 15 rfl rfl
    apply Wk.mv (by conv => lhs; whnf) (lt_of_ble rfl)
    apply Wk.gon 15 rfl rfl
    apply Wk.nilc rfl (lt_of_ble rfl)
    apply Wk.gon 15 rfl rfl
    apply Wk.fad 24 0 false fd90_7 rfl (lt_of_ble rfl)
    apply Wk.gon 15 rfl rfl
    apply Wk.ld (i := 27) 1 false ty4 rfl rfl (by conv => lhs; whnf) (lt_of_ble rfl)
    apply Wk.gon 15 rfl rfl
    apply Wk.un rfl (fun w => by simp [go_sem] <;> rfl) (lt_of_ble rfl)
    apply Wk.pckT rfl (by conv => lhs; whnf) (lt_of_ble rfl)
    apply Wk.mv (by conv => lhs; whnf) (lt_of_ble rfl)
    apply Wk.gon 22 rfl rfl
    apply Wk.mv (by conv => lhs; whnf) (lt_of_ble rfl)
    apply Wk.gon 22 rfl rfl
    apply Wk.nilc rfl (lt_of_ble rfl)
    apply Wk.gon 22 rfl rfl
    apply Wk.fad 22 0 false fd90_5 rfl (lt_of_ble rfl)
    apply Wk.gon 22 rfl rfl
    apply Wk.ld (i := 27) 1 false ty4 rfl rfl (by conv => lhs; whnf) (lt_of_ble rfl)
    apply Wk.gon 22 rfl rfl
    apply Wk.un rfl (fun w => by simp [go_sem] <;> rfl) (lt_of_ble rfl)
    apply Wk.pckT rfl (by conv => lhs; whnf) (lt_of_ble rfl)
    apply Wk.asg (by conv => lhs; whnf) (lt_of_ble rfl)
    refine Wk.nil ?_
    refine AW.seq (AW.seq ?_)
    apply AW.list
    apply Wk.mv (by conv => lhs; whnf) (lt_of_ble rfl)
    apply Wk.nilc rfl (lt_of_ble rfl)
    apply Wk.fad 26 0 false fd90_9 rfl (lt_of_ble rfl)
    apply Wk.ld (i := 27) 1 false ty4 rfl rfl (by conv => lhs; whnf) (lt_of_ble rfl)
    apply Wk.mv (by conv => lhs; whnf) (lt_of_ble rfl)
    apply Wk.gon 33 rfl rfl
    apply Wk.mv (by conv => lhs; whnf) (lt_of_ble rfl)
    apply Wk.pckF rfl (by conv => lhs; whnf) (lt_of_ble rfl)
    refine Wk.nil ?_
    refine AW.cond rfl (fun _ => ?_) (fun hc => by cases hc)
    refine AW.seq ?_
    apply AW.list
    apply Wk.bld [.int .i64 0, .int .i64 0, .int .i64 0, .bool false, .bool false, .int .i64 0, .int .i64 0, .int .i64 0, .slice none 0 0] [(0, 1), (1, 1), (2, 1), (3, 1), (4, 1), (5, 1), (6, 1), (7, 1), (8, 1)] bl41 rfl (by conv => lhs; whnf) (lt_of_ble rfl)
    apply Wk.sto (i := 6) 9 true ty41 rfl rfl rfl rfl (Nat.le_of_ble_eq_true rfl) (lt_of_ble rfl)
    apply Wk.asg (by conv => lhs; whnf) (lt_of_ble rfl)
    refine Wk.nil (AW.ret ?_)
    repeat (first | refine thenA_ret ?_ | refine inBlockA_ret ?_)
    exact RetQ.ret (sndB _ l qu) (.cons ⟨6, 0, _, _, _, rfl, rfl, ty41, rfl⟩ (.cons rfl .nil)) ⟨rfl, rfl⟩ (kept2 rfl rfl)
  · by_cases hk : k = 0
    · subst hk
      cases hh
      · skip
        refine Spec.intro (n := 65) (rv := [.cell 6 41, .tmp 7]) Try.func41 rfl rfl rfl (by simp) fun C hN hX => ?_
        refine AW.seq ?_
        apply AW.list
        apply Wk.alc 6 [.int .i64 0, .int .i64 0, .int .i64 0, .bool false, .bool false, .int .i64 0, .int .i64 0, .int .i64 0, .slice none 0 0] ze41 rfl rfl (lt_of_ble rfl)
        apply Wk.asg (by conv => lhs; whnf) (lt_of_ble rfl)
        refine Wk.nil ?_
        refine AW.seq ?_
        apply AW.list
        apply Wk.mv (by conv => lhs; whnf) (lt_of_ble rfl)
        apply Wk.nilc rfl (lt_of_ble rfl)
        apply Wk.fad 6 13 true fd90_2 rfl (lt_of_ble rfl)
        apply Wk.fad 13 0 false fd88_2 rfl (lt_of_ble rfl)
        apply Wk.ld (i := 27) 1 false ty3 rfl rfl (by conv => lhs; whnf) (lt_of_ble rfl)
        apply Wk.bin rfl rfl (r := .bool true) (fun w => by simp [go_sem]) (lt_of_ble rfl)
        apply Wk.mv (by conv => lhs; whnf) (lt_of_ble rfl)
        apply Wk.gon 15 rfl rfl
        apply Wk.mv (by conv => lhs; whnf) (lt_of_ble rfl)
        apply Wk.gon 15 rfl rfl
        apply Wk.nilc rfl (lt_of_ble rfl)
        apply Wk.gon 15 rfl rfl
        apply Wk.fad 24 0 false fd90_7 rfl (lt_of_ble rfl)
        apply Wk.gon 15 rfl rfl
        apply Wk.ld (i := 27) 1 false ty4 rfl rfl (by conv => lhs; whnf) (lt_of_ble rfl)
        apply Wk.gon 15 rfl rfl
        apply Wk.un rfl (fun w => by simp [go_sem] <;> rfl) (lt_of_ble rfl)
        apply Wk.pckT rfl (by conv => lhs; whnf) (lt_of_ble rfl)
        apply Wk.mv (by conv => lhs; whnf) (lt_of_ble rfl)
        apply Wk.gon 22 rfl rfl
        apply Wk.mv (by conv => lhs; whnf) (lt_of_ble rfl)
        apply Wk.gon 22 rfl rfl
        apply Wk.nilc rfl (lt_of_ble rfl)
        apply Wk.gon 22 rfl rfl
        apply Wk.fad 22 0 false fd90_5 rfl (lt_of_ble rfl)
        apply Wk.gon 22 rfl rfl
        apply Wk.ld (i := 27) 1 false ty4 rfl rfl (by conv => lhs; whnf) (lt_of_ble rfl)
        apply Wk.gon 22 rfl rfl
        apply Wk.un rfl (fun w => by simp [go_sem] <;> rfl) (lt_of_ble rfl)
        apply Wk.pckT rfl (by conv => lhs; whnf) (lt_of_ble rfl)
        apply Wk.asg (by conv => lhs; whnf) (lt_of_ble rfl)
        refine Wk.nil ?_
        refine AW.seq (AW.seq ?_)
        apply AW.list
        apply Wk.mv (by conv => lhs; whnf) (lt_of_ble rfl)
        apply Wk.nilc rfl (lt_of_ble rfl)
        apply Wk.fad 26 0 false fd90_9 rfl (lt_of_ble rfl)
        apply Wk.ld (i := 27) 1 false ty4 rfl rfl (by conv => lhs; whnf) (lt_of_ble rfl)
        apply Wk.mv (by conv => lhs; whnf) (lt_of_ble rfl)
        apply Wk.goff 33 (ok_move _) rfl rfl (by simp)
        apply Wk.pckT rfl (by conv => lhs; whnf) (lt_of_ble rfl)
        refine Wk.nil ?_
        refine AW.cond rfl (fun _ => ?_) (fun hc => by cases hc)
        refine AW.seq ?_
        apply AW.list
        apply Wk.bld [.int .i64 0, .int .i64 0, .int .i64 0, .bool false, .bool false, .int .i64 0, .int .i64 0, .int .i64 0, .slice none 0 0] [(0, 1), (1, 1), (2, 1), (3, 1), (4, 1), (5, 1), (6, 1), (7, 1), (8, 1)] bl41 rfl (by conv => lhs; whnf) (lt_of_ble rfl)
        apply Wk.sto (i := 6) 9 true ty41 rfl rfl rfl rfl (Nat.le_of_ble_eq_true rfl) (lt_of_ble rfl)
        apply Wk.asg (by conv => lhs; whnf) (lt_of_ble rfl)
        refine Wk.nil (AW.ret ?_)
        repeat (first | refine thenA_ret ?_ | refine inBlockA_ret ?_)
        exact RetQ.ret (sndB _ l qu) (.cons ⟨6, 0, _, _, _, rfl, rfl, ty41, rfl⟩ (.cons rfl .nil)) ⟨rfl, rfl⟩ (kept2 rfl rfl)
      · skip
        refine Spec.intro (n := 65) (rv := [.cell 6 41, .tmp 7]) Try.func41 rfl rfl rfl (by simp) fun C hN hX => ?_
        refine AW.seq ?_
        apply AW.list
        apply Wk.alc 6 [.int .i64 0, .int .i64 0, .int .i64 0, .bool false, .bool false, .int .i64 0, .int .i64 0, .int .i64 0, .slice none 0 0] ze41 rfl rfl (lt_of_ble rfl)
        apply Wk.asg (by conv => lhs; whnf) (lt_of_ble rfl)
        refine Wk.nil ?_
        refine AW.seq ?_
        apply AW.list
        apply Wk.mv (by conv => lhs; whnf) (lt_of_ble rfl)
        apply Wk.nilc rfl (lt_of_ble rfl)
        apply Wk.fad 6 13 true fd90_2 rfl (lt_of_ble rfl)
        apply Wk.fad 13 0 false fd88_2 rfl (lt_of_ble rfl)
        apply Wk.ld (i := 27) 1 false ty3 rfl rfl (by conv => lhs; whnf) (lt_of_ble rfl)
        apply Wk.bin rfl rfl (r := .bool true) (fun w => by simp [go_sem]) (lt_of_ble rfl)
        apply Wk.mv (by conv => lhs; whnf) (lt_of_ble rfl)
        apply Wk.gon 15 rfl rfl
        apply Wk.mv (by conv => lhs; whnf) (lt_of_ble rfl)
        apply Wk.gon 15 rfl rfl
        apply Wk.nilc rfl (lt_of_ble rfl)
        apply Wk.gon 15 rfl rfl
        apply Wk.fad 24 0 false fd90_7 rfl (lt_of_ble rfl)
        apply Wk.gon 15 rfl rfl
        apply Wk.ld (i := 27) 1 false ty4 rfl rfl (by conv => lhs; whnf) (lt_of_ble rfl)
        apply Wk.gon 15 rfl rfl
        apply Wk.un rfl (fun w => by simp [go_sem] <;> rfl) (lt_of_ble rfl)
        apply Wk.pckT rfl (by conv => lhs; whnf) (lt_of_ble rfl)
        apply Wk.mv (by conv => lhs; whnf) (lt_of_ble rfl)
        apply Wk.goff 22 (ok_move _) rfl rfl (by simp)
        apply Wk.goff 22 (ok_nil _) rfl rfl (by simp)
        apply Wk.goff 22 (ok_faddr fd90_5) rfl rfl (by simp)
        apply Wk.goff 22 (ok_load 27 ty4) rfl rfl (by simp)
        apply Wk.goff 22 (ok_un _ _ _) rfl rfl (by simp)
        apply Wk.pckF rfl (by conv => lhs; whnf) (lt_of_ble rfl)
        apply Wk.asg (by conv => lhs; whnf) (lt_of_ble rfl)
        refine Wk.nil ?_
        refine AW.seq (AW.seq ?_)
        apply AW.list
        apply Wk.mv (by conv => lhs; whnf) (lt_of_ble rfl)
        apply Wk.nilc rfl (lt_of_ble rfl)
        apply Wk.fad 26 0 false fd90_9 rfl (lt_of_ble rfl)
        apply Wk.ld (i := 27) 1 false ty4 rfl rfl (by conv => lhs; whnf) (lt_of_ble rfl)
        apply Wk.mv (by conv => lhs; whnf) (lt_of_ble rfl)
        apply Wk.goff 33 (ok_move _) rfl rfl (by simp)
        apply Wk.pckT rfl (by conv => lhs; whnf) (lt_of_ble rfl)
        refine Wk.nil ?_
        refine AW.cond rfl (fun _ => ?_) (fun hc => by cases hc)
        refine AW.seq ?_
        apply AW.list
        apply Wk.bld [.int .i64 0, .int .i64 0, .int .i64 0, .bool false, .bool false, .int .i64 0, .int .i64 0, .int .i64 0, .slice none 0 0] [(0, 1), (1, 1), (2, 1), (3, 1), (4, 1), (5, 1), (6, 1), (7, 1), (8, 1)] bl41 rfl (by conv => lhs; whnf) (lt_of_ble rfl)
        apply Wk.sto (i := 6) 9 true ty41 rfl rfl rfl rfl (Nat.le_of_ble_eq_true rfl) (lt_of_ble rfl)
        apply Wk.asg (by conv => lhs; whnf) (lt_of_ble rfl)
        refine Wk.nil (AW.ret ?_)
        repeat (first | refine thenA_ret ?_ | refine inBlockA_ret ?_)
        exact RetQ.ret (sndB _ l qu) (.cons ⟨6, 0, _, _, _, rfl, rfl, ty41, rfl⟩ (.cons rfl .nil)) ⟨rfl, rfl⟩ (kept2 rfl rfl)
    · skip
      refine Spec.intro (n := 65) (rv := [.cell 6 41, .tmp 7]) Try.func41 rfl rfl rfl (by simp) fun C hN hX => ?_
      refine AW.seq ?_
      apply AW.list
      apply Wk.alc 6 [.int .i64 0, .int .i64 0, .int .i64 0, .bool false, .bool false, .int .i64 0, .int .i64 0, .int .i64 0, .slice none 0 0] ze41 rfl rfl (lt_of_ble rfl)
      apply Wk.asg (by conv => lhs; whnf) (lt_of_ble rfl)
      refine Wk.nil ?_
      refine AW.seq ?_
      apply AW.list
      apply Wk.mv (by conv => lhs; whnf) (lt_of_ble rfl)
      apply Wk.nilc rfl (lt_of_ble rfl)
      apply Wk.fad 6 13 true fd90_2 rfl (lt_of_ble rfl)
      apply Wk.fad 13 0 false fd88_2 rfl (lt_of_ble rfl)
      apply Wk.ld (i := 27) 1 false ty3 rfl rfl (by conv => lhs; whnf) (lt_of_ble rfl)
      apply Wk.bin rfl rfl (r := .bool false) (fun w => by simp [go_sem]; omega) (lt_of_ble rfl)
      apply Wk.mv (by conv => lhs; whnf) (lt_of_ble rfl)
      apply Wk.goff 15 (ok_move _) rfl rfl (by simp)
      apply Wk.goff 15 (ok_nil _) rfl rfl (by simp)
      apply Wk.goff 15 (ok_faddr fd90_7) rfl rfl (by simp)
      apply Wk.goff 15 (ok_load 27 ty4) rfl rfl (by simp)
      apply Wk.goff 15 (ok_un _ _ _) rfl rfl (by simp)
      apply Wk.pckF rfl (by conv => lhs; whnf) (lt_of_ble rfl)
      apply Wk.mv (by conv => lhs; whnf) (lt_of_ble rfl)
      apply Wk.goff 22 (ok_move _) rfl rfl (by simp)
      apply Wk.goff 22 (ok_nil _) rfl rfl (by simp)
      apply Wk.goff 22 (ok_faddr fd90_5) rfl rfl (by simp)
      apply Wk.goff 22 (ok_load 27 ty4) rfl rfl (by simp)
      apply Wk.goff 22 (ok_un _ _ _) rfl rfl (by simp)
      apply Wk.pckF rfl (by conv => lhs; whnf) (lt_of_ble rfl)
      apply Wk.asg (by conv => lhs; whnf) (lt_of_ble rfl)
      refine Wk.nil ?_
      refine AW.seq (AW.seq ?_)
      apply AW.list
      apply Wk.mv (by conv => lhs; whnf) (lt_of_ble rfl)
      apply Wk.nilc rfl (lt_of_ble rfl)
      apply Wk.fad 26 0 false fd90_9 rfl (lt_of_ble rfl)
      apply Wk.ld (i := 27) 1 false ty4 rfl rfl (by conv => lhs; whnf) (lt_of_ble rfl)
      apply Wk.mv (by conv => lhs; whnf) (lt_of_ble rfl)
      apply Wk.goff 33 (ok_move _) rfl rfl (by simp)
      apply Wk.pckT rfl (by conv => lhs; whnf) (lt_of_ble rfl)
      refine Wk.nil ?_
      refine AW.cond rfl (fun _ => ?_) (fun hc => by cases hc)
      refine AW.seq ?_
      apply AW.list
      apply Wk.bld [.int .i64 0, .int .i64 0, .int .i64 0, .bool false, .bool false, .int .i64 0, .int .i64 0, .int .i64 0, .slice none 0 0] [(0, 1), (1, 1), (2, 1), (3, 1), (4, 1), (5, 1), (6, 1), (7, 1), (8, 1)] bl41 rfl (by conv => lhs; whnf) (lt_of_ble rfl)
      apply Wk.sto (i := 6) 9 true ty41 rfl rfl rfl rfl (Nat.le_of_ble_eq_true rfl) (lt_of_ble rfl)
      apply Wk.asg (by conv => lhs; whnf) (lt_of_ble rfl)
      refine Wk.nil (AW.ret ?_)
      repeat (first | refine thenA_ret ?_ | refine inBlockA_ret ?_)
      exact RetQ.ret (sndB _ l qu) (.cons ⟨6, 0, _, _, _, rfl, rfl, ty41, rfl⟩ (.cons rfl .nil)) ⟨rfl, rfl⟩ (kept2 rfl rfl)
set_option maxHeartbeats 1000000 in
set_option maxRecDepth 100000 in
theorem itickOut (m w p u y a : Int) (f : Nat → Sl) (k : Nat) (s : Int) (l : Nat) (q : Bool) (t : Int) (hh : Bool) (c : Int) (dd : Bool) (qu : List Dat) (ack : Int) (bu : Bool) (hd : dd = false) (hi : ¬ (k = 0 ∧ hh = false ∧ q = false)) (ht : t = y) : Spec Try.prog 41 [.ptr 27 0, .d (.v (.int .i64 ack)), .d (.v (.bool bu))] (sndB (sndC m w p u y a f 0 (k : Int) s l q t hh c dd) l qu) (fun r bs => r = .tup [frmNo, .d (.v (.bool false))] ∧ bs = (sndB (sndC m w p u y a f 0 (k : Int) s l q t hh c true) l qu)) := by
  subst hd
  subst ht
  by_cases hk : k = 0
  · subst hk
    cases hh
    · obtain rfl : q = true := by cases q <;> simp_all
      refine Spec.intro (n := 65) (rv := [.cell 6 41, .tmp 7]) Try.func41 rfl rfl rfl (by simp) fun C hN hX => ?_
      refine AW.seq ?_
      apply AW.list
      apply Wk.alc 6 [.int .i64 0, .int .i64 0, .int .i64 0, .bool false, .bool false, .int .i64 0, .int .i64 0, .int .i64 0, .slice none 0 0] ze41 rfl rfl (lt_of_ble rfl)
      apply Wk.asg (by conv => lhs; whnf) (lt_of_ble rfl)
      refine Wk.nil ?_
      refine AW.seq ?_
      apply AW.list
      apply Wk.mv (by conv => lhs; whnf) (lt_of_ble rfl)
      apply Wk.nilc rfl (lt_of_ble rfl)
      apply Wk.fad 6 13 true fd90_2 rfl (lt_of_ble rfl)
      apply Wk.fad 13 0 false fd88_2 rfl (lt_of_ble rfl)
      apply Wk.ld (i := 27) 1 false ty3 rfl rfl (by conv => lhs; whnf) (lt_of_ble rfl)
      apply Wk.bin rfl rfl (r := .bool true) (fun w => by simp [go_sem]) (lt_of_ble rfl)
      apply Wk.mv (by conv => lhs; whnf) (lt_of_ble rfl)
      apply Wk.gon 15 rfl rfl
      apply Wk.mv (by conv => lhs; whnf) (lt_of_ble rfl)
      apply Wk.gon 15 rfl rfl
      apply Wk.nilc rfl (lt_of_ble rfl)
      apply Wk.gon 15 rfl rfl
      apply Wk.fad 24 0 false fd90_7 rfl (lt_of_ble rfl)
      apply Wk.gon 15 rfl rfl
      apply Wk.ld (i := 27) 1 false ty4 rfl rfl (by conv => lhs; whnf) (lt_of_ble rfl)
      apply Wk.gon 15 rfl rfl
      apply Wk.un rfl (fun w => by simp [go_sem] <;> rfl) (lt_of_ble rfl)
      apply Wk.pckT rfl (by conv => lhs; whnf) (lt_of_ble rfl)
      apply Wk.mv (by conv => lhs; whnf) (lt_of_ble rfl)
      apply Wk.gon 22 rfl rfl
      apply Wk.mv (by conv => lhs; whnf) (lt_of_ble rfl)
      apply Wk.gon 22 rfl rfl
      apply Wk.nilc rfl (lt_of_ble rfl)
      apply Wk.gon 22 rfl rfl
      apply Wk.fad 22 0 false fd90_5 rfl (lt_of_ble rfl)
      apply Wk.gon 22 rfl rfl
      apply Wk.ld (i := 27) 1 false ty4 rfl rfl (by conv => lhs; whnf) (lt_of_ble rfl)
      apply Wk.gon 22 rfl rfl
      apply Wk.un rfl (fun w => by simp [go_sem] <;> rfl) (lt_of_ble rfl)
      apply Wk.pckT rfl (by conv => lhs; whnf) (lt_of_ble rfl)
      apply Wk.asg (by conv => lhs; whnf) (lt_of_ble rfl)
      refine Wk.nil ?_
      refine AW.seq (AW.seq ?_)
      apply AW.list
      apply Wk.mv (by conv => lhs; whnf) (lt_of_ble rfl)
      apply Wk.nilc rfl (lt_of_ble rfl)
      apply Wk.fad 26 0 false fd90_9 rfl (lt_of_ble rfl)
      apply Wk.ld (i := 27) 1 false ty4 rfl rfl (by conv => lhs; whnf) (lt_of_ble rfl)
      apply Wk.mv (by conv => lhs; whnf) (lt_of_ble rfl)
      apply Wk.gon 33 rfl rfl
      apply Wk.mv (by conv => lhs; whnf) (lt_of_ble rfl)
      apply Wk.pckF rfl (by conv => lhs; whnf) (lt_of_ble rfl)
      refine Wk.nil ?_
      refine AW.cond rfl (fun hc => by cases hc) (fun _ => AW.skip (thenA_normal ?_))
      refine AW.seq (AW.seq ?_)
      apply AW.draw (hm := hmix) (cs := _)
      · apply Wk.mv (by conv => lhs; whnf) (lt_of_ble rfl)
        apply Wk.nilc rfl (lt_of_ble rfl)
        apply Wk.fad 23 0 false fd90_6 rfl (lt_of_ble rfl)
        apply Wk.ld (i := 27) 1 false ty3 rfl rfl (by conv => lhs; whnf) (lt_of_ble rfl)
        apply Wk.mv (by conv => lhs; whnf) (lt_of_ble rfl)
        apply Wk.nilc rfl (lt_of_ble rfl)
        apply Wk.fad 0 4 true fd90_0 rfl (lt_of_ble rfl)
        apply Wk.fad 4 0 false fd31_4 rfl (lt_of_ble rfl)
        apply Wk.ld (i := 27) 1 false ty3 rfl rfl (by conv => lhs; whnf) (lt_of_ble rfl)
        apply Wk.bin rfl rfl (r := .bool true) (fun w => by simp [go_sem]) (lt_of_ble rfl)
        refine Wk.nil ?_
        refine AW.cond rfl (fun _ => ?_) (fun hc => by cases hc)
        refine AW.seq ?_
        apply AW.list
        apply Wk.mv (by conv => lhs; whnf) (lt_of_ble rfl)
        apply Wk.nilc rfl (lt_of_ble rfl)
        apply Wk.fad 26 0 false fd90_9 rfl (lt_of_ble rfl)
        apply Wk.sto (i := 27) 1 false ty4 rfl rfl rfl rfl (Nat.le_of_ble_eq_true rfl) (lt_of_ble rfl)
        refine Wk.nil ?_
        refine AW.seq ?_
        apply AW.list
        apply Wk.bld [.int .i64 0, .int .i64 0, .int .i64 0, .bool false, .bool false, .int .i64 0, .int .i64 0, .int .i64 0, .slice none 0 0] [(0, 1), (1, 1), (2, 1), (3, 1), (4, 1), (5, 1), (6, 1), (7, 1), (8, 1)] bl41 rfl (by conv => lhs; whnf) (lt_of_ble rfl)
        apply Wk.sto (i := 6) 9 true ty41 rfl rfl rfl rfl (Nat.le_of_ble_eq_true rfl) (lt_of_ble rfl)
        apply Wk.asg (by conv => lhs; whnf) (lt_of_ble rfl)
        refine Wk.nil (AW.ret ?_)
        repeat (first | refine thenA_ret ?_ | refine inBlockA_ret ?_)
        exact RetQ.ret (sndB _ l qu) (.cons ⟨6, 0, _, _, _, rfl, rfl, ty41, rfl⟩ (.cons rfl .nil)) ⟨rfl, rfl⟩ (kept2 rfl rfl)
      · rfl
      · rfl
    · skip
      refine Spec.intro (n := 65) (rv := [.cell 6 41, .tmp 7]) Try.func41 rfl rfl rfl (by simp) fun C hN hX => ?_
      refine AW.seq ?_
      apply AW.list
      apply Wk.alc 6 [.int .i64 0, .int .i64 0, .int .i64 0, .bool false, .bool false, .int .i64 0, .int .i64 0, .int .i64 0, .slice none 0 0] ze41 rfl rfl (lt_of_ble rfl)
      apply Wk.asg (by conv => lhs; whnf) (lt_of_ble rfl)
      refine Wk.nil ?_
      refine AW.seq ?_
      apply AW.list
      apply Wk.mv (by conv => lhs; whnf) (lt_of_ble rfl)
      apply Wk.nilc rfl (lt_of_ble rfl)
      apply Wk.fad 6 13 true fd90_2 rfl (lt_of_ble rfl)
      apply Wk.fad 13 0 false fd88_2 rfl (lt_of_ble rfl)
      apply Wk.ld (i := 27) 1 false ty3 rfl rfl (by conv => lhs; whnf) (lt_of_ble rfl)
      apply Wk.bin rfl rfl (r := .bool true) (fun w => by simp [go_sem]) (lt_of_ble rfl)
      apply Wk.mv (by conv => lhs; whnf) (lt_of_ble rfl)
      apply Wk.gon 15 rfl rfl
      apply Wk.mv (by conv => lhs; whnf) (lt_of_ble rfl)
      apply Wk.gon 15 rfl rfl
      apply Wk.nilc rfl (lt_of_ble rfl)
      apply Wk.gon 15 rfl rfl
      apply Wk.fad 24 0 false fd90_7 rfl (lt_of_ble rfl)
      apply Wk.gon 15 rfl rfl
      apply Wk.ld (i := 27) 1 false ty4 rfl rfl (by conv => lhs; whnf) (lt_of_ble rfl)
      apply Wk.gon 15 rfl rfl
      apply Wk.un rfl (fun w => by simp [go_sem] <;> rfl) (lt_of_ble rfl)
      apply Wk.pckT rfl (by conv => lhs; whnf) (lt_of_ble rfl)
      apply Wk.mv (by conv => lhs; whnf) (lt_of_ble rfl)
      apply Wk.goff 22 (ok_move _) rfl rfl (by simp)
      apply Wk.goff 22 (ok_nil _) rfl rfl (by simp)
      apply Wk.goff 22 (ok_faddr fd90_5) rfl rfl (by simp)
      apply Wk.goff 22 (ok_load 27 ty4) rfl rfl (by simp)
      apply Wk.goff 22 (ok_un _ _ _) rfl rfl (by simp)
      apply Wk.pckF rfl (by conv => lhs; whnf) (lt_of_ble rfl)
      apply Wk.asg (by conv => lhs; whnf) (lt_of_ble rfl)
      refine Wk.nil ?_
      refine AW.seq (AW.seq ?_)
      apply AW.list
      apply Wk.mv (by conv => lhs; whnf) (lt_of_ble rfl)
      apply Wk.nilc rfl (lt_of_ble rfl)
      apply Wk.fad 26 0 false fd90_9 rfl (lt_of_ble rfl)
      apply Wk.ld (i := 27) 1 false ty4 rfl rfl (by conv => lhs; whnf) (lt_of_ble rfl)
      apply Wk.mv (by conv => lhs; whnf) (lt_of_ble rfl)
      apply Wk.gon 33 rfl rfl
      apply Wk.mv (by conv => lhs; whnf) (lt_of_ble rfl)
      apply Wk.pckF rfl (by conv => lhs; whnf) (lt_of_ble rfl)
      refine Wk.nil ?_
      refine AW.cond rfl (fun hc => by cases hc) (fun _ => AW.skip (thenA_normal ?_))
      refine AW.seq (AW.seq ?_)
      apply AW.draw (hm := hmix) (cs := _)
      · apply Wk.mv (by conv => lhs; whnf) (lt_of_ble rfl)
        apply Wk.nilc rfl (lt_of_ble rfl)
        apply Wk.fad 23 0 false fd90_6 rfl (lt_of_ble rfl)
        apply Wk.ld (i := 27) 1 false ty3 rfl rfl (by conv => lhs; whnf) (lt_of_ble rfl)
        apply Wk.mv (by conv => lhs; whnf) (lt_of_ble rfl)
        apply Wk.nilc rfl (lt_of_ble rfl)
        apply Wk.fad 0 4 true fd90_0 rfl (lt_of_ble rfl)
        apply Wk.fad 4 0 false fd31_4 rfl (lt_of_ble rfl)
        apply Wk.ld (i := 27) 1 false ty3 rfl rfl (by conv => lhs; whnf) (lt_of_ble rfl)
        apply Wk.bin rfl rfl (r := .bool true) (fun w => by simp [go_sem]) (lt_of_ble rfl)
        refine Wk.nil ?_
        refine AW.cond rfl (fun _ => ?_) (fun hc => by cases hc)
        refine AW.seq ?_
        apply AW.list
        apply Wk.mv (by conv => lhs; whnf) (lt_of_ble rfl)
        apply Wk.nilc rfl (lt_of_ble rfl)
        apply Wk.fad 26 0 false fd90_9 rfl (lt_of_ble rfl)
        apply Wk.sto (i := 27) 1 false ty4 rfl rfl rfl rfl (Nat.le_of_ble_eq_true rfl) (lt_of_ble rfl)
        refine Wk.nil ?_
        refine AW.seq ?_
        apply AW.list
        apply Wk.bld [.int .i64 0, .int .i64 0, .int .i64 0, .bool false, .bool false, .int .i64 0, .int .i64 0, .int .i64 0, .slice none 0 0] [(0, 1), (1, 1), (2, 1), (3, 1), (4, 1), (5, 1), (6, 1), (7, 1), (8, 1)] bl41 rfl (by conv => lhs; whnf) (lt_of_ble rfl)
        apply Wk.sto (i := 6) 9 true ty41 rfl rfl rfl rfl (Nat.le_of_ble_eq_true rfl) (lt_of_ble rfl)
        apply Wk.asg (by conv => lhs; whnf) (lt_of_ble rfl)
        refine Wk.nil (AW.ret ?_)
        repeat (first | refine thenA_ret ?_ | refine inBlockA_ret ?_)
        exact RetQ.ret (sndB _ l qu) (.cons ⟨6, 0, _, _, _, rfl, rfl, ty41, rfl⟩ (.cons rfl .nil)) ⟨rfl, rfl⟩ (kept2 rfl rfl)
      · rfl
      · rfl
  · skip
    refine Spec.intro (n := 65) (rv := [.cell 6 41, .tmp 7]) Try.func41 rfl rfl rfl (by simp) fun C hN hX => ?_
    refine AW.seq ?_
    apply AW.list
    apply Wk.alc 6 [.int .i64 0, .int .i64 0, .int .i64 0, .bool false, .bool false, .int .i64 0, .int .i64 0, .int .i64 0, .slice none 0 0] ze41 rfl rfl (lt_of_ble rfl)
    apply Wk.asg (by conv => lhs; whnf) (lt_of_ble rfl)
    refine Wk.nil ?_
    refine AW.seq ?_
    apply AW.list
    apply Wk.mv (by conv => lhs; whnf) (lt_of_ble rfl)
    apply Wk.nilc rfl (lt_of_ble rfl)
    apply Wk.fad 6 13 true fd90_2 rfl (lt_of_ble rfl)
    apply Wk.fad 13 0 false fd88_2 rfl (lt_of_ble rfl)
    apply Wk.ld (i := 27) 1 false ty3 rfl rfl (by conv => lhs; whnf) (lt_of_ble rfl)
    apply Wk.bin rfl rfl (r := .bool false) (fun w => by simp [go_sem]; omega) (lt_of_ble rfl)
    apply Wk.mv (by conv => lhs; whnf) (lt_of_ble rfl)
    apply Wk.goff 15 (ok_move _) rfl rfl (by simp)
    apply Wk.goff 15 (ok_nil _) rfl rfl (by simp)
    apply Wk.goff 15 (ok_faddr fd90_7) rfl rfl (by simp)
    apply Wk.goff 15 (ok_load 27 ty4) rfl rfl (by simp)
    apply Wk.goff 15 (ok_un _ _ _) rfl rfl (by simp)
    apply Wk.pckF rfl (by conv => lhs; whnf) (lt_of_ble rfl)
    apply Wk.mv (by conv => lhs; whnf) (lt_of_ble rfl)
    apply Wk.goff 22 (ok_move _) rfl rfl (by simp)
    apply Wk.goff 22 (ok_nil _) rfl rfl (by simp)
    apply Wk.goff 22 (ok_faddr fd90_5) rfl rfl (by simp)
    apply Wk.goff 22 (ok_load 27 ty4) rfl rfl (by simp)
    apply Wk.goff 22 (ok_un _ _ _) rfl rfl (by simp)
    apply Wk.pckF rfl (by conv => lhs; whnf) (lt_of_ble rfl)
    apply Wk.asg (by conv => lhs; whnf) (lt_of_ble rfl)
    refine Wk.nil ?_
    refine AW.seq (AW.seq ?_)
    apply AW.list
    apply Wk.mv (by conv => lhs; whnf) (lt_of_ble rfl)
    apply Wk.nilc rfl (lt_of_ble rfl)
    apply Wk.fad 26 0 false fd90_9 rfl (lt_of_ble rfl)
    apply Wk.ld (i := 27) 1 false ty4 rfl rfl (by conv => lhs; whnf) (lt_of_ble rfl)
    apply Wk.mv (by conv => lhs; whnf) (lt_of_ble rfl)
    apply Wk.gon 33 rfl rfl
    apply Wk.mv (by conv => lhs; whnf) (lt_of_ble rfl)
    apply Wk.pckF rfl (by conv => lhs; whnf) (lt_of_ble rfl)
    refine Wk.nil ?_
    refine AW.cond rfl (fun hc => by cases hc) (fun _ => AW.skip (thenA_normal ?_))
    refine AW.seq (AW.seq ?_)
    apply AW.draw (hm := hmix) (cs := _)
    · apply Wk.mv (by conv => lhs; whnf) (lt_of_ble rfl)
      apply Wk.nilc rfl (lt_of_ble rfl)
      apply Wk.fad 23 0 false fd90_6 rfl (lt_of_ble rfl)
      apply Wk.ld (i := 27) 1 false ty3 rfl rfl (by conv => lhs; whnf) (lt_of_ble rfl)
      apply Wk.mv (by conv => lhs; whnf) (lt_of_ble rfl)
      apply Wk.nilc rfl (lt_of_ble rfl)
      apply Wk.fad 0 4 true fd90_0 rfl (lt_of_ble rfl)
      apply Wk.fad 4 0 false fd31_4 rfl (lt_of_ble rfl)
      apply Wk.ld (i := 27) 1 false ty3 rfl rfl (by conv => lhs; whnf) (lt_of_ble rfl)
      apply Wk.bin rfl rfl (r := .bool true) (fun w => by simp [go_sem]) (lt_of_ble rfl)
      refine Wk.nil ?_
      refine AW.cond rfl (fun _ => ?_) (fun hc => by cases hc)
      refine AW.seq ?_
      apply AW.list
      apply Wk.mv (by conv => lhs; whnf) (lt_of_ble rfl)
      apply Wk.nilc rfl (lt_of_ble rfl)
      apply Wk.fad 26 0 false fd90_9 rfl (lt_of_ble rfl)
      apply Wk.sto (i := 27) 1 false ty4 rfl rfl rfl rfl (Nat.le_of_ble_eq_true rfl) (lt_of_ble rfl)
      refine Wk.nil ?_
      refine AW.seq ?_
      apply AW.list
      apply Wk.bld [.int .i64 0, .int .i64 0, .int .i64 0, .bool false, .bool false, .int .i64 0, .int .i64 0, .int .i64 0, .slice none 0 0] [(0, 1), (1, 1), (2, 1), (3, 1), (4, 1), (5, 1), (6, 1), (7, 1), (8, 1)] bl41 rfl (by conv => lhs; whnf) (lt_of_ble rfl)
      apply Wk.sto (i := 6) 9 true ty41 rfl rfl rfl rfl (Nat.le_of_ble_eq_true rfl) (lt_of_ble rfl)
      apply Wk.asg (by conv => lhs; whnf) (lt_of_ble rfl)
      refine Wk.nil (AW.ret ?_)
      repeat (first | refine thenA_ret ?_ | refine inBlockA_ret ?_)
      exact RetQ.ret (sndB _ l qu) (.cons ⟨6, 0, _, _, _, rfl, rfl, ty41, rfl⟩ (.cons rfl .nil)) ⟨rfl, rfl⟩ (kept2 rfl rfl)
    · rfl
    · rfl
set_option maxHeartbeats 1000000 in
set_option maxRecDepth 100000 in
theorem itickAsk (m w p u y a : Int) (f : Nat → Sl) (k : Nat) (s : Int) (l : Nat) (q : Bool) (t : Int) (hh : Bool) (c : Int) (dd : Bool) (qu : List Dat) (ack : Int) (bu : Bool) (hd : dd = false) (hi : ¬ (k = 0 ∧ hh = false ∧ q = false)) (ht : t ≠ y) (hb : 0 ≤ t ∧ t ≤ 1000000) : Spec Try.prog 41 [.ptr 27 0, .d (.v (.int .i64 ack)), .d (.v (.bool bu))] (sndB (sndC m w p u y a f 0 (k : Int) s l q t hh c dd) l qu) (fun r bs => r = .tup [frmQ ack bu, .d (.v (.bool true))] ∧ bs = (sndB (sndC m w p u y a f 0 (k : Int) s l true (t + 1) hh c dd) l qu)) := by
  subst hd
  by_cases hk : k = 0
  · subst hk
    cases hh
    · obtain rfl : q = true := by cases q <;> simp_all
      refine Spec.intro (n := 65) (rv := [.cell 6 41, .tmp 7]) Try.func41 rfl rfl rfl (by simp) fun C hN hX => ?_
      refine AW.seq ?_
      apply AW.list
      apply Wk.alc 6 [.int .i64 0, .int .i64 0, .int .i64 0, .bool false, .bool false, .int .i64 0, .int .i64 0, .int .i64 0, .slice none 0 0] ze41 rfl rfl (lt_of_ble rfl)
      apply Wk.asg (by conv => lhs; whnf) (lt_of_ble rfl)
      refine Wk.nil ?_
      refine AW.seq ?_
      apply AW.list
      apply Wk.mv (by conv => lhs; whnf) (lt_of_ble rfl)
      apply Wk.nilc rfl (lt_of_ble rfl)
      apply Wk.fad 6 13 true fd90_2 rfl (lt_of_ble rfl)
      apply Wk.fad 13 0 false fd88_2 rfl (lt_of_ble rfl)
      apply Wk.ld (i := 27) 1 false ty3 rfl rfl (by conv => lhs; whnf) (lt_of_ble rfl)
      apply Wk.bin rfl rfl (r := .bool true) (fun w => by simp [go_sem]) (lt_of_ble rfl)
      apply Wk.mv (by conv => lhs; whnf) (lt_of_ble rfl)
      apply Wk.gon 15 rfl rfl
      apply Wk.mv (by conv => lhs; whnf) (lt_of_ble rfl)
      apply Wk.gon 15 rfl rfl
      apply Wk.nilc rfl (lt_of_ble rfl)
      apply Wk.gon 15 rfl rfl
      apply Wk.fad 24 0 false fd90_7 rfl (lt_of_ble rfl)
      apply Wk.gon 15 rfl rfl
      apply Wk.ld (i := 27) 1 false ty4 rfl rfl (by conv => lhs; whnf) (lt_of_ble rfl)
      apply Wk.gon 15 rfl rfl
      apply Wk.un rfl (fun w => by simp [go_sem] <;> rfl) (lt_of_ble rfl)
      apply Wk.pckT rfl (by conv => lhs; whnf) (lt_of_ble rfl)
      apply Wk.mv (by conv => lhs; whnf) (lt_of_ble rfl)
      apply Wk.gon 22 rfl rfl
      apply Wk.mv (by conv => lhs; whnf) (lt_of_ble rfl)
      apply Wk.gon 22 rfl rfl
      apply Wk.nilc rfl (lt_of_ble rfl)
      apply Wk.gon 22 rfl rfl
      apply Wk.fad 22 0 false fd90_5 rfl (lt_of_ble rfl)
      apply Wk.gon 22 rfl rfl
      apply Wk.ld (i := 27) 1 false ty4 rfl rfl (by conv => lhs; whnf) (lt_of_ble rfl)
      apply Wk.gon 22 rfl rfl
      apply Wk.un rfl (fun w => by simp [go_sem] <;> rfl) (lt_of_ble rfl)
      apply Wk.pckT rfl (by conv => lhs; whnf) (lt_of_ble rfl)
      apply Wk.asg (by conv => lhs; whnf) (lt_of_ble rfl)
      refine Wk.nil ?_
      refine AW.seq (AW.seq ?_)
      apply AW.list
      apply Wk.mv (by conv => lhs; whnf) (lt_of_ble rfl)
      apply Wk.nilc rfl (lt_of_ble rfl)
      apply Wk.fad 26 0 false fd90_9 rfl (lt_of_ble rfl)
      apply Wk.ld (i := 27) 1 false ty4 rfl rfl (by conv => lhs; whnf) (lt_of_ble rfl)
      apply Wk.mv (by conv => lhs; whnf) (lt_of_ble rfl)
      apply Wk.gon 33 rfl rfl
      apply Wk.mv (by conv => lhs; whnf) (lt_of_ble rfl)
      apply Wk.pckF rfl (by conv => lhs; whnf) (lt_of_ble rfl)
      refine Wk.nil ?_
      refine AW.cond rfl (fun hc => by cases hc) (fun _ => AW.skip (thenA_normal ?_))
      refine AW.seq (AW.seq ?_)
      apply AW.draw (hm := hmix) (cs := _)
      · apply Wk.mv (by conv => lhs; whnf) (lt_of_ble rfl)
        apply Wk.nilc rfl (lt_of_ble rfl)
        apply Wk.fad 23 0 false fd90_6 rfl (lt_of_ble rfl)
        apply Wk.ld (i := 27) 1 false ty3 rfl rfl (by conv => lhs; whnf) (lt_of_ble rfl)
        apply Wk.mv (by conv => lhs; whnf) (lt_of_ble rfl)
        apply Wk.nilc rfl (lt_of_ble rfl)
        apply Wk.fad 0 4 true fd90_0 rfl (lt_of_ble rfl)
        apply Wk.fad 4 0 false fd31_4 rfl (lt_of_ble rfl)
        apply Wk.ld (i := 27) 1 false ty3 rfl rfl (by conv => lhs; whnf) (lt_of_ble rfl)
        apply Wk.bin rfl rfl (r := .bool false) (fun w => by simp [go_sem, ht]) (lt_of_ble rfl)
        refine Wk.nil ?_
        refine AW.cond rfl (fun hc => by cases hc) (fun _ => AW.skip (thenA_normal ?_))
        refine AW.seq ?_
        apply AW.list
        apply Wk.mv (by conv => lhs; whnf) (lt_of_ble rfl)
        apply Wk.nilc rfl (lt_of_ble rfl)
        apply Wk.fad 22 0 false fd90_5 rfl (lt_of_ble rfl)
        apply Wk.sto (i := 27) 1 false ty4 rfl rfl rfl rfl (Nat.le_of_ble_eq_true rfl) (lt_of_ble rfl)
        refine Wk.nil ?_
        refine AW.seq ?_
        apply AW.list
        apply Wk.mv (by conv => lhs; whnf) (lt_of_ble rfl)
        apply Wk.nilc rfl (lt_of_ble rfl)
        apply Wk.fad 23 0 false fd90_6 rfl (lt_of_ble rfl)
        apply Wk.ld (i := 27) 1 false ty3 rfl rfl (by conv => lhs; whnf) (lt_of_ble rfl)
        apply Wk.addi rfl rfl (by omega) (lt_of_ble rfl)
        apply Wk.nilc rfl (lt_of_ble rfl)
        apply Wk.fad 23 0 false fd90_6 rfl (lt_of_ble rfl)
        apply Wk.sto (i := 27) 1 false ty3 rfl rfl rfl rfl (Nat.le_of_ble_eq_true rfl) (lt_of_ble rfl)
        refine Wk.nil ?_
        refine AW.seq ?_
        apply AW.list
        apply Wk.mv (by conv => lhs; whnf) (lt_of_ble rfl)
        apply Wk.mv (by conv => lhs; whnf) (lt_of_ble rfl)
        apply Wk.dat (iwait_ok bu) Try.func63 rfl rfl rfl rfl rfl (lt_of_ble rfl)
        apply Wk.bld [.int .i64 0, .int .i64 0, .int .i64 0, .bool false, .bool false, .int .i64 0, .int .i64 0, .int .i64 0, .slice none 0 0] [(0, 1), (1, 1), (2, 1), (3, 1), (4, 1), (5, 1), (6, 1), (7, 1), (8, 1)] bl41 rfl (by conv => lhs; whnf) (lt_of_ble rfl)
        apply Wk.sto (i := 6) 9 true ty41 rfl rfl rfl rfl (Nat.le_of_ble_eq_true rfl) (lt_of_ble rfl)
        apply Wk.asg (by conv => lhs; whnf) (lt_of_ble rfl)
        refine Wk.nil (AW.ret ?_)
        exact RetQ.ret (sndB _ l qu) (.cons ⟨6, 0, _, _, _, rfl, rfl, ty41, rfl⟩ (.cons rfl .nil)) ⟨rfl, rfl⟩ (kept2 rfl rfl)
      · rfl
      · rfl
    · skip
      refine Spec.intro (n := 65) (rv := [.cell 6 41, .tmp 7]) Try.func41 rfl rfl rfl (by simp) fun C hN hX => ?_
      refine AW.seq ?_
      apply AW.list
      apply Wk.alc 6 [.int .i64 0, .int .i64 0, .int .i64 0, .bool false, .bool false, .int .i64 0, .int .i64 0, .int .i64 0, .slice none 0 0] ze41 rfl rfl (lt_of_ble rfl)
      apply Wk.asg (by conv => lhs; whnf) (lt_of_ble rfl)
      refine Wk.nil ?_
      refine AW.seq ?_
      apply AW.list
      apply Wk.mv (by conv => lhs; whnf) (lt_of_ble rfl)
      apply Wk.nilc rfl (lt_of_ble rfl)
      apply Wk.fad 6 13 true fd90_2 rfl (lt_of_ble rfl)
      apply Wk.fad 13 0 false fd88_2 rfl (lt_of_ble rfl)
      apply Wk.ld (i := 27) 1 false ty3 rfl rfl (by conv => lhs; whnf) (lt_of_ble rfl)
      apply Wk.bin rfl rfl (r := .bool true) (fun w => by simp [go_sem]) (lt_of_ble rfl)
      apply Wk.mv (by conv => lhs; whnf) (lt_of_ble rfl)
      apply Wk.gon 15 rfl rfl
      apply Wk.mv (by conv => lhs; whnf) (lt_of_ble rfl)
      apply Wk.gon 15 rfl rfl
      apply Wk.nilc rfl (lt_of_ble rfl)
      apply Wk.gon 15 rfl rfl
      apply Wk.fad 24 0 false fd90_7 rfl (lt_of_ble rfl)
      apply Wk.gon 15 rfl rfl
      apply Wk.ld (i := 27) 1 false ty4 rfl rfl (by conv => lhs; whnf) (lt_of_ble rfl)
      apply Wk.gon 15 rfl rfl
      apply Wk.un rfl (fun w => by simp [go_sem] <;> rfl) (lt_of_ble rfl)
      apply Wk.pckT rfl (by conv => lhs; whnf) (lt_of_ble rfl)
      apply Wk.mv (by conv => lhs; whnf) (lt_of_ble rfl)
      apply Wk.goff 22 (ok_move _) rfl rfl (by simp)
      apply Wk.goff 22 (ok_nil _) rfl rfl (by simp)
      apply Wk.goff 22 (ok_faddr fd90_5) rfl rfl (by simp)
      apply Wk.goff 22 (ok_load 27 ty4) rfl rfl (by simp)
      apply Wk.goff 22 (ok_un _ _ _) rfl rfl (by simp)
      apply Wk.pckF rfl (by conv => lhs; whnf) (lt_of_ble rfl)
      apply Wk.asg (by conv => lhs; whnf) (lt_of_ble rfl)
      refine Wk.nil ?_
      refine AW.seq (AW.seq ?_)
      apply AW.list
      apply Wk.mv (by conv => lhs; whnf) (lt_of_ble rfl)
      apply Wk.nilc rfl (lt_of_ble rfl)
      apply Wk.fad 26 0 false fd90_9 rfl (lt_of_ble rfl)
      apply Wk.ld (i := 27) 1 false ty4 rfl rfl (by conv => lhs; whnf) (lt_of_ble rfl)
      apply Wk.mv (by conv => lhs; whnf) (lt_of_ble rfl)
      apply Wk.gon 33 rfl rfl
      apply Wk.mv (by conv => lhs; whnf) (lt_of_ble rfl)
      apply Wk.pckF rfl (by conv => lhs; whnf) (lt_of_ble rfl)
      refine Wk.nil ?_
      refine AW.cond rfl (fun hc => by cases hc) (fun _ => AW.skip (thenA_normal ?_))
      refine AW.seq (AW.seq ?_)
      apply AW.draw (hm := hmix) (cs := _)
      · apply Wk.mv (by conv => lhs; whnf) (lt_of_ble rfl)
        apply Wk.nilc rfl (lt_of_ble rfl)
        apply Wk.fad 23 0 false fd90_6 rfl (lt_of_ble rfl)
        apply Wk.ld (i := 27) 1 false ty3 rfl rfl (by conv => lhs; whnf) (lt_of_ble rfl)
        apply Wk.mv (by conv => lhs; whnf) (lt_of_ble rfl)
        apply Wk.nilc rfl (lt_of_ble rfl)
        apply Wk.fad 0 4 true fd90_0 rfl (lt_of_ble rfl)
        apply Wk.fad 4 0 false fd31_4 rfl (lt_of_ble rfl)
        apply Wk.ld (i := 27) 1 false ty3 rfl rfl (by conv => lhs; whnf) (lt_of_ble rfl)
        apply Wk.bin rfl rfl (r := .bool false) (fun w => by simp [go_sem, ht]) (lt_of_ble rfl)
        refine Wk.nil ?_
        refine AW.cond rfl (fun hc => by cases hc) (fun _ => AW.skip (thenA_normal ?_))
        refine AW.seq ?_
        apply AW.list
        apply Wk.mv (by conv => lhs; whnf) (lt_of_ble rfl)
        apply Wk.nilc rfl (lt_of_ble rfl)
        apply Wk.fad 22 0 false fd90_5 rfl (lt_of_ble rfl)
        apply Wk.sto (i := 27) 1 false ty4 rfl rfl rfl rfl (Nat.le_of_ble_eq_true rfl) (lt_of_ble rfl)
        refine Wk.nil ?_
        refine AW.seq ?_
        apply AW.list
        apply Wk.mv (by conv => lhs; whnf) (lt_of_ble rfl)
        apply Wk.nilc rfl (lt_of_ble rfl)
        apply Wk.fad 23 0 false fd90_6 rfl (lt_of_ble rfl)
        apply Wk.ld (i := 27) 1 false ty3 rfl rfl (by conv => lhs; whnf) (lt_of_ble rfl)
        apply Wk.addi rfl rfl (by omega) (lt_of_ble rfl)
        apply Wk.nilc rfl (lt_of_ble rfl)
        apply Wk.fad 23 0 false fd90_6 rfl (lt_of_ble rfl)
        apply Wk.sto (i := 27) 1 false ty3 rfl rfl rfl rfl (Nat.le_of_ble_eq_true rfl) (lt_of_ble rfl)
        refine Wk.nil ?_
        refine AW.seq ?_
        apply AW.list
        apply Wk.mv (by conv => lhs; whnf) (lt_of_ble rfl)
        apply Wk.mv (by conv => lhs; whnf) (lt_of_ble rfl)
        apply Wk.dat (iwait_ok bu) Try.func63 rfl rfl rfl rfl rfl (lt_of_ble rfl)
        apply Wk.bld [.int .i64 0, .int .i64 0, .int .i64 0, .bool false, .bool false, .int .i64 0, .int .i64 0, .int .i64 0, .slice none 0 0] [(0, 1), (1, 1), (2, 1), (3, 1), (4, 1), (5, 1), (6, 1), (7, 1), (8, 1)] bl41 rfl (by conv => lhs; whnf) (lt_of_ble rfl)
        apply Wk.sto (i := 6) 9 true ty41 rfl rfl rfl rfl (Nat.le_of_ble_eq_true rfl) (lt_of_ble rfl)
        apply Wk.asg (by conv => lhs; whnf) (lt_of_ble rfl)
        refine Wk.nil (AW.ret ?_)
        exact RetQ.ret (sndB _ l qu) (.cons ⟨6, 0, _, _, _, rfl, rfl, ty41, rfl⟩ (.cons rfl .nil)) ⟨rfl, rfl⟩ (kept2 rfl rfl)
      · rfl
      · rfl
  · skip
    refine Spec.intro (n := 65) (rv := [.cell 6 41, .tmp 7]) Try.func41 rfl rfl rfl (by simp) fun C hN hX => ?_
    refine AW.seq ?_
    apply AW.list
    apply Wk.alc 6 [.int .i64 0, .int .i64 0, .int .i64 0, .bool false, .bool false, .int .i64 0, .int .i64 0, .int .i64 0, .slice none 0 0] ze41 rfl rfl (lt_of_ble rfl)
    apply Wk.asg (by conv => lhs; whnf) (lt_of_ble rfl)
    refine Wk.nil ?_
    refine AW.seq ?_
    apply AW.list
    apply Wk.mv (by conv => lhs; whnf) (lt_of_ble rfl)
    apply Wk.nilc rfl (lt_of_ble rfl)
    apply Wk.fad 6 13 true fd90_2 rfl (lt_of_ble rfl)
    apply Wk.fad 13 0 false fd88_2 rfl (lt_of_ble rfl)
    apply Wk.ld (i := 27) 1 false ty3 rfl rfl (by conv => lhs; whnf) (lt_of_ble rfl)
    apply Wk.bin rfl rfl (r := .bool false) (fun w => by simp [go_sem]; omega) (lt_of_ble rfl)
    apply Wk.mv (by conv => lhs; whnf) (lt_of_ble rfl)
    apply Wk.goff 15 (ok_move _) rfl rfl (by simp)
    apply Wk.goff 15 (ok_nil _) rfl rfl (by simp)
    apply Wk.goff 15 (ok_faddr fd90_7) rfl rfl (by simp)
    apply Wk.goff 15 (ok_load 27 ty4) rfl rfl (by simp)
    apply Wk.goff 15 (ok_un _ _ _) rfl rfl (by simp)
    apply Wk.pckF rfl (by conv => lhs; whnf) (lt_of_ble rfl)
    apply Wk.mv (by conv => lhs; whnf) (lt_of_ble rfl)
    apply Wk.goff 22 (ok_move _) rfl rfl (by simp)
    apply Wk.goff 22 (ok_nil _) rfl rfl (by simp)
    apply Wk.goff 22 (ok_faddr fd90_5) rfl rfl (by simp)
    apply Wk.goff 22 (ok_load 27 ty4) rfl rfl (by simp)
    apply Wk.goff 22 (ok_un _ _ _) rfl rfl (by simp)
    apply Wk.pckF rfl (by conv => lhs; whnf) (lt_of_ble rfl)
    apply Wk.asg (by conv => lhs; whnf) (lt_of_ble rfl)
    refine Wk.nil ?_
    refine AW.seq (AW.seq ?_)
    apply AW.list
    apply Wk.mv (by conv => lhs; whnf) (lt_of_ble rfl)
    apply Wk.nilc rfl (lt_of_ble rfl)
    apply Wk.fad 26 0 false fd90_9 rfl (lt_of_ble rfl)
    apply Wk.ld (i := 27) 1 false ty4 rfl rfl (by conv => lhs; whnf) (lt_of_ble rfl)
    apply Wk.mv (by conv => lhs; whnf) (lt_of_ble rfl)
    apply Wk.gon 33 rfl rfl
    apply Wk.mv (by conv => lhs; whnf) (lt_of_ble rfl)
    apply Wk.pckF rfl (by conv => lhs; whnf) (lt_of_ble rfl)
    refine Wk.nil ?_
    refine AW.cond rfl (fun hc => by cases hc) (fun _ => AW.skip (thenA_normal ?_))
    refine AW.seq (AW.seq ?_)
    apply AW.draw (hm := hmix) (cs := _)
    · apply Wk.mv (by conv => lhs; whnf) (lt_of_ble rfl)
      apply Wk.nilc rfl (lt_of_ble rfl)
      apply Wk.fad 23 0 false fd90_6 rfl (lt_of_ble rfl)
      apply Wk.ld (i := 27) 1 false ty3 rfl rfl (by conv => lhs; whnf) (lt_of_ble rfl)
      apply Wk.mv (by conv => lhs; whnf) (lt_of_ble rfl)
      apply Wk.nilc rfl (lt_of_ble rfl)
      apply Wk.fad 0 4 true fd90_0 rfl (lt_of_ble rfl)
      apply Wk.fad 4 0 false fd31_4 rfl (lt_of_ble rfl)
      apply Wk.ld (i := 27) 1 false ty3 rfl rfl (by conv => lhs; whnf) (lt_of_ble rfl)
      apply Wk.bin rfl rfl (r := .bool false) (fun w => by simp [go_sem, ht]) (lt_of_ble rfl)
      refine Wk.nil ?_
      refine AW.cond rfl (fun hc => by cases hc) (fun _ => AW.skip (thenA_normal ?_))
      refine AW.seq ?_
      apply AW.list
      apply Wk.mv (by conv => lhs; whnf) (lt_of_ble rfl)
      apply Wk.nilc rfl (lt_of_ble rfl)
      apply Wk.fad 22 0 false fd90_5 rfl (lt_of_ble rfl)
      apply Wk.sto (i := 27) 1 false ty4 rfl rfl rfl rfl (Nat.le_of_ble_eq_true rfl) (lt_of_ble rfl)
      refine Wk.nil ?_
      refine AW.seq ?_
      apply AW.list
      apply Wk.mv (by conv => lhs; whnf) (lt_of_ble rfl)
      apply Wk.nilc rfl (lt_of_ble rfl)
      apply Wk.fad 23 0 false fd90_6 rfl (lt_of_ble rfl)
      apply Wk.ld (i := 27) 1 false ty3 rfl rfl (by conv => lhs; whnf) (lt_of_ble rfl)
      apply Wk.addi rfl rfl (by omega) (lt_of_ble rfl)
      apply Wk.nilc rfl (lt_of_ble rfl)
      apply Wk.fad 23 0 false fd90_6 rfl (lt_of_ble rfl)
      apply Wk.sto (i := 27) 1 false ty3 rfl rfl rfl rfl (Nat.le_of_ble_eq_true rfl) (lt_of_ble rfl)
      refine Wk.nil ?_
      refine AW.seq ?_
      apply AW.list
      apply Wk.mv (by conv => lhs; whnf) (lt_of_ble rfl)
      apply Wk.mv (by conv => lhs; whnf) (lt_of_ble rfl)
      apply Wk.dat (iwait_ok bu) Try.func63 rfl rfl rfl rfl rfl (lt_of_ble rfl)
      apply Wk.bld [.int .i64 0, .int .i64 0, .int .i64 0, .bool false, .bool false, .int .i64 0, .int .i64 0, .int .i64 0, .slice none 0 0] [(0, 1), (1, 1), (2, 1), (3, 1), (4, 1), (5, 1), (6, 1), (7, 1), (8, 1)] bl41 rfl (by conv => lhs; whnf) (lt_of_ble rfl)
      apply Wk.sto (i := 6) 9 true ty41 rfl rfl rfl rfl (Nat.le_of_ble_eq_true rfl) (lt_of_ble rfl)
      apply Wk.asg (by conv => lhs; whnf) (lt_of_ble rfl)
      refine Wk.nil (AW.ret ?_)
      exact RetQ.ret (sndB _ l qu) (.cons ⟨6, 0, _, _, _, rfl, rfl, ty41, rfl⟩ (.cons rfl .nil)) ⟨rfl, rfl⟩ (kept2 rfl rfl)
    · rfl
    · rfl
end Go.Proofs.Ytpiihfogdjihdaa

/- TxTick of the program, over what values read as. Written by tools/mk_AbsTickI.py. -/
namespace Go.Proofs.Ytpiihfogdjihdaa
open Go Go.RowKit
theorem itxb {m w p u y : Int} {x : TX} {b : Bool} (h : txOkB ⟨m, w, p, u, y⟩ x = b) : DataOk Try.prog 12 [cfgA m w p u y, txA x] (.d (.v (.bool b))) := h ▸ itx_ok m w p u y x
theorem iisnum {n : Int} {b : Bool} (h : inB n 0 7 = b) : DataOk Try.prog 39 [.d (.v (.int .i64 n))] (.d (.v (.bool b))) := by
  subst h
  refine DataOk.lift fun w F E H args _ hs hd => ?_
  obtain ⟨v, rfl, hv⟩ := arg1 hs hd
  obtain rfl := den_v hv
  refine (number_any n w).mono ?_
  rintro e w' ⟨rfl, rfl⟩
  exact ⟨rfl, Below.refl _ _⟩
theorem txOk_four {o : Opt} {x : TX} (h : txOkB o x = true) : x.fl.length ≤ 4 ∧ x.few := by
  have f := txOk_facts h
  obtain ⟨-, hw, -, -, -, -, -, hl, -, -, hq, -, -, -, h1, h2⟩ := f
  refine ⟨by omega, ⟨by omega, fun d hd => ?_⟩, ⟨by omega, fun d hd => ?_⟩⟩
  · have := partM_len (h1 d hd); omega
  · have := partM_len (h2 d hd); omega
/-- The next number is told by the first one and how many there are. -/
theorem txOk_next {o : Opt} {x : TX} (h : txOkB o x = true) : (x.a + (x.fl.length : Int)) % 8 = x.n ∧ 0 ≤ x.a ∧ x.a < 8 := by
  have f := txOk_facts h
  have hn := (inB_iff _ _ _).1 f.2.2.2.2.2.1
  have ha := (inB_iff _ _ _).1 f.2.2.2.2.2.2.1
  have hf := f.2.2.2.2.2.2.2.2.1
  rw [farF_in (by omega) (by omega)] at hf
  omega
theorem ring_at {fl : List Dat} (h4 : fl.length ≤ 4) : ∀ i d, fl[i]? = some d → ringF fl ((0 + i) % 4) = sl (some d) := by
  intro i d h
  have hi := (List.getElem?_eq_some_iff.1 h).1
  rw [show (0 + i) % 4 = i by omega, ringF, h]
set_option maxHeartbeats 4000000 in
set_option maxRecDepth 100000 in
theorem itickNo (m0 w0 p0 u0 y0 : Int) (x : TX) (ack : Int) (bu : Bool) (hno : txOkB ⟨m0, w0, p0, u0, y0⟩ x = false ∨ inB ack 0 7 = false) :
    DataOk Try.prog 16 [cfgA m0 w0 p0 u0 y0, txA x, .d (.v (.int .i64 ack)), .d (.v (.bool bu))] (.tup [txNil, frmNo, .d (.v (.bool false))]) := by
  cases hok : txOkB ⟨m0, w0, p0, u0, y0⟩ x
  · skip
    refine Spec.intro (n := 39) (rv := [.cell 8 25, .cell 9 41, .tmp 10]) Try.func16 rfl rfl rfl (by simp) fun C hN hX => ?_
    refine AW.seq ?_
    apply AW.list
    apply Wk.bx 4 rfl rfl (lt_of_ble rfl)
    apply Wk.bx 50 rfl rfl (lt_of_ble rfl)
    apply Wk.alc 8 [.int .i64 0, .int .i64 0, .slice none 0 0, .int .i64 0, .slice none 0 0, .bool false, .int .i64 0, .bool false, .int .i64 0, .bool false] ze25 rfl rfl (lt_of_ble rfl)
    apply Wk.alc 9 [.int .i64 0, .int .i64 0, .int .i64 0, .bool false, .bool false, .int .i64 0, .int .i64 0, .int .i64 0, .slice none 0 0] ze41 rfl rfl (lt_of_ble rfl)
    apply Wk.asg (by conv => lhs; whnf) (lt_of_ble rfl)
    refine Wk.nil ?_
    refine AW.seq (AW.seq ?_)
    apply AW.list
    apply Wk.ld (i := 4) 5 true ty31 rfl rfl (by conv => lhs; whnf) (lt_of_ble rfl)
    apply Wk.ld (i := 50) 10 true ty25 rfl rfl (by conv => lhs; whnf) (lt_of_ble rfl)
    apply Wk.dat (itxb hok) Try.func12 rfl rfl rfl rfl rfl (lt_of_ble rfl)
    apply Wk.un rfl (fun w => by simp [go_sem] <;> rfl) (lt_of_ble rfl)
    apply Wk.mv (by conv => lhs; whnf) (lt_of_ble rfl)
    apply Wk.goff 18 (ok_move _) rfl rfl (by simp)
    apply Wk.goff 18 (ok_datw ((iisnum (n := 0) rfl).w rfl) Try.func39 rfl rfl) rfl rfl (by simp)
    apply Wk.goff 18 (ok_un _ _ _) rfl rfl (by simp)
    apply Wk.pckT rfl (by conv => lhs; whnf) (lt_of_ble rfl)
    refine Wk.nil ?_
    refine AW.cond rfl (fun _ => ?_) (fun hc => by cases hc)
    refine AW.seq ?_
    apply AW.list
    apply Wk.bld [.int .i64 0, .int .i64 0, .slice none 0 0, .int .i64 0, .slice none 0 0, .bool false, .int .i64 0, .bool false, .int .i64 0, .bool false] [(0, 1), (1, 1), (2, 1), (3, 1), (4, 1), (5, 1), (6, 1), (7, 1), (8, 1), (9, 1)] bl25 rfl (by conv => lhs; whnf) (lt_of_ble rfl)
    apply Wk.bld [.int .i64 0, .int .i64 0, .int .i64 0, .bool false, .bool false, .int .i64 0, .int .i64 0, .int .i64 0, .slice none 0 0] [(0, 1), (1, 1), (2, 1), (3, 1), (4, 1), (5, 1), (6, 1), (7, 1), (8, 1)] bl41 rfl (by conv => lhs; whnf) (lt_of_ble rfl)
    apply Wk.sto (i := 8) 10 true ty25 rfl rfl rfl rfl (Nat.le_of_ble_eq_true rfl) (lt_of_ble rfl)
    apply Wk.sto (i := 9) 9 true ty41 rfl rfl rfl rfl (Nat.le_of_ble_eq_true rfl) (lt_of_ble rfl)
    apply Wk.asg (by conv => lhs; whnf) (lt_of_ble rfl)
    refine Wk.nil (AW.ret ?_)
    repeat (first | refine thenA_ret ?_ | refine inBlockA_ret ?_)
    exact RetQ.ret [] (.cons ⟨8, 0, _, _, _, rfl, rfl, ty25, rfl⟩ (.cons ⟨9, 0, _, _, _, rfl, rfl, ty41, rfl⟩ (.cons rfl .nil))) ⟨rfl, rfl⟩ none_kept
  · have hack : inB ack 0 7 = false := by rcases hno with h | h <;> first | exact h | (rw [hok] at h; cases h)
    refine Spec.intro (n := 39) (rv := [.cell 8 25, .cell 9 41, .tmp 10]) Try.func16 rfl rfl rfl (by simp) fun C hN hX => ?_
    refine AW.seq ?_
    apply AW.list
    apply Wk.bx 4 rfl rfl (lt_of_ble rfl)
    apply Wk.bx 50 rfl rfl (lt_of_ble rfl)
    apply Wk.alc 8 [.int .i64 0, .int .i64 0, .slice none 0 0, .int .i64 0, .slice none 0 0, .bool false, .int .i64 0, .bool false, .int .i64 0, .bool false] ze25 rfl rfl (lt_of_ble rfl)
    apply Wk.alc 9 [.int .i64 0, .int .i64 0, .int .i64 0, .bool false, .bool false, .int .i64 0, .int .i64 0, .int .i64 0, .slice none 0 0] ze41 rfl rfl (lt_of_ble rfl)
    apply Wk.asg (by conv => lhs; whnf) (lt_of_ble rfl)
    refine Wk.nil ?_
    refine AW.seq (AW.seq ?_)
    apply AW.list
    apply Wk.ld (i := 4) 5 true ty31 rfl rfl (by conv => lhs; whnf) (lt_of_ble rfl)
    apply Wk.ld (i := 50) 10 true ty25 rfl rfl (by conv => lhs; whnf) (lt_of_ble rfl)
    apply Wk.dat (itxb hok) Try.func12 rfl rfl rfl rfl rfl (lt_of_ble rfl)
    apply Wk.un rfl (fun w => by simp [go_sem] <;> rfl) (lt_of_ble rfl)
    apply Wk.mv (by conv => lhs; whnf) (lt_of_ble rfl)
    apply Wk.gon 18 rfl rfl
    apply Wk.mv (by conv => lhs; whnf) (lt_of_ble rfl)
    apply Wk.gon 18 rfl rfl
    apply Wk.dat (iisnum hack) Try.func39 rfl rfl rfl rfl rfl (lt_of_ble rfl)
    apply Wk.gon 18 rfl rfl
    apply Wk.un rfl (fun w => by simp [go_sem] <;> rfl) (lt_of_ble rfl)
    apply Wk.pckF rfl (by conv => lhs; whnf) (lt_of_ble rfl)
    refine Wk.nil ?_
    refine AW.cond rfl (fun _ => ?_) (fun hc => by cases hc)
    refine AW.seq ?_
    apply AW.list
    apply Wk.bld [.int .i64 0, .int .i64 0, .slice none 0 0, .int .i64 0, .slice none 0 0, .bool false, .int .i64 0, .bool false, .int .i64 0, .bool false] [(0, 1), (1, 1), (2, 1), (3, 1), (4, 1), (5, 1), (6, 1), (7, 1), (8, 1), (9, 1)] bl25 rfl (by conv => lhs; whnf) (lt_of_ble rfl)
    apply Wk.bld [.int .i64 0, .int .i64 0, .int .i64 0, .bool false, .bool false, .int .i64 0, .int .i64 0, .int .i64 0, .slice none 0 0] [(0, 1), (1, 1), (2, 1), (3, 1), (4, 1), (5, 1), (6, 1), (7, 1), (8, 1)] bl41 rfl (by conv => lhs; whnf) (lt_of_ble rfl)
    apply Wk.sto (i := 8) 10 true ty25 rfl rfl rfl rfl (Nat.le_of_ble_eq_true rfl) (lt_of_ble rfl)
    apply Wk.sto (i := 9) 9 true ty41 rfl rfl rfl rfl (Nat.le_of_ble_eq_true rfl) (lt_of_ble rfl)
    apply Wk.asg (by conv => lhs; whnf) (lt_of_ble rfl)
    refine Wk.nil (AW.ret ?_)
    repeat (first | refine thenA_ret ?_ | refine inBlockA_ret ?_)
    exact RetQ.ret [] (.cons ⟨8, 0, _, _, _, rfl, rfl, ty25, rfl⟩ (.cons ⟨9, 0, _, _, _, rfl, rfl, ty41, rfl⟩ (.cons rfl .nil))) ⟨rfl, rfl⟩ none_kept
set_option maxHeartbeats 4000000 in
set_option maxRecDepth 100000 in
theorem itickYesN (m0 w0 p0 u0 y0 n a : Int) (s : Int) (qu : List Dat) (q : Bool) (t : Int) (hh : Bool) (c : Int) (dd : Bool) (q' : Bool) (t' : Int) (d' : Bool) (ack : Int) (bu : Bool) (k1 s1 c1 : Int) (p1 f1 : Bool) (y1 g1 l1 : Int) (b : Bool) (hok : txOkB ⟨m0, w0, p0, u0, y0⟩ ⟨n, a, [], s, qu, q, t, hh, c, dd⟩ = true) (hack : inB ack 0 7 = true)
    (ht : Spec Try.prog 41 [.ptr 27 0, .d (.v (.int .i64 ack)), .d (.v (.bool bu))] (sndB (sndC m0 w0 p0 u0 y0 a (ringF []) 0 (([] : List Dat).length : Int) s qu.length q t hh c dd) qu.length qu) (fun r bs => r = .tup [frmG k1 s1 c1 p1 f1 y1 g1 l1, .d (.v (.bool b))] ∧ bs = sndB (sndC m0 w0 p0 u0 y0 a (ringF []) 0 (([] : List Dat).length : Int) s qu.length q' t' hh c d') qu.length qu)) :
    DataOk Try.prog 16 [cfgA m0 w0 p0 u0 y0, txA ⟨n, a, [], s, qu, q, t, hh, c, dd⟩, .d (.v (.int .i64 ack)), .d (.v (.bool bu))] (.tup [txA ⟨n, a, [], s, qu, q', t', hh, c, d'⟩, frmG k1 s1 c1 p1 f1 y1 g1 l1, .d (.v (.bool b))]) := by
  have h4 := txOk_four hok
  have hn := txOk_next hok
  simp only at h4 hn
  have cn := inew m0 w0 p0 u0 y0 ⟨n, a, [], s, qu, q, t, hh, c, dd⟩ h4.1 h4.2
  simp only at cn
  have cs := istateN m0 w0 p0 u0 y0 a (ringF []) s qu.length q' t' hh c d' qu 0 (by omega) h4.1 (ring_at h4.1) ⟨hn.2.1, hn.2.2⟩
  rw [hn.1] at cs
  refine Spec.intro (n := 39) (rv := [.cell 8 25, .cell 9 41, .tmp 10]) Try.func16 rfl rfl rfl (by simp) fun C hN hX => ?_
  refine AW.seq ?_
  apply AW.list
  apply Wk.bx 4 rfl rfl (lt_of_ble rfl)
  apply Wk.bx 50 rfl rfl (lt_of_ble rfl)
  apply Wk.alc 8 [.int .i64 0, .int .i64 0, .slice none 0 0, .int .i64 0, .slice none 0 0, .bool false, .int .i64 0, .bool false, .int .i64 0, .bool false] ze25 rfl rfl (lt_of_ble rfl)
  apply Wk.alc 9 [.int .i64 0, .int .i64 0, .int .i64 0, .bool false, .bool false, .int .i64 0, .int .i64 0, .int .i64 0, .slice none 0 0] ze41 rfl rfl (lt_of_ble rfl)
  apply Wk.asg (by conv => lhs; whnf) (lt_of_ble rfl)
  refine Wk.nil ?_
  refine AW.seq (AW.seq ?_)
  apply AW.list
  apply Wk.ld (i := 4) 5 true ty31 rfl rfl (by conv => lhs; whnf) (lt_of_ble rfl)
  apply Wk.ld (i := 50) 10 true ty25 rfl rfl (by conv => lhs; whnf) (lt_of_ble rfl)
  apply Wk.dat (itxb hok) Try.func12 rfl rfl rfl rfl rfl (lt_of_ble rfl)
  apply Wk.un rfl (fun w => by simp [go_sem] <;> rfl) (lt_of_ble rfl)
  apply Wk.mv (by conv => lhs; whnf) (lt_of_ble rfl)
  apply Wk.gon 18 rfl rfl
  apply Wk.mv (by conv => lhs; whnf) (lt_of_ble rfl)
  apply Wk.gon 18 rfl rfl
  apply Wk.dat (iisnum hack) Try.func39 rfl rfl rfl rfl rfl (lt_of_ble rfl)
  apply Wk.gon 18 rfl rfl
  apply Wk.un rfl (fun w => by simp [go_sem] <;> rfl) (lt_of_ble rfl)
  apply Wk.pckF rfl (by conv => lhs; whnf) (lt_of_ble rfl)
  refine Wk.nil ?_
  refine AW.cond rfl (fun hc => by cases hc) (fun _ => AW.skip (thenA_normal ?_))
  refine AW.seq ?_
  apply AW.list
  apply Wk.ld (i := 4) 5 true ty31 rfl rfl (by conv => lhs; whnf) (lt_of_ble rfl)
  apply Wk.ld (i := 50) 10 true ty25 rfl rfl (by conv => lhs; whnf) (lt_of_ble rfl)
  apply Wk.cal [] [27, 66] cn (in_snd _ rfl _ _ _ _ _ _ _ _ _ _ _ _ _ _ _ _ _ _) ⟨_, _, rfl, rfl⟩ Try.func40 rfl rfl rfl rfl (by simp; exact ⟨rfl, rfl⟩) rfl (fun i hi => by cases hi) (lt_of_ble rfl)
  rintro r bs' ⟨rfl, rfl⟩
  apply Wk.asg (by conv => lhs; whnf) (lt_of_ble rfl)
  refine Wk.nil ?_
  refine AW.seq ?_
  apply AW.list
  apply Wk.mv (by conv => lhs; whnf) (lt_of_ble rfl)
  apply Wk.mv (by conv => lhs; whnf) (lt_of_ble rfl)
  apply Wk.mv (by conv => lhs; whnf) (lt_of_ble rfl)
  apply Wk.cal [27, 66] [] ht (in_snd _ rfl _ _ _ _ _ _ _ _ _ _ _ _ _ _ _ _ _ _) ⟨_, _, rfl, rfl⟩ Try.func41 rfl rfl rfl rfl (fun i hi => by cases hi) rfl (two_in rfl (by exact within_parts _)) (lt_of_ble rfl)
  rintro r bs' ⟨rfl, rfl⟩
  apply Wk.mv (by conv => lhs; whnf) (lt_of_ble rfl)
  apply Wk.ext rfl rfl (lt_of_ble rfl)
  apply Wk.ext rfl rfl (lt_of_ble rfl)
  apply Wk.alc 12 [.int .i64 0, .int .i64 0, .int .i64 0, .bool false, .bool false, .int .i64 0, .int .i64 0, .int .i64 0, .slice none 0 0] ze41 rfl rfl (lt_of_ble rfl)
  apply Wk.sto (i := 12) 9 true ty41 rfl rfl rfl rfl (Nat.le_of_ble_eq_true rfl) (lt_of_ble rfl)
  apply Wk.asg (by conv => lhs; whnf) (lt_of_ble rfl)
  refine Wk.nil ?_
  refine AW.seq ?_
  apply AW.draw (hm := hmix) (cs := _)
  · apply Wk.mv (by conv => lhs; whnf) (lt_of_ble rfl)
    apply Wk.calr [27, 66] [17] cs (in_sndF _ rfl _ _ _ _ _ _ _ _ _ _ _ _ _ _ _ _ _ _ []) (by rintro r bs' ⟨rfl, rfl⟩; exact keep2) ⟨_, _, rfl, rfl⟩ Try.func42 rfl rfl rfl rfl (by simp; rfl) rfl (two_in rfl (by exact within_parts _)) (lt_of_ble rfl)
    rintro r bs' ⟨rfl, rfl⟩
    apply Wk.ld (i := 12) 9 true ty41 rfl rfl (by conv => lhs; whnf) (lt_of_ble rfl)
    apply Wk.mv (by conv => lhs; whnf) (lt_of_ble rfl)
    apply Wk.sto (i := 8) 10 true ty25 rfl rfl rfl rfl (Nat.le_of_ble_eq_true rfl) (lt_of_ble rfl)
    apply Wk.sto (i := 9) 9 true ty41 rfl rfl rfl rfl (Nat.le_of_ble_eq_true rfl) (lt_of_ble rfl)
    apply Wk.asg (by conv => lhs; whnf) (lt_of_ble rfl)
    refine Wk.nil ?_
    refine AW.thawc (j := 8) (c := 4) (i := 66) _ rfl rfl rfl (asData_parts qu) hX.none ?_
    refine AW.nrmb (j := 8) rfl ?_
    refine AW.ret ?_
    exact RetQ.ret [] (.cons ⟨8, 0, _, _, _, rfl, rfl, ty25, rfl⟩ (.cons ⟨9, 0, _, _, _, rfl, rfl, ty41, rfl⟩ (.cons rfl .nil))) ⟨rfl, rfl⟩ none_kept
  · rfl
  · rfl
set_option maxHeartbeats 4000000 in
set_option maxRecDepth 100000 in
theorem itickYesO (m0 w0 p0 u0 y0 n a : Int) (fl : List Dat) (hne : fl ≠ []) (s : Int) (qu : List Dat) (q : Bool) (t : Int) (hh : Bool) (c : Int) (dd : Bool) (q' : Bool) (t' : Int) (d' : Bool) (ack : Int) (bu : Bool) (k1 s1 c1 : Int) (p1 f1 : Bool) (y1 g1 l1 : Int) (b : Bool) (hok : txOkB ⟨m0, w0, p0, u0, y0⟩ ⟨n, a, fl, s, qu, q, t, hh, c, dd⟩ = true) (hack : inB ack 0 7 = true)
    (ht : Spec Try.prog 41 [.ptr 27 0, .d (.v (.int .i64 ack)), .d (.v (.bool bu))] (sndB (sndC m0 w0 p0 u0 y0 a (ringF fl) 0 ((fl : List Dat).length : Int) s qu.length q t hh c dd) qu.length qu) (fun r bs => r = .tup [frmG k1 s1 c1 p1 f1 y1 g1 l1, .d (.v (.bool b))] ∧ bs = sndB (sndC m0 w0 p0 u0 y0 a (ringF fl) 0 ((fl : List Dat).length : Int) s qu.length q' t' hh c d') qu.length qu)) :
    DataOk Try.prog 16 [cfgA m0 w0 p0 u0 y0, txA ⟨n, a, fl, s, qu, q, t, hh, c, dd⟩, .d (.v (.int .i64 ack)), .d (.v (.bool bu))] (.tup [txA ⟨n, a, fl, s, qu, q', t', hh, c, d'⟩, frmG k1 s1 c1 p1 f1 y1 g1 l1, .d (.v (.bool b))]) := by
  have h4 := txOk_four hok
  have hn := txOk_next hok
  simp only at h4 hn
  have cn := inew m0 w0 p0 u0 y0 ⟨n, a, fl, s, qu, q, t, hh, c, dd⟩ h4.1 h4.2
  simp only at cn
  have cs := istateO m0 w0 p0 u0 y0 a (ringF fl) s qu.length q' t' hh c d' qu 0 fl hne (by omega) h4.1 (ring_at h4.1) ⟨hn.2.1, hn.2.2⟩
  rw [hn.1] at cs
  have ev : flV fl = .own 17 (fl.length - 1) := if_neg hne
  have ex : flX fl = [(17, .own (fl.length - 1) 37 3 (piecesA fl))] := if_neg hne
  have ip : PostIn [27, 66, 17] (fun r bs => r = stA0 n a (flV fl) s qu.length q' t' hh c d' ∧ bs = sndB (sndC m0 w0 p0 u0 y0 a (ringF fl) 0 ((fl : List Dat).length : Int) s qu.length q' t' hh c d') qu.length qu ++ flX fl) := in_sndF _ (by rw [ev]; rfl) _ _ _ _ _ _ _ _ _ _ _ _ _ _ _ _ _ _ _
  rw [ev, ex] at cs ip
  refine Spec.intro (n := 39) (rv := [.cell 8 25, .cell 9 41, .tmp 10]) Try.func16 rfl rfl rfl (by simp) fun C hN hX => ?_
  refine AW.seq ?_
  apply AW.list
  apply Wk.bx 4 rfl rfl (lt_of_ble rfl)
  apply Wk.bx 50 rfl rfl (lt_of_ble rfl)
  apply Wk.alc 8 [.int .i64 0, .int .i64 0, .slice none 0 0, .int .i64 0, .slice none 0 0, .bool false, .int .i64 0, .bool false, .int .i64 0, .bool false] ze25 rfl rfl (lt_of_ble rfl)
  apply Wk.alc 9 [.int .i64 0, .int .i64 0, .int .i64 0, .bool false, .bool false, .int .i64 0, .int .i64 0, .int .i64 0, .slice none 0 0] ze41 rfl rfl (lt_of_ble rfl)
  apply Wk.asg (by conv => lhs; whnf) (lt_of_ble rfl)
  refine Wk.nil ?_
  refine AW.seq (AW.seq ?_)
  apply AW.list
  apply Wk.ld (i := 4) 5 true ty31 rfl rfl (by conv => lhs; whnf) (lt_of_ble rfl)
  apply Wk.ld (i := 50) 10 true ty25 rfl rfl (by conv => lhs; whnf) (lt_of_ble rfl)
  apply Wk.dat (itxb hok) Try.func12 rfl rfl rfl rfl rfl (lt_of_ble rfl)
  apply Wk.un rfl (fun w => by simp [go_sem] <;> rfl) (lt_of_ble rfl)
  apply Wk.mv (by conv => lhs; whnf) (lt_of_ble rfl)
  apply Wk.gon 18 rfl rfl
  apply Wk.mv (by conv => lhs; whnf) (lt_of_ble rfl)
  apply Wk.gon 18 rfl rfl
  apply Wk.dat (iisnum hack) Try.func39 rfl rfl rfl rfl rfl (lt_of_ble rfl)
  apply Wk.gon 18 rfl rfl
  apply Wk.un rfl (fun w => by simp [go_sem] <;> rfl) (lt_of_ble rfl)
  apply Wk.pckF rfl (by conv => lhs; whnf) (lt_of_ble rfl)
  refine Wk.nil ?_
  refine AW.cond rfl (fun hc => by cases hc) (fun _ => AW.skip (thenA_normal ?_))
  refine AW.seq ?_
  apply AW.list
  apply Wk.ld (i := 4) 5 true ty31 rfl rfl (by conv => lhs; whnf) (lt_of_ble rfl)
  apply Wk.ld (i := 50) 10 true ty25 rfl rfl (by conv => lhs; whnf) (lt_of_ble rfl)
  apply Wk.cal [] [27, 66] cn (in_snd _ rfl _ _ _ _ _ _ _ _ _ _ _ _ _ _ _ _ _ _) ⟨_, _, rfl, rfl⟩ Try.func40 rfl rfl rfl rfl (by simp; exact ⟨rfl, rfl⟩) rfl (fun i hi => by cases hi) (lt_of_ble rfl)
  rintro r bs' ⟨rfl, rfl⟩
  apply Wk.asg (by conv => lhs; whnf) (lt_of_ble rfl)
  refine Wk.nil ?_
  refine AW.seq ?_
  apply AW.list
  apply Wk.mv (by conv => lhs; whnf) (lt_of_ble rfl)
  apply Wk.mv (by conv => lhs; whnf) (lt_of_ble rfl)
  apply Wk.mv (by conv => lhs; whnf) (lt_of_ble rfl)
  apply Wk.cal [27, 66] [] ht (in_snd _ rfl _ _ _ _ _ _ _ _ _ _ _ _ _ _ _ _ _ _) ⟨_, _, rfl, rfl⟩ Try.func41 rfl rfl rfl rfl (fun i hi => by cases hi) rfl (two_in rfl (by exact within_parts _)) (lt_of_ble rfl)
  rintro r bs' ⟨rfl, rfl⟩
  apply Wk.mv (by conv => lhs; whnf) (lt_of_ble rfl)
  apply Wk.ext rfl rfl (lt_of_ble rfl)
  apply Wk.ext rfl rfl (lt_of_ble rfl)
  apply Wk.alc 12 [.int .i64 0, .int .i64 0, .int .i64 0, .bool false, .bool false, .int .i64 0, .int .i64 0, .int .i64 0, .slice none 0 0] ze41 rfl rfl (lt_of_ble rfl)
  apply Wk.sto (i := 12) 9 true ty41 rfl rfl rfl rfl (Nat.le_of_ble_eq_true rfl) (lt_of_ble rfl)
  apply Wk.asg (by conv => lhs; whnf) (lt_of_ble rfl)
  refine Wk.nil ?_
  refine AW.seq ?_
  apply AW.draw (hm := hmix) (cs := _)
  · apply Wk.mv (by conv => lhs; whnf) (lt_of_ble rfl)
    apply Wk.calr [27, 66] [17] cs ip (by rintro r bs' ⟨rfl, rfl⟩; exact keep2) ⟨_, _, rfl, rfl⟩ Try.func42 rfl rfl rfl rfl (by simp; rfl) rfl (two_in rfl (by exact within_parts _)) (lt_of_ble rfl)
    rintro r bs' ⟨rfl, rfl⟩
    apply Wk.ld (i := 12) 9 true ty41 rfl rfl (by conv => lhs; whnf) (lt_of_ble rfl)
    apply Wk.mv (by conv => lhs; whnf) (lt_of_ble rfl)
    apply Wk.sto (i := 8) 10 true ty25 rfl rfl rfl rfl (Nat.le_of_ble_eq_true rfl) (lt_of_ble rfl)
    apply Wk.sto (i := 9) 9 true ty41 rfl rfl rfl rfl (Nat.le_of_ble_eq_true rfl) (lt_of_ble rfl)
    apply Wk.asg (by conv => lhs; whnf) (lt_of_ble rfl)
    refine Wk.nil ?_
    refine AW.thawc (j := 8) (c := 4) (i := 66) _ rfl rfl rfl (asData_parts qu) hX.none ?_
    refine AW.thawc (j := 8) (c := 2) (i := 17) _ rfl rfl rfl (asData_parts fl) hX.none ?_
    refine AW.ret ?_
    exact RetQ.ret [] (.cons ⟨8, 0, _, _, _, rfl, rfl, ty25, rfl⟩ (.cons ⟨9, 0, _, _, _, rfl, rfl, ty41, rfl⟩ (.cons rfl .nil))) ⟨rfl, rfl⟩ none_kept
  · rfl
  · rfl
/-- What a tick leaves. -/
def tickX (y : Int) (x : TX) : TX := if x.d = true ∨ (x.fl = [] ∧ x.h = false ∧ x.q = false) then x else if x.t = y then { x with d := true } else { x with q := true, t := x.t + 1 }
def tickB (y : Int) (x : TX) : Bool := decide (¬ (x.d = true ∨ (x.fl = [] ∧ x.h = false ∧ x.q = false)) ∧ x.t ≠ y)
theorem itick_ok (m0 w0 p0 u0 y0 : Int) (x : TX) (ack : Int) (bu : Bool) (hok : txOkB ⟨m0, w0, p0, u0, y0⟩ x = true) (hack : inB ack 0 7 = true) :
    DataOk Try.prog 16 [cfgA m0 w0 p0 u0 y0, txA x, .d (.v (.int .i64 ack)), .d (.v (.bool bu))] (.tup [txA (tickX y0 x), if tickB y0 x then frmQ ack bu else frmNo, .d (.v (.bool (tickB y0 x)))]) := by
  have f := txOk_facts hok
  have ht0 := f.2.2.2.2.2.2.2.2.2.2.2.1
  have hy := f.2.2.2.2.1
  obtain ⟨n, a, fl, s, qu, q, t, hh, c, dd⟩ := x
  simp only at ht0 hy
  have one : ∀ (q' : Bool) (t' : Int) (d' : Bool) (F : A) (k1 s1 c1 : Int) (p1 f1 : Bool) (y1 g1 l1 : Int) (b : Bool), F = frmG k1 s1 c1 p1 f1 y1 g1 l1 →
      Spec Try.prog 41 [.ptr 27 0, .d (.v (.int .i64 ack)), .d (.v (.bool bu))] (sndB (sndC m0 w0 p0 u0 y0 a (ringF fl) 0 (fl.length : Int) s qu.length q t hh c dd) qu.length qu) (fun r bs => r = .tup [F, .d (.v (.bool b))] ∧ bs = sndB (sndC m0 w0 p0 u0 y0 a (ringF fl) 0 (fl.length : Int) s qu.length q' t' hh c d') qu.length qu) →
      DataOk Try.prog 16 [cfgA m0 w0 p0 u0 y0, txA ⟨n, a, fl, s, qu, q, t, hh, c, dd⟩, .d (.v (.int .i64 ack)), .d (.v (.bool bu))] (.tup [txA ⟨n, a, fl, s, qu, q', t', hh, c, d'⟩, F, .d (.v (.bool b))]) := by
    intro q' t' d' F k1 s1 c1 p1 f1 y1 g1 l1 b hF hs
    subst hF
    by_cases h0 : fl = []
    · subst h0
      exact itickYesN m0 w0 p0 u0 y0 n a s qu q t hh c dd q' t' d' ack bu k1 s1 c1 p1 f1 y1 g1 l1 b hok hack hs
    · exact itickYesO m0 w0 p0 u0 y0 n a fl h0 s qu q t hh c dd q' t' d' ack bu k1 s1 c1 p1 f1 y1 g1 l1 b hok hack hs
  have hk : (fl.length = 0 ∧ hh = false ∧ q = false) ↔ (fl = [] ∧ hh = false ∧ q = false) := by rw [List.length_eq_zero_iff]
  by_cases hi : dd = true ∨ (fl = [] ∧ hh = false ∧ q = false)
  · have e1 : tickX y0 ⟨n, a, fl, s, qu, q, t, hh, c, dd⟩ = ⟨n, a, fl, s, qu, q, t, hh, c, dd⟩ := if_pos hi
    have e2 : tickB y0 ⟨n, a, fl, s, qu, q, t, hh, c, dd⟩ = false := decide_eq_false (fun h => h.1 hi)
    rw [e1, e2]
    exact one q t dd frmNo 0 0 0 false false 0 0 0 false rfl (itickIdle m0 w0 p0 u0 y0 a (ringF fl) fl.length s qu.length q t hh c dd qu ack bu (by rw [hk]; exact hi))
  · have hd : dd = false := by cases dd <;> simp_all
    have hi' : ¬ (fl.length = 0 ∧ hh = false ∧ q = false) := fun h => hi (.inr (hk.1 h))
    by_cases ht : t = y0
    · have e1 : tickX y0 ⟨n, a, fl, s, qu, q, t, hh, c, dd⟩ = ⟨n, a, fl, s, qu, q, t, hh, c, true⟩ := by rw [tickX, if_neg hi, if_pos ht]
      have e2 : tickB y0 ⟨n, a, fl, s, qu, q, t, hh, c, dd⟩ = false := decide_eq_false (fun h => h.2 ht)
      rw [e1, e2]
      exact one q t true frmNo 0 0 0 false false 0 0 0 false rfl (itickOut m0 w0 p0 u0 y0 a (ringF fl) fl.length s qu.length q t hh c dd qu ack bu hd hi' ht)
    · have e1 : tickX y0 ⟨n, a, fl, s, qu, q, t, hh, c, dd⟩ = ⟨n, a, fl, s, qu, true, t + 1, hh, c, dd⟩ := by rw [tickX, if_neg hi, if_neg ht]
      have e2 : tickB y0 ⟨n, a, fl, s, qu, q, t, hh, c, dd⟩ = true := decide_eq_true ⟨hi, ht⟩
      rw [e1, e2]
      exact one true (t + 1) dd (frmQ ack bu) 2 0 ack true false (2 * bitZ bu) 0 0 true rfl (itickAsk m0 w0 p0 u0 y0 a (ringF fl) fl.length s qu.length q t hh c dd qu ack bu hd hi' ht (by omega))
end Go.Proofs.Ytpiihfogdjihdaa

/- Pieces that are the same, by the laws' own words. -/
namespace Go.Proofs.Ytpiihfogdjihdaa
open Go Go.RowKit
theorem liBytesE (zs : List Nat) : DataOk Try.prog 46 [.d (bytesD zs), .d (bytesD zs)] (.d (.v (.bool true))) := by
  have h := liBytes_ok zs zs
  simpa using h
theorem liPartE (d : Dat) : DataOk Try.prog 67 [partN d, partN d] (.d (.v (.bool true))) := by
  obtain ⟨g, l, ys⟩ := d
  refine Spec.intro (n := 24) (rv := [.tmp 4]) Try.func67 rfl rfl rfl (by simp) fun C hN hX => ?_
  refine AW.seq ?_
  apply AW.list
  apply Wk.bx 2 rfl rfl (lt_of_ble rfl)
  apply Wk.bx 3 rfl rfl (lt_of_ble rfl)
  apply Wk.asg (by conv => lhs; whnf) (lt_of_ble rfl)
  refine Wk.nil ?_
  refine AW.seq ?_
  apply AW.list
  apply Wk.fad 0 0 false fd37_0 rfl (lt_of_ble rfl)
  apply Wk.ld (i := 2) 1 false ty3 rfl rfl (by conv => lhs; whnf) (lt_of_ble rfl)
  apply Wk.fad 0 0 false fd37_0 rfl (lt_of_ble rfl)
  apply Wk.ld (i := 3) 1 false ty3 rfl rfl (by conv => lhs; whnf) (lt_of_ble rfl)
  apply Wk.bin rfl rfl (r := .bool true) (fun w => by simp [go_sem]) (lt_of_ble rfl)
  apply Wk.mv (by conv => lhs; whnf) (lt_of_ble rfl)
  apply Wk.gon 10 rfl rfl
  apply Wk.fad 1 0 false fd37_1 rfl (lt_of_ble rfl)
  apply Wk.gon 10 rfl rfl
  apply Wk.ld (i := 2) 1 false ty3 rfl rfl (by conv => lhs; whnf) (lt_of_ble rfl)
  apply Wk.gon 10 rfl rfl
  apply Wk.fad 1 0 false fd37_1 rfl (lt_of_ble rfl)
  apply Wk.gon 10 rfl rfl
  apply Wk.ld (i := 3) 1 false ty3 rfl rfl (by conv => lhs; whnf) (lt_of_ble rfl)
  apply Wk.gon 10 rfl rfl
  apply Wk.bin rfl rfl (r := .bool true) (fun w => by simp [go_sem]) (lt_of_ble rfl)
  apply Wk.pckT rfl (by conv => lhs; whnf) (lt_of_ble rfl)
  apply Wk.mv (by conv => lhs; whnf) (lt_of_ble rfl)
  apply Wk.gon 17 rfl rfl
  apply Wk.fad 2 0 false fd37_2 rfl (lt_of_ble rfl)
  apply Wk.gon 17 rfl rfl
  apply Wk.ld (i := 2) 1 false ty22 rfl rfl (by conv => lhs; whnf) (lt_of_ble rfl)
  apply Wk.gon 17 rfl rfl
  apply Wk.fad 2 0 false fd37_2 rfl (lt_of_ble rfl)
  apply Wk.gon 17 rfl rfl
  apply Wk.ld (i := 3) 1 false ty22 rfl rfl (by conv => lhs; whnf) (lt_of_ble rfl)
  apply Wk.gon 17 rfl rfl
  apply Wk.dat (liBytesE ys) Try.func46 rfl rfl rfl rfl rfl (lt_of_ble rfl)
  apply Wk.pckT rfl (by conv => lhs; whnf) (lt_of_ble rfl)
  apply Wk.asg (by conv => lhs; whnf) (lt_of_ble rfl)
  refine Wk.nil (AW.ret ?_)
  exact RetQ.ret [] (.cons rfl .nil) ⟨rfl, rfl⟩ none_kept
theorem liPartsE (ds : List Dat) : DataOk Try.prog 45 [.d (partsD ds), .d (partsD ds)] (.d (.v (.bool true))) := by
  refine Spec.intro (n := 27) (rv := [.tmp 4]) Try.func45 rfl rfl rfl (by simp) fun C hN hX => ?_
  refine AW.bound (x := .tmp 0) rfl fun hb => ?_
  simp only [List.length_map] at hb
  refine AW.seq ?_
  apply AW.list
  apply Wk.asg (by conv => lhs; whnf) (lt_of_ble rfl)
  refine Wk.nil ?_
  refine AW.seq (AW.seq ?_)
  apply AW.list
  apply Wk.mv (by conv => lhs; whnf) (lt_of_ble rfl)
  apply Wk.len un23 rfl (lt_of_ble rfl)
  apply Wk.mv (by conv => lhs; whnf) (lt_of_ble rfl)
  apply Wk.len un23 rfl (lt_of_ble rfl)
  apply Wk.bin rfl rfl (fun w => by simp [go_sem] <;> rfl) (lt_of_ble rfl)
  refine Wk.nil ?_
  refine AW.cond rfl (fun hc => by simp at hc) (fun _ => AW.skip (thenA_normal ?_))
  refine AW.seq (AW.seq ?_)
  apply AW.list
  apply Wk.asg (by conv => lhs; whnf) (lt_of_ble rfl)
  refine Wk.nil (AW.block ?_)
  refine AW.loop (fun q : Nat => St.of 27 [(0, .d (partsD ds)), (1, .d (partsD ds)), (5, .d (.v (.int .i64 (q : Int))))] []) (fun q => q ≤ ds.length) (fun q => ds.length - q) 0 (Nat.zero_le _) ?_ (fun q hq => ?_)
  · exact fun a w => Rel.keep ⟨rfl, .cons rfl rfl (.cons rfl rfl (.cons rfl rfl .nil)), .nil, hN⟩
  refine AW.seq (AW.seq ?_)
  apply AW.list
  apply Wk.mv (by conv => lhs; whnf) (lt_of_ble rfl)
  apply Wk.mv (by conv => lhs; whnf) (lt_of_ble rfl)
  apply Wk.len un23 rfl (lt_of_ble rfl)
  apply Wk.bin rfl rfl (fun w => by simp [go_sem] <;> rfl) (lt_of_ble rfl)
  refine Wk.nil ?_
  refine AW.cond rfl (fun hc => ?_) (fun hc => ?_)
  · have hlt : q < ds.length := by simpa using hc
    obtain ⟨d, hd⟩ : ∃ d, ds[q]? = some d := ⟨_, List.getElem?_eq_getElem hlt⟩
    have hget : (ds.map datD)[q]? = some (datD d) := by simp [hd]
    refine AW.skip ?_
    repeat (first | refine thenA_normal ?_ | refine inBlockA_normal ?_)
    refine AW.seq (AW.block (AW.seq ?_))
    apply AW.draw (hm := hmix) (cs := _)
    · apply Wk.mv (by conv => lhs; whnf) (lt_of_ble rfl)
      apply Wk.mv (by conv => lhs; whnf) (lt_of_ble rfl)
      apply Wk.iad 3 true un23 ty37 rfl rfl (by simpa using hlt) (datD_len ds) (lt_of_ble rfl)
      apply Wk.ldr 3 true ty37 rfl hget (by conv => lhs; whnf) (lt_of_ble rfl)
      apply Wk.mv (by conv => lhs; whnf) (lt_of_ble rfl)
      apply Wk.mv (by conv => lhs; whnf) (lt_of_ble rfl)
      apply Wk.iad 3 true un23 ty37 rfl rfl (by simpa using hlt) (datD_len ds) (lt_of_ble rfl)
      apply Wk.ldr 3 true ty37 rfl hget (by conv => lhs; whnf) (lt_of_ble rfl)
      apply Wk.dat (liPartE d) Try.func67 rfl rfl rfl rfl rfl (lt_of_ble rfl)
      apply Wk.un rfl (fun w => by simp [go_sem] <;> rfl) (lt_of_ble rfl)
      refine Wk.nil ?_
      refine AW.cond rfl (fun hn => by cases hn) (fun hn => ?_)
      refine AW.skip ?_
      repeat (first | refine thenA_normal ?_ | refine inBlockA_normal ?_)
      apply AW.list
      apply Wk.mv (by conv => lhs; whnf) (lt_of_ble rfl)
      apply Wk.addi rfl rfl (by omega) (lt_of_ble rfl)
      apply Wk.asg (by conv => lhs; whnf) (lt_of_ble rfl)
      refine Wk.nil ?_
      exact ⟨q + 1, by omega, by omega, fun a w => Rel.keep ⟨rfl, .cons rfl rfl (.cons rfl rfl (.cons rfl rfl .nil)), .nil, hN⟩⟩
    · rfl
    · rfl
  · refine AW.exit ?_
    repeat (first | refine inBlockA_same ?_ | refine thenA_exit ?_)
    repeat (first | refine thenA_normal ?_ | refine inBlockA_normal ?_)
    refine AW.seq ?_
    apply AW.list
    apply Wk.asg (by conv => lhs; whnf) (lt_of_ble rfl)
    refine Wk.nil (AW.ret ?_)
    repeat (first | refine thenA_ret ?_ | refine inBlockA_ret ?_)
    exact RetQ.ret [] (.cons rfl .nil) ⟨rfl, rfl⟩ none_kept
end Go.Proofs.Ytpiihfogdjihdaa

/- Two of who sends that are the same, by the laws' own words. Written by tools/mk_AbsTickI.py. -/
namespace Go.Proofs.Ytpiihfogdjihdaa
open Go Go.RowKit
set_option maxHeartbeats 2000000 in
set_option maxRecDepth 100000 in
theorem liTxE (x : TX) : DataOk Try.prog 18 [txA x, txA x] (.d (.v (.bool true))) := by
  obtain ⟨n, a, fl, s, qu, q, t, h, c, d⟩ := x
  refine Spec.intro (n := 73) (rv := [.tmp 4]) Try.func18 rfl rfl rfl (by simp) fun C hN hX => ?_
  refine AW.seq ?_
  apply AW.list
  apply Wk.bx 2 rfl rfl (lt_of_ble rfl)
  apply Wk.bx 3 rfl rfl (lt_of_ble rfl)
  apply Wk.asg (by conv => lhs; whnf) (lt_of_ble rfl)
  refine Wk.nil ?_
  refine AW.seq ?_
  apply AW.list
  apply Wk.fad 0 0 false fd25_0 rfl (lt_of_ble rfl)
  apply Wk.ld (i := 2) 1 false ty3 rfl rfl (by conv => lhs; whnf) (lt_of_ble rfl)
  apply Wk.fad 0 0 false fd25_0 rfl (lt_of_ble rfl)
  apply Wk.ld (i := 3) 1 false ty3 rfl rfl (by conv => lhs; whnf) (lt_of_ble rfl)
  apply Wk.bin rfl rfl (r := .bool true) (fun w => by simp [go_sem]) (lt_of_ble rfl)
  apply Wk.mv (by conv => lhs; whnf) (lt_of_ble rfl)
  apply Wk.gon 10 rfl rfl
  apply Wk.fad 1 0 false fd25_1 rfl (lt_of_ble rfl)
  apply Wk.gon 10 rfl rfl
  apply Wk.ld (i := 2) 1 false ty3 rfl rfl (by conv => lhs; whnf) (lt_of_ble rfl)
  apply Wk.gon 10 rfl rfl
  apply Wk.fad 1 0 false fd25_1 rfl (lt_of_ble rfl)
  apply Wk.gon 10 rfl rfl
  apply Wk.ld (i := 3) 1 false ty3 rfl rfl (by conv => lhs; whnf) (lt_of_ble rfl)
  apply Wk.gon 10 rfl rfl
  apply Wk.bin rfl rfl (r := .bool true) (fun w => by simp [go_sem]) (lt_of_ble rfl)
  apply Wk.pckT rfl (by conv => lhs; whnf) (lt_of_ble rfl)
  apply Wk.mv (by conv => lhs; whnf) (lt_of_ble rfl)
  apply Wk.gon 17 rfl rfl
  apply Wk.fad 2 0 false fd25_2 rfl (lt_of_ble rfl)
  apply Wk.gon 17 rfl rfl
  apply Wk.ld (i := 2) 1 false ty23 rfl rfl (by conv => lhs; whnf) (lt_of_ble rfl)
  apply Wk.gon 17 rfl rfl
  apply Wk.fad 2 0 false fd25_2 rfl (lt_of_ble rfl)
  apply Wk.gon 17 rfl rfl
  apply Wk.ld (i := 3) 1 false ty23 rfl rfl (by conv => lhs; whnf) (lt_of_ble rfl)
  apply Wk.gon 17 rfl rfl
  apply Wk.dat (liPartsE fl) Try.func45 rfl rfl rfl rfl rfl (lt_of_ble rfl)
  apply Wk.pckT rfl (by conv => lhs; whnf) (lt_of_ble rfl)
  apply Wk.mv (by conv => lhs; whnf) (lt_of_ble rfl)
  apply Wk.gon 24 rfl rfl
  apply Wk.fad 3 0 false fd25_3 rfl (lt_of_ble rfl)
  apply Wk.gon 24 rfl rfl
  apply Wk.ld (i := 2) 1 false ty3 rfl rfl (by conv => lhs; whnf) (lt_of_ble rfl)
  apply Wk.gon 24 rfl rfl
  apply Wk.fad 3 0 false fd25_3 rfl (lt_of_ble rfl)
  apply Wk.gon 24 rfl rfl
  apply Wk.ld (i := 3) 1 false ty3 rfl rfl (by conv => lhs; whnf) (lt_of_ble rfl)
  apply Wk.gon 24 rfl rfl
  apply Wk.bin rfl rfl (r := .bool true) (fun w => by simp [go_sem]) (lt_of_ble rfl)
  apply Wk.pckT rfl (by conv => lhs; whnf) (lt_of_ble rfl)
  apply Wk.mv (by conv => lhs; whnf) (lt_of_ble rfl)
  apply Wk.gon 31 rfl rfl
  apply Wk.fad 4 0 false fd25_4 rfl (lt_of_ble rfl)
  apply Wk.gon 31 rfl rfl
  apply Wk.ld (i := 2) 1 false ty23 rfl rfl (by conv => lhs; whnf) (lt_of_ble rfl)
  apply Wk.gon 31 rfl rfl
  apply Wk.fad 4 0 false fd25_4 rfl (lt_of_ble rfl)
  apply Wk.gon 31 rfl rfl
  apply Wk.ld (i := 3) 1 false ty23 rfl rfl (by conv => lhs; whnf) (lt_of_ble rfl)
  apply Wk.gon 31 rfl rfl
  apply Wk.dat (liPartsE qu) Try.func45 rfl rfl rfl rfl rfl (lt_of_ble rfl)
  apply Wk.pckT rfl (by conv => lhs; whnf) (lt_of_ble rfl)
  apply Wk.mv (by conv => lhs; whnf) (lt_of_ble rfl)
  apply Wk.gon 38 rfl rfl
  apply Wk.fad 5 0 false fd25_5 rfl (lt_of_ble rfl)
  apply Wk.gon 38 rfl rfl
  apply Wk.ld (i := 2) 1 false ty4 rfl rfl (by conv => lhs; whnf) (lt_of_ble rfl)
  apply Wk.gon 38 rfl rfl
  apply Wk.fad 5 0 false fd25_5 rfl (lt_of_ble rfl)
  apply Wk.gon 38 rfl rfl
  apply Wk.ld (i := 3) 1 false ty4 rfl rfl (by conv => lhs; whnf) (lt_of_ble rfl)
  apply Wk.gon 38 rfl rfl
  apply Wk.bin rfl rfl (r := .bool true) (fun w => by simp [go_sem]) (lt_of_ble rfl)
  apply Wk.pckT rfl (by conv => lhs; whnf) (lt_of_ble rfl)
  apply Wk.mv (by conv => lhs; whnf) (lt_of_ble rfl)
  apply Wk.gon 45 rfl rfl
  apply Wk.fad 6 0 false fd25_6 rfl (lt_of_ble rfl)
  apply Wk.gon 45 rfl rfl
  apply Wk.ld (i := 2) 1 false ty3 rfl rfl (by conv => lhs; whnf) (lt_of_ble rfl)
  apply Wk.gon 45 rfl rfl
  apply Wk.fad 6 0 false fd25_6 rfl (lt_of_ble rfl)
  apply Wk.gon 45 rfl rfl
  apply Wk.ld (i := 3) 1 false ty3 rfl rfl (by conv => lhs; whnf) (lt_of_ble rfl)
  apply Wk.gon 45 rfl rfl
  apply Wk.bin rfl rfl (r := .bool true) (fun w => by simp [go_sem]) (lt_of_ble rfl)
  apply Wk.pckT rfl (by conv => lhs; whnf) (lt_of_ble rfl)
  apply Wk.mv (by conv => lhs; whnf) (lt_of_ble rfl)
  apply Wk.gon 52 rfl rfl
  apply Wk.fad 7 0 false fd25_7 rfl (lt_of_ble rfl)
  apply Wk.gon 52 rfl rfl
  apply Wk.ld (i := 2) 1 false ty4 rfl rfl (by conv => lhs; whnf) (lt_of_ble rfl)
  apply Wk.gon 52 rfl rfl
  apply Wk.fad 7 0 false fd25_7 rfl (lt_of_ble rfl)
  apply Wk.gon 52 rfl rfl
  apply Wk.ld (i := 3) 1 false ty4 rfl rfl (by conv => lhs; whnf) (lt_of_ble rfl)
  apply Wk.gon 52 rfl rfl
  apply Wk.bin rfl rfl (r := .bool true) (fun w => by simp [go_sem]) (lt_of_ble rfl)
  apply Wk.pckT rfl (by conv => lhs; whnf) (lt_of_ble rfl)
  apply Wk.mv (by conv => lhs; whnf) (lt_of_ble rfl)
  apply Wk.gon 59 rfl rfl
  apply Wk.fad 8 0 false fd25_8 rfl (lt_of_ble rfl)
  apply Wk.gon 59 rfl rfl
  apply Wk.ld (i := 2) 1 false ty3 rfl rfl (by conv => lhs; whnf) (lt_of_ble rfl)
  apply Wk.gon 59 rfl rfl
  apply Wk.fad 8 0 false fd25_8 rfl (lt_of_ble rfl)
  apply Wk.gon 59 rfl rfl
  apply Wk.ld (i := 3) 1 false ty3 rfl rfl (by conv => lhs; whnf) (lt_of_ble rfl)
  apply Wk.gon 59 rfl rfl
  apply Wk.bin rfl rfl (r := .bool true) (fun w => by simp [go_sem]) (lt_of_ble rfl)
  apply Wk.pckT rfl (by conv => lhs; whnf) (lt_of_ble rfl)
  apply Wk.mv (by conv => lhs; whnf) (lt_of_ble rfl)
  apply Wk.gon 66 rfl rfl
  apply Wk.fad 9 0 false fd25_9 rfl (lt_of_ble rfl)
  apply Wk.gon 66 rfl rfl
  apply Wk.ld (i := 2) 1 false ty4 rfl rfl (by conv => lhs; whnf) (lt_of_ble rfl)
  apply Wk.gon 66 rfl rfl
  apply Wk.fad 9 0 false fd25_9 rfl (lt_of_ble rfl)
  apply Wk.gon 66 rfl rfl
  apply Wk.ld (i := 3) 1 false ty4 rfl rfl (by conv => lhs; whnf) (lt_of_ble rfl)
  apply Wk.gon 66 rfl rfl
  apply Wk.bin rfl rfl (r := .bool true) (fun w => by simp [go_sem]) (lt_of_ble rfl)
  apply Wk.pckT rfl (by conv => lhs; whnf) (lt_of_ble rfl)
  apply Wk.asg (by conv => lhs; whnf) (lt_of_ble rfl)
  refine Wk.nil (AW.ret ?_)
  exact RetQ.ret [] (.cons rfl .nil) ⟨rfl, rfl⟩ none_kept
end Go.Proofs.Ytpiihfogdjihdaa

/- Two frames that are the same, by the laws' own words. -/
namespace Go.Proofs.Ytpiihfogdjihdaa
open Go Go.RowKit
theorem liFrmE (k s c : Int) (p f : Bool) (y g l : Int) (zs : List Nat) : DataOk Try.prog 19 [frmD k s c p f y g l zs, frmD k s c p f y g l zs] (.d (.v (.bool true))) := by
  refine Spec.intro (n := 66) (rv := [.tmp 4]) Try.func19 rfl rfl rfl (by simp) fun C hN hX => ?_
  refine AW.seq ?_
  apply AW.list
  apply Wk.bx 2 rfl rfl (lt_of_ble rfl)
  apply Wk.bx 3 rfl rfl (lt_of_ble rfl)
  apply Wk.asg (by conv => lhs; whnf) (lt_of_ble rfl)
  refine Wk.nil ?_
  refine AW.seq ?_
  apply AW.list
  apply Wk.fad 0 0 false fd41_0 rfl (lt_of_ble rfl)
  apply Wk.ld (i := 2) 1 false ty3 rfl rfl (by conv => lhs; whnf) (lt_of_ble rfl)
  apply Wk.fad 0 0 false fd41_0 rfl (lt_of_ble rfl)
  apply Wk.ld (i := 3) 1 false ty3 rfl rfl (by conv => lhs; whnf) (lt_of_ble rfl)
  apply Wk.bin rfl rfl (r := .bool true) (fun w => by simp [go_sem]) (lt_of_ble rfl)
  apply Wk.mv (by conv => lhs; whnf) (lt_of_ble rfl)
  apply Wk.gon 10 rfl rfl
  apply Wk.fad 1 0 false fd41_1 rfl (lt_of_ble rfl)
  apply Wk.gon 10 rfl rfl
  apply Wk.ld (i := 2) 1 false ty3 rfl rfl (by conv => lhs; whnf) (lt_of_ble rfl)
  apply Wk.gon 10 rfl rfl
  apply Wk.fad 1 0 false fd41_1 rfl (lt_of_ble rfl)
  apply Wk.gon 10 rfl rfl
  apply Wk.ld (i := 3) 1 false ty3 rfl rfl (by conv => lhs; whnf) (lt_of_ble rfl)
  apply Wk.gon 10 rfl rfl
  apply Wk.bin rfl rfl (r := .bool true) (fun w => by simp [go_sem]) (lt_of_ble rfl)
  apply Wk.pckT rfl (by conv => lhs; whnf) (lt_of_ble rfl)
  apply Wk.mv (by conv => lhs; whnf) (lt_of_ble rfl)
  apply Wk.gon 17 rfl rfl
  apply Wk.fad 2 0 false fd41_2 rfl (lt_of_ble rfl)
  apply Wk.gon 17 rfl rfl
  apply Wk.ld (i := 2) 1 false ty3 rfl rfl (by conv => lhs; whnf) (lt_of_ble rfl)
  apply Wk.gon 17 rfl rfl
  apply Wk.fad 2 0 false fd41_2 rfl (lt_of_ble rfl)
  apply Wk.gon 17 rfl rfl
  apply Wk.ld (i := 3) 1 false ty3 rfl rfl (by conv => lhs; whnf) (lt_of_ble rfl)
  apply Wk.gon 17 rfl rfl
  apply Wk.bin rfl rfl (r := .bool true) (fun w => by simp [go_sem]) (lt_of_ble rfl)
  apply Wk.pckT rfl (by conv => lhs; whnf) (lt_of_ble rfl)
  apply Wk.mv (by conv => lhs; whnf) (lt_of_ble rfl)
  apply Wk.gon 24 rfl rfl
  apply Wk.fad 3 0 false fd41_3 rfl (lt_of_ble rfl)
  apply Wk.gon 24 rfl rfl
  apply Wk.ld (i := 2) 1 false ty4 rfl rfl (by conv => lhs; whnf) (lt_of_ble rfl)
  apply Wk.gon 24 rfl rfl
  apply Wk.fad 3 0 false fd41_3 rfl (lt_of_ble rfl)
  apply Wk.gon 24 rfl rfl
  apply Wk.ld (i := 3) 1 false ty4 rfl rfl (by conv => lhs; whnf) (lt_of_ble rfl)
  apply Wk.gon 24 rfl rfl
  apply Wk.bin rfl rfl (r := .bool true) (fun w => by simp [go_sem]) (lt_of_ble rfl)
  apply Wk.pckT rfl (by conv => lhs; whnf) (lt_of_ble rfl)
  apply Wk.mv (by conv => lhs; whnf) (lt_of_ble rfl)
  apply Wk.gon 31 rfl rfl
  apply Wk.fad 4 0 false fd41_4 rfl (lt_of_ble rfl)
  apply Wk.gon 31 rfl rfl
  apply Wk.ld (i := 2) 1 false ty4 rfl rfl (by conv => lhs; whnf) (lt_of_ble rfl)
  apply Wk.gon 31 rfl rfl
  apply Wk.fad 4 0 false fd41_4 rfl (lt_of_ble rfl)
  apply Wk.gon 31 rfl rfl
  apply Wk.ld (i := 3) 1 false ty4 rfl rfl (by conv => lhs; whnf) (lt_of_ble rfl)
  apply Wk.gon 31 rfl rfl
  apply Wk.bin rfl rfl (r := .bool true) (fun w => by simp [go_sem]) (lt_of_ble rfl)
  apply Wk.pckT rfl (by conv => lhs; whnf) (lt_of_ble rfl)
  apply Wk.mv (by conv => lhs; whnf) (lt_of_ble rfl)
  apply Wk.gon 38 rfl rfl
  apply Wk.fad 5 0 false fd41_5 rfl (lt_of_ble rfl)
  apply Wk.gon 38 rfl rfl
  apply Wk.ld (i := 2) 1 false ty3 rfl rfl (by conv => lhs; whnf) (lt_of_ble rfl)
  apply Wk.gon 38 rfl rfl
  apply Wk.fad 5 0 false fd41_5 rfl (lt_of_ble rfl)
  apply Wk.gon 38 rfl rfl
  apply Wk.ld (i := 3) 1 false ty3 rfl rfl (by conv => lhs; whnf) (lt_of_ble rfl)
  apply Wk.gon 38 rfl rfl
  apply Wk.bin rfl rfl (r := .bool true) (fun w => by simp [go_sem]) (lt_of_ble rfl)
  apply Wk.pckT rfl (by conv => lhs; whnf) (lt_of_ble rfl)
  apply Wk.mv (by conv => lhs; whnf) (lt_of_ble rfl)
  apply Wk.gon 45 rfl rfl
  apply Wk.fad 6 0 false fd41_6 rfl (lt_of_ble rfl)
  apply Wk.gon 45 rfl rfl
  apply Wk.ld (i := 2) 1 false ty3 rfl rfl (by conv => lhs; whnf) (lt_of_ble rfl)
  apply Wk.gon 45 rfl rfl
  apply Wk.fad 6 0 false fd41_6 rfl (lt_of_ble rfl)
  apply Wk.gon 45 rfl rfl
  apply Wk.ld (i := 3) 1 false ty3 rfl rfl (by conv => lhs; whnf) (lt_of_ble rfl)
  apply Wk.gon 45 rfl rfl
  apply Wk.bin rfl rfl (r := .bool true) (fun w => by simp [go_sem]) (lt_of_ble rfl)
  apply Wk.pckT rfl (by conv => lhs; whnf) (lt_of_ble rfl)
  apply Wk.mv (by conv => lhs; whnf) (lt_of_ble rfl)
  apply Wk.gon 52 rfl rfl
  apply Wk.fad 7 0 false fd41_7 rfl (lt_of_ble rfl)
  apply Wk.gon 52 rfl rfl
  apply Wk.ld (i := 2) 1 false ty3 rfl rfl (by conv => lhs; whnf) (lt_of_ble rfl)
  apply Wk.gon 52 rfl rfl
  apply Wk.fad 7 0 false fd41_7 rfl (lt_of_ble rfl)
  apply Wk.gon 52 rfl rfl
  apply Wk.ld (i := 3) 1 false ty3 rfl rfl (by conv => lhs; whnf) (lt_of_ble rfl)
  apply Wk.gon 52 rfl rfl
  apply Wk.bin rfl rfl (r := .bool true) (fun w => by simp [go_sem]) (lt_of_ble rfl)
  apply Wk.pckT rfl (by conv => lhs; whnf) (lt_of_ble rfl)
  apply Wk.mv (by conv => lhs; whnf) (lt_of_ble rfl)
  apply Wk.gon 59 rfl rfl
  apply Wk.fad 8 0 false fd41_8 rfl (lt_of_ble rfl)
  apply Wk.gon 59 rfl rfl
  apply Wk.ld (i := 2) 1 false ty22 rfl rfl (by conv => lhs; whnf) (lt_of_ble rfl)
  apply Wk.gon 59 rfl rfl
  apply Wk.fad 8 0 false fd41_8 rfl (lt_of_ble rfl)
  apply Wk.gon 59 rfl rfl
  apply Wk.ld (i := 3) 1 false ty22 rfl rfl (by conv => lhs; whnf) (lt_of_ble rfl)
  apply Wk.gon 59 rfl rfl
  apply Wk.dat (liBytesE zs) Try.func46 rfl rfl rfl rfl rfl (lt_of_ble rfl)
  apply Wk.pckT rfl (by conv => lhs; whnf) (lt_of_ble rfl)
  apply Wk.asg (by conv => lhs; whnf) (lt_of_ble rfl)
  refine Wk.nil (AW.ret ?_)
  exact RetQ.ret [] (.cons rfl .nil) ⟨rfl, rfl⟩ none_kept
end Go.Proofs.Ytpiihfogdjihdaa
