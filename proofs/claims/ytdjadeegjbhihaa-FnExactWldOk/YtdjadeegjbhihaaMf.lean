/- Laws and contracts that the proof stands on: XdWd. -/
import Derived.Test.YtdjadeegjbhihaaMa
import Derived.Test.YtdjadeegjbhihaaMb
import Derived.Test.YtdjadeegjbhihaaMc
import Derived.Test.YtdjadeegjbhihaaMd
import Derived.Test.YtdjadeegjbhihaaMe
/- Arguments of the exact laws: copied, compared, measured; over data of their shape (CfgOpts, ByteS, SegPart, SegPartS, TxState, SegJoin, RxState, CrdTx, CrdRx, ByteSS, WldEnd, WldEndS, NetMsg, NetMsgS, NetMsgSS, WldWorld). Written by tools/mk_Xd.py. -/
namespace Go.Proofs.Ytdjadeegjbhihaa
open Go Go.RowKit
set_option linter.unusedVariables false
set_option linter.unusedSimpArgs false
set_option maxHeartbeats 4000000 in
set_option maxRecDepth 100000 in
theorem toCfgOpts_ok (ds : List D) (h : Sh.ok (.struct [.int, .int, .int, .int, .int]) ds) : DataOk Try.prog 12 [.agg (ds.map .d)] (.agg (ds.map .d)) := by
  have qf_0 := ok_rec h
  clear h
  obtain ⟨_, _, rfl, hf0, qf_1⟩ := oks_cons qf_0
  clear qf_0
  obtain ⟨nf0, inf0, rfl⟩ := ok_num hf0
  obtain ⟨_, _, rfl, hf1, qf_2⟩ := oks_cons qf_1
  clear qf_1
  obtain ⟨nf1, inf1, rfl⟩ := ok_num hf1
  obtain ⟨_, _, rfl, hf2, qf_3⟩ := oks_cons qf_2
  clear qf_2
  obtain ⟨nf2, inf2, rfl⟩ := ok_num hf2
  obtain ⟨_, _, rfl, hf3, qf_4⟩ := oks_cons qf_3
  clear qf_3
  obtain ⟨nf3, inf3, rfl⟩ := ok_num hf3
  obtain ⟨_, _, rfl, hf4, qf_5⟩ := oks_cons qf_4
  clear qf_4
  obtain ⟨nf4, inf4, rfl⟩ := ok_num hf4
  obtain rfl := oks_nil qf_5
  simp only [List.cons_append, List.nil_append, List.append_nil, List.map_cons, List.map_nil]
  refine Spec.intro (n := 20) (rv := [.cell 2 29]) Try.func12 rfl rfl rfl (by simp) fun C hN hX => ?_
  refine AW.seq ?_
  apply AW.list
  apply Wk.bx 1 rfl rfl (lt_of_ble rfl)
  apply Wk.alc 2 [.int .i64 0, .int .i64 0, .int .i64 0, .int .i64 0, .int .i64 0] ze29 rfl rfl (lt_of_ble rfl)
  refine Wk.nil ?_
  refine AW.seq ?_
  apply AW.list
  apply Wk.alc 3 [.int .i64 0, .int .i64 0, .int .i64 0, .int .i64 0, .int .i64 0] ze29 rfl rfl (lt_of_ble rfl)
  refine Wk.nil ?_
  refine AW.seq ?_
  apply AW.list
  apply Wk.fad 0 0 false fd23_0 rfl (lt_of_ble rfl)
  apply Wk.ld (i := 1) 1 false ty3 rfl rfl (by conv => lhs; whnf) (lt_of_ble rfl)
  apply Wk.fad 0 0 false fd29_0 rfl (lt_of_ble rfl)
  apply Wk.sto (i := 3) 1 false ty3 rfl rfl rfl rfl (Nat.le_of_ble_eq_true rfl) (lt_of_ble rfl)
  refine Wk.nil ?_
  refine AW.seq ?_
  apply AW.list
  apply Wk.fad 1 0 false fd23_1 rfl (lt_of_ble rfl)
  apply Wk.ld (i := 1) 1 false ty3 rfl rfl (by conv => lhs; whnf) (lt_of_ble rfl)
  apply Wk.fad 1 0 false fd29_1 rfl (lt_of_ble rfl)
  apply Wk.sto (i := 3) 1 false ty3 rfl rfl rfl rfl (Nat.le_of_ble_eq_true rfl) (lt_of_ble rfl)
  refine Wk.nil ?_
  skip
  refine AW.keep (n := 20) (ts := [(1, .ptr 1 0), (2, .ptr 2 0), (3, .ptr 3 0)]) (bs := [(1, .var [A.d (.v (.int .i64 nf0)), A.d (.v (.int .i64 nf1)), A.d (.v (.int .i64 nf2)), A.d (.v (.int .i64 nf3)), A.d (.v (.int .i64 nf4))]), (2, .var [A.d (.v (.int .i64 0)), A.d (.v (.int .i64 0)), A.d (.v (.int .i64 0)), A.d (.v (.int .i64 0)), A.d (.v (.int .i64 0))]), (3, .var [A.d (.v (.int .i64 nf0)), A.d (.v (.int .i64 nf1)), A.d (.v (.int .i64 0)), A.d (.v (.int .i64 0)), A.d (.v (.int .i64 0))])]) ⟨rfl, .cons rfl rfl (.cons rfl rfl (.cons rfl rfl .nil)), .cons rfl rfl (.cons rfl rfl (.cons rfl rfl .nil)), hN.mono (by simp [keys])⟩ ?_
  refine AW.seq ?_
  apply AW.list
  apply Wk.fad 2 0 false fd23_2 rfl (lt_of_ble rfl)
  apply Wk.ld (i := 1) 1 false ty3 rfl rfl (by conv => lhs; whnf) (lt_of_ble rfl)
  apply Wk.fad 2 0 false fd29_2 rfl (lt_of_ble rfl)
  apply Wk.sto (i := 3) 1 false ty3 rfl rfl rfl rfl (Nat.le_of_ble_eq_true rfl) (lt_of_ble rfl)
  refine Wk.nil ?_
  refine AW.seq ?_
  apply AW.list
  apply Wk.fad 3 0 false fd23_3 rfl (lt_of_ble rfl)
  apply Wk.ld (i := 1) 1 false ty3 rfl rfl (by conv => lhs; whnf) (lt_of_ble rfl)
  apply Wk.fad 3 0 false fd29_3 rfl (lt_of_ble rfl)
  apply Wk.sto (i := 3) 1 false ty3 rfl rfl rfl rfl (Nat.le_of_ble_eq_true rfl) (lt_of_ble rfl)
  refine Wk.nil ?_
  skip
  refine AW.keep (n := 20) (ts := [(1, .ptr 1 0), (2, .ptr 2 0), (3, .ptr 3 0)]) (bs := [(1, .var [A.d (.v (.int .i64 nf0)), A.d (.v (.int .i64 nf1)), A.d (.v (.int .i64 nf2)), A.d (.v (.int .i64 nf3)), A.d (.v (.int .i64 nf4))]), (2, .var [A.d (.v (.int .i64 0)), A.d (.v (.int .i64 0)), A.d (.v (.int .i64 0)), A.d (.v (.int .i64 0)), A.d (.v (.int .i64 0))]), (3, .var [A.d (.v (.int .i64 nf0)), A.d (.v (.int .i64 nf1)), A.d (.v (.int .i64 nf2)), A.d (.v (.int .i64 nf3)), A.d (.v (.int .i64 0))])]) ⟨rfl, .cons rfl rfl (.cons rfl rfl (.cons rfl rfl .nil)), .cons rfl rfl (.cons rfl rfl (.cons rfl rfl .nil)), hN.mono (by simp [keys])⟩ ?_
  refine AW.seq ?_
  apply AW.list
  apply Wk.fad 4 0 false fd23_4 rfl (lt_of_ble rfl)
  apply Wk.ld (i := 1) 1 false ty3 rfl rfl (by conv => lhs; whnf) (lt_of_ble rfl)
  apply Wk.fad 4 0 false fd29_4 rfl (lt_of_ble rfl)
  apply Wk.sto (i := 3) 1 false ty3 rfl rfl rfl rfl (Nat.le_of_ble_eq_true rfl) (lt_of_ble rfl)
  refine Wk.nil ?_
  refine AW.seq ?_
  apply AW.list
  apply Wk.ld (i := 3) 5 true ty29 rfl rfl (by conv => lhs; whnf) (lt_of_ble rfl)
  apply Wk.sto (i := 2) 5 true ty29 rfl rfl rfl rfl (Nat.le_of_ble_eq_true rfl) (lt_of_ble rfl)
  refine Wk.nil (AW.ret ?_)
  exact RetQ.ret [] (.cons ⟨2, 0, _, _, _, rfl, rfl, ty29, rfl⟩ .nil) ⟨rfl, rfl⟩ none_kept
set_option maxHeartbeats 4000000 in
set_option maxRecDepth 100000 in
theorem eqCfgOpts_ok (ds : List D) (h : Sh.ok (.struct [.int, .int, .int, .int, .int]) ds) : DataOk Try.prog 59 [.agg (ds.map .d), .agg (ds.map .d)] (.d (.v (.bool true))) := by
  have qf_0 := ok_rec h
  clear h
  obtain ⟨_, _, rfl, hf0, qf_1⟩ := oks_cons qf_0
  clear qf_0
  obtain ⟨nf0, inf0, rfl⟩ := ok_num hf0
  obtain ⟨_, _, rfl, hf1, qf_2⟩ := oks_cons qf_1
  clear qf_1
  obtain ⟨nf1, inf1, rfl⟩ := ok_num hf1
  obtain ⟨_, _, rfl, hf2, qf_3⟩ := oks_cons qf_2
  clear qf_2
  obtain ⟨nf2, inf2, rfl⟩ := ok_num hf2
  obtain ⟨_, _, rfl, hf3, qf_4⟩ := oks_cons qf_3
  clear qf_3
  obtain ⟨nf3, inf3, rfl⟩ := ok_num hf3
  obtain ⟨_, _, rfl, hf4, qf_5⟩ := oks_cons qf_4
  clear qf_4
  obtain ⟨nf4, inf4, rfl⟩ := ok_num hf4
  obtain rfl := oks_nil qf_5
  simp only [List.cons_append, List.nil_append, List.append_nil, List.map_cons, List.map_nil]
  refine Spec.intro (n := 30) (rv := [.tmp 4]) Try.func59 rfl rfl rfl (by simp) fun C hN hX => ?_
  refine AW.seq ?_
  apply AW.list
  apply Wk.bx 2 rfl rfl (lt_of_ble rfl)
  apply Wk.bx 3 rfl rfl (lt_of_ble rfl)
  apply Wk.asg (by conv => lhs; whnf) (lt_of_ble rfl)
  refine Wk.nil ?_
  refine AW.seq (AW.seq ?_)
  apply AW.list
  apply Wk.fad 0 0 false fd29_0 rfl (lt_of_ble rfl)
  apply Wk.ld (i := 2) 1 false ty3 rfl rfl (by conv => lhs; whnf) (lt_of_ble rfl)
  apply Wk.fad 0 0 false fd29_0 rfl (lt_of_ble rfl)
  apply Wk.ld (i := 3) 1 false ty3 rfl rfl (by conv => lhs; whnf) (lt_of_ble rfl)
  apply Wk.bin rfl rfl (r := .bool false) (fun w => by simp [go_sem]) (lt_of_ble rfl)
  refine Wk.nil ?_
  refine AW.cond rfl (fun hc => by cases hc) (fun _ => AW.skip (thenA_normal ?_))
  refine AW.seq (AW.seq ?_)
  apply AW.list
  apply Wk.fad 1 0 false fd29_1 rfl (lt_of_ble rfl)
  apply Wk.ld (i := 2) 1 false ty3 rfl rfl (by conv => lhs; whnf) (lt_of_ble rfl)
  apply Wk.fad 1 0 false fd29_1 rfl (lt_of_ble rfl)
  apply Wk.ld (i := 3) 1 false ty3 rfl rfl (by conv => lhs; whnf) (lt_of_ble rfl)
  apply Wk.bin rfl rfl (r := .bool false) (fun w => by simp [go_sem]) (lt_of_ble rfl)
  refine Wk.nil ?_
  refine AW.cond rfl (fun hc => by cases hc) (fun _ => AW.skip (thenA_normal ?_))
  refine AW.seq (AW.seq ?_)
  apply AW.list
  apply Wk.fad 2 0 false fd29_2 rfl (lt_of_ble rfl)
  apply Wk.ld (i := 2) 1 false ty3 rfl rfl (by conv => lhs; whnf) (lt_of_ble rfl)
  apply Wk.fad 2 0 false fd29_2 rfl (lt_of_ble rfl)
  apply Wk.ld (i := 3) 1 false ty3 rfl rfl (by conv => lhs; whnf) (lt_of_ble rfl)
  apply Wk.bin rfl rfl (r := .bool false) (fun w => by simp [go_sem]) (lt_of_ble rfl)
  refine Wk.nil ?_
  refine AW.cond rfl (fun hc => by cases hc) (fun _ => AW.skip (thenA_normal ?_))
  refine AW.seq (AW.seq ?_)
  apply AW.list
  apply Wk.fad 3 0 false fd29_3 rfl (lt_of_ble rfl)
  apply Wk.ld (i := 2) 1 false ty3 rfl rfl (by conv => lhs; whnf) (lt_of_ble rfl)
  apply Wk.fad 3 0 false fd29_3 rfl (lt_of_ble rfl)
  apply Wk.ld (i := 3) 1 false ty3 rfl rfl (by conv => lhs; whnf) (lt_of_ble rfl)
  apply Wk.bin rfl rfl (r := .bool false) (fun w => by simp [go_sem]) (lt_of_ble rfl)
  refine Wk.nil ?_
  refine AW.cond rfl (fun hc => by cases hc) (fun _ => AW.skip (thenA_normal ?_))
  refine AW.seq (AW.seq ?_)
  apply AW.list
  apply Wk.fad 4 0 false fd29_4 rfl (lt_of_ble rfl)
  apply Wk.ld (i := 2) 1 false ty3 rfl rfl (by conv => lhs; whnf) (lt_of_ble rfl)
  apply Wk.fad 4 0 false fd29_4 rfl (lt_of_ble rfl)
  apply Wk.ld (i := 3) 1 false ty3 rfl rfl (by conv => lhs; whnf) (lt_of_ble rfl)
  apply Wk.bin rfl rfl (r := .bool false) (fun w => by simp [go_sem]) (lt_of_ble rfl)
  refine Wk.nil ?_
  refine AW.cond rfl (fun hc => by cases hc) (fun _ => AW.skip (thenA_normal ?_))
  refine AW.seq ?_
  apply AW.list
  apply Wk.asg (by conv => lhs; whnf) (lt_of_ble rfl)
  refine Wk.nil (AW.ret ?_)
  exact RetQ.ret [] (.cons rfl .nil) ⟨rfl, rfl⟩ none_kept
set_option maxHeartbeats 4000000 in
set_option maxRecDepth 100000 in
theorem toByteS_ok (es : List (List D)) (he : ∀ e ∈ es, Sh.ok .byte e) (ht : (D.row es).tot ≤ 1048576) : DataOk Try.prog 114 [.d (.row es)] (.d (.row es)) := by
  have hl : es.length ≤ 1048576 := by simp only [D.tot] at ht; omega
  have hz : ∀ c ∈ es, c.length = 1 := sh_lens he
  refine Spec.intro (n := 22) (rv := [.tmp 2]) Try.func114 rfl rfl rfl (by simp) fun C hN hX => ?_
  refine AW.seq ?_
  apply AW.list
  apply Wk.asg (by conv => lhs; whnf) (lt_of_ble rfl)
  refine Wk.nil ?_
  refine AW.seq ?_
  apply AW.list
  apply Wk.mv (by conv => lhs; whnf) (lt_of_ble rfl)
  apply Wk.len un64 rfl (lt_of_ble rfl)
  apply Wk.mks 7 1 es.length un64 ap5 ze5 rfl rfl rfl rfl (by omega) (lt_of_ble rfl)
  apply Wk.asg (by conv => lhs; whnf) (lt_of_ble rfl)
  refine Wk.nil ?_
  refine AW.seq (AW.seq ?_)
  apply AW.list
  apply Wk.asg (by conv => lhs; whnf) (lt_of_ble rfl)
  refine Wk.nil (AW.block ?_)
  refine AW.loop (fun q : Nat => St.of 22 [(0, .d (.row es)), (3, .own 7 0), (4, .d (.v (.int .i64 (q : Int))))] [(7, .own 0 5 1 (mixA es [.int .u8 0] q))]) (fun q => q ≤ es.length) (fun q => es.length - q) 0 (Nat.zero_le _) ?_ (fun q hq => ?_)
  · exact fun a w => Rel.keep ⟨rfl, .cons rfl rfl (.cons rfl rfl (.cons rfl rfl .nil)), .cons (by rw [mix_zero]; rfl) (by exact mix_within _ _ _) .nil, hN.mono (by simp [keys])⟩
  refine AW.seq (AW.seq ?_)
  apply AW.list
  apply Wk.mv (by conv => lhs; whnf) (lt_of_ble rfl)
  apply Wk.mv (by conv => lhs; whnf) (lt_of_ble rfl)
  apply Wk.len un64 rfl (lt_of_ble rfl)
  apply Wk.bin rfl rfl (fun w => by simp [go_sem] <;> rfl) (lt_of_ble rfl)
  refine Wk.nil ?_
  refine AW.cond rfl (fun hc => ?_) (fun hc => ?_)
  · have hlt : q < es.length := by simpa using hc
    obtain ⟨e, hd⟩ : ∃ e, es[q]? = some e := ⟨_, List.getElem?_eq_getElem hlt⟩
    have hse := he e (List.mem_of_getElem? hd)
    have hel : e.length = 1 := hz e (List.mem_of_getElem? hd)
    have hms := mix_set (es := es) (zs := [.int .u8 0]) hd (by rw [hel]; rfl)
    have hmg := mix_get (es := es) (zs := [.int .u8 0]) hlt
    have hml := mix_len (es := es) (zs := [.int .u8 0]) (Nat.le_of_lt hlt)
    refine AW.skip ?_
    repeat (first | refine thenA_normal ?_ | refine inBlockA_normal ?_)
    refine AW.seq (AW.block ?_)
    apply AW.list
    obtain ⟨b, _, rfl⟩ := hse
    apply Wk.mv (by conv => lhs; whnf) (lt_of_ble rfl)
    apply Wk.mv (by conv => lhs; whnf) (lt_of_ble rfl)
    apply Wk.mv (by conv => lhs; whnf) (lt_of_ble rfl)
    apply Wk.mv (by conv => lhs; whnf) (lt_of_ble rfl)
    apply Wk.iad 1 false un64 ty5 rfl rfl (by omega) hz (lt_of_ble rfl)
    apply Wk.ldr 1 false ty5 rfl hd (by conv => lhs; whnf) (lt_of_ble rfl)
    apply Wk.iado 7 1 false un64 ty5 rfl rfl rfl (by rw [hml]; exact hlt) (lt_of_ble rfl)
    apply Wk.stoo 7 q 0 1 false ty5 rfl rfl (by omega) hmg rfl rfl (by decide) (lt_of_ble rfl)
    refine Wk.nil ?_
    repeat (first | refine thenA_normal ?_ | refine inBlockA_normal ?_)
    apply AW.list
    apply Wk.mv (by conv => lhs; whnf) (lt_of_ble rfl)
    apply Wk.addi rfl rfl (by omega) (lt_of_ble rfl)
    apply Wk.asg (by conv => lhs; whnf) (lt_of_ble rfl)
    refine Wk.nil ?_
    exact ⟨q + 1, by omega, by omega, fun a w => Rel.keep ⟨rfl, .cons rfl rfl (.cons rfl rfl (.cons rfl rfl .nil)), .cons (congrArg (Bx.own 0 5 1) hms) (by exact mix_within _ _ _) .nil, hN.mono (by simp [keys])⟩⟩
  · obtain rfl : q = es.length := by
      have : ¬ q < es.length := by simpa using hc
      omega
    refine AW.exit ?_
    repeat (first | refine inBlockA_same ?_ | refine thenA_exit ?_)
    repeat (first | refine thenA_normal ?_ | refine inBlockA_normal ?_)
    refine AW.seq ?_
    apply AW.list
    apply Wk.mv (by conv => lhs; whnf) (lt_of_ble rfl)
    apply Wk.asg (by conv => lhs; whnf) (lt_of_ble rfl)
    refine Wk.nil ?_
    repeat (first | refine thenA_normal ?_ | refine inBlockA_normal ?_)
    refine AW.thaw (t := 2) (i := 7) es rfl rfl (by rw [mix_end]; exact asData_sh he) hX.none ?_
    refine AW.ret ?_
    repeat (first | refine thenA_ret ?_ | refine inBlockA_ret ?_)
    exact RetQ.ret [] (.cons rfl .nil) ⟨rfl, rfl⟩ none_kept
set_option maxHeartbeats 4000000 in
set_option maxRecDepth 100000 in
theorem eqByteS_ok (es : List (List D)) (he : ∀ e ∈ es, Sh.ok .byte e) : DataOk Try.prog 116 [.d (.row es), .d (.row es)] (.d (.v (.bool true))) := by
  have hz : ∀ c ∈ es, c.length = 1 := sh_lens he
  refine Spec.intro (n := 26) (rv := [.tmp 4]) Try.func116 rfl rfl rfl (by simp) fun C hN hX => ?_
  refine AW.bound (x := .tmp 0) (es := es) rfl fun hb => ?_
  refine AW.seq ?_
  apply AW.list
  apply Wk.asg (by conv => lhs; whnf) (lt_of_ble rfl)
  refine Wk.nil ?_
  refine AW.seq (AW.seq ?_)
  apply AW.list
  apply Wk.mv (by conv => lhs; whnf) (lt_of_ble rfl)
  apply Wk.len un64 rfl (lt_of_ble rfl)
  apply Wk.mv (by conv => lhs; whnf) (lt_of_ble rfl)
  apply Wk.len un64 rfl (lt_of_ble rfl)
  apply Wk.bin rfl rfl (fun w => by simp [go_sem] <;> rfl) (lt_of_ble rfl)
  refine Wk.nil ?_
  refine AW.cond rfl (fun hc => by simp at hc) (fun _ => AW.skip (thenA_normal ?_))
  refine AW.seq (AW.seq ?_)
  apply AW.list
  apply Wk.asg (by conv => lhs; whnf) (lt_of_ble rfl)
  refine Wk.nil (AW.block ?_)
  refine AW.loop (fun q : Nat => St.of 26 [(0, .d (.row es)), (1, .d (.row es)), (5, .d (.v (.int .i64 (q : Int))))] []) (fun q => q ≤ es.length) (fun q => es.length - q) 0 (Nat.zero_le _) ?_ (fun q hq => ?_)
  · exact fun a w => Rel.keep ⟨rfl, .cons rfl rfl (.cons rfl rfl (.cons rfl rfl .nil)), .nil, hN⟩
  refine AW.seq (AW.seq ?_)
  apply AW.list
  apply Wk.mv (by conv => lhs; whnf) (lt_of_ble rfl)
  apply Wk.mv (by conv => lhs; whnf) (lt_of_ble rfl)
  apply Wk.len un64 rfl (lt_of_ble rfl)
  apply Wk.bin rfl rfl (fun w => by simp [go_sem] <;> rfl) (lt_of_ble rfl)
  refine Wk.nil ?_
  refine AW.cond rfl (fun hc => ?_) (fun hc => ?_)
  · have hlt : q < es.length := by simpa using hc
    obtain ⟨e, hd⟩ : ∃ e, es[q]? = some e := ⟨_, List.getElem?_eq_getElem hlt⟩
    have hse := he e (List.mem_of_getElem? hd)
    have hel : e.length = 1 := hz e (List.mem_of_getElem? hd)
    refine AW.skip ?_
    repeat (first | refine thenA_normal ?_ | refine inBlockA_normal ?_)
    refine AW.seq (AW.block (AW.seq ?_))
    obtain ⟨b, _, rfl⟩ := hse
    apply AW.draw (hm := hmix) (cs := _)
    · apply Wk.mv (by conv => lhs; whnf) (lt_of_ble rfl)
      apply Wk.mv (by conv => lhs; whnf) (lt_of_ble rfl)
      apply Wk.iad 1 false un64 ty5 rfl rfl (by omega) hz (lt_of_ble rfl)
      apply Wk.ldr 1 false ty5 rfl hd (by conv => lhs; whnf) (lt_of_ble rfl)
      apply Wk.mv (by conv => lhs; whnf) (lt_of_ble rfl)
      apply Wk.mv (by conv => lhs; whnf) (lt_of_ble rfl)
      apply Wk.iad 1 false un64 ty5 rfl rfl (by omega) hz (lt_of_ble rfl)
      apply Wk.ldr 1 false ty5 rfl hd (by conv => lhs; whnf) (lt_of_ble rfl)
      apply Wk.bin rfl rfl (r := .bool false) (fun w => by simp [go_sem]) (lt_of_ble rfl)
      refine Wk.nil ?_
      refine AW.cond rfl (fun hn => by cases hn) (fun hn => ?_)
      refine AW.skip ?_
      repeat (first | refine thenA_normal ?_ | refine inBlockA_normal ?_)
      apply AW.list
      apply Wk.mv (by conv => lhs; whnf) (lt_of_ble rfl)
      apply Wk.addi rfl rfl (by omega) (lt_of_ble rfl)
      apply Wk.asg (by conv => lhs; whnf) (lt_of_ble rfl)
      refine Wk.nil ?_
      exact ⟨q + 1, by omega, by omega, fun a w => Rel.keep ⟨rfl, .cons rfl rfl (.cons rfl rfl (.cons rfl rfl .nil)), .nil, hN⟩⟩
    · rfl
    · rfl
  · refine AW.exit ?_
    repeat (first | refine inBlockA_same ?_ | refine thenA_exit ?_)
    repeat (first | refine thenA_normal ?_ | refine inBlockA_normal ?_)
    refine AW.seq ?_
    apply AW.list
    apply Wk.asg (by conv => lhs; whnf) (lt_of_ble rfl)
    refine Wk.nil (AW.ret ?_)
    repeat (first | refine thenA_ret ?_ | refine inBlockA_ret ?_)
    exact RetQ.ret [] (.cons rfl .nil) ⟨rfl, rfl⟩ none_kept
set_option maxHeartbeats 4000000 in
set_option maxRecDepth 100000 in
theorem szByteS_ok (es : List (List D)) (he : ∀ e ∈ es, Sh.ok .byte e) (l : Nat) (hl : l ≤ 1048576) : DataOk Try.prog 112 [.d (.row es), .d (.v (.int .i64 (l : Int)))] (.d (.v (.int .i64 (leftI l (D.row es).tot)))) := by
  have hz : ∀ c ∈ es, c.length = 1 := sh_lens he
  refine Spec.intro (n := 12) (rv := [.tmp 4]) Try.func112 rfl rfl rfl (by simp) fun C hN hX => ?_
  refine AW.bound (x := .tmp 0) (es := es) rfl fun hb => ?_
  refine AW.seq ?_
  apply AW.list
  apply Wk.asg (by conv => lhs; whnf) (lt_of_ble rfl)
  refine Wk.nil ?_
  refine AW.seq ?_
  apply AW.list
  apply Wk.mv (by conv => lhs; whnf) (lt_of_ble rfl)
  apply Wk.mv (by conv => lhs; whnf) (lt_of_ble rfl)
  apply Wk.len un64 rfl (lt_of_ble rfl)
  apply Wk.subi rfl rfl (by omega) (lt_of_ble rfl)
  apply Wk.asg (by conv => lhs; whnf) (lt_of_ble rfl)
  refine Wk.nil ?_
  refine AW.seq (AW.seq ?_)
  by_cases h0 : es.length ≤ l
  · have ht : totss es = 0 := tot_bytes he
    apply AW.list
    apply Wk.mv (by conv => lhs; whnf) (lt_of_ble rfl)
    apply Wk.bin rfl rfl (r := .bool false) (fun w => by simp [go_sem] <;> omega) (lt_of_ble rfl)
    refine Wk.nil ?_
    refine AW.cond rfl (fun hc => by cases hc) (fun _ => AW.skip (thenA_normal ?_))
    refine AW.seq ?_
    apply AW.list
    apply Wk.mv (by conv => lhs; whnf) (lt_of_ble rfl)
    apply Wk.asg (by conv => lhs; whnf) (lt_of_ble rfl)
    refine Wk.nil (AW.ret ?_)
    rw [show leftI l (D.row es).tot = (l : Int) - (es.length : Int) from (if_pos (by simp only [D.tot]; omega)).trans (by simp only [D.tot, ht, Nat.add_zero])]
    exact RetQ.ret [] (.cons rfl .nil) ⟨rfl, rfl⟩ none_kept
  · apply AW.list
    apply Wk.mv (by conv => lhs; whnf) (lt_of_ble rfl)
    apply Wk.bin rfl rfl (r := .bool true) (fun w => by simp [go_sem] <;> omega) (lt_of_ble rfl)
    refine Wk.nil ?_
    refine AW.cond rfl (fun _ => ?_) (fun hc => by cases hc)
    refine AW.seq ?_
    apply AW.list
    apply Wk.asg (by conv => lhs; whnf) (lt_of_ble rfl)
    refine Wk.nil (AW.ret ?_)
    repeat (first | refine thenA_ret ?_ | refine inBlockA_ret ?_)
    rw [show leftI l (D.row es).tot = -1 from if_neg (by simp only [D.tot]; omega)]
    exact RetQ.ret [] (.cons rfl .nil) ⟨rfl, rfl⟩ none_kept
set_option maxHeartbeats 4000000 in
set_option maxRecDepth 100000 in
theorem toSegPart_ok (ds : List D) (h : Sh.ok (.struct [.int, .int, (.slice .byte)]) ds) (ht : tots ds ≤ 1048576) : DataOk Try.prog 78 [.agg (ds.map .d)] (.agg (ds.map .d)) := by
  have qf_0 := ok_rec h
  clear h
  obtain ⟨_, _, rfl, hf0, qf_1⟩ := oks_cons qf_0
  clear qf_0
  obtain ⟨nf0, inf0, rfl⟩ := ok_num hf0
  obtain ⟨_, _, rfl, hf1, qf_2⟩ := oks_cons qf_1
  clear qf_1
  obtain ⟨nf1, inf1, rfl⟩ := ok_num hf1
  obtain ⟨_, _, rfl, hf2, qf_3⟩ := oks_cons qf_2
  clear qf_2
  obtain ⟨esf2, rfl, hef2⟩ := ok_row hf2
  obtain rfl := oks_nil qf_3
  have cf2 := toByteS_ok esf2 hef2 (by simp only [tots_append, tots] at ht; omega)
  simp only [List.cons_append, List.nil_append, List.append_nil, List.map_cons, List.map_nil]
  refine Spec.intro (n := 15) (rv := [.cell 2 115]) Try.func78 rfl rfl rfl (by simp) fun C hN hX => ?_
  refine AW.seq ?_
  apply AW.list
  apply Wk.bx 1 rfl rfl (lt_of_ble rfl)
  apply Wk.alc 2 [.int .i64 0, .int .i64 0, .slice none 0 0] ze115 rfl rfl (lt_of_ble rfl)
  refine Wk.nil ?_
  refine AW.seq ?_
  apply AW.list
  apply Wk.alc 3 [.int .i64 0, .int .i64 0, .slice none 0 0] ze115 rfl rfl (lt_of_ble rfl)
  refine Wk.nil ?_
  refine AW.seq ?_
  apply AW.list
  apply Wk.fad 0 0 false fd113_0 rfl (lt_of_ble rfl)
  apply Wk.ld (i := 1) 1 false ty3 rfl rfl (by conv => lhs; whnf) (lt_of_ble rfl)
  apply Wk.fad 0 0 false fd115_0 rfl (lt_of_ble rfl)
  apply Wk.sto (i := 3) 1 false ty3 rfl rfl rfl rfl (Nat.le_of_ble_eq_true rfl) (lt_of_ble rfl)
  refine Wk.nil ?_
  refine AW.seq ?_
  apply AW.list
  apply Wk.fad 1 0 false fd113_1 rfl (lt_of_ble rfl)
  apply Wk.ld (i := 1) 1 false ty3 rfl rfl (by conv => lhs; whnf) (lt_of_ble rfl)
  apply Wk.fad 1 0 false fd115_1 rfl (lt_of_ble rfl)
  apply Wk.sto (i := 3) 1 false ty3 rfl rfl rfl rfl (Nat.le_of_ble_eq_true rfl) (lt_of_ble rfl)
  refine Wk.nil ?_
  refine AW.seq ?_
  apply AW.list
  apply Wk.fad 2 0 false fd113_2 rfl (lt_of_ble rfl)
  apply Wk.ld (i := 1) 1 false ty64 rfl rfl (by conv => lhs; whnf) (lt_of_ble rfl)
  apply Wk.dat cf2 Try.func114 rfl rfl rfl rfl rfl (lt_of_ble rfl)
  apply Wk.fad 2 0 false fd115_2 rfl (lt_of_ble rfl)
  apply Wk.sto (i := 3) 1 false ty64 rfl rfl rfl rfl (Nat.le_of_ble_eq_true rfl) (lt_of_ble rfl)
  refine Wk.nil ?_
  refine AW.seq ?_
  apply AW.list
  apply Wk.ld (i := 3) 3 true ty115 rfl rfl (by conv => lhs; whnf) (lt_of_ble rfl)
  apply Wk.sto (i := 2) 3 true ty115 rfl rfl rfl rfl (Nat.le_of_ble_eq_true rfl) (lt_of_ble rfl)
  refine Wk.nil (AW.ret ?_)
  exact RetQ.ret [] (.cons ⟨2, 0, _, _, _, rfl, rfl, ty115, rfl⟩ .nil) ⟨rfl, rfl⟩ none_kept
set_option maxHeartbeats 4000000 in
set_option maxRecDepth 100000 in
theorem eqSegPart_ok (ds : List D) (h : Sh.ok (.struct [.int, .int, (.slice .byte)]) ds) : DataOk Try.prog 84 [.agg (ds.map .d), .agg (ds.map .d)] (.d (.v (.bool true))) := by
  have qf_0 := ok_rec h
  clear h
  obtain ⟨_, _, rfl, hf0, qf_1⟩ := oks_cons qf_0
  clear qf_0
  obtain ⟨nf0, inf0, rfl⟩ := ok_num hf0
  obtain ⟨_, _, rfl, hf1, qf_2⟩ := oks_cons qf_1
  clear qf_1
  obtain ⟨nf1, inf1, rfl⟩ := ok_num hf1
  obtain ⟨_, _, rfl, hf2, qf_3⟩ := oks_cons qf_2
  clear qf_2
  obtain ⟨esf2, rfl, hef2⟩ := ok_row hf2
  obtain rfl := oks_nil qf_3
  have cf2 := eqByteS_ok esf2 hef2
  simp only [List.cons_append, List.nil_append, List.append_nil, List.map_cons, List.map_nil]
  refine Spec.intro (n := 21) (rv := [.tmp 4]) Try.func84 rfl rfl rfl (by simp) fun C hN hX => ?_
  refine AW.seq ?_
  apply AW.list
  apply Wk.bx 2 rfl rfl (lt_of_ble rfl)
  apply Wk.bx 3 rfl rfl (lt_of_ble rfl)
  apply Wk.asg (by conv => lhs; whnf) (lt_of_ble rfl)
  refine Wk.nil ?_
  refine AW.seq (AW.seq ?_)
  apply AW.list
  apply Wk.fad 0 0 false fd115_0 rfl (lt_of_ble rfl)
  apply Wk.ld (i := 2) 1 false ty3 rfl rfl (by conv => lhs; whnf) (lt_of_ble rfl)
  apply Wk.fad 0 0 false fd115_0 rfl (lt_of_ble rfl)
  apply Wk.ld (i := 3) 1 false ty3 rfl rfl (by conv => lhs; whnf) (lt_of_ble rfl)
  apply Wk.bin rfl rfl (r := .bool false) (fun w => by simp [go_sem]) (lt_of_ble rfl)
  refine Wk.nil ?_
  refine AW.cond rfl (fun hc => by cases hc) (fun _ => AW.skip (thenA_normal ?_))
  refine AW.seq (AW.seq ?_)
  apply AW.list
  apply Wk.fad 1 0 false fd115_1 rfl (lt_of_ble rfl)
  apply Wk.ld (i := 2) 1 false ty3 rfl rfl (by conv => lhs; whnf) (lt_of_ble rfl)
  apply Wk.fad 1 0 false fd115_1 rfl (lt_of_ble rfl)
  apply Wk.ld (i := 3) 1 false ty3 rfl rfl (by conv => lhs; whnf) (lt_of_ble rfl)
  apply Wk.bin rfl rfl (r := .bool false) (fun w => by simp [go_sem]) (lt_of_ble rfl)
  refine Wk.nil ?_
  refine AW.cond rfl (fun hc => by cases hc) (fun _ => AW.skip (thenA_normal ?_))
  refine AW.seq (AW.seq ?_)
  apply AW.list
  apply Wk.fad 2 0 false fd115_2 rfl (lt_of_ble rfl)
  apply Wk.ld (i := 2) 1 false ty64 rfl rfl (by conv => lhs; whnf) (lt_of_ble rfl)
  apply Wk.fad 2 0 false fd115_2 rfl (lt_of_ble rfl)
  apply Wk.ld (i := 3) 1 false ty64 rfl rfl (by conv => lhs; whnf) (lt_of_ble rfl)
  apply Wk.dat cf2 Try.func116 rfl rfl rfl rfl rfl (lt_of_ble rfl)
  apply Wk.un rfl (fun w => by simp [go_sem] <;> rfl) (lt_of_ble rfl)
  refine Wk.nil ?_
  refine AW.cond rfl (fun hc => by cases hc) (fun _ => AW.skip (thenA_normal ?_))
  refine AW.seq ?_
  apply AW.list
  apply Wk.asg (by conv => lhs; whnf) (lt_of_ble rfl)
  refine Wk.nil (AW.ret ?_)
  exact RetQ.ret [] (.cons rfl .nil) ⟨rfl, rfl⟩ none_kept
set_option maxHeartbeats 4000000 in
set_option maxRecDepth 100000 in
theorem szSegPart_ok (ds : List D) (h : Sh.ok (.struct [.int, .int, (.slice .byte)]) ds) (l : Nat) (hl : l ≤ 1048576) : DataOk Try.prog 76 [.agg (ds.map .d), .d (.v (.int .i64 (l : Int)))] (.d (.v (.int .i64 (leftI l (tots ds))))) := by
  have qf_0 := ok_rec h
  clear h
  obtain ⟨_, _, rfl, hf0, qf_1⟩ := oks_cons qf_0
  clear qf_0
  obtain ⟨nf0, inf0, rfl⟩ := ok_num hf0
  obtain ⟨_, _, rfl, hf1, qf_2⟩ := oks_cons qf_1
  clear qf_1
  obtain ⟨nf1, inf1, rfl⟩ := ok_num hf1
  obtain ⟨_, _, rfl, hf2, qf_3⟩ := oks_cons qf_2
  clear qf_2
  obtain ⟨esf2, rfl, hef2⟩ := ok_row hf2
  obtain rfl := oks_nil qf_3
  have cf2 := fun (l : Nat) (hl : l ≤ 1048576) => szByteS_ok esf2 hef2 l hl
  obtain ⟨tf2, htf2⟩ : ∃ t, (D.row esf2).tot = t := ⟨_, rfl⟩
  rw [htf2] at cf2
  have hsum : tots ([D.v (.int .i64 nf0)] ++ ([D.v (.int .i64 nf1)] ++ ([D.row esf2] ++ []))) = tf2 := by
    simp only [tots_append, tots, htf2, D.tot.eq_1, Nat.add_zero, Nat.zero_add]
    try omega
  rw [hsum]
  clear hsum
  simp only [List.cons_append, List.nil_append, List.append_nil, List.map_cons, List.map_nil]
  refine Spec.intro (n := 12) (rv := [.tmp 4]) Try.func76 rfl rfl rfl (by simp) fun C hN hX => ?_
  refine AW.seq ?_
  apply AW.list
  apply Wk.bx 2 rfl rfl (lt_of_ble rfl)
  apply Wk.asg (by conv => lhs; whnf) (lt_of_ble rfl)
  refine Wk.nil ?_
  have df2 := cf2 l (by omega)
  refine AW.seq ?_
  apply AW.list
  apply Wk.fad 2 0 false fd113_2 rfl (lt_of_ble rfl)
  apply Wk.ld (i := 2) 1 false ty64 rfl rfl (by conv => lhs; whnf) (lt_of_ble rfl)
  apply Wk.mv (by conv => lhs; whnf) (lt_of_ble rfl)
  apply Wk.dat df2 Try.func112 rfl rfl rfl rfl rfl (lt_of_ble rfl)
  apply Wk.asg (by conv => lhs; whnf) (lt_of_ble rfl)
  refine Wk.nil ?_
  refine AW.seq (AW.seq ?_)
  by_cases g0 : tf2 ≤ l
  case neg =>
    rw [show leftI l tf2 = -1 from if_neg g0]
    apply AW.list
    apply Wk.mv (by conv => lhs; whnf) (lt_of_ble rfl)
    apply Wk.bin rfl rfl (r := .bool true) (fun w => by simp [go_sem]) (lt_of_ble rfl)
    refine Wk.nil ?_
    refine AW.cond rfl (fun _ => ?_) (fun hc => by cases hc)
    refine AW.seq ?_
    apply AW.list
    apply Wk.asg (by conv => lhs; whnf) (lt_of_ble rfl)
    refine Wk.nil (AW.ret ?_)
    repeat (first | refine thenA_ret ?_ | refine inBlockA_ret ?_)
    exact RetQ.ret [] (.cons rfl .nil) ⟨rfl, rfl⟩ none_kept
  rw [show leftI l tf2 = (l : Int) - (tf2 : Int) from if_pos g0]
  apply AW.list
  apply Wk.mv (by conv => lhs; whnf) (lt_of_ble rfl)
  apply Wk.bin rfl rfl (r := .bool false) (fun w => by simp [go_sem] <;> omega) (lt_of_ble rfl)
  refine Wk.nil ?_
  refine AW.cond rfl (fun hc => by cases hc) (fun _ => AW.skip (thenA_normal ?_))
  refine AW.seq ?_
  apply AW.list
  apply Wk.mv (by conv => lhs; whnf) (lt_of_ble rfl)
  apply Wk.asg (by conv => lhs; whnf) (lt_of_ble rfl)
  refine Wk.nil (AW.ret ?_)
  exact RetQ.ret [] (.cons rfl .nil) ⟨rfl, rfl⟩ none_kept
set_option maxHeartbeats 4000000 in
set_option maxRecDepth 100000 in
theorem toSegPartS_ok (es : List (List D)) (he : ∀ e ∈ es, Sh.ok (.struct [.int, .int, (.slice .byte)]) e) (ht : (D.row es).tot ≤ 1048576) : DataOk Try.prog 44 [.d (.row es)] (.d (.row es)) := by
  have hl : es.length ≤ 1048576 := by simp only [D.tot] at ht; omega
  have hz : ∀ c ∈ es, c.length = 3 := sh_lens he
  refine Spec.intro (n := 23) (rv := [.tmp 2]) Try.func44 rfl rfl rfl (by simp) fun C hN hX => ?_
  refine AW.seq ?_
  apply AW.list
  apply Wk.asg (by conv => lhs; whnf) (lt_of_ble rfl)
  refine Wk.nil ?_
  refine AW.seq ?_
  apply AW.list
  apply Wk.mv (by conv => lhs; whnf) (lt_of_ble rfl)
  apply Wk.len un24 rfl (lt_of_ble rfl)
  apply Wk.mks 7 3 es.length un31 ap115 ze115 rfl rfl rfl rfl (by omega) (lt_of_ble rfl)
  apply Wk.asg (by conv => lhs; whnf) (lt_of_ble rfl)
  refine Wk.nil ?_
  refine AW.seq (AW.seq ?_)
  apply AW.list
  apply Wk.asg (by conv => lhs; whnf) (lt_of_ble rfl)
  refine Wk.nil (AW.block ?_)
  refine AW.loop (fun q : Nat => St.of 23 [(0, .d (.row es)), (3, .own 7 0), (4, .d (.v (.int .i64 (q : Int))))] [(7, .own 0 115 3 (mixA es [.int .i64 0, .int .i64 0, .slice none 0 0] q))]) (fun q => q ≤ es.length) (fun q => es.length - q) 0 (Nat.zero_le _) ?_ (fun q hq => ?_)
  · exact fun a w => Rel.keep ⟨rfl, .cons rfl rfl (.cons rfl rfl (.cons rfl rfl .nil)), .cons (by rw [mix_zero]; rfl) (by exact mix_within _ _ _) .nil, hN.mono (by simp [keys])⟩
  refine AW.seq (AW.seq ?_)
  apply AW.list
  apply Wk.mv (by conv => lhs; whnf) (lt_of_ble rfl)
  apply Wk.mv (by conv => lhs; whnf) (lt_of_ble rfl)
  apply Wk.len un24 rfl (lt_of_ble rfl)
  apply Wk.bin rfl rfl (fun w => by simp [go_sem] <;> rfl) (lt_of_ble rfl)
  refine Wk.nil ?_
  refine AW.cond rfl (fun hc => ?_) (fun hc => ?_)
  · have hlt : q < es.length := by simpa using hc
    obtain ⟨e, hd⟩ : ∃ e, es[q]? = some e := ⟨_, List.getElem?_eq_getElem hlt⟩
    have hse := he e (List.mem_of_getElem? hd)
    have hel : e.length = 3 := hz e (List.mem_of_getElem? hd)
    have hms := mix_set (es := es) (zs := [.int .i64 0, .int .i64 0, .slice none 0 0]) hd (by rw [hel]; rfl)
    have hmg := mix_get (es := es) (zs := [.int .i64 0, .int .i64 0, .slice none 0 0]) hlt
    have hml := mix_len (es := es) (zs := [.int .i64 0, .int .i64 0, .slice none 0 0]) (Nat.le_of_lt hlt)
    refine AW.skip ?_
    repeat (first | refine thenA_normal ?_ | refine inBlockA_normal ?_)
    refine AW.seq (AW.block ?_)
    apply AW.list
    have ht1 : tots e ≤ 1048576 := by have := totss_get hd; simp only [D.tot] at ht; omega
    apply Wk.mv (by conv => lhs; whnf) (lt_of_ble rfl)
    apply Wk.mv (by conv => lhs; whnf) (lt_of_ble rfl)
    apply Wk.mv (by conv => lhs; whnf) (lt_of_ble rfl)
    apply Wk.mv (by conv => lhs; whnf) (lt_of_ble rfl)
    apply Wk.iad 3 true un24 ty113 rfl rfl (by omega) hz (lt_of_ble rfl)
    apply Wk.ldr 3 true ty113 rfl hd (partA_all hel) (lt_of_ble rfl)
    apply Wk.dat (toSegPart_ok e hse ht1) Try.func78 rfl rfl (by exact congrArg (fun q => [A.agg q]) (sh_nrm _ _ hse)) (by exact within1 e) (by exact withins_d [] e) (lt_of_ble rfl)
    apply Wk.iado 7 3 true un31 ty115 rfl rfl rfl (by rw [hml]; exact hlt) (lt_of_ble rfl)
    apply Wk.stoo 7 q 0 3 true ty115 rfl rfl (by omega) hmg rfl (by rw [List.length_map]; exact hel) (by decide) (lt_of_ble rfl)
    refine Wk.nil ?_
    repeat (first | refine thenA_normal ?_ | refine inBlockA_normal ?_)
    apply AW.list
    apply Wk.mv (by conv => lhs; whnf) (lt_of_ble rfl)
    apply Wk.addi rfl rfl (by omega) (lt_of_ble rfl)
    apply Wk.asg (by conv => lhs; whnf) (lt_of_ble rfl)
    refine Wk.nil ?_
    exact ⟨q + 1, by omega, by omega, fun a w => Rel.keep ⟨rfl, .cons rfl rfl (.cons rfl rfl (.cons rfl rfl .nil)), .cons (congrArg (Bx.own 0 115 3) hms) (by exact mix_within _ _ _) .nil, hN.mono (by simp [keys])⟩⟩
  · obtain rfl : q = es.length := by
      have : ¬ q < es.length := by simpa using hc
      omega
    refine AW.exit ?_
    repeat (first | refine inBlockA_same ?_ | refine thenA_exit ?_)
    repeat (first | refine thenA_normal ?_ | refine inBlockA_normal ?_)
    refine AW.seq ?_
    apply AW.list
    apply Wk.mv (by conv => lhs; whnf) (lt_of_ble rfl)
    apply Wk.asg (by conv => lhs; whnf) (lt_of_ble rfl)
    refine Wk.nil ?_
    repeat (first | refine thenA_normal ?_ | refine inBlockA_normal ?_)
    refine AW.thaw (t := 2) (i := 7) es rfl rfl (by rw [mix_end]; exact asData_sh he) hX.none ?_
    refine AW.ret ?_
    repeat (first | refine thenA_ret ?_ | refine inBlockA_ret ?_)
    exact RetQ.ret [] (.cons rfl .nil) ⟨rfl, rfl⟩ none_kept
set_option maxHeartbeats 4000000 in
set_option maxRecDepth 100000 in
theorem eqSegPartS_ok (es : List (List D)) (he : ∀ e ∈ es, Sh.ok (.struct [.int, .int, (.slice .byte)]) e) : DataOk Try.prog 50 [.d (.row es), .d (.row es)] (.d (.v (.bool true))) := by
  have hz : ∀ c ∈ es, c.length = 3 := sh_lens he
  refine Spec.intro (n := 27) (rv := [.tmp 4]) Try.func50 rfl rfl rfl (by simp) fun C hN hX => ?_
  refine AW.bound (x := .tmp 0) (es := es) rfl fun hb => ?_
  refine AW.seq ?_
  apply AW.list
  apply Wk.asg (by conv => lhs; whnf) (lt_of_ble rfl)
  refine Wk.nil ?_
  refine AW.seq (AW.seq ?_)
  apply AW.list
  apply Wk.mv (by conv => lhs; whnf) (lt_of_ble rfl)
  apply Wk.len un31 rfl (lt_of_ble rfl)
  apply Wk.mv (by conv => lhs; whnf) (lt_of_ble rfl)
  apply Wk.len un31 rfl (lt_of_ble rfl)
  apply Wk.bin rfl rfl (fun w => by simp [go_sem] <;> rfl) (lt_of_ble rfl)
  refine Wk.nil ?_
  refine AW.cond rfl (fun hc => by simp at hc) (fun _ => AW.skip (thenA_normal ?_))
  refine AW.seq (AW.seq ?_)
  apply AW.list
  apply Wk.asg (by conv => lhs; whnf) (lt_of_ble rfl)
  refine Wk.nil (AW.block ?_)
  refine AW.loop (fun q : Nat => St.of 27 [(0, .d (.row es)), (1, .d (.row es)), (5, .d (.v (.int .i64 (q : Int))))] []) (fun q => q ≤ es.length) (fun q => es.length - q) 0 (Nat.zero_le _) ?_ (fun q hq => ?_)
  · exact fun a w => Rel.keep ⟨rfl, .cons rfl rfl (.cons rfl rfl (.cons rfl rfl .nil)), .nil, hN⟩
  refine AW.seq (AW.seq ?_)
  apply AW.list
  apply Wk.mv (by conv => lhs; whnf) (lt_of_ble rfl)
  apply Wk.mv (by conv => lhs; whnf) (lt_of_ble rfl)
  apply Wk.len un31 rfl (lt_of_ble rfl)
  apply Wk.bin rfl rfl (fun w => by simp [go_sem] <;> rfl) (lt_of_ble rfl)
  refine Wk.nil ?_
  refine AW.cond rfl (fun hc => ?_) (fun hc => ?_)
  · have hlt : q < es.length := by simpa using hc
    obtain ⟨e, hd⟩ : ∃ e, es[q]? = some e := ⟨_, List.getElem?_eq_getElem hlt⟩
    have hse := he e (List.mem_of_getElem? hd)
    have hel : e.length = 3 := hz e (List.mem_of_getElem? hd)
    refine AW.skip ?_
    repeat (first | refine thenA_normal ?_ | refine inBlockA_normal ?_)
    refine AW.seq (AW.block (AW.seq ?_))
    apply AW.draw (hm := hmix) (cs := _)
    · apply Wk.mv (by conv => lhs; whnf) (lt_of_ble rfl)
      apply Wk.mv (by conv => lhs; whnf) (lt_of_ble rfl)
      apply Wk.iad 3 true un31 ty115 rfl rfl (by omega) hz (lt_of_ble rfl)
      apply Wk.ldr 3 true ty115 rfl hd (partA_all hel) (lt_of_ble rfl)
      apply Wk.mv (by conv => lhs; whnf) (lt_of_ble rfl)
      apply Wk.mv (by conv => lhs; whnf) (lt_of_ble rfl)
      apply Wk.iad 3 true un31 ty115 rfl rfl (by omega) hz (lt_of_ble rfl)
      apply Wk.ldr 3 true ty115 rfl hd (partA_all hel) (lt_of_ble rfl)
      apply Wk.dat (eqSegPart_ok e hse) Try.func84 rfl rfl (by exact congrArg (fun q => [A.agg q, A.agg q]) (sh_nrm _ _ hse)) (by exact within2 e) rfl (lt_of_ble rfl)
      apply Wk.un rfl (fun w => by simp [go_sem] <;> rfl) (lt_of_ble rfl)
      refine Wk.nil ?_
      refine AW.cond rfl (fun hn => by cases hn) (fun hn => ?_)
      refine AW.skip ?_
      repeat (first | refine thenA_normal ?_ | refine inBlockA_normal ?_)
      apply AW.list
      apply Wk.mv (by conv => lhs; whnf) (lt_of_ble rfl)
      apply Wk.addi rfl rfl (by omega) (lt_of_ble rfl)
      apply Wk.asg (by conv => lhs; whnf) (lt_of_ble rfl)
      refine Wk.nil ?_
      exact ⟨q + 1, by omega, by omega, fun a w => Rel.keep ⟨rfl, .cons rfl rfl (.cons rfl rfl (.cons rfl rfl .nil)), .nil, hN⟩⟩
    · rfl
    · rfl
  · refine AW.exit ?_
    repeat (first | refine inBlockA_same ?_ | refine thenA_exit ?_)
    repeat (first | refine thenA_normal ?_ | refine inBlockA_normal ?_)
    refine AW.seq ?_
    apply AW.list
    apply Wk.asg (by conv => lhs; whnf) (lt_of_ble rfl)
    refine Wk.nil (AW.ret ?_)
    repeat (first | refine thenA_ret ?_ | refine inBlockA_ret ?_)
    exact RetQ.ret [] (.cons rfl .nil) ⟨rfl, rfl⟩ none_kept
set_option maxHeartbeats 4000000 in
set_option maxRecDepth 100000 in
theorem szSegPartS_ok (es : List (List D)) (he : ∀ e ∈ es, Sh.ok (.struct [.int, .int, (.slice .byte)]) e) (l : Nat) (hl : l ≤ 1048576) : DataOk Try.prog 39 [.d (.row es), .d (.v (.int .i64 (l : Int)))] (.d (.v (.int .i64 (leftI l (D.row es).tot)))) := by
  have hz : ∀ c ∈ es, c.length = 3 := sh_lens he
  refine Spec.intro (n := 27) (rv := [.tmp 4]) Try.func39 rfl rfl rfl (by simp) fun C hN hX => ?_
  refine AW.bound (x := .tmp 0) (es := es) rfl fun hb => ?_
  refine AW.seq ?_
  apply AW.list
  apply Wk.asg (by conv => lhs; whnf) (lt_of_ble rfl)
  refine Wk.nil ?_
  refine AW.seq ?_
  apply AW.list
  apply Wk.mv (by conv => lhs; whnf) (lt_of_ble rfl)
  apply Wk.mv (by conv => lhs; whnf) (lt_of_ble rfl)
  apply Wk.len un24 rfl (lt_of_ble rfl)
  apply Wk.subi rfl rfl (by omega) (lt_of_ble rfl)
  apply Wk.asg (by conv => lhs; whnf) (lt_of_ble rfl)
  refine Wk.nil ?_
  refine AW.seq (AW.seq ?_)
  by_cases h0 : es.length ≤ l
  · apply AW.list
    apply Wk.mv (by conv => lhs; whnf) (lt_of_ble rfl)
    apply Wk.bin rfl rfl (r := .bool false) (fun w => by simp [go_sem] <;> omega) (lt_of_ble rfl)
    refine Wk.nil ?_
    refine AW.cond rfl (fun hc => by cases hc) (fun _ => AW.skip (thenA_normal ?_))
    refine AW.seq (AW.seq ?_)
    apply AW.list
    apply Wk.asg (by conv => lhs; whnf) (lt_of_ble rfl)
    refine Wk.nil (AW.block ?_)
    refine AW.loop (fun q : Nat => St.of 27 [(0, .d (.row es)), (1, .d (.v (.int .i64 ((l : Int) - (es.length : Int) - (totss (es.take q) : Int))))), (5, .d (.v (.int .i64 (q : Int))))] []) (fun q => q ≤ es.length ∧ es.length + totss (es.take q) ≤ l) (fun q => es.length - q) 0 ⟨Nat.zero_le _, by simpa [totss] using h0⟩ ?_ (fun q hq => ?_)
    · exact fun a w => Rel.keep ⟨rfl, .cons rfl rfl (.cons (by simp [totss]; rfl) rfl (.cons rfl rfl .nil)), .nil, hN⟩
    obtain ⟨hq, hqt⟩ := hq
    refine AW.seq (AW.seq ?_)
    apply AW.list
    apply Wk.mv (by conv => lhs; whnf) (lt_of_ble rfl)
    apply Wk.mv (by conv => lhs; whnf) (lt_of_ble rfl)
    apply Wk.len un24 rfl (lt_of_ble rfl)
    apply Wk.bin rfl rfl (fun w => by simp [go_sem] <;> rfl) (lt_of_ble rfl)
    refine Wk.nil ?_
    refine AW.cond rfl (fun hc => ?_) (fun hc => ?_)
    · have hlt : q < es.length := by simpa using hc
      obtain ⟨e, hd⟩ : ∃ e, es[q]? = some e := ⟨_, List.getElem?_eq_getElem hlt⟩
      have hse := he e (List.mem_of_getElem? hd)
      have hel : e.length = 3 := hz e (List.mem_of_getElem? hd)
      have htk := totss_take hd
      have hle := totss_le es (q + 1)
      obtain ⟨l2, hl2⟩ : ∃ l2 : Nat, (l : Int) - (es.length : Int) - (totss (es.take q) : Int) = (l2 : Int) := ⟨l - es.length - totss (es.take q), by omega⟩
      refine AW.skip ?_
      repeat (first | refine thenA_normal ?_ | refine inBlockA_normal ?_)
      rw [hl2]
      refine AW.seq (AW.block (AW.seq ?_))
      apply AW.list
      have hc1 := szSegPart_ok e hse l2 (by omega)
      apply Wk.mv (by conv => lhs; whnf) (lt_of_ble rfl)
      apply Wk.mv (by conv => lhs; whnf) (lt_of_ble rfl)
      apply Wk.iad 3 true un24 ty113 rfl rfl (by omega) hz (lt_of_ble rfl)
      apply Wk.ldr 3 true ty113 rfl hd (partA_all hel) (lt_of_ble rfl)
      apply Wk.mv (by conv => lhs; whnf) (lt_of_ble rfl)
      apply Wk.dat hc1 Try.func76 rfl rfl (by exact congrArg (fun q => [A.agg q, A.d (.v (.int .i64 (l2 : Int)))]) (sh_nrm _ _ hse)) (by exact within3 e _) rfl (lt_of_ble rfl)
      apply Wk.asg (by conv => lhs; whnf) (lt_of_ble rfl)
      refine Wk.nil ?_
      refine AW.seq ?_
      by_cases h1 : tots e ≤ l2
      · rw [show leftI l2 (tots e) = (l2 : Int) - ((tots e : Nat) : Int) from if_pos h1]
        apply AW.list
        apply Wk.mv (by conv => lhs; whnf) (lt_of_ble rfl)
        apply Wk.bin rfl rfl (r := .bool false) (fun w => by simp [go_sem] <;> omega) (lt_of_ble rfl)
        refine Wk.nil ?_
        refine AW.cond rfl (fun hn => by cases hn) (fun hn => ?_)
        refine AW.skip ?_
        repeat (first | refine thenA_normal ?_ | refine inBlockA_normal ?_)
        apply AW.list
        apply Wk.mv (by conv => lhs; whnf) (lt_of_ble rfl)
        apply Wk.addi rfl rfl (by omega) (lt_of_ble rfl)
        apply Wk.asg (by conv => lhs; whnf) (lt_of_ble rfl)
        refine Wk.nil ?_
        exact ⟨q + 1, ⟨by omega, by omega⟩, by omega, fun a w => Rel.keep ⟨rfl, .cons rfl rfl (.cons (congrArg (fun z : Int => A.d (.v (.int .i64 z))) (by omega)) rfl (.cons rfl rfl .nil)), .nil, hN⟩⟩
      · rw [show leftI l2 (tots e) = -1 from if_neg h1]
        apply AW.list
        apply Wk.mv (by conv => lhs; whnf) (lt_of_ble rfl)
        apply Wk.bin rfl rfl (r := .bool true) (fun w => by simp [go_sem]) (lt_of_ble rfl)
        refine Wk.nil ?_
        refine AW.cond rfl (fun _ => ?_) (fun hn => by cases hn)
        refine AW.seq ?_
        apply AW.list
        apply Wk.asg (by conv => lhs; whnf) (lt_of_ble rfl)
        refine Wk.nil (AW.ret ?_)
        repeat (first | refine thenA_ret ?_ | refine inBlockA_ret ?_)
        rw [show leftI l (D.row es).tot = -1 from if_neg (by simp only [D.tot]; omega)]
        exact RetQ.ret [] (.cons rfl .nil) ⟨rfl, rfl⟩ none_kept
    · obtain rfl : q = es.length := by
        have : ¬ q < es.length := by simpa using hc
        omega
      refine AW.exit ?_
      repeat (first | refine inBlockA_same ?_ | refine thenA_exit ?_)
      repeat (first | refine thenA_normal ?_ | refine inBlockA_normal ?_)
      refine AW.seq ?_
      apply AW.list
      apply Wk.mv (by conv => lhs; whnf) (lt_of_ble rfl)
      apply Wk.asg (by conv => lhs; whnf) (lt_of_ble rfl)
      refine Wk.nil (AW.ret ?_)
      repeat (first | refine thenA_ret ?_ | refine inBlockA_ret ?_)
      rw [List.take_length] at hqt
      rw [show leftI l (D.row es).tot = (l : Int) - (es.length : Int) - (totss (es.take es.length) : Int) from (if_pos (by simp only [D.tot]; omega)).trans (by simp only [D.tot, List.take_length]; omega)]
      exact RetQ.ret [] (.cons rfl .nil) ⟨rfl, rfl⟩ none_kept
  · apply AW.list
    apply Wk.mv (by conv => lhs; whnf) (lt_of_ble rfl)
    apply Wk.bin rfl rfl (r := .bool true) (fun w => by simp [go_sem] <;> omega) (lt_of_ble rfl)
    refine Wk.nil ?_
    refine AW.cond rfl (fun _ => ?_) (fun hc => by cases hc)
    refine AW.seq ?_
    apply AW.list
    apply Wk.asg (by conv => lhs; whnf) (lt_of_ble rfl)
    refine Wk.nil (AW.ret ?_)
    repeat (first | refine thenA_ret ?_ | refine inBlockA_ret ?_)
    rw [show leftI l (D.row es).tot = -1 from if_neg (by simp only [D.tot]; omega)]
    exact RetQ.ret [] (.cons rfl .nil) ⟨rfl, rfl⟩ none_kept
set_option maxHeartbeats 4000000 in
set_option maxRecDepth 100000 in
theorem toTxState_ok (ds : List D) (h : Sh.ok (.struct [.int, .int, (.slice (.struct [.int, .int, (.slice .byte)])), .int, (.slice (.struct [.int, .int, (.slice .byte)])), .bool, .int, .bool, .int, .bool]) ds) (ht : tots ds ≤ 1048576) : DataOk Try.prog 13 [.agg (ds.map .d)] (.agg (ds.map .d)) := by
  have qf_0 := ok_rec h
  clear h
  obtain ⟨_, _, rfl, hf0, qf_1⟩ := oks_cons qf_0
  clear qf_0
  obtain ⟨nf0, inf0, rfl⟩ := ok_num hf0
  obtain ⟨_, _, rfl, hf1, qf_2⟩ := oks_cons qf_1
  clear qf_1
  obtain ⟨nf1, inf1, rfl⟩ := ok_num hf1
  obtain ⟨_, _, rfl, hf2, qf_3⟩ := oks_cons qf_2
  clear qf_2
  obtain ⟨esf2, rfl, hef2⟩ := ok_row hf2
  obtain ⟨_, _, rfl, hf3, qf_4⟩ := oks_cons qf_3
  clear qf_3
  obtain ⟨nf3, inf3, rfl⟩ := ok_num hf3
  obtain ⟨_, _, rfl, hf4, qf_5⟩ := oks_cons qf_4
  clear qf_4
  obtain ⟨esf4, rfl, hef4⟩ := ok_row hf4
  obtain ⟨_, _, rfl, hf5, qf_6⟩ := oks_cons qf_5
  clear qf_5
  obtain ⟨bf5, rfl⟩ := ok_truth hf5
  obtain ⟨_, _, rfl, hf6, qf_7⟩ := oks_cons qf_6
  clear qf_6
  obtain ⟨nf6, inf6, rfl⟩ := ok_num hf6
  obtain ⟨_, _, rfl, hf7, qf_8⟩ := oks_cons qf_7
  clear qf_7
  obtain ⟨bf7, rfl⟩ := ok_truth hf7
  obtain ⟨_, _, rfl, hf8, qf_9⟩ := oks_cons qf_8
  clear qf_8
  obtain ⟨nf8, inf8, rfl⟩ := ok_num hf8
  obtain ⟨_, _, rfl, hf9, qf_10⟩ := oks_cons qf_9
  clear qf_9
  obtain ⟨bf9, rfl⟩ := ok_truth hf9
  obtain rfl := oks_nil qf_10
  have cf2 := toSegPartS_ok esf2 hef2 (by simp only [tots_append, tots] at ht; omega)
  have cf4 := toSegPartS_ok esf4 hef4 (by simp only [tots_append, tots] at ht; omega)
  simp only [List.cons_append, List.nil_append, List.append_nil, List.map_cons, List.map_nil]
  refine Spec.intro (n := 37) (rv := [.cell 2 33]) Try.func13 rfl rfl rfl (by simp) fun C hN hX => ?_
  refine AW.seq ?_
  apply AW.list
  apply Wk.bx 1 rfl rfl (lt_of_ble rfl)
  apply Wk.alc 2 [.int .i64 0, .int .i64 0, .slice none 0 0, .int .i64 0, .slice none 0 0, .bool false, .int .i64 0, .bool false, .int .i64 0, .bool false] ze33 rfl rfl (lt_of_ble rfl)
  refine Wk.nil ?_
  refine AW.seq ?_
  apply AW.list
  apply Wk.alc 3 [.int .i64 0, .int .i64 0, .slice none 0 0, .int .i64 0, .slice none 0 0, .bool false, .int .i64 0, .bool false, .int .i64 0, .bool false] ze33 rfl rfl (lt_of_ble rfl)
  refine Wk.nil ?_
  refine AW.seq ?_
  apply AW.list
  apply Wk.fad 0 0 false fd26_0 rfl (lt_of_ble rfl)
  apply Wk.ld (i := 1) 1 false ty3 rfl rfl (by conv => lhs; whnf) (lt_of_ble rfl)
  apply Wk.fad 0 0 false fd33_0 rfl (lt_of_ble rfl)
  apply Wk.sto (i := 3) 1 false ty3 rfl rfl rfl rfl (Nat.le_of_ble_eq_true rfl) (lt_of_ble rfl)
  refine Wk.nil ?_
  refine AW.seq ?_
  apply AW.list
  apply Wk.fad 1 0 false fd26_1 rfl (lt_of_ble rfl)
  apply Wk.ld (i := 1) 1 false ty3 rfl rfl (by conv => lhs; whnf) (lt_of_ble rfl)
  apply Wk.fad 1 0 false fd33_1 rfl (lt_of_ble rfl)
  apply Wk.sto (i := 3) 1 false ty3 rfl rfl rfl rfl (Nat.le_of_ble_eq_true rfl) (lt_of_ble rfl)
  refine Wk.nil ?_
  skip
  refine AW.keep (n := 37) (ts := [(1, .ptr 1 0), (2, .ptr 2 0), (3, .ptr 3 0)]) (bs := [(1, .var [A.d (.v (.int .i64 nf0)), A.d (.v (.int .i64 nf1)), A.d (.row esf2), A.d (.v (.int .i64 nf3)), A.d (.row esf4), A.d (.v (.bool bf5)), A.d (.v (.int .i64 nf6)), A.d (.v (.bool bf7)), A.d (.v (.int .i64 nf8)), A.d (.v (.bool bf9))]), (2, .var [A.d (.v (.int .i64 0)), A.d (.v (.int .i64 0)), A.d (.v (.slice none 0 0)), A.d (.v (.int .i64 0)), A.d (.v (.slice none 0 0)), A.d (.v (.bool false)), A.d (.v (.int .i64 0)), A.d (.v (.bool false)), A.d (.v (.int .i64 0)), A.d (.v (.bool false))]), (3, .var [A.d (.v (.int .i64 nf0)), A.d (.v (.int .i64 nf1)), A.d (.v (.slice none 0 0)), A.d (.v (.int .i64 0)), A.d (.v (.slice none 0 0)), A.d (.v (.bool false)), A.d (.v (.int .i64 0)), A.d (.v (.bool false)), A.d (.v (.int .i64 0)), A.d (.v (.bool false))])]) ⟨rfl, .cons rfl rfl (.cons rfl rfl (.cons rfl rfl .nil)), .cons rfl rfl (.cons rfl rfl (.cons rfl rfl .nil)), hN.mono (by simp [keys])⟩ ?_
  refine AW.seq ?_
  apply AW.list
  apply Wk.fad 2 0 false fd26_2 rfl (lt_of_ble rfl)
  apply Wk.ld (i := 1) 1 false ty24 rfl rfl (by conv => lhs; whnf) (lt_of_ble rfl)
  apply Wk.dat cf2 Try.func44 rfl rfl rfl rfl rfl (lt_of_ble rfl)
  apply Wk.fad 2 0 false fd33_2 rfl (lt_of_ble rfl)
  apply Wk.sto (i := 3) 1 false ty31 rfl rfl rfl rfl (Nat.le_of_ble_eq_true rfl) (lt_of_ble rfl)
  refine Wk.nil ?_
  refine AW.seq ?_
  apply AW.list
  apply Wk.fad 3 0 false fd26_3 rfl (lt_of_ble rfl)
  apply Wk.ld (i := 1) 1 false ty3 rfl rfl (by conv => lhs; whnf) (lt_of_ble rfl)
  apply Wk.fad 3 0 false fd33_3 rfl (lt_of_ble rfl)
  apply Wk.sto (i := 3) 1 false ty3 rfl rfl rfl rfl (Nat.le_of_ble_eq_true rfl) (lt_of_ble rfl)
  refine Wk.nil ?_
  skip
  refine AW.keep (n := 37) (ts := [(1, .ptr 1 0), (2, .ptr 2 0), (3, .ptr 3 0)]) (bs := [(1, .var [A.d (.v (.int .i64 nf0)), A.d (.v (.int .i64 nf1)), A.d (.row esf2), A.d (.v (.int .i64 nf3)), A.d (.row esf4), A.d (.v (.bool bf5)), A.d (.v (.int .i64 nf6)), A.d (.v (.bool bf7)), A.d (.v (.int .i64 nf8)), A.d (.v (.bool bf9))]), (2, .var [A.d (.v (.int .i64 0)), A.d (.v (.int .i64 0)), A.d (.v (.slice none 0 0)), A.d (.v (.int .i64 0)), A.d (.v (.slice none 0 0)), A.d (.v (.bool false)), A.d (.v (.int .i64 0)), A.d (.v (.bool false)), A.d (.v (.int .i64 0)), A.d (.v (.bool false))]), (3, .var [A.d (.v (.int .i64 nf0)), A.d (.v (.int .i64 nf1)), A.d (.row esf2), A.d (.v (.int .i64 nf3)), A.d (.v (.slice none 0 0)), A.d (.v (.bool false)), A.d (.v (.int .i64 0)), A.d (.v (.bool false)), A.d (.v (.int .i64 0)), A.d (.v (.bool false))])]) ⟨rfl, .cons rfl rfl (.cons rfl rfl (.cons rfl rfl .nil)), .cons rfl rfl (.cons rfl rfl (.cons rfl rfl .nil)), hN.mono (by simp [keys])⟩ ?_
  refine AW.seq ?_
  apply AW.list
  apply Wk.fad 4 0 false fd26_4 rfl (lt_of_ble rfl)
  apply Wk.ld (i := 1) 1 false ty24 rfl rfl (by conv => lhs; whnf) (lt_of_ble rfl)
  apply Wk.dat cf4 Try.func44 rfl rfl rfl rfl rfl (lt_of_ble rfl)
  apply Wk.fad 4 0 false fd33_4 rfl (lt_of_ble rfl)
  apply Wk.sto (i := 3) 1 false ty31 rfl rfl rfl rfl (Nat.le_of_ble_eq_true rfl) (lt_of_ble rfl)
  refine Wk.nil ?_
  refine AW.seq ?_
  apply AW.list
  apply Wk.fad 5 0 false fd26_5 rfl (lt_of_ble rfl)
  apply Wk.ld (i := 1) 1 false ty4 rfl rfl (by conv => lhs; whnf) (lt_of_ble rfl)
  apply Wk.fad 5 0 false fd33_5 rfl (lt_of_ble rfl)
  apply Wk.sto (i := 3) 1 false ty4 rfl rfl rfl rfl (Nat.le_of_ble_eq_true rfl) (lt_of_ble rfl)
  refine Wk.nil ?_
  skip
  refine AW.keep (n := 37) (ts := [(1, .ptr 1 0), (2, .ptr 2 0), (3, .ptr 3 0)]) (bs := [(1, .var [A.d (.v (.int .i64 nf0)), A.d (.v (.int .i64 nf1)), A.d (.row esf2), A.d (.v (.int .i64 nf3)), A.d (.row esf4), A.d (.v (.bool bf5)), A.d (.v (.int .i64 nf6)), A.d (.v (.bool bf7)), A.d (.v (.int .i64 nf8)), A.d (.v (.bool bf9))]), (2, .var [A.d (.v (.int .i64 0)), A.d (.v (.int .i64 0)), A.d (.v (.slice none 0 0)), A.d (.v (.int .i64 0)), A.d (.v (.slice none 0 0)), A.d (.v (.bool false)), A.d (.v (.int .i64 0)), A.d (.v (.bool false)), A.d (.v (.int .i64 0)), A.d (.v (.bool false))]), (3, .var [A.d (.v (.int .i64 nf0)), A.d (.v (.int .i64 nf1)), A.d (.row esf2), A.d (.v (.int .i64 nf3)), A.d (.row esf4), A.d (.v (.bool bf5)), A.d (.v (.int .i64 0)), A.d (.v (.bool false)), A.d (.v (.int .i64 0)), A.d (.v (.bool false))])]) ⟨rfl, .cons rfl rfl (.cons rfl rfl (.cons rfl rfl .nil)), .cons rfl rfl (.cons rfl rfl (.cons rfl rfl .nil)), hN.mono (by simp [keys])⟩ ?_
  refine AW.seq ?_
  apply AW.list
  apply Wk.fad 6 0 false fd26_6 rfl (lt_of_ble rfl)
  apply Wk.ld (i := 1) 1 false ty3 rfl rfl (by conv => lhs; whnf) (lt_of_ble rfl)
  apply Wk.fad 6 0 false fd33_6 rfl (lt_of_ble rfl)
  apply Wk.sto (i := 3) 1 false ty3 rfl rfl rfl rfl (Nat.le_of_ble_eq_true rfl) (lt_of_ble rfl)
  refine Wk.nil ?_
  refine AW.seq ?_
  apply AW.list
  apply Wk.fad 7 0 false fd26_7 rfl (lt_of_ble rfl)
  apply Wk.ld (i := 1) 1 false ty4 rfl rfl (by conv => lhs; whnf) (lt_of_ble rfl)
  apply Wk.fad 7 0 false fd33_7 rfl (lt_of_ble rfl)
  apply Wk.sto (i := 3) 1 false ty4 rfl rfl rfl rfl (Nat.le_of_ble_eq_true rfl) (lt_of_ble rfl)
  refine Wk.nil ?_
  skip
  refine AW.keep (n := 37) (ts := [(1, .ptr 1 0), (2, .ptr 2 0), (3, .ptr 3 0)]) (bs := [(1, .var [A.d (.v (.int .i64 nf0)), A.d (.v (.int .i64 nf1)), A.d (.row esf2), A.d (.v (.int .i64 nf3)), A.d (.row esf4), A.d (.v (.bool bf5)), A.d (.v (.int .i64 nf6)), A.d (.v (.bool bf7)), A.d (.v (.int .i64 nf8)), A.d (.v (.bool bf9))]), (2, .var [A.d (.v (.int .i64 0)), A.d (.v (.int .i64 0)), A.d (.v (.slice none 0 0)), A.d (.v (.int .i64 0)), A.d (.v (.slice none 0 0)), A.d (.v (.bool false)), A.d (.v (.int .i64 0)), A.d (.v (.bool false)), A.d (.v (.int .i64 0)), A.d (.v (.bool false))]), (3, .var [A.d (.v (.int .i64 nf0)), A.d (.v (.int .i64 nf1)), A.d (.row esf2), A.d (.v (.int .i64 nf3)), A.d (.row esf4), A.d (.v (.bool bf5)), A.d (.v (.int .i64 nf6)), A.d (.v (.bool bf7)), A.d (.v (.int .i64 0)), A.d (.v (.bool false))])]) ⟨rfl, .cons rfl rfl (.cons rfl rfl (.cons rfl rfl .nil)), .cons rfl rfl (.cons rfl rfl (.cons rfl rfl .nil)), hN.mono (by simp [keys])⟩ ?_
  refine AW.seq ?_
  apply AW.list
  apply Wk.fad 8 0 false fd26_8 rfl (lt_of_ble rfl)
  apply Wk.ld (i := 1) 1 false ty3 rfl rfl (by conv => lhs; whnf) (lt_of_ble rfl)
  apply Wk.fad 8 0 false fd33_8 rfl (lt_of_ble rfl)
  apply Wk.sto (i := 3) 1 false ty3 rfl rfl rfl rfl (Nat.le_of_ble_eq_true rfl) (lt_of_ble rfl)
  refine Wk.nil ?_
  refine AW.seq ?_
  apply AW.list
  apply Wk.fad 9 0 false fd26_9 rfl (lt_of_ble rfl)
  apply Wk.ld (i := 1) 1 false ty4 rfl rfl (by conv => lhs; whnf) (lt_of_ble rfl)
  apply Wk.fad 9 0 false fd33_9 rfl (lt_of_ble rfl)
  apply Wk.sto (i := 3) 1 false ty4 rfl rfl rfl rfl (Nat.le_of_ble_eq_true rfl) (lt_of_ble rfl)
  refine Wk.nil ?_
  refine AW.seq ?_
  apply AW.list
  apply Wk.ld (i := 3) 10 true ty33 rfl rfl (by conv => lhs; whnf) (lt_of_ble rfl)
  apply Wk.sto (i := 2) 10 true ty33 rfl rfl rfl rfl (Nat.le_of_ble_eq_true rfl) (lt_of_ble rfl)
  refine Wk.nil (AW.ret ?_)
  exact RetQ.ret [] (.cons ⟨2, 0, _, _, _, rfl, rfl, ty33, rfl⟩ .nil) ⟨rfl, rfl⟩ none_kept
set_option maxHeartbeats 4000000 in
set_option maxRecDepth 100000 in
theorem eqTxState_ok (ds : List D) (h : Sh.ok (.struct [.int, .int, (.slice (.struct [.int, .int, (.slice .byte)])), .int, (.slice (.struct [.int, .int, (.slice .byte)])), .bool, .int, .bool, .int, .bool]) ds) : DataOk Try.prog 15 [.agg (ds.map .d), .agg (ds.map .d)] (.d (.v (.bool true))) := by
  have qf_0 := ok_rec h
  clear h
  obtain ⟨_, _, rfl, hf0, qf_1⟩ := oks_cons qf_0
  clear qf_0
  obtain ⟨nf0, inf0, rfl⟩ := ok_num hf0
  obtain ⟨_, _, rfl, hf1, qf_2⟩ := oks_cons qf_1
  clear qf_1
  obtain ⟨nf1, inf1, rfl⟩ := ok_num hf1
  obtain ⟨_, _, rfl, hf2, qf_3⟩ := oks_cons qf_2
  clear qf_2
  obtain ⟨esf2, rfl, hef2⟩ := ok_row hf2
  obtain ⟨_, _, rfl, hf3, qf_4⟩ := oks_cons qf_3
  clear qf_3
  obtain ⟨nf3, inf3, rfl⟩ := ok_num hf3
  obtain ⟨_, _, rfl, hf4, qf_5⟩ := oks_cons qf_4
  clear qf_4
  obtain ⟨esf4, rfl, hef4⟩ := ok_row hf4
  obtain ⟨_, _, rfl, hf5, qf_6⟩ := oks_cons qf_5
  clear qf_5
  obtain ⟨bf5, rfl⟩ := ok_truth hf5
  obtain ⟨_, _, rfl, hf6, qf_7⟩ := oks_cons qf_6
  clear qf_6
  obtain ⟨nf6, inf6, rfl⟩ := ok_num hf6
  obtain ⟨_, _, rfl, hf7, qf_8⟩ := oks_cons qf_7
  clear qf_7
  obtain ⟨bf7, rfl⟩ := ok_truth hf7
  obtain ⟨_, _, rfl, hf8, qf_9⟩ := oks_cons qf_8
  clear qf_8
  obtain ⟨nf8, inf8, rfl⟩ := ok_num hf8
  obtain ⟨_, _, rfl, hf9, qf_10⟩ := oks_cons qf_9
  clear qf_9
  obtain ⟨bf9, rfl⟩ := ok_truth hf9
  obtain rfl := oks_nil qf_10
  have cf2 := eqSegPartS_ok esf2 hef2
  have cf4 := eqSegPartS_ok esf4 hef4
  simp only [List.cons_append, List.nil_append, List.append_nil, List.map_cons, List.map_nil]
  refine Spec.intro (n := 57) (rv := [.tmp 4]) Try.func15 rfl rfl rfl (by simp) fun C hN hX => ?_
  refine AW.seq ?_
  apply AW.list
  apply Wk.bx 2 rfl rfl (lt_of_ble rfl)
  apply Wk.bx 3 rfl rfl (lt_of_ble rfl)
  apply Wk.asg (by conv => lhs; whnf) (lt_of_ble rfl)
  refine Wk.nil ?_
  refine AW.seq (AW.seq ?_)
  apply AW.list
  apply Wk.fad 0 0 false fd33_0 rfl (lt_of_ble rfl)
  apply Wk.ld (i := 2) 1 false ty3 rfl rfl (by conv => lhs; whnf) (lt_of_ble rfl)
  apply Wk.fad 0 0 false fd33_0 rfl (lt_of_ble rfl)
  apply Wk.ld (i := 3) 1 false ty3 rfl rfl (by conv => lhs; whnf) (lt_of_ble rfl)
  apply Wk.bin rfl rfl (r := .bool false) (fun w => by simp [go_sem]) (lt_of_ble rfl)
  refine Wk.nil ?_
  refine AW.cond rfl (fun hc => by cases hc) (fun _ => AW.skip (thenA_normal ?_))
  refine AW.seq (AW.seq ?_)
  apply AW.list
  apply Wk.fad 1 0 false fd33_1 rfl (lt_of_ble rfl)
  apply Wk.ld (i := 2) 1 false ty3 rfl rfl (by conv => lhs; whnf) (lt_of_ble rfl)
  apply Wk.fad 1 0 false fd33_1 rfl (lt_of_ble rfl)
  apply Wk.ld (i := 3) 1 false ty3 rfl rfl (by conv => lhs; whnf) (lt_of_ble rfl)
  apply Wk.bin rfl rfl (r := .bool false) (fun w => by simp [go_sem]) (lt_of_ble rfl)
  refine Wk.nil ?_
  refine AW.cond rfl (fun hc => by cases hc) (fun _ => AW.skip (thenA_normal ?_))
  refine AW.seq (AW.seq ?_)
  apply AW.list
  apply Wk.fad 2 0 false fd33_2 rfl (lt_of_ble rfl)
  apply Wk.ld (i := 2) 1 false ty31 rfl rfl (by conv => lhs; whnf) (lt_of_ble rfl)
  apply Wk.fad 2 0 false fd33_2 rfl (lt_of_ble rfl)
  apply Wk.ld (i := 3) 1 false ty31 rfl rfl (by conv => lhs; whnf) (lt_of_ble rfl)
  apply Wk.dat cf2 Try.func50 rfl rfl rfl rfl rfl (lt_of_ble rfl)
  apply Wk.un rfl (fun w => by simp [go_sem] <;> rfl) (lt_of_ble rfl)
  refine Wk.nil ?_
  refine AW.cond rfl (fun hc => by cases hc) (fun _ => AW.skip (thenA_normal ?_))
  refine AW.seq (AW.seq ?_)
  apply AW.list
  apply Wk.fad 3 0 false fd33_3 rfl (lt_of_ble rfl)
  apply Wk.ld (i := 2) 1 false ty3 rfl rfl (by conv => lhs; whnf) (lt_of_ble rfl)
  apply Wk.fad 3 0 false fd33_3 rfl (lt_of_ble rfl)
  apply Wk.ld (i := 3) 1 false ty3 rfl rfl (by conv => lhs; whnf) (lt_of_ble rfl)
  apply Wk.bin rfl rfl (r := .bool false) (fun w => by simp [go_sem]) (lt_of_ble rfl)
  refine Wk.nil ?_
  refine AW.cond rfl (fun hc => by cases hc) (fun _ => AW.skip (thenA_normal ?_))
  refine AW.seq (AW.seq ?_)
  apply AW.list
  apply Wk.fad 4 0 false fd33_4 rfl (lt_of_ble rfl)
  apply Wk.ld (i := 2) 1 false ty31 rfl rfl (by conv => lhs; whnf) (lt_of_ble rfl)
  apply Wk.fad 4 0 false fd33_4 rfl (lt_of_ble rfl)
  apply Wk.ld (i := 3) 1 false ty31 rfl rfl (by conv => lhs; whnf) (lt_of_ble rfl)
  apply Wk.dat cf4 Try.func50 rfl rfl rfl rfl rfl (lt_of_ble rfl)
  apply Wk.un rfl (fun w => by simp [go_sem] <;> rfl) (lt_of_ble rfl)
  refine Wk.nil ?_
  refine AW.cond rfl (fun hc => by cases hc) (fun _ => AW.skip (thenA_normal ?_))
  refine AW.seq (AW.seq ?_)
  apply AW.list
  apply Wk.fad 5 0 false fd33_5 rfl (lt_of_ble rfl)
  apply Wk.ld (i := 2) 1 false ty4 rfl rfl (by conv => lhs; whnf) (lt_of_ble rfl)
  apply Wk.fad 5 0 false fd33_5 rfl (lt_of_ble rfl)
  apply Wk.ld (i := 3) 1 false ty4 rfl rfl (by conv => lhs; whnf) (lt_of_ble rfl)
  apply Wk.bin rfl rfl (r := .bool false) (fun w => by simp [go_sem]) (lt_of_ble rfl)
  refine Wk.nil ?_
  refine AW.cond rfl (fun hc => by cases hc) (fun _ => AW.skip (thenA_normal ?_))
  refine AW.seq (AW.seq ?_)
  apply AW.list
  apply Wk.fad 6 0 false fd33_6 rfl (lt_of_ble rfl)
  apply Wk.ld (i := 2) 1 false ty3 rfl rfl (by conv => lhs; whnf) (lt_of_ble rfl)
  apply Wk.fad 6 0 false fd33_6 rfl (lt_of_ble rfl)
  apply Wk.ld (i := 3) 1 false ty3 rfl rfl (by conv => lhs; whnf) (lt_of_ble rfl)
  apply Wk.bin rfl rfl (r := .bool false) (fun w => by simp [go_sem]) (lt_of_ble rfl)
  refine Wk.nil ?_
  refine AW.cond rfl (fun hc => by cases hc) (fun _ => AW.skip (thenA_normal ?_))
  refine AW.seq (AW.seq ?_)
  apply AW.list
  apply Wk.fad 7 0 false fd33_7 rfl (lt_of_ble rfl)
  apply Wk.ld (i := 2) 1 false ty4 rfl rfl (by conv => lhs; whnf) (lt_of_ble rfl)
  apply Wk.fad 7 0 false fd33_7 rfl (lt_of_ble rfl)
  apply Wk.ld (i := 3) 1 false ty4 rfl rfl (by conv => lhs; whnf) (lt_of_ble rfl)
  apply Wk.bin rfl rfl (r := .bool false) (fun w => by simp [go_sem]) (lt_of_ble rfl)
  refine Wk.nil ?_
  refine AW.cond rfl (fun hc => by cases hc) (fun _ => AW.skip (thenA_normal ?_))
  refine AW.seq (AW.seq ?_)
  apply AW.list
  apply Wk.fad 8 0 false fd33_8 rfl (lt_of_ble rfl)
  apply Wk.ld (i := 2) 1 false ty3 rfl rfl (by conv => lhs; whnf) (lt_of_ble rfl)
  apply Wk.fad 8 0 false fd33_8 rfl (lt_of_ble rfl)
  apply Wk.ld (i := 3) 1 false ty3 rfl rfl (by conv => lhs; whnf) (lt_of_ble rfl)
  apply Wk.bin rfl rfl (r := .bool false) (fun w => by simp [go_sem]) (lt_of_ble rfl)
  refine Wk.nil ?_
  refine AW.cond rfl (fun hc => by cases hc) (fun _ => AW.skip (thenA_normal ?_))
  refine AW.seq (AW.seq ?_)
  apply AW.list
  apply Wk.fad 9 0 false fd33_9 rfl (lt_of_ble rfl)
  apply Wk.ld (i := 2) 1 false ty4 rfl rfl (by conv => lhs; whnf) (lt_of_ble rfl)
  apply Wk.fad 9 0 false fd33_9 rfl (lt_of_ble rfl)
  apply Wk.ld (i := 3) 1 false ty4 rfl rfl (by conv => lhs; whnf) (lt_of_ble rfl)
  apply Wk.bin rfl rfl (r := .bool false) (fun w => by simp [go_sem]) (lt_of_ble rfl)
  refine Wk.nil ?_
  refine AW.cond rfl (fun hc => by cases hc) (fun _ => AW.skip (thenA_normal ?_))
  refine AW.seq ?_
  apply AW.list
  apply Wk.asg (by conv => lhs; whnf) (lt_of_ble rfl)
  refine Wk.nil (AW.ret ?_)
  exact RetQ.ret [] (.cons rfl .nil) ⟨rfl, rfl⟩ none_kept
set_option maxHeartbeats 4000000 in
set_option maxRecDepth 100000 in
theorem szTxState_ok (ds : List D) (h : Sh.ok (.struct [.int, .int, (.slice (.struct [.int, .int, (.slice .byte)])), .int, (.slice (.struct [.int, .int, (.slice .byte)])), .bool, .int, .bool, .int, .bool]) ds) (l : Nat) (hl : l ≤ 1048576) : DataOk Try.prog 10 [.agg (ds.map .d), .d (.v (.int .i64 (l : Int)))] (.d (.v (.int .i64 (leftI l (tots ds))))) := by
  have qf_0 := ok_rec h
  clear h
  obtain ⟨_, _, rfl, hf0, qf_1⟩ := oks_cons qf_0
  clear qf_0
  obtain ⟨nf0, inf0, rfl⟩ := ok_num hf0
  obtain ⟨_, _, rfl, hf1, qf_2⟩ := oks_cons qf_1
  clear qf_1
  obtain ⟨nf1, inf1, rfl⟩ := ok_num hf1
  obtain ⟨_, _, rfl, hf2, qf_3⟩ := oks_cons qf_2
  clear qf_2
  obtain ⟨esf2, rfl, hef2⟩ := ok_row hf2
  obtain ⟨_, _, rfl, hf3, qf_4⟩ := oks_cons qf_3
  clear qf_3
  obtain ⟨nf3, inf3, rfl⟩ := ok_num hf3
  obtain ⟨_, _, rfl, hf4, qf_5⟩ := oks_cons qf_4
  clear qf_4
  obtain ⟨esf4, rfl, hef4⟩ := ok_row hf4
  obtain ⟨_, _, rfl, hf5, qf_6⟩ := oks_cons qf_5
  clear qf_5
  obtain ⟨bf5, rfl⟩ := ok_truth hf5
  obtain ⟨_, _, rfl, hf6, qf_7⟩ := oks_cons qf_6
  clear qf_6
  obtain ⟨nf6, inf6, rfl⟩ := ok_num hf6
  obtain ⟨_, _, rfl, hf7, qf_8⟩ := oks_cons qf_7
  clear qf_7
  obtain ⟨bf7, rfl⟩ := ok_truth hf7
  obtain ⟨_, _, rfl, hf8, qf_9⟩ := oks_cons qf_8
  clear qf_8
  obtain ⟨nf8, inf8, rfl⟩ := ok_num hf8
  obtain ⟨_, _, rfl, hf9, qf_10⟩ := oks_cons qf_9
  clear qf_9
  obtain ⟨bf9, rfl⟩ := ok_truth hf9
  obtain rfl := oks_nil qf_10
  have cf2 := fun (l : Nat) (hl : l ≤ 1048576) => szSegPartS_ok esf2 hef2 l hl
  obtain ⟨tf2, htf2⟩ : ∃ t, (D.row esf2).tot = t := ⟨_, rfl⟩
  rw [htf2] at cf2
  have cf4 := fun (l : Nat) (hl : l ≤ 1048576) => szSegPartS_ok esf4 hef4 l hl
  obtain ⟨tf4, htf4⟩ : ∃ t, (D.row esf4).tot = t := ⟨_, rfl⟩
  rw [htf4] at cf4
  have hsum : tots ([D.v (.int .i64 nf0)] ++ ([D.v (.int .i64 nf1)] ++ ([D.row esf2] ++ ([D.v (.int .i64 nf3)] ++ ([D.row esf4] ++ ([D.v (.bool bf5)] ++ ([D.v (.int .i64 nf6)] ++ ([D.v (.bool bf7)] ++ ([D.v (.int .i64 nf8)] ++ ([D.v (.bool bf9)] ++ [])))))))))) = tf2 + tf4 := by
    simp only [tots_append, tots, htf2, htf4, D.tot.eq_1, Nat.add_zero, Nat.zero_add]
    try omega
  rw [hsum]
  clear hsum
  simp only [List.cons_append, List.nil_append, List.append_nil, List.map_cons, List.map_nil]
  refine Spec.intro (n := 18) (rv := [.tmp 4]) Try.func10 rfl rfl rfl (by simp) fun C hN hX => ?_
  refine AW.seq ?_
  apply AW.list
  apply Wk.bx 2 rfl rfl (lt_of_ble rfl)
  apply Wk.asg (by conv => lhs; whnf) (lt_of_ble rfl)
  refine Wk.nil ?_
  have df2 := cf2 l (by omega)
  refine AW.seq ?_
  apply AW.list
  apply Wk.fad 2 0 false fd26_2 rfl (lt_of_ble rfl)
  apply Wk.ld (i := 2) 1 false ty24 rfl rfl (by conv => lhs; whnf) (lt_of_ble rfl)
  apply Wk.mv (by conv => lhs; whnf) (lt_of_ble rfl)
  apply Wk.dat df2 Try.func39 rfl rfl rfl rfl rfl (lt_of_ble rfl)
  apply Wk.asg (by conv => lhs; whnf) (lt_of_ble rfl)
  refine Wk.nil ?_
  refine AW.seq (AW.seq ?_)
  by_cases g0 : tf2 ≤ l
  case neg =>
    rw [show leftI l tf2 = -1 from if_neg g0]
    apply AW.list
    apply Wk.mv (by conv => lhs; whnf) (lt_of_ble rfl)
    apply Wk.bin rfl rfl (r := .bool true) (fun w => by simp [go_sem]) (lt_of_ble rfl)
    refine Wk.nil ?_
    refine AW.cond rfl (fun _ => ?_) (fun hc => by cases hc)
    refine AW.seq ?_
    apply AW.list
    apply Wk.asg (by conv => lhs; whnf) (lt_of_ble rfl)
    refine Wk.nil (AW.ret ?_)
    repeat (first | refine thenA_ret ?_ | refine inBlockA_ret ?_)
    rw [show leftI l (tf2 + tf4) = -1 from if_neg (by omega)]
    exact RetQ.ret [] (.cons rfl .nil) ⟨rfl, rfl⟩ none_kept
  rw [show leftI l tf2 = (l : Int) - (tf2 : Int) from if_pos g0]
  apply AW.list
  apply Wk.mv (by conv => lhs; whnf) (lt_of_ble rfl)
  apply Wk.bin rfl rfl (r := .bool false) (fun w => by simp [go_sem] <;> omega) (lt_of_ble rfl)
  refine Wk.nil ?_
  refine AW.cond rfl (fun hc => by cases hc) (fun _ => AW.skip (thenA_normal ?_))
  obtain ⟨l1, hl1⟩ : ∃ q : Nat, (l : Int) - (tf2 : Int) = (q : Int) := ⟨l - tf2, by omega⟩
  rw [hl1]
  have df4 := cf4 l1 (by omega)
  refine AW.seq ?_
  apply AW.list
  apply Wk.fad 4 0 false fd26_4 rfl (lt_of_ble rfl)
  apply Wk.ld (i := 2) 1 false ty24 rfl rfl (by conv => lhs; whnf) (lt_of_ble rfl)
  apply Wk.mv (by conv => lhs; whnf) (lt_of_ble rfl)
  apply Wk.dat df4 Try.func39 rfl rfl rfl rfl rfl (lt_of_ble rfl)
  apply Wk.asg (by conv => lhs; whnf) (lt_of_ble rfl)
  refine Wk.nil ?_
  refine AW.seq (AW.seq ?_)
  by_cases g1 : tf4 ≤ l1
  case neg =>
    rw [show leftI l1 tf4 = -1 from if_neg g1]
    apply AW.list
    apply Wk.mv (by conv => lhs; whnf) (lt_of_ble rfl)
    apply Wk.bin rfl rfl (r := .bool true) (fun w => by simp [go_sem]) (lt_of_ble rfl)
    refine Wk.nil ?_
    refine AW.cond rfl (fun _ => ?_) (fun hc => by cases hc)
    refine AW.seq ?_
    apply AW.list
    apply Wk.asg (by conv => lhs; whnf) (lt_of_ble rfl)
    refine Wk.nil (AW.ret ?_)
    repeat (first | refine thenA_ret ?_ | refine inBlockA_ret ?_)
    rw [show leftI l (tf2 + tf4) = -1 from if_neg (by omega)]
    exact RetQ.ret [] (.cons rfl .nil) ⟨rfl, rfl⟩ none_kept
  rw [show leftI l1 tf4 = (l1 : Int) - (tf4 : Int) from if_pos g1]
  apply AW.list
  apply Wk.mv (by conv => lhs; whnf) (lt_of_ble rfl)
  apply Wk.bin rfl rfl (r := .bool false) (fun w => by simp [go_sem] <;> omega) (lt_of_ble rfl)
  refine Wk.nil ?_
  refine AW.cond rfl (fun hc => by cases hc) (fun _ => AW.skip (thenA_normal ?_))
  refine AW.seq ?_
  apply AW.list
  apply Wk.mv (by conv => lhs; whnf) (lt_of_ble rfl)
  apply Wk.asg (by conv => lhs; whnf) (lt_of_ble rfl)
  refine Wk.nil (AW.ret ?_)
  rw [show leftI l (tf2 + tf4) = (l1 : Int) - (tf4 : Int) from (if_pos (by omega)).trans (by omega)]
  exact RetQ.ret [] (.cons rfl .nil) ⟨rfl, rfl⟩ none_kept
set_option maxHeartbeats 4000000 in
set_option maxRecDepth 100000 in
theorem toSegJoin_ok (ds : List D) (h : Sh.ok (.struct [.int, (.slice .byte)]) ds) (ht : tots ds ≤ 1048576) : DataOk Try.prog 136 [.agg (ds.map .d)] (.agg (ds.map .d)) := by
  have qf_0 := ok_rec h
  clear h
  obtain ⟨_, _, rfl, hf0, qf_1⟩ := oks_cons qf_0
  clear qf_0
  obtain ⟨nf0, inf0, rfl⟩ := ok_num hf0
  obtain ⟨_, _, rfl, hf1, qf_2⟩ := oks_cons qf_1
  clear qf_1
  obtain ⟨esf1, rfl, hef1⟩ := ok_row hf1
  obtain rfl := oks_nil qf_2
  have cf1 := toByteS_ok esf1 hef1 (by simp only [tots_append, tots] at ht; omega)
  simp only [List.cons_append, List.nil_append, List.append_nil, List.map_cons, List.map_nil]
  refine Spec.intro (n := 12) (rv := [.cell 2 70]) Try.func136 rfl rfl rfl (by simp) fun C hN hX => ?_
  refine AW.seq ?_
  apply AW.list
  apply Wk.bx 1 rfl rfl (lt_of_ble rfl)
  apply Wk.alc 2 [.int .i64 0, .slice none 0 0] ze70 rfl rfl (lt_of_ble rfl)
  refine Wk.nil ?_
  refine AW.seq ?_
  apply AW.list
  apply Wk.alc 3 [.int .i64 0, .slice none 0 0] ze70 rfl rfl (lt_of_ble rfl)
  refine Wk.nil ?_
  refine AW.seq ?_
  apply AW.list
  apply Wk.fad 0 0 false fd122_0 rfl (lt_of_ble rfl)
  apply Wk.ld (i := 1) 1 false ty3 rfl rfl (by conv => lhs; whnf) (lt_of_ble rfl)
  apply Wk.fad 0 0 false fd70_0 rfl (lt_of_ble rfl)
  apply Wk.sto (i := 3) 1 false ty3 rfl rfl rfl rfl (Nat.le_of_ble_eq_true rfl) (lt_of_ble rfl)
  refine Wk.nil ?_
  refine AW.seq ?_
  apply AW.list
  apply Wk.fad 1 0 false fd122_1 rfl (lt_of_ble rfl)
  apply Wk.ld (i := 1) 1 false ty64 rfl rfl (by conv => lhs; whnf) (lt_of_ble rfl)
  apply Wk.dat cf1 Try.func114 rfl rfl rfl rfl rfl (lt_of_ble rfl)
  apply Wk.fad 1 0 false fd70_1 rfl (lt_of_ble rfl)
  apply Wk.sto (i := 3) 1 false ty64 rfl rfl rfl rfl (Nat.le_of_ble_eq_true rfl) (lt_of_ble rfl)
  refine Wk.nil ?_
  refine AW.seq ?_
  apply AW.list
  apply Wk.ld (i := 3) 2 true ty70 rfl rfl (by conv => lhs; whnf) (lt_of_ble rfl)
  apply Wk.sto (i := 2) 2 true ty70 rfl rfl rfl rfl (Nat.le_of_ble_eq_true rfl) (lt_of_ble rfl)
  refine Wk.nil (AW.ret ?_)
  exact RetQ.ret [] (.cons ⟨2, 0, _, _, _, rfl, rfl, ty70, rfl⟩ .nil) ⟨rfl, rfl⟩ none_kept
set_option maxHeartbeats 4000000 in
set_option maxRecDepth 100000 in
theorem eqSegJoin_ok (ds : List D) (h : Sh.ok (.struct [.int, (.slice .byte)]) ds) : DataOk Try.prog 138 [.agg (ds.map .d), .agg (ds.map .d)] (.d (.v (.bool true))) := by
  have qf_0 := ok_rec h
  clear h
  obtain ⟨_, _, rfl, hf0, qf_1⟩ := oks_cons qf_0
  clear qf_0
  obtain ⟨nf0, inf0, rfl⟩ := ok_num hf0
  obtain ⟨_, _, rfl, hf1, qf_2⟩ := oks_cons qf_1
  clear qf_1
  obtain ⟨esf1, rfl, hef1⟩ := ok_row hf1
  obtain rfl := oks_nil qf_2
  have cf1 := eqByteS_ok esf1 hef1
  simp only [List.cons_append, List.nil_append, List.append_nil, List.map_cons, List.map_nil]
  refine Spec.intro (n := 16) (rv := [.tmp 4]) Try.func138 rfl rfl rfl (by simp) fun C hN hX => ?_
  refine AW.seq ?_
  apply AW.list
  apply Wk.bx 2 rfl rfl (lt_of_ble rfl)
  apply Wk.bx 3 rfl rfl (lt_of_ble rfl)
  apply Wk.asg (by conv => lhs; whnf) (lt_of_ble rfl)
  refine Wk.nil ?_
  refine AW.seq (AW.seq ?_)
  apply AW.list
  apply Wk.fad 0 0 false fd70_0 rfl (lt_of_ble rfl)
  apply Wk.ld (i := 2) 1 false ty3 rfl rfl (by conv => lhs; whnf) (lt_of_ble rfl)
  apply Wk.fad 0 0 false fd70_0 rfl (lt_of_ble rfl)
  apply Wk.ld (i := 3) 1 false ty3 rfl rfl (by conv => lhs; whnf) (lt_of_ble rfl)
  apply Wk.bin rfl rfl (r := .bool false) (fun w => by simp [go_sem]) (lt_of_ble rfl)
  refine Wk.nil ?_
  refine AW.cond rfl (fun hc => by cases hc) (fun _ => AW.skip (thenA_normal ?_))
  refine AW.seq (AW.seq ?_)
  apply AW.list
  apply Wk.fad 1 0 false fd70_1 rfl (lt_of_ble rfl)
  apply Wk.ld (i := 2) 1 false ty64 rfl rfl (by conv => lhs; whnf) (lt_of_ble rfl)
  apply Wk.fad 1 0 false fd70_1 rfl (lt_of_ble rfl)
  apply Wk.ld (i := 3) 1 false ty64 rfl rfl (by conv => lhs; whnf) (lt_of_ble rfl)
  apply Wk.dat cf1 Try.func116 rfl rfl rfl rfl rfl (lt_of_ble rfl)
  apply Wk.un rfl (fun w => by simp [go_sem] <;> rfl) (lt_of_ble rfl)
  refine Wk.nil ?_
  refine AW.cond rfl (fun hc => by cases hc) (fun _ => AW.skip (thenA_normal ?_))
  refine AW.seq ?_
  apply AW.list
  apply Wk.asg (by conv => lhs; whnf) (lt_of_ble rfl)
  refine Wk.nil (AW.ret ?_)
  exact RetQ.ret [] (.cons rfl .nil) ⟨rfl, rfl⟩ none_kept
set_option maxHeartbeats 4000000 in
set_option maxRecDepth 100000 in
theorem szSegJoin_ok (ds : List D) (h : Sh.ok (.struct [.int, (.slice .byte)]) ds) (l : Nat) (hl : l ≤ 1048576) : DataOk Try.prog 135 [.agg (ds.map .d), .d (.v (.int .i64 (l : Int)))] (.d (.v (.int .i64 (leftI l (tots ds))))) := by
  have qf_0 := ok_rec h
  clear h
  obtain ⟨_, _, rfl, hf0, qf_1⟩ := oks_cons qf_0
  clear qf_0
  obtain ⟨nf0, inf0, rfl⟩ := ok_num hf0
  obtain ⟨_, _, rfl, hf1, qf_2⟩ := oks_cons qf_1
  clear qf_1
  obtain ⟨esf1, rfl, hef1⟩ := ok_row hf1
  obtain rfl := oks_nil qf_2
  have cf1 := fun (l : Nat) (hl : l ≤ 1048576) => szByteS_ok esf1 hef1 l hl
  obtain ⟨tf1, htf1⟩ : ∃ t, (D.row esf1).tot = t := ⟨_, rfl⟩
  rw [htf1] at cf1
  have hsum : tots ([D.v (.int .i64 nf0)] ++ ([D.row esf1] ++ [])) = tf1 := by
    simp only [tots_append, tots, htf1, D.tot.eq_1, Nat.add_zero, Nat.zero_add]
    try omega
  rw [hsum]
  clear hsum
  simp only [List.cons_append, List.nil_append, List.append_nil, List.map_cons, List.map_nil]
  refine Spec.intro (n := 12) (rv := [.tmp 4]) Try.func135 rfl rfl rfl (by simp) fun C hN hX => ?_
  refine AW.seq ?_
  apply AW.list
  apply Wk.bx 2 rfl rfl (lt_of_ble rfl)
  apply Wk.asg (by conv => lhs; whnf) (lt_of_ble rfl)
  refine Wk.nil ?_
  have df1 := cf1 l (by omega)
  refine AW.seq ?_
  apply AW.list
  apply Wk.fad 1 0 false fd122_1 rfl (lt_of_ble rfl)
  apply Wk.ld (i := 2) 1 false ty64 rfl rfl (by conv => lhs; whnf) (lt_of_ble rfl)
  apply Wk.mv (by conv => lhs; whnf) (lt_of_ble rfl)
  apply Wk.dat df1 Try.func112 rfl rfl rfl rfl rfl (lt_of_ble rfl)
  apply Wk.asg (by conv => lhs; whnf) (lt_of_ble rfl)
  refine Wk.nil ?_
  refine AW.seq (AW.seq ?_)
  by_cases g0 : tf1 ≤ l
  case neg =>
    rw [show leftI l tf1 = -1 from if_neg g0]
    apply AW.list
    apply Wk.mv (by conv => lhs; whnf) (lt_of_ble rfl)
    apply Wk.bin rfl rfl (r := .bool true) (fun w => by simp [go_sem]) (lt_of_ble rfl)
    refine Wk.nil ?_
    refine AW.cond rfl (fun _ => ?_) (fun hc => by cases hc)
    refine AW.seq ?_
    apply AW.list
    apply Wk.asg (by conv => lhs; whnf) (lt_of_ble rfl)
    refine Wk.nil (AW.ret ?_)
    repeat (first | refine thenA_ret ?_ | refine inBlockA_ret ?_)
    exact RetQ.ret [] (.cons rfl .nil) ⟨rfl, rfl⟩ none_kept
  rw [show leftI l tf1 = (l : Int) - (tf1 : Int) from if_pos g0]
  apply AW.list
  apply Wk.mv (by conv => lhs; whnf) (lt_of_ble rfl)
  apply Wk.bin rfl rfl (r := .bool false) (fun w => by simp [go_sem] <;> omega) (lt_of_ble rfl)
  refine Wk.nil ?_
  refine AW.cond rfl (fun hc => by cases hc) (fun _ => AW.skip (thenA_normal ?_))
  refine AW.seq ?_
  apply AW.list
  apply Wk.mv (by conv => lhs; whnf) (lt_of_ble rfl)
  apply Wk.asg (by conv => lhs; whnf) (lt_of_ble rfl)
  refine Wk.nil (AW.ret ?_)
  exact RetQ.ret [] (.cons rfl .nil) ⟨rfl, rfl⟩ none_kept
set_option maxHeartbeats 4000000 in
set_option maxRecDepth 100000 in
theorem toRxState_ok (ds : List D) (h : Sh.ok (.struct [.int, .int, (.struct [.int, (.slice .byte)]), .bool, .bool, .bool]) ds) (ht : tots ds ≤ 1048576) : DataOk Try.prog 122 [.agg (ds.map .d)] (.agg (ds.map .d)) := by
  have qf_0 := ok_rec h
  clear h
  obtain ⟨_, _, rfl, hf0, qf_1⟩ := oks_cons qf_0
  clear qf_0
  obtain ⟨nf0, inf0, rfl⟩ := ok_num hf0
  obtain ⟨_, _, rfl, hf1, qf_2⟩ := oks_cons qf_1
  clear qf_1
  obtain ⟨nf1, inf1, rfl⟩ := ok_num hf1
  obtain ⟨dsf2, _, rfl, hf2, qf_3⟩ := oks_cons qf_2
  clear qf_2
  obtain ⟨_, _, rfl, hf3, qf_4⟩ := oks_cons qf_3
  clear qf_3
  obtain ⟨bf3, rfl⟩ := ok_truth hf3
  obtain ⟨_, _, rfl, hf4, qf_5⟩ := oks_cons qf_4
  clear qf_4
  obtain ⟨bf4, rfl⟩ := ok_truth hf4
  obtain ⟨_, _, rfl, hf5, qf_6⟩ := oks_cons qf_5
  clear qf_5
  obtain ⟨bf5, rfl⟩ := ok_truth hf5
  obtain rfl := oks_nil qf_6
  have cf2 := toSegJoin_ok dsf2 hf2 (by simp only [tots_append, tots] at ht; omega)
  have qf2__0 := ok_rec hf2
  clear hf2
  obtain ⟨_, _, rfl, hf2_0, qf2__1⟩ := oks_cons qf2__0
  clear qf2__0
  obtain ⟨nf2_0, inf2_0, rfl⟩ := ok_num hf2_0
  obtain ⟨_, _, rfl, hf2_1, qf2__2⟩ := oks_cons qf2__1
  clear qf2__1
  obtain ⟨esf2_1, rfl, hef2_1⟩ := ok_row hf2_1
  obtain rfl := oks_nil qf2__2
  simp only [List.cons_append, List.nil_append, List.append_nil, List.map_cons, List.map_nil]
  simp only [List.cons_append, List.nil_append, List.append_nil, List.map_cons, List.map_nil] at cf2
  refine Spec.intro (n := 24) (rv := [.cell 2 72]) Try.func122 rfl rfl rfl (by simp) fun C hN hX => ?_
  refine AW.seq ?_
  apply AW.list
  apply Wk.bx 1 rfl rfl (lt_of_ble rfl)
  apply Wk.alc 2 [.int .i64 0, .int .i64 0, .int .i64 0, .slice none 0 0, .bool false, .bool false, .bool false] ze72 rfl rfl (lt_of_ble rfl)
  refine Wk.nil ?_
  refine AW.seq ?_
  apply AW.list
  apply Wk.alc 3 [.int .i64 0, .int .i64 0, .int .i64 0, .slice none 0 0, .bool false, .bool false, .bool false] ze72 rfl rfl (lt_of_ble rfl)
  refine Wk.nil ?_
  refine AW.seq ?_
  apply AW.list
  apply Wk.fad 0 0 false fd124_0 rfl (lt_of_ble rfl)
  apply Wk.ld (i := 1) 1 false ty3 rfl rfl (by conv => lhs; whnf) (lt_of_ble rfl)
  apply Wk.fad 0 0 false fd72_0 rfl (lt_of_ble rfl)
  apply Wk.sto (i := 3) 1 false ty3 rfl rfl rfl rfl (Nat.le_of_ble_eq_true rfl) (lt_of_ble rfl)
  refine Wk.nil ?_
  refine AW.seq ?_
  apply AW.list
  apply Wk.fad 1 0 false fd124_1 rfl (lt_of_ble rfl)
  apply Wk.ld (i := 1) 1 false ty3 rfl rfl (by conv => lhs; whnf) (lt_of_ble rfl)
  apply Wk.fad 1 0 false fd72_1 rfl (lt_of_ble rfl)
  apply Wk.sto (i := 3) 1 false ty3 rfl rfl rfl rfl (Nat.le_of_ble_eq_true rfl) (lt_of_ble rfl)
  refine Wk.nil ?_
  skip
  refine AW.keep (n := 24) (ts := [(1, .ptr 1 0), (2, .ptr 2 0), (3, .ptr 3 0)]) (bs := [(1, .var [A.d (.v (.int .i64 nf0)), A.d (.v (.int .i64 nf1)), A.d (.v (.int .i64 nf2_0)), A.d (.row esf2_1), A.d (.v (.bool bf3)), A.d (.v (.bool bf4)), A.d (.v (.bool bf5))]), (2, .var [A.d (.v (.int .i64 0)), A.d (.v (.int .i64 0)), A.d (.v (.int .i64 0)), A.d (.v (.slice none 0 0)), A.d (.v (.bool false)), A.d (.v (.bool false)), A.d (.v (.bool false))]), (3, .var [A.d (.v (.int .i64 nf0)), A.d (.v (.int .i64 nf1)), A.d (.v (.int .i64 0)), A.d (.v (.slice none 0 0)), A.d (.v (.bool false)), A.d (.v (.bool false)), A.d (.v (.bool false))])]) ⟨rfl, .cons rfl rfl (.cons rfl rfl (.cons rfl rfl .nil)), .cons rfl rfl (.cons rfl rfl (.cons rfl rfl .nil)), hN.mono (by simp [keys])⟩ ?_
  refine AW.seq ?_
  apply AW.list
  apply Wk.fad 2 1 true fd124_2 rfl (lt_of_ble rfl)
  apply Wk.ld (i := 1) 2 true ty122 rfl rfl (by conv => lhs; whnf) (lt_of_ble rfl)
  apply Wk.dat cf2 Try.func136 rfl rfl rfl rfl rfl (lt_of_ble rfl)
  apply Wk.fad 2 1 true fd72_2 rfl (lt_of_ble rfl)
  apply Wk.sto (i := 3) 2 true ty70 rfl rfl rfl rfl (Nat.le_of_ble_eq_true rfl) (lt_of_ble rfl)
  refine Wk.nil ?_
  refine AW.seq ?_
  apply AW.list
  apply Wk.fad 4 0 false fd124_3 rfl (lt_of_ble rfl)
  apply Wk.ld (i := 1) 1 false ty4 rfl rfl (by conv => lhs; whnf) (lt_of_ble rfl)
  apply Wk.fad 4 0 false fd72_3 rfl (lt_of_ble rfl)
  apply Wk.sto (i := 3) 1 false ty4 rfl rfl rfl rfl (Nat.le_of_ble_eq_true rfl) (lt_of_ble rfl)
  refine Wk.nil ?_
  skip
  refine AW.keep (n := 24) (ts := [(1, .ptr 1 0), (2, .ptr 2 0), (3, .ptr 3 0)]) (bs := [(1, .var [A.d (.v (.int .i64 nf0)), A.d (.v (.int .i64 nf1)), A.d (.v (.int .i64 nf2_0)), A.d (.row esf2_1), A.d (.v (.bool bf3)), A.d (.v (.bool bf4)), A.d (.v (.bool bf5))]), (2, .var [A.d (.v (.int .i64 0)), A.d (.v (.int .i64 0)), A.d (.v (.int .i64 0)), A.d (.v (.slice none 0 0)), A.d (.v (.bool false)), A.d (.v (.bool false)), A.d (.v (.bool false))]), (3, .var [A.d (.v (.int .i64 nf0)), A.d (.v (.int .i64 nf1)), A.d (.v (.int .i64 nf2_0)), A.d (.row esf2_1), A.d (.v (.bool bf3)), A.d (.v (.bool false)), A.d (.v (.bool false))])]) ⟨rfl, .cons rfl rfl (.cons rfl rfl (.cons rfl rfl .nil)), .cons rfl rfl (.cons rfl rfl (.cons rfl rfl .nil)), hN.mono (by simp [keys])⟩ ?_
  refine AW.seq ?_
  apply AW.list
  apply Wk.fad 5 0 false fd124_4 rfl (lt_of_ble rfl)
  apply Wk.ld (i := 1) 1 false ty4 rfl rfl (by conv => lhs; whnf) (lt_of_ble rfl)
  apply Wk.fad 5 0 false fd72_4 rfl (lt_of_ble rfl)
  apply Wk.sto (i := 3) 1 false ty4 rfl rfl rfl rfl (Nat.le_of_ble_eq_true rfl) (lt_of_ble rfl)
  refine Wk.nil ?_
  refine AW.seq ?_
  apply AW.list
  apply Wk.fad 6 0 false fd124_5 rfl (lt_of_ble rfl)
  apply Wk.ld (i := 1) 1 false ty4 rfl rfl (by conv => lhs; whnf) (lt_of_ble rfl)
  apply Wk.fad 6 0 false fd72_5 rfl (lt_of_ble rfl)
  apply Wk.sto (i := 3) 1 false ty4 rfl rfl rfl rfl (Nat.le_of_ble_eq_true rfl) (lt_of_ble rfl)
  refine Wk.nil ?_
  refine AW.seq ?_
  apply AW.list
  apply Wk.ld (i := 3) 7 true ty72 rfl rfl (by conv => lhs; whnf) (lt_of_ble rfl)
  apply Wk.sto (i := 2) 7 true ty72 rfl rfl rfl rfl (Nat.le_of_ble_eq_true rfl) (lt_of_ble rfl)
  refine Wk.nil (AW.ret ?_)
  exact RetQ.ret [] (.cons ⟨2, 0, _, _, _, rfl, rfl, ty72, rfl⟩ .nil) ⟨rfl, rfl⟩ none_kept
set_option maxHeartbeats 4000000 in
set_option maxRecDepth 100000 in
theorem eqRxState_ok (ds : List D) (h : Sh.ok (.struct [.int, .int, (.struct [.int, (.slice .byte)]), .bool, .bool, .bool]) ds) : DataOk Try.prog 130 [.agg (ds.map .d), .agg (ds.map .d)] (.d (.v (.bool true))) := by
  have qf_0 := ok_rec h
  clear h
  obtain ⟨_, _, rfl, hf0, qf_1⟩ := oks_cons qf_0
  clear qf_0
  obtain ⟨nf0, inf0, rfl⟩ := ok_num hf0
  obtain ⟨_, _, rfl, hf1, qf_2⟩ := oks_cons qf_1
  clear qf_1
  obtain ⟨nf1, inf1, rfl⟩ := ok_num hf1
  obtain ⟨dsf2, _, rfl, hf2, qf_3⟩ := oks_cons qf_2
  clear qf_2
  obtain ⟨_, _, rfl, hf3, qf_4⟩ := oks_cons qf_3
  clear qf_3
  obtain ⟨bf3, rfl⟩ := ok_truth hf3
  obtain ⟨_, _, rfl, hf4, qf_5⟩ := oks_cons qf_4
  clear qf_4
  obtain ⟨bf4, rfl⟩ := ok_truth hf4
  obtain ⟨_, _, rfl, hf5, qf_6⟩ := oks_cons qf_5
  clear qf_5
  obtain ⟨bf5, rfl⟩ := ok_truth hf5
  obtain rfl := oks_nil qf_6
  have cf2 := eqSegJoin_ok dsf2 hf2
  have qf2__0 := ok_rec hf2
  clear hf2
  obtain ⟨_, _, rfl, hf2_0, qf2__1⟩ := oks_cons qf2__0
  clear qf2__0
  obtain ⟨nf2_0, inf2_0, rfl⟩ := ok_num hf2_0
  obtain ⟨_, _, rfl, hf2_1, qf2__2⟩ := oks_cons qf2__1
  clear qf2__1
  obtain ⟨esf2_1, rfl, hef2_1⟩ := ok_row hf2_1
  obtain rfl := oks_nil qf2__2
  simp only [List.cons_append, List.nil_append, List.append_nil, List.map_cons, List.map_nil]
  simp only [List.cons_append, List.nil_append, List.append_nil, List.map_cons, List.map_nil] at cf2
  refine Spec.intro (n := 36) (rv := [.tmp 4]) Try.func130 rfl rfl rfl (by simp) fun C hN hX => ?_
  refine AW.seq ?_
  apply AW.list
  apply Wk.bx 2 rfl rfl (lt_of_ble rfl)
  apply Wk.bx 3 rfl rfl (lt_of_ble rfl)
  apply Wk.asg (by conv => lhs; whnf) (lt_of_ble rfl)
  refine Wk.nil ?_
  refine AW.seq (AW.seq ?_)
  apply AW.list
  apply Wk.fad 0 0 false fd72_0 rfl (lt_of_ble rfl)
  apply Wk.ld (i := 2) 1 false ty3 rfl rfl (by conv => lhs; whnf) (lt_of_ble rfl)
  apply Wk.fad 0 0 false fd72_0 rfl (lt_of_ble rfl)
  apply Wk.ld (i := 3) 1 false ty3 rfl rfl (by conv => lhs; whnf) (lt_of_ble rfl)
  apply Wk.bin rfl rfl (r := .bool false) (fun w => by simp [go_sem]) (lt_of_ble rfl)
  refine Wk.nil ?_
  refine AW.cond rfl (fun hc => by cases hc) (fun _ => AW.skip (thenA_normal ?_))
  refine AW.seq (AW.seq ?_)
  apply AW.list
  apply Wk.fad 1 0 false fd72_1 rfl (lt_of_ble rfl)
  apply Wk.ld (i := 2) 1 false ty3 rfl rfl (by conv => lhs; whnf) (lt_of_ble rfl)
  apply Wk.fad 1 0 false fd72_1 rfl (lt_of_ble rfl)
  apply Wk.ld (i := 3) 1 false ty3 rfl rfl (by conv => lhs; whnf) (lt_of_ble rfl)
  apply Wk.bin rfl rfl (r := .bool false) (fun w => by simp [go_sem]) (lt_of_ble rfl)
  refine Wk.nil ?_
  refine AW.cond rfl (fun hc => by cases hc) (fun _ => AW.skip (thenA_normal ?_))
  refine AW.seq (AW.seq ?_)
  apply AW.list
  apply Wk.fad 2 1 true fd72_2 rfl (lt_of_ble rfl)
  apply Wk.ld (i := 2) 2 true ty70 rfl rfl (by conv => lhs; whnf) (lt_of_ble rfl)
  apply Wk.fad 2 1 true fd72_2 rfl (lt_of_ble rfl)
  apply Wk.ld (i := 3) 2 true ty70 rfl rfl (by conv => lhs; whnf) (lt_of_ble rfl)
  apply Wk.dat cf2 Try.func138 rfl rfl rfl rfl rfl (lt_of_ble rfl)
  apply Wk.un rfl (fun w => by simp [go_sem] <;> rfl) (lt_of_ble rfl)
  refine Wk.nil ?_
  refine AW.cond rfl (fun hc => by cases hc) (fun _ => AW.skip (thenA_normal ?_))
  refine AW.seq (AW.seq ?_)
  apply AW.list
  apply Wk.fad 4 0 false fd72_3 rfl (lt_of_ble rfl)
  apply Wk.ld (i := 2) 1 false ty4 rfl rfl (by conv => lhs; whnf) (lt_of_ble rfl)
  apply Wk.fad 4 0 false fd72_3 rfl (lt_of_ble rfl)
  apply Wk.ld (i := 3) 1 false ty4 rfl rfl (by conv => lhs; whnf) (lt_of_ble rfl)
  apply Wk.bin rfl rfl (r := .bool false) (fun w => by simp [go_sem]) (lt_of_ble rfl)
  refine Wk.nil ?_
  refine AW.cond rfl (fun hc => by cases hc) (fun _ => AW.skip (thenA_normal ?_))
  refine AW.seq (AW.seq ?_)
  apply AW.list
  apply Wk.fad 5 0 false fd72_4 rfl (lt_of_ble rfl)
  apply Wk.ld (i := 2) 1 false ty4 rfl rfl (by conv => lhs; whnf) (lt_of_ble rfl)
  apply Wk.fad 5 0 false fd72_4 rfl (lt_of_ble rfl)
  apply Wk.ld (i := 3) 1 false ty4 rfl rfl (by conv => lhs; whnf) (lt_of_ble rfl)
  apply Wk.bin rfl rfl (r := .bool false) (fun w => by simp [go_sem]) (lt_of_ble rfl)
  refine Wk.nil ?_
  refine AW.cond rfl (fun hc => by cases hc) (fun _ => AW.skip (thenA_normal ?_))
  refine AW.seq (AW.seq ?_)
  apply AW.list
  apply Wk.fad 6 0 false fd72_5 rfl (lt_of_ble rfl)
  apply Wk.ld (i := 2) 1 false ty4 rfl rfl (by conv => lhs; whnf) (lt_of_ble rfl)
  apply Wk.fad 6 0 false fd72_5 rfl (lt_of_ble rfl)
  apply Wk.ld (i := 3) 1 false ty4 rfl rfl (by conv => lhs; whnf) (lt_of_ble rfl)
  apply Wk.bin rfl rfl (r := .bool false) (fun w => by simp [go_sem]) (lt_of_ble rfl)
  refine Wk.nil ?_
  refine AW.cond rfl (fun hc => by cases hc) (fun _ => AW.skip (thenA_normal ?_))
  refine AW.seq ?_
  apply AW.list
  apply Wk.asg (by conv => lhs; whnf) (lt_of_ble rfl)
  refine Wk.nil (AW.ret ?_)
  exact RetQ.ret [] (.cons rfl .nil) ⟨rfl, rfl⟩ none_kept
set_option maxHeartbeats 4000000 in
set_option maxRecDepth 100000 in
theorem szRxState_ok (ds : List D) (h : Sh.ok (.struct [.int, .int, (.struct [.int, (.slice .byte)]), .bool, .bool, .bool]) ds) (l : Nat) (hl : l ≤ 1048576) : DataOk Try.prog 117 [.agg (ds.map .d), .d (.v (.int .i64 (l : Int)))] (.d (.v (.int .i64 (leftI l (tots ds))))) := by
  have qf_0 := ok_rec h
  clear h
  obtain ⟨_, _, rfl, hf0, qf_1⟩ := oks_cons qf_0
  clear qf_0
  obtain ⟨nf0, inf0, rfl⟩ := ok_num hf0
  obtain ⟨_, _, rfl, hf1, qf_2⟩ := oks_cons qf_1
  clear qf_1
  obtain ⟨nf1, inf1, rfl⟩ := ok_num hf1
  obtain ⟨dsf2, _, rfl, hf2, qf_3⟩ := oks_cons qf_2
  clear qf_2
  obtain ⟨_, _, rfl, hf3, qf_4⟩ := oks_cons qf_3
  clear qf_3
  obtain ⟨bf3, rfl⟩ := ok_truth hf3
  obtain ⟨_, _, rfl, hf4, qf_5⟩ := oks_cons qf_4
  clear qf_4
  obtain ⟨bf4, rfl⟩ := ok_truth hf4
  obtain ⟨_, _, rfl, hf5, qf_6⟩ := oks_cons qf_5
  clear qf_5
  obtain ⟨bf5, rfl⟩ := ok_truth hf5
  obtain rfl := oks_nil qf_6
  have cf2 := fun (l : Nat) (hl : l ≤ 1048576) => szSegJoin_ok dsf2 hf2 l hl
  obtain ⟨tf2, htf2⟩ : ∃ t, tots dsf2 = t := ⟨_, rfl⟩
  rw [htf2] at cf2
  have hsum : tots ([D.v (.int .i64 nf0)] ++ ([D.v (.int .i64 nf1)] ++ (dsf2 ++ ([D.v (.bool bf3)] ++ ([D.v (.bool bf4)] ++ ([D.v (.bool bf5)] ++ [])))))) = tf2 := by
    simp only [tots_append, tots, htf2, D.tot.eq_1, Nat.add_zero, Nat.zero_add]
    try omega
  rw [hsum]
  clear hsum
  have qf2__0 := ok_rec hf2
  clear hf2
  obtain ⟨_, _, rfl, hf2_0, qf2__1⟩ := oks_cons qf2__0
  clear qf2__0
  obtain ⟨nf2_0, inf2_0, rfl⟩ := ok_num hf2_0
  obtain ⟨_, _, rfl, hf2_1, qf2__2⟩ := oks_cons qf2__1
  clear qf2__1
  obtain ⟨esf2_1, rfl, hef2_1⟩ := ok_row hf2_1
  obtain rfl := oks_nil qf2__2
  simp only [List.cons_append, List.nil_append, List.append_nil, List.map_cons, List.map_nil]
  simp only [List.cons_append, List.nil_append, List.append_nil, List.map_cons, List.map_nil] at cf2
  refine Spec.intro (n := 12) (rv := [.tmp 4]) Try.func117 rfl rfl rfl (by simp) fun C hN hX => ?_
  refine AW.seq ?_
  apply AW.list
  apply Wk.bx 2 rfl rfl (lt_of_ble rfl)
  apply Wk.asg (by conv => lhs; whnf) (lt_of_ble rfl)
  refine Wk.nil ?_
  have df2 := cf2 l (by omega)
  refine AW.seq ?_
  apply AW.list
  apply Wk.fad 2 1 true fd124_2 rfl (lt_of_ble rfl)
  apply Wk.ld (i := 2) 2 true ty122 rfl rfl (by conv => lhs; whnf) (lt_of_ble rfl)
  apply Wk.mv (by conv => lhs; whnf) (lt_of_ble rfl)
  apply Wk.dat df2 Try.func135 rfl rfl rfl rfl rfl (lt_of_ble rfl)
  apply Wk.asg (by conv => lhs; whnf) (lt_of_ble rfl)
  refine Wk.nil ?_
  refine AW.seq (AW.seq ?_)
  by_cases g0 : tf2 ≤ l
  case neg =>
    rw [show leftI l tf2 = -1 from if_neg g0]
    apply AW.list
    apply Wk.mv (by conv => lhs; whnf) (lt_of_ble rfl)
    apply Wk.bin rfl rfl (r := .bool true) (fun w => by simp [go_sem]) (lt_of_ble rfl)
    refine Wk.nil ?_
    refine AW.cond rfl (fun _ => ?_) (fun hc => by cases hc)
    refine AW.seq ?_
    apply AW.list
    apply Wk.asg (by conv => lhs; whnf) (lt_of_ble rfl)
    refine Wk.nil (AW.ret ?_)
    repeat (first | refine thenA_ret ?_ | refine inBlockA_ret ?_)
    exact RetQ.ret [] (.cons rfl .nil) ⟨rfl, rfl⟩ none_kept
  rw [show leftI l tf2 = (l : Int) - (tf2 : Int) from if_pos g0]
  apply AW.list
  apply Wk.mv (by conv => lhs; whnf) (lt_of_ble rfl)
  apply Wk.bin rfl rfl (r := .bool false) (fun w => by simp [go_sem] <;> omega) (lt_of_ble rfl)
  refine Wk.nil ?_
  refine AW.cond rfl (fun hc => by cases hc) (fun _ => AW.skip (thenA_normal ?_))
  refine AW.seq ?_
  apply AW.list
  apply Wk.mv (by conv => lhs; whnf) (lt_of_ble rfl)
  apply Wk.asg (by conv => lhs; whnf) (lt_of_ble rfl)
  refine Wk.nil (AW.ret ?_)
  exact RetQ.ret [] (.cons rfl .nil) ⟨rfl, rfl⟩ none_kept
set_option maxHeartbeats 4000000 in
set_option maxRecDepth 100000 in
theorem toCrdTx_ok (ds : List D) (h : Sh.ok (.struct [.int, (.slice (.struct [.int, .int, (.slice .byte)])), .int, .int, .bool]) ds) (ht : tots ds ≤ 1048576) : DataOk Try.prog 20 [.agg (ds.map .d)] (.agg (ds.map .d)) := by
  have qf_0 := ok_rec h
  clear h
  obtain ⟨_, _, rfl, hf0, qf_1⟩ := oks_cons qf_0
  clear qf_0
  obtain ⟨nf0, inf0, rfl⟩ := ok_num hf0
  obtain ⟨_, _, rfl, hf1, qf_2⟩ := oks_cons qf_1
  clear qf_1
  obtain ⟨esf1, rfl, hef1⟩ := ok_row hf1
  obtain ⟨_, _, rfl, hf2, qf_3⟩ := oks_cons qf_2
  clear qf_2
  obtain ⟨nf2, inf2, rfl⟩ := ok_num hf2
  obtain ⟨_, _, rfl, hf3, qf_4⟩ := oks_cons qf_3
  clear qf_3
  obtain ⟨nf3, inf3, rfl⟩ := ok_num hf3
  obtain ⟨_, _, rfl, hf4, qf_5⟩ := oks_cons qf_4
  clear qf_4
  obtain ⟨bf4, rfl⟩ := ok_truth hf4
  obtain rfl := oks_nil qf_5
  have cf1 := toSegPartS_ok esf1 hef1 (by simp only [tots_append, tots] at ht; omega)
  simp only [List.cons_append, List.nil_append, List.append_nil, List.map_cons, List.map_nil]
  refine Spec.intro (n := 21) (rv := [.cell 2 44]) Try.func20 rfl rfl rfl (by simp) fun C hN hX => ?_
  refine AW.seq ?_
  apply AW.list
  apply Wk.bx 1 rfl rfl (lt_of_ble rfl)
  apply Wk.alc 2 [.int .i64 0, .slice none 0 0, .int .i64 0, .int .i64 0, .bool false] ze44 rfl rfl (lt_of_ble rfl)
  refine Wk.nil ?_
  refine AW.seq ?_
  apply AW.list
  apply Wk.alc 3 [.int .i64 0, .slice none 0 0, .int .i64 0, .int .i64 0, .bool false] ze44 rfl rfl (lt_of_ble rfl)
  refine Wk.nil ?_
  refine AW.seq ?_
  apply AW.list
  apply Wk.fad 0 0 false fd40_0 rfl (lt_of_ble rfl)
  apply Wk.ld (i := 1) 1 false ty3 rfl rfl (by conv => lhs; whnf) (lt_of_ble rfl)
  apply Wk.fad 0 0 false fd44_0 rfl (lt_of_ble rfl)
  apply Wk.sto (i := 3) 1 false ty3 rfl rfl rfl rfl (Nat.le_of_ble_eq_true rfl) (lt_of_ble rfl)
  refine Wk.nil ?_
  refine AW.seq ?_
  apply AW.list
  apply Wk.fad 1 0 false fd40_1 rfl (lt_of_ble rfl)
  apply Wk.ld (i := 1) 1 false ty24 rfl rfl (by conv => lhs; whnf) (lt_of_ble rfl)
  apply Wk.dat cf1 Try.func44 rfl rfl rfl rfl rfl (lt_of_ble rfl)
  apply Wk.fad 1 0 false fd44_1 rfl (lt_of_ble rfl)
  apply Wk.sto (i := 3) 1 false ty31 rfl rfl rfl rfl (Nat.le_of_ble_eq_true rfl) (lt_of_ble rfl)
  refine Wk.nil ?_
  skip
  refine AW.keep (n := 21) (ts := [(1, .ptr 1 0), (2, .ptr 2 0), (3, .ptr 3 0)]) (bs := [(1, .var [A.d (.v (.int .i64 nf0)), A.d (.row esf1), A.d (.v (.int .i64 nf2)), A.d (.v (.int .i64 nf3)), A.d (.v (.bool bf4))]), (2, .var [A.d (.v (.int .i64 0)), A.d (.v (.slice none 0 0)), A.d (.v (.int .i64 0)), A.d (.v (.int .i64 0)), A.d (.v (.bool false))]), (3, .var [A.d (.v (.int .i64 nf0)), A.d (.row esf1), A.d (.v (.int .i64 0)), A.d (.v (.int .i64 0)), A.d (.v (.bool false))])]) ⟨rfl, .cons rfl rfl (.cons rfl rfl (.cons rfl rfl .nil)), .cons rfl rfl (.cons rfl rfl (.cons rfl rfl .nil)), hN.mono (by simp [keys])⟩ ?_
  refine AW.seq ?_
  apply AW.list
  apply Wk.fad 2 0 false fd40_2 rfl (lt_of_ble rfl)
  apply Wk.ld (i := 1) 1 false ty3 rfl rfl (by conv => lhs; whnf) (lt_of_ble rfl)
  apply Wk.fad 2 0 false fd44_2 rfl (lt_of_ble rfl)
  apply Wk.sto (i := 3) 1 false ty3 rfl rfl rfl rfl (Nat.le_of_ble_eq_true rfl) (lt_of_ble rfl)
  refine Wk.nil ?_
  refine AW.seq ?_
  apply AW.list
  apply Wk.fad 3 0 false fd40_3 rfl (lt_of_ble rfl)
  apply Wk.ld (i := 1) 1 false ty3 rfl rfl (by conv => lhs; whnf) (lt_of_ble rfl)
  apply Wk.fad 3 0 false fd44_3 rfl (lt_of_ble rfl)
  apply Wk.sto (i := 3) 1 false ty3 rfl rfl rfl rfl (Nat.le_of_ble_eq_true rfl) (lt_of_ble rfl)
  refine Wk.nil ?_
  skip
  refine AW.keep (n := 21) (ts := [(1, .ptr 1 0), (2, .ptr 2 0), (3, .ptr 3 0)]) (bs := [(1, .var [A.d (.v (.int .i64 nf0)), A.d (.row esf1), A.d (.v (.int .i64 nf2)), A.d (.v (.int .i64 nf3)), A.d (.v (.bool bf4))]), (2, .var [A.d (.v (.int .i64 0)), A.d (.v (.slice none 0 0)), A.d (.v (.int .i64 0)), A.d (.v (.int .i64 0)), A.d (.v (.bool false))]), (3, .var [A.d (.v (.int .i64 nf0)), A.d (.row esf1), A.d (.v (.int .i64 nf2)), A.d (.v (.int .i64 nf3)), A.d (.v (.bool false))])]) ⟨rfl, .cons rfl rfl (.cons rfl rfl (.cons rfl rfl .nil)), .cons rfl rfl (.cons rfl rfl (.cons rfl rfl .nil)), hN.mono (by simp [keys])⟩ ?_
  refine AW.seq ?_
  apply AW.list
  apply Wk.fad 4 0 false fd40_4 rfl (lt_of_ble rfl)
  apply Wk.ld (i := 1) 1 false ty4 rfl rfl (by conv => lhs; whnf) (lt_of_ble rfl)
  apply Wk.fad 4 0 false fd44_4 rfl (lt_of_ble rfl)
  apply Wk.sto (i := 3) 1 false ty4 rfl rfl rfl rfl (Nat.le_of_ble_eq_true rfl) (lt_of_ble rfl)
  refine Wk.nil ?_
  refine AW.seq ?_
  apply AW.list
  apply Wk.ld (i := 3) 5 true ty44 rfl rfl (by conv => lhs; whnf) (lt_of_ble rfl)
  apply Wk.sto (i := 2) 5 true ty44 rfl rfl rfl rfl (Nat.le_of_ble_eq_true rfl) (lt_of_ble rfl)
  refine Wk.nil (AW.ret ?_)
  exact RetQ.ret [] (.cons ⟨2, 0, _, _, _, rfl, rfl, ty44, rfl⟩ .nil) ⟨rfl, rfl⟩ none_kept
set_option maxHeartbeats 4000000 in
set_option maxRecDepth 100000 in
theorem eqCrdTx_ok (ds : List D) (h : Sh.ok (.struct [.int, (.slice (.struct [.int, .int, (.slice .byte)])), .int, .int, .bool]) ds) : DataOk Try.prog 22 [.agg (ds.map .d), .agg (ds.map .d)] (.d (.v (.bool true))) := by
  have qf_0 := ok_rec h
  clear h
  obtain ⟨_, _, rfl, hf0, qf_1⟩ := oks_cons qf_0
  clear qf_0
  obtain ⟨nf0, inf0, rfl⟩ := ok_num hf0
  obtain ⟨_, _, rfl, hf1, qf_2⟩ := oks_cons qf_1
  clear qf_1
  obtain ⟨esf1, rfl, hef1⟩ := ok_row hf1
  obtain ⟨_, _, rfl, hf2, qf_3⟩ := oks_cons qf_2
  clear qf_2
  obtain ⟨nf2, inf2, rfl⟩ := ok_num hf2
  obtain ⟨_, _, rfl, hf3, qf_4⟩ := oks_cons qf_3
  clear qf_3
  obtain ⟨nf3, inf3, rfl⟩ := ok_num hf3
  obtain ⟨_, _, rfl, hf4, qf_5⟩ := oks_cons qf_4
  clear qf_4
  obtain ⟨bf4, rfl⟩ := ok_truth hf4
  obtain rfl := oks_nil qf_5
  have cf1 := eqSegPartS_ok esf1 hef1
  simp only [List.cons_append, List.nil_append, List.append_nil, List.map_cons, List.map_nil]
  refine Spec.intro (n := 31) (rv := [.tmp 4]) Try.func22 rfl rfl rfl (by simp) fun C hN hX => ?_
  refine AW.seq ?_
  apply AW.list
  apply Wk.bx 2 rfl rfl (lt_of_ble rfl)
  apply Wk.bx 3 rfl rfl (lt_of_ble rfl)
  apply Wk.asg (by conv => lhs; whnf) (lt_of_ble rfl)
  refine Wk.nil ?_
  refine AW.seq (AW.seq ?_)
  apply AW.list
  apply Wk.fad 0 0 false fd44_0 rfl (lt_of_ble rfl)
  apply Wk.ld (i := 2) 1 false ty3 rfl rfl (by conv => lhs; whnf) (lt_of_ble rfl)
  apply Wk.fad 0 0 false fd44_0 rfl (lt_of_ble rfl)
  apply Wk.ld (i := 3) 1 false ty3 rfl rfl (by conv => lhs; whnf) (lt_of_ble rfl)
  apply Wk.bin rfl rfl (r := .bool false) (fun w => by simp [go_sem]) (lt_of_ble rfl)
  refine Wk.nil ?_
  refine AW.cond rfl (fun hc => by cases hc) (fun _ => AW.skip (thenA_normal ?_))
  refine AW.seq (AW.seq ?_)
  apply AW.list
  apply Wk.fad 1 0 false fd44_1 rfl (lt_of_ble rfl)
  apply Wk.ld (i := 2) 1 false ty31 rfl rfl (by conv => lhs; whnf) (lt_of_ble rfl)
  apply Wk.fad 1 0 false fd44_1 rfl (lt_of_ble rfl)
  apply Wk.ld (i := 3) 1 false ty31 rfl rfl (by conv => lhs; whnf) (lt_of_ble rfl)
  apply Wk.dat cf1 Try.func50 rfl rfl rfl rfl rfl (lt_of_ble rfl)
  apply Wk.un rfl (fun w => by simp [go_sem] <;> rfl) (lt_of_ble rfl)
  refine Wk.nil ?_
  refine AW.cond rfl (fun hc => by cases hc) (fun _ => AW.skip (thenA_normal ?_))
  refine AW.seq (AW.seq ?_)
  apply AW.list
  apply Wk.fad 2 0 false fd44_2 rfl (lt_of_ble rfl)
  apply Wk.ld (i := 2) 1 false ty3 rfl rfl (by conv => lhs; whnf) (lt_of_ble rfl)
  apply Wk.fad 2 0 false fd44_2 rfl (lt_of_ble rfl)
  apply Wk.ld (i := 3) 1 false ty3 rfl rfl (by conv => lhs; whnf) (lt_of_ble rfl)
  apply Wk.bin rfl rfl (r := .bool false) (fun w => by simp [go_sem]) (lt_of_ble rfl)
  refine Wk.nil ?_
  refine AW.cond rfl (fun hc => by cases hc) (fun _ => AW.skip (thenA_normal ?_))
  refine AW.seq (AW.seq ?_)
  apply AW.list
  apply Wk.fad 3 0 false fd44_3 rfl (lt_of_ble rfl)
  apply Wk.ld (i := 2) 1 false ty3 rfl rfl (by conv => lhs; whnf) (lt_of_ble rfl)
  apply Wk.fad 3 0 false fd44_3 rfl (lt_of_ble rfl)
  apply Wk.ld (i := 3) 1 false ty3 rfl rfl (by conv => lhs; whnf) (lt_of_ble rfl)
  apply Wk.bin rfl rfl (r := .bool false) (fun w => by simp [go_sem]) (lt_of_ble rfl)
  refine Wk.nil ?_
  refine AW.cond rfl (fun hc => by cases hc) (fun _ => AW.skip (thenA_normal ?_))
  refine AW.seq (AW.seq ?_)
  apply AW.list
  apply Wk.fad 4 0 false fd44_4 rfl (lt_of_ble rfl)
  apply Wk.ld (i := 2) 1 false ty4 rfl rfl (by conv => lhs; whnf) (lt_of_ble rfl)
  apply Wk.fad 4 0 false fd44_4 rfl (lt_of_ble rfl)
  apply Wk.ld (i := 3) 1 false ty4 rfl rfl (by conv => lhs; whnf) (lt_of_ble rfl)
  apply Wk.bin rfl rfl (r := .bool false) (fun w => by simp [go_sem]) (lt_of_ble rfl)
  refine Wk.nil ?_
  refine AW.cond rfl (fun hc => by cases hc) (fun _ => AW.skip (thenA_normal ?_))
  refine AW.seq ?_
  apply AW.list
  apply Wk.asg (by conv => lhs; whnf) (lt_of_ble rfl)
  refine Wk.nil (AW.ret ?_)
  exact RetQ.ret [] (.cons rfl .nil) ⟨rfl, rfl⟩ none_kept
set_option maxHeartbeats 4000000 in
set_option maxRecDepth 100000 in
theorem szCrdTx_ok (ds : List D) (h : Sh.ok (.struct [.int, (.slice (.struct [.int, .int, (.slice .byte)])), .int, .int, .bool]) ds) (l : Nat) (hl : l ≤ 1048576) : DataOk Try.prog 18 [.agg (ds.map .d), .d (.v (.int .i64 (l : Int)))] (.d (.v (.int .i64 (leftI l (tots ds))))) := by
  have qf_0 := ok_rec h
  clear h
  obtain ⟨_, _, rfl, hf0, qf_1⟩ := oks_cons qf_0
  clear qf_0
  obtain ⟨nf0, inf0, rfl⟩ := ok_num hf0
  obtain ⟨_, _, rfl, hf1, qf_2⟩ := oks_cons qf_1
  clear qf_1
  obtain ⟨esf1, rfl, hef1⟩ := ok_row hf1
  obtain ⟨_, _, rfl, hf2, qf_3⟩ := oks_cons qf_2
  clear qf_2
  obtain ⟨nf2, inf2, rfl⟩ := ok_num hf2
  obtain ⟨_, _, rfl, hf3, qf_4⟩ := oks_cons qf_3
  clear qf_3
  obtain ⟨nf3, inf3, rfl⟩ := ok_num hf3
  obtain ⟨_, _, rfl, hf4, qf_5⟩ := oks_cons qf_4
  clear qf_4
  obtain ⟨bf4, rfl⟩ := ok_truth hf4
  obtain rfl := oks_nil qf_5
  have cf1 := fun (l : Nat) (hl : l ≤ 1048576) => szSegPartS_ok esf1 hef1 l hl
  obtain ⟨tf1, htf1⟩ : ∃ t, (D.row esf1).tot = t := ⟨_, rfl⟩
  rw [htf1] at cf1
  have hsum : tots ([D.v (.int .i64 nf0)] ++ ([D.row esf1] ++ ([D.v (.int .i64 nf2)] ++ ([D.v (.int .i64 nf3)] ++ ([D.v (.bool bf4)] ++ []))))) = tf1 := by
    simp only [tots_append, tots, htf1, D.tot.eq_1, Nat.add_zero, Nat.zero_add]
    try omega
  rw [hsum]
  clear hsum
  simp only [List.cons_append, List.nil_append, List.append_nil, List.map_cons, List.map_nil]
  refine Spec.intro (n := 12) (rv := [.tmp 4]) Try.func18 rfl rfl rfl (by simp) fun C hN hX => ?_
  refine AW.seq ?_
  apply AW.list
  apply Wk.bx 2 rfl rfl (lt_of_ble rfl)
  apply Wk.asg (by conv => lhs; whnf) (lt_of_ble rfl)
  refine Wk.nil ?_
  have df1 := cf1 l (by omega)
  refine AW.seq ?_
  apply AW.list
  apply Wk.fad 1 0 false fd40_1 rfl (lt_of_ble rfl)
  apply Wk.ld (i := 2) 1 false ty24 rfl rfl (by conv => lhs; whnf) (lt_of_ble rfl)
  apply Wk.mv (by conv => lhs; whnf) (lt_of_ble rfl)
  apply Wk.dat df1 Try.func39 rfl rfl rfl rfl rfl (lt_of_ble rfl)
  apply Wk.asg (by conv => lhs; whnf) (lt_of_ble rfl)
  refine Wk.nil ?_
  refine AW.seq (AW.seq ?_)
  by_cases g0 : tf1 ≤ l
  case neg =>
    rw [show leftI l tf1 = -1 from if_neg g0]
    apply AW.list
    apply Wk.mv (by conv => lhs; whnf) (lt_of_ble rfl)
    apply Wk.bin rfl rfl (r := .bool true) (fun w => by simp [go_sem]) (lt_of_ble rfl)
    refine Wk.nil ?_
    refine AW.cond rfl (fun _ => ?_) (fun hc => by cases hc)
    refine AW.seq ?_
    apply AW.list
    apply Wk.asg (by conv => lhs; whnf) (lt_of_ble rfl)
    refine Wk.nil (AW.ret ?_)
    repeat (first | refine thenA_ret ?_ | refine inBlockA_ret ?_)
    exact RetQ.ret [] (.cons rfl .nil) ⟨rfl, rfl⟩ none_kept
  rw [show leftI l tf1 = (l : Int) - (tf1 : Int) from if_pos g0]
  apply AW.list
  apply Wk.mv (by conv => lhs; whnf) (lt_of_ble rfl)
  apply Wk.bin rfl rfl (r := .bool false) (fun w => by simp [go_sem] <;> omega) (lt_of_ble rfl)
  refine Wk.nil ?_
  refine AW.cond rfl (fun hc => by cases hc) (fun _ => AW.skip (thenA_normal ?_))
  refine AW.seq ?_
  apply AW.list
  apply Wk.mv (by conv => lhs; whnf) (lt_of_ble rfl)
  apply Wk.asg (by conv => lhs; whnf) (lt_of_ble rfl)
  refine Wk.nil (AW.ret ?_)
  exact RetQ.ret [] (.cons rfl .nil) ⟨rfl, rfl⟩ none_kept
set_option maxHeartbeats 4000000 in
set_option maxRecDepth 100000 in
theorem toCrdRx_ok (ds : List D) (h : Sh.ok (.struct [.int, (.struct [.int, (.slice .byte)]), .bool]) ds) (ht : tots ds ≤ 1048576) : DataOk Try.prog 123 [.agg (ds.map .d)] (.agg (ds.map .d)) := by
  have qf_0 := ok_rec h
  clear h
  obtain ⟨_, _, rfl, hf0, qf_1⟩ := oks_cons qf_0
  clear qf_0
  obtain ⟨nf0, inf0, rfl⟩ := ok_num hf0
  obtain ⟨dsf1, _, rfl, hf1, qf_2⟩ := oks_cons qf_1
  clear qf_1
  obtain ⟨_, _, rfl, hf2, qf_3⟩ := oks_cons qf_2
  clear qf_2
  obtain ⟨bf2, rfl⟩ := ok_truth hf2
  obtain rfl := oks_nil qf_3
  have cf1 := toSegJoin_ok dsf1 hf1 (by simp only [tots_append, tots] at ht; omega)
  have qf1__0 := ok_rec hf1
  clear hf1
  obtain ⟨_, _, rfl, hf1_0, qf1__1⟩ := oks_cons qf1__0
  clear qf1__0
  obtain ⟨nf1_0, inf1_0, rfl⟩ := ok_num hf1_0
  obtain ⟨_, _, rfl, hf1_1, qf1__2⟩ := oks_cons qf1__1
  clear qf1__1
  obtain ⟨esf1_1, rfl, hef1_1⟩ := ok_row hf1_1
  obtain rfl := oks_nil qf1__2
  simp only [List.cons_append, List.nil_append, List.append_nil, List.map_cons, List.map_nil]
  simp only [List.cons_append, List.nil_append, List.append_nil, List.map_cons, List.map_nil] at cf1
  refine Spec.intro (n := 15) (rv := [.cell 2 74]) Try.func123 rfl rfl rfl (by simp) fun C hN hX => ?_
  refine AW.seq ?_
  apply AW.list
  apply Wk.bx 1 rfl rfl (lt_of_ble rfl)
  apply Wk.alc 2 [.int .i64 0, .int .i64 0, .slice none 0 0, .bool false] ze74 rfl rfl (lt_of_ble rfl)
  refine Wk.nil ?_
  refine AW.seq ?_
  apply AW.list
  apply Wk.alc 3 [.int .i64 0, .int .i64 0, .slice none 0 0, .bool false] ze74 rfl rfl (lt_of_ble rfl)
  refine Wk.nil ?_
  refine AW.seq ?_
  apply AW.list
  apply Wk.fad 0 0 false fd126_0 rfl (lt_of_ble rfl)
  apply Wk.ld (i := 1) 1 false ty3 rfl rfl (by conv => lhs; whnf) (lt_of_ble rfl)
  apply Wk.fad 0 0 false fd74_0 rfl (lt_of_ble rfl)
  apply Wk.sto (i := 3) 1 false ty3 rfl rfl rfl rfl (Nat.le_of_ble_eq_true rfl) (lt_of_ble rfl)
  refine Wk.nil ?_
  refine AW.seq ?_
  apply AW.list
  apply Wk.fad 1 1 true fd126_1 rfl (lt_of_ble rfl)
  apply Wk.ld (i := 1) 2 true ty122 rfl rfl (by conv => lhs; whnf) (lt_of_ble rfl)
  apply Wk.dat cf1 Try.func136 rfl rfl rfl rfl rfl (lt_of_ble rfl)
  apply Wk.fad 1 1 true fd74_1 rfl (lt_of_ble rfl)
  apply Wk.sto (i := 3) 2 true ty70 rfl rfl rfl rfl (Nat.le_of_ble_eq_true rfl) (lt_of_ble rfl)
  refine Wk.nil ?_
  refine AW.seq ?_
  apply AW.list
  apply Wk.fad 3 0 false fd126_2 rfl (lt_of_ble rfl)
  apply Wk.ld (i := 1) 1 false ty4 rfl rfl (by conv => lhs; whnf) (lt_of_ble rfl)
  apply Wk.fad 3 0 false fd74_2 rfl (lt_of_ble rfl)
  apply Wk.sto (i := 3) 1 false ty4 rfl rfl rfl rfl (Nat.le_of_ble_eq_true rfl) (lt_of_ble rfl)
  refine Wk.nil ?_
  refine AW.seq ?_
  apply AW.list
  apply Wk.ld (i := 3) 4 true ty74 rfl rfl (by conv => lhs; whnf) (lt_of_ble rfl)
  apply Wk.sto (i := 2) 4 true ty74 rfl rfl rfl rfl (Nat.le_of_ble_eq_true rfl) (lt_of_ble rfl)
  refine Wk.nil (AW.ret ?_)
  exact RetQ.ret [] (.cons ⟨2, 0, _, _, _, rfl, rfl, ty74, rfl⟩ .nil) ⟨rfl, rfl⟩ none_kept
set_option maxHeartbeats 4000000 in
set_option maxRecDepth 100000 in
theorem eqCrdRx_ok (ds : List D) (h : Sh.ok (.struct [.int, (.struct [.int, (.slice .byte)]), .bool]) ds) : DataOk Try.prog 131 [.agg (ds.map .d), .agg (ds.map .d)] (.d (.v (.bool true))) := by
  have qf_0 := ok_rec h
  clear h
  obtain ⟨_, _, rfl, hf0, qf_1⟩ := oks_cons qf_0
  clear qf_0
  obtain ⟨nf0, inf0, rfl⟩ := ok_num hf0
  obtain ⟨dsf1, _, rfl, hf1, qf_2⟩ := oks_cons qf_1
  clear qf_1
  obtain ⟨_, _, rfl, hf2, qf_3⟩ := oks_cons qf_2
  clear qf_2
  obtain ⟨bf2, rfl⟩ := ok_truth hf2
  obtain rfl := oks_nil qf_3
  have cf1 := eqSegJoin_ok dsf1 hf1
  have qf1__0 := ok_rec hf1
  clear hf1
  obtain ⟨_, _, rfl, hf1_0, qf1__1⟩ := oks_cons qf1__0
  clear qf1__0
  obtain ⟨nf1_0, inf1_0, rfl⟩ := ok_num hf1_0
  obtain ⟨_, _, rfl, hf1_1, qf1__2⟩ := oks_cons qf1__1
  clear qf1__1
  obtain ⟨esf1_1, rfl, hef1_1⟩ := ok_row hf1_1
  obtain rfl := oks_nil qf1__2
  simp only [List.cons_append, List.nil_append, List.append_nil, List.map_cons, List.map_nil]
  simp only [List.cons_append, List.nil_append, List.append_nil, List.map_cons, List.map_nil] at cf1
  refine Spec.intro (n := 21) (rv := [.tmp 4]) Try.func131 rfl rfl rfl (by simp) fun C hN hX => ?_
  refine AW.seq ?_
  apply AW.list
  apply Wk.bx 2 rfl rfl (lt_of_ble rfl)
  apply Wk.bx 3 rfl rfl (lt_of_ble rfl)
  apply Wk.asg (by conv => lhs; whnf) (lt_of_ble rfl)
  refine Wk.nil ?_
  refine AW.seq (AW.seq ?_)
  apply AW.list
  apply Wk.fad 0 0 false fd74_0 rfl (lt_of_ble rfl)
  apply Wk.ld (i := 2) 1 false ty3 rfl rfl (by conv => lhs; whnf) (lt_of_ble rfl)
  apply Wk.fad 0 0 false fd74_0 rfl (lt_of_ble rfl)
  apply Wk.ld (i := 3) 1 false ty3 rfl rfl (by conv => lhs; whnf) (lt_of_ble rfl)
  apply Wk.bin rfl rfl (r := .bool false) (fun w => by simp [go_sem]) (lt_of_ble rfl)
  refine Wk.nil ?_
  refine AW.cond rfl (fun hc => by cases hc) (fun _ => AW.skip (thenA_normal ?_))
  refine AW.seq (AW.seq ?_)
  apply AW.list
  apply Wk.fad 1 1 true fd74_1 rfl (lt_of_ble rfl)
  apply Wk.ld (i := 2) 2 true ty70 rfl rfl (by conv => lhs; whnf) (lt_of_ble rfl)
  apply Wk.fad 1 1 true fd74_1 rfl (lt_of_ble rfl)
  apply Wk.ld (i := 3) 2 true ty70 rfl rfl (by conv => lhs; whnf) (lt_of_ble rfl)
  apply Wk.dat cf1 Try.func138 rfl rfl rfl rfl rfl (lt_of_ble rfl)
  apply Wk.un rfl (fun w => by simp [go_sem] <;> rfl) (lt_of_ble rfl)
  refine Wk.nil ?_
  refine AW.cond rfl (fun hc => by cases hc) (fun _ => AW.skip (thenA_normal ?_))
  refine AW.seq (AW.seq ?_)
  apply AW.list
  apply Wk.fad 3 0 false fd74_2 rfl (lt_of_ble rfl)
  apply Wk.ld (i := 2) 1 false ty4 rfl rfl (by conv => lhs; whnf) (lt_of_ble rfl)
  apply Wk.fad 3 0 false fd74_2 rfl (lt_of_ble rfl)
  apply Wk.ld (i := 3) 1 false ty4 rfl rfl (by conv => lhs; whnf) (lt_of_ble rfl)
  apply Wk.bin rfl rfl (r := .bool false) (fun w => by simp [go_sem]) (lt_of_ble rfl)
  refine Wk.nil ?_
  refine AW.cond rfl (fun hc => by cases hc) (fun _ => AW.skip (thenA_normal ?_))
  refine AW.seq ?_
  apply AW.list
  apply Wk.asg (by conv => lhs; whnf) (lt_of_ble rfl)
  refine Wk.nil (AW.ret ?_)
  exact RetQ.ret [] (.cons rfl .nil) ⟨rfl, rfl⟩ none_kept
set_option maxHeartbeats 4000000 in
set_option maxRecDepth 100000 in
theorem szCrdRx_ok (ds : List D) (h : Sh.ok (.struct [.int, (.struct [.int, (.slice .byte)]), .bool]) ds) (l : Nat) (hl : l ≤ 1048576) : DataOk Try.prog 118 [.agg (ds.map .d), .d (.v (.int .i64 (l : Int)))] (.d (.v (.int .i64 (leftI l (tots ds))))) := by
  have qf_0 := ok_rec h
  clear h
  obtain ⟨_, _, rfl, hf0, qf_1⟩ := oks_cons qf_0
  clear qf_0
  obtain ⟨nf0, inf0, rfl⟩ := ok_num hf0
  obtain ⟨dsf1, _, rfl, hf1, qf_2⟩ := oks_cons qf_1
  clear qf_1
  obtain ⟨_, _, rfl, hf2, qf_3⟩ := oks_cons qf_2
  clear qf_2
  obtain ⟨bf2, rfl⟩ := ok_truth hf2
  obtain rfl := oks_nil qf_3
  have cf1 := fun (l : Nat) (hl : l ≤ 1048576) => szSegJoin_ok dsf1 hf1 l hl
  obtain ⟨tf1, htf1⟩ : ∃ t, tots dsf1 = t := ⟨_, rfl⟩
  rw [htf1] at cf1
  have hsum : tots ([D.v (.int .i64 nf0)] ++ (dsf1 ++ ([D.v (.bool bf2)] ++ []))) = tf1 := by
    simp only [tots_append, tots, htf1, D.tot.eq_1, Nat.add_zero, Nat.zero_add]
    try omega
  rw [hsum]
  clear hsum
  have qf1__0 := ok_rec hf1
  clear hf1
  obtain ⟨_, _, rfl, hf1_0, qf1__1⟩ := oks_cons qf1__0
  clear qf1__0
  obtain ⟨nf1_0, inf1_0, rfl⟩ := ok_num hf1_0
  obtain ⟨_, _, rfl, hf1_1, qf1__2⟩ := oks_cons qf1__1
  clear qf1__1
  obtain ⟨esf1_1, rfl, hef1_1⟩ := ok_row hf1_1
  obtain rfl := oks_nil qf1__2
  simp only [List.cons_append, List.nil_append, List.append_nil, List.map_cons, List.map_nil]
  simp only [List.cons_append, List.nil_append, List.append_nil, List.map_cons, List.map_nil] at cf1
  refine Spec.intro (n := 12) (rv := [.tmp 4]) Try.func118 rfl rfl rfl (by simp) fun C hN hX => ?_
  refine AW.seq ?_
  apply AW.list
  apply Wk.bx 2 rfl rfl (lt_of_ble rfl)
  apply Wk.asg (by conv => lhs; whnf) (lt_of_ble rfl)
  refine Wk.nil ?_
  have df1 := cf1 l (by omega)
  refine AW.seq ?_
  apply AW.list
  apply Wk.fad 1 1 true fd126_1 rfl (lt_of_ble rfl)
  apply Wk.ld (i := 2) 2 true ty122 rfl rfl (by conv => lhs; whnf) (lt_of_ble rfl)
  apply Wk.mv (by conv => lhs; whnf) (lt_of_ble rfl)
  apply Wk.dat df1 Try.func135 rfl rfl rfl rfl rfl (lt_of_ble rfl)
  apply Wk.asg (by conv => lhs; whnf) (lt_of_ble rfl)
  refine Wk.nil ?_
  refine AW.seq (AW.seq ?_)
  by_cases g0 : tf1 ≤ l
  case neg =>
    rw [show leftI l tf1 = -1 from if_neg g0]
    apply AW.list
    apply Wk.mv (by conv => lhs; whnf) (lt_of_ble rfl)
    apply Wk.bin rfl rfl (r := .bool true) (fun w => by simp [go_sem]) (lt_of_ble rfl)
    refine Wk.nil ?_
    refine AW.cond rfl (fun _ => ?_) (fun hc => by cases hc)
    refine AW.seq ?_
    apply AW.list
    apply Wk.asg (by conv => lhs; whnf) (lt_of_ble rfl)
    refine Wk.nil (AW.ret ?_)
    repeat (first | refine thenA_ret ?_ | refine inBlockA_ret ?_)
    exact RetQ.ret [] (.cons rfl .nil) ⟨rfl, rfl⟩ none_kept
  rw [show leftI l tf1 = (l : Int) - (tf1 : Int) from if_pos g0]
  apply AW.list
  apply Wk.mv (by conv => lhs; whnf) (lt_of_ble rfl)
  apply Wk.bin rfl rfl (r := .bool false) (fun w => by simp [go_sem] <;> omega) (lt_of_ble rfl)
  refine Wk.nil ?_
  refine AW.cond rfl (fun hc => by cases hc) (fun _ => AW.skip (thenA_normal ?_))
  refine AW.seq ?_
  apply AW.list
  apply Wk.mv (by conv => lhs; whnf) (lt_of_ble rfl)
  apply Wk.asg (by conv => lhs; whnf) (lt_of_ble rfl)
  refine Wk.nil (AW.ret ?_)
  exact RetQ.ret [] (.cons rfl .nil) ⟨rfl, rfl⟩ none_kept
set_option maxHeartbeats 4000000 in
set_option maxRecDepth 100000 in
theorem toByteSS_ok (es : List (List D)) (he : ∀ e ∈ es, Sh.ok (.slice .byte) e) (ht : (D.row es).tot ≤ 1048576) : DataOk Try.prog 124 [.d (.row es)] (.d (.row es)) := by
  have hl : es.length ≤ 1048576 := by simp only [D.tot] at ht; omega
  have hz : ∀ c ∈ es, c.length = 1 := sh_lens he
  refine Spec.intro (n := 23) (rv := [.tmp 2]) Try.func124 rfl rfl rfl (by simp) fun C hN hX => ?_
  refine AW.seq ?_
  apply AW.list
  apply Wk.asg (by conv => lhs; whnf) (lt_of_ble rfl)
  refine Wk.nil ?_
  refine AW.seq ?_
  apply AW.list
  apply Wk.mv (by conv => lhs; whnf) (lt_of_ble rfl)
  apply Wk.len un75 rfl (lt_of_ble rfl)
  apply Wk.mks 7 1 es.length un75 ap64 ze64 rfl rfl rfl rfl (by omega) (lt_of_ble rfl)
  apply Wk.asg (by conv => lhs; whnf) (lt_of_ble rfl)
  refine Wk.nil ?_
  refine AW.seq (AW.seq ?_)
  apply AW.list
  apply Wk.asg (by conv => lhs; whnf) (lt_of_ble rfl)
  refine Wk.nil (AW.block ?_)
  refine AW.loop (fun q : Nat => St.of 23 [(0, .d (.row es)), (3, .own 7 0), (4, .d (.v (.int .i64 (q : Int))))] [(7, .own 0 64 1 (mixA es [.slice none 0 0] q))]) (fun q => q ≤ es.length) (fun q => es.length - q) 0 (Nat.zero_le _) ?_ (fun q hq => ?_)
  · exact fun a w => Rel.keep ⟨rfl, .cons rfl rfl (.cons rfl rfl (.cons rfl rfl .nil)), .cons (by rw [mix_zero]; rfl) (by exact mix_within _ _ _) .nil, hN.mono (by simp [keys])⟩
  refine AW.seq (AW.seq ?_)
  apply AW.list
  apply Wk.mv (by conv => lhs; whnf) (lt_of_ble rfl)
  apply Wk.mv (by conv => lhs; whnf) (lt_of_ble rfl)
  apply Wk.len un75 rfl (lt_of_ble rfl)
  apply Wk.bin rfl rfl (fun w => by simp [go_sem] <;> rfl) (lt_of_ble rfl)
  refine Wk.nil ?_
  refine AW.cond rfl (fun hc => ?_) (fun hc => ?_)
  · have hlt : q < es.length := by simpa using hc
    obtain ⟨e, hd⟩ : ∃ e, es[q]? = some e := ⟨_, List.getElem?_eq_getElem hlt⟩
    have hse := he e (List.mem_of_getElem? hd)
    have hel : e.length = 1 := hz e (List.mem_of_getElem? hd)
    have hms := mix_set (es := es) (zs := [.slice none 0 0]) hd (by rw [hel]; rfl)
    have hmg := mix_get (es := es) (zs := [.slice none 0 0]) hlt
    have hml := mix_len (es := es) (zs := [.slice none 0 0]) (Nat.le_of_lt hlt)
    refine AW.skip ?_
    repeat (first | refine thenA_normal ?_ | refine inBlockA_normal ?_)
    refine AW.seq (AW.block ?_)
    have ht1 : tots e ≤ 1048576 := by have := totss_get hd; simp only [D.tot] at ht; omega
    obtain ⟨fs, rfl, hf⟩ := hse
    have ht2 : (D.row fs).tot ≤ 1048576 := by simpa [tots] using ht1
    apply AW.list
    apply Wk.mv (by conv => lhs; whnf) (lt_of_ble rfl)
    apply Wk.mv (by conv => lhs; whnf) (lt_of_ble rfl)
    apply Wk.mv (by conv => lhs; whnf) (lt_of_ble rfl)
    apply Wk.mv (by conv => lhs; whnf) (lt_of_ble rfl)
    apply Wk.iad 1 false un75 ty64 rfl rfl (by omega) hz (lt_of_ble rfl)
    apply Wk.ldr 1 false ty64 rfl hd (by conv => lhs; whnf) (lt_of_ble rfl)
    apply Wk.dat (toByteS_ok fs hf ht2) Try.func114 rfl rfl rfl rfl rfl (lt_of_ble rfl)
    apply Wk.iado 7 1 false un75 ty64 rfl rfl rfl (by rw [hml]; exact hlt) (lt_of_ble rfl)
    apply Wk.stoo 7 q 0 1 false ty64 rfl rfl (by omega) hmg rfl rfl (by decide) (lt_of_ble rfl)
    refine Wk.nil ?_
    repeat (first | refine thenA_normal ?_ | refine inBlockA_normal ?_)
    apply AW.list
    apply Wk.mv (by conv => lhs; whnf) (lt_of_ble rfl)
    apply Wk.addi rfl rfl (by omega) (lt_of_ble rfl)
    apply Wk.asg (by conv => lhs; whnf) (lt_of_ble rfl)
    refine Wk.nil ?_
    exact ⟨q + 1, by omega, by omega, fun a w => Rel.keep ⟨rfl, .cons rfl rfl (.cons rfl rfl (.cons rfl rfl .nil)), .cons (congrArg (Bx.own 0 64 1) hms) (by exact mix_within _ _ _) .nil, hN.mono (by simp [keys])⟩⟩
  · obtain rfl : q = es.length := by
      have : ¬ q < es.length := by simpa using hc
      omega
    refine AW.exit ?_
    repeat (first | refine inBlockA_same ?_ | refine thenA_exit ?_)
    repeat (first | refine thenA_normal ?_ | refine inBlockA_normal ?_)
    refine AW.seq ?_
    apply AW.list
    apply Wk.mv (by conv => lhs; whnf) (lt_of_ble rfl)
    apply Wk.asg (by conv => lhs; whnf) (lt_of_ble rfl)
    refine Wk.nil ?_
    repeat (first | refine thenA_normal ?_ | refine inBlockA_normal ?_)
    refine AW.thaw (t := 2) (i := 7) es rfl rfl (by rw [mix_end]; exact asData_sh he) hX.none ?_
    refine AW.ret ?_
    repeat (first | refine thenA_ret ?_ | refine inBlockA_ret ?_)
    exact RetQ.ret [] (.cons rfl .nil) ⟨rfl, rfl⟩ none_kept
set_option maxHeartbeats 4000000 in
set_option maxRecDepth 100000 in
theorem eqByteSS_ok (es : List (List D)) (he : ∀ e ∈ es, Sh.ok (.slice .byte) e) : DataOk Try.prog 132 [.d (.row es), .d (.row es)] (.d (.v (.bool true))) := by
  have hz : ∀ c ∈ es, c.length = 1 := sh_lens he
  refine Spec.intro (n := 27) (rv := [.tmp 4]) Try.func132 rfl rfl rfl (by simp) fun C hN hX => ?_
  refine AW.bound (x := .tmp 0) (es := es) rfl fun hb => ?_
  refine AW.seq ?_
  apply AW.list
  apply Wk.asg (by conv => lhs; whnf) (lt_of_ble rfl)
  refine Wk.nil ?_
  refine AW.seq (AW.seq ?_)
  apply AW.list
  apply Wk.mv (by conv => lhs; whnf) (lt_of_ble rfl)
  apply Wk.len un75 rfl (lt_of_ble rfl)
  apply Wk.mv (by conv => lhs; whnf) (lt_of_ble rfl)
  apply Wk.len un75 rfl (lt_of_ble rfl)
  apply Wk.bin rfl rfl (fun w => by simp [go_sem] <;> rfl) (lt_of_ble rfl)
  refine Wk.nil ?_
  refine AW.cond rfl (fun hc => by simp at hc) (fun _ => AW.skip (thenA_normal ?_))
  refine AW.seq (AW.seq ?_)
  apply AW.list
  apply Wk.asg (by conv => lhs; whnf) (lt_of_ble rfl)
  refine Wk.nil (AW.block ?_)
  refine AW.loop (fun q : Nat => St.of 27 [(0, .d (.row es)), (1, .d (.row es)), (5, .d (.v (.int .i64 (q : Int))))] []) (fun q => q ≤ es.length) (fun q => es.length - q) 0 (Nat.zero_le _) ?_ (fun q hq => ?_)
  · exact fun a w => Rel.keep ⟨rfl, .cons rfl rfl (.cons rfl rfl (.cons rfl rfl .nil)), .nil, hN⟩
  refine AW.seq (AW.seq ?_)
  apply AW.list
  apply Wk.mv (by conv => lhs; whnf) (lt_of_ble rfl)
  apply Wk.mv (by conv => lhs; whnf) (lt_of_ble rfl)
  apply Wk.len un75 rfl (lt_of_ble rfl)
  apply Wk.bin rfl rfl (fun w => by simp [go_sem] <;> rfl) (lt_of_ble rfl)
  refine Wk.nil ?_
  refine AW.cond rfl (fun hc => ?_) (fun hc => ?_)
  · have hlt : q < es.length := by simpa using hc
    obtain ⟨e, hd⟩ : ∃ e, es[q]? = some e := ⟨_, List.getElem?_eq_getElem hlt⟩
    have hse := he e (List.mem_of_getElem? hd)
    have hel : e.length = 1 := hz e (List.mem_of_getElem? hd)
    refine AW.skip ?_
    repeat (first | refine thenA_normal ?_ | refine inBlockA_normal ?_)
    refine AW.seq (AW.block (AW.seq ?_))
    obtain ⟨fs, rfl, hf⟩ := hse
    apply AW.draw (hm := hmix) (cs := _)
    · apply Wk.mv (by conv => lhs; whnf) (lt_of_ble rfl)
      apply Wk.mv (by conv => lhs; whnf) (lt_of_ble rfl)
      apply Wk.iad 1 false un75 ty64 rfl rfl (by omega) hz (lt_of_ble rfl)
      apply Wk.ldr 1 false ty64 rfl hd (by conv => lhs; whnf) (lt_of_ble rfl)
      apply Wk.mv (by conv => lhs; whnf) (lt_of_ble rfl)
      apply Wk.mv (by conv => lhs; whnf) (lt_of_ble rfl)
      apply Wk.iad 1 false un75 ty64 rfl rfl (by omega) hz (lt_of_ble rfl)
      apply Wk.ldr 1 false ty64 rfl hd (by conv => lhs; whnf) (lt_of_ble rfl)
      apply Wk.dat (eqByteS_ok fs hf) Try.func116 rfl rfl rfl rfl rfl (lt_of_ble rfl)
      apply Wk.un rfl (fun w => by simp [go_sem] <;> rfl) (lt_of_ble rfl)
      refine Wk.nil ?_
      refine AW.cond rfl (fun hn => by cases hn) (fun hn => ?_)
      refine AW.skip ?_
      repeat (first | refine thenA_normal ?_ | refine inBlockA_normal ?_)
      apply AW.list
      apply Wk.mv (by conv => lhs; whnf) (lt_of_ble rfl)
      apply Wk.addi rfl rfl (by omega) (lt_of_ble rfl)
      apply Wk.asg (by conv => lhs; whnf) (lt_of_ble rfl)
      refine Wk.nil ?_
      exact ⟨q + 1, by omega, by omega, fun a w => Rel.keep ⟨rfl, .cons rfl rfl (.cons rfl rfl (.cons rfl rfl .nil)), .nil, hN⟩⟩
    · rfl
    · rfl
  · refine AW.exit ?_
    repeat (first | refine inBlockA_same ?_ | refine thenA_exit ?_)
    repeat (first | refine thenA_normal ?_ | refine inBlockA_normal ?_)
    refine AW.seq ?_
    apply AW.list
    apply Wk.asg (by conv => lhs; whnf) (lt_of_ble rfl)
    refine Wk.nil (AW.ret ?_)
    repeat (first | refine thenA_ret ?_ | refine inBlockA_ret ?_)
    exact RetQ.ret [] (.cons rfl .nil) ⟨rfl, rfl⟩ none_kept
set_option maxHeartbeats 4000000 in
set_option maxRecDepth 100000 in
theorem szByteSS_ok (es : List (List D)) (he : ∀ e ∈ es, Sh.ok (.slice .byte) e) (l : Nat) (hl : l ≤ 1048576) : DataOk Try.prog 119 [.d (.row es), .d (.v (.int .i64 (l : Int)))] (.d (.v (.int .i64 (leftI l (D.row es).tot)))) := by
  have hz : ∀ c ∈ es, c.length = 1 := sh_lens he
  refine Spec.intro (n := 27) (rv := [.tmp 4]) Try.func119 rfl rfl rfl (by simp) fun C hN hX => ?_
  refine AW.bound (x := .tmp 0) (es := es) rfl fun hb => ?_
  refine AW.seq ?_
  apply AW.list
  apply Wk.asg (by conv => lhs; whnf) (lt_of_ble rfl)
  refine Wk.nil ?_
  refine AW.seq ?_
  apply AW.list
  apply Wk.mv (by conv => lhs; whnf) (lt_of_ble rfl)
  apply Wk.mv (by conv => lhs; whnf) (lt_of_ble rfl)
  apply Wk.len un75 rfl (lt_of_ble rfl)
  apply Wk.subi rfl rfl (by omega) (lt_of_ble rfl)
  apply Wk.asg (by conv => lhs; whnf) (lt_of_ble rfl)
  refine Wk.nil ?_
  refine AW.seq (AW.seq ?_)
  by_cases h0 : es.length ≤ l
  · apply AW.list
    apply Wk.mv (by conv => lhs; whnf) (lt_of_ble rfl)
    apply Wk.bin rfl rfl (r := .bool false) (fun w => by simp [go_sem] <;> omega) (lt_of_ble rfl)
    refine Wk.nil ?_
    refine AW.cond rfl (fun hc => by cases hc) (fun _ => AW.skip (thenA_normal ?_))
    refine AW.seq (AW.seq ?_)
    apply AW.list
    apply Wk.asg (by conv => lhs; whnf) (lt_of_ble rfl)
    refine Wk.nil (AW.block ?_)
    refine AW.loop (fun q : Nat => St.of 27 [(0, .d (.row es)), (1, .d (.v (.int .i64 ((l : Int) - (es.length : Int) - (totss (es.take q) : Int))))), (5, .d (.v (.int .i64 (q : Int))))] []) (fun q => q ≤ es.length ∧ es.length + totss (es.take q) ≤ l) (fun q => es.length - q) 0 ⟨Nat.zero_le _, by simpa [totss] using h0⟩ ?_ (fun q hq => ?_)
    · exact fun a w => Rel.keep ⟨rfl, .cons rfl rfl (.cons (by simp [totss]; rfl) rfl (.cons rfl rfl .nil)), .nil, hN⟩
    obtain ⟨hq, hqt⟩ := hq
    refine AW.seq (AW.seq ?_)
    apply AW.list
    apply Wk.mv (by conv => lhs; whnf) (lt_of_ble rfl)
    apply Wk.mv (by conv => lhs; whnf) (lt_of_ble rfl)
    apply Wk.len un75 rfl (lt_of_ble rfl)
    apply Wk.bin rfl rfl (fun w => by simp [go_sem] <;> rfl) (lt_of_ble rfl)
    refine Wk.nil ?_
    refine AW.cond rfl (fun hc => ?_) (fun hc => ?_)
    · have hlt : q < es.length := by simpa using hc
      obtain ⟨e, hd⟩ : ∃ e, es[q]? = some e := ⟨_, List.getElem?_eq_getElem hlt⟩
      have hse := he e (List.mem_of_getElem? hd)
      have hel : e.length = 1 := hz e (List.mem_of_getElem? hd)
      have htk := totss_take hd
      have hle := totss_le es (q + 1)
      obtain ⟨l2, hl2⟩ : ∃ l2 : Nat, (l : Int) - (es.length : Int) - (totss (es.take q) : Int) = (l2 : Int) := ⟨l - es.length - totss (es.take q), by omega⟩
      refine AW.skip ?_
      repeat (first | refine thenA_normal ?_ | refine inBlockA_normal ?_)
      rw [hl2]
      refine AW.seq (AW.block (AW.seq ?_))
      obtain ⟨fs, rfl, hf⟩ := hse
      have hc1 := szByteS_ok fs hf l2 (by omega)
      have htf : tots [D.row fs] = (D.row fs).tot := by simp [tots]
      apply AW.list
      apply Wk.mv (by conv => lhs; whnf) (lt_of_ble rfl)
      apply Wk.mv (by conv => lhs; whnf) (lt_of_ble rfl)
      apply Wk.iad 1 false un75 ty64 rfl rfl (by omega) hz (lt_of_ble rfl)
      apply Wk.ldr 1 false ty64 rfl hd (by conv => lhs; whnf) (lt_of_ble rfl)
      apply Wk.mv (by conv => lhs; whnf) (lt_of_ble rfl)
      apply Wk.dat hc1 Try.func112 rfl rfl rfl rfl rfl (lt_of_ble rfl)
      apply Wk.asg (by conv => lhs; whnf) (lt_of_ble rfl)
      refine Wk.nil ?_
      refine AW.seq ?_
      by_cases h1 : (D.row fs).tot ≤ l2
      · rw [show leftI l2 ((D.row fs).tot) = (l2 : Int) - (((D.row fs).tot : Nat) : Int) from if_pos h1]
        apply AW.list
        apply Wk.mv (by conv => lhs; whnf) (lt_of_ble rfl)
        apply Wk.bin rfl rfl (r := .bool false) (fun w => by simp [go_sem] <;> omega) (lt_of_ble rfl)
        refine Wk.nil ?_
        refine AW.cond rfl (fun hn => by cases hn) (fun hn => ?_)
        refine AW.skip ?_
        repeat (first | refine thenA_normal ?_ | refine inBlockA_normal ?_)
        apply AW.list
        apply Wk.mv (by conv => lhs; whnf) (lt_of_ble rfl)
        apply Wk.addi rfl rfl (by omega) (lt_of_ble rfl)
        apply Wk.asg (by conv => lhs; whnf) (lt_of_ble rfl)
        refine Wk.nil ?_
        exact ⟨q + 1, ⟨by omega, by omega⟩, by omega, fun a w => Rel.keep ⟨rfl, .cons rfl rfl (.cons (congrArg (fun z : Int => A.d (.v (.int .i64 z))) (by omega)) rfl (.cons rfl rfl .nil)), .nil, hN⟩⟩
      · rw [show leftI l2 ((D.row fs).tot) = -1 from if_neg h1]
        apply AW.list
        apply Wk.mv (by conv => lhs; whnf) (lt_of_ble rfl)
        apply Wk.bin rfl rfl (r := .bool true) (fun w => by simp [go_sem]) (lt_of_ble rfl)
        refine Wk.nil ?_
        refine AW.cond rfl (fun _ => ?_) (fun hn => by cases hn)
        refine AW.seq ?_
        apply AW.list
        apply Wk.asg (by conv => lhs; whnf) (lt_of_ble rfl)
        refine Wk.nil (AW.ret ?_)
        repeat (first | refine thenA_ret ?_ | refine inBlockA_ret ?_)
        rw [show leftI l (D.row es).tot = -1 from if_neg (by simp only [D.tot]; omega)]
        exact RetQ.ret [] (.cons rfl .nil) ⟨rfl, rfl⟩ none_kept
    · obtain rfl : q = es.length := by
        have : ¬ q < es.length := by simpa using hc
        omega
      refine AW.exit ?_
      repeat (first | refine inBlockA_same ?_ | refine thenA_exit ?_)
      repeat (first | refine thenA_normal ?_ | refine inBlockA_normal ?_)
      refine AW.seq ?_
      apply AW.list
      apply Wk.mv (by conv => lhs; whnf) (lt_of_ble rfl)
      apply Wk.asg (by conv => lhs; whnf) (lt_of_ble rfl)
      refine Wk.nil (AW.ret ?_)
      repeat (first | refine thenA_ret ?_ | refine inBlockA_ret ?_)
      rw [List.take_length] at hqt
      rw [show leftI l (D.row es).tot = (l : Int) - (es.length : Int) - (totss (es.take es.length) : Int) from (if_pos (by simp only [D.tot]; omega)).trans (by simp only [D.tot, List.take_length]; omega)]
      exact RetQ.ret [] (.cons rfl .nil) ⟨rfl, rfl⟩ none_kept
  · apply AW.list
    apply Wk.mv (by conv => lhs; whnf) (lt_of_ble rfl)
    apply Wk.bin rfl rfl (r := .bool true) (fun w => by simp [go_sem] <;> omega) (lt_of_ble rfl)
    refine Wk.nil ?_
    refine AW.cond rfl (fun _ => ?_) (fun hc => by cases hc)
    refine AW.seq ?_
    apply AW.list
    apply Wk.asg (by conv => lhs; whnf) (lt_of_ble rfl)
    refine Wk.nil (AW.ret ?_)
    repeat (first | refine thenA_ret ?_ | refine inBlockA_ret ?_)
    rw [show leftI l (D.row es).tot = -1 from if_neg (by simp only [D.tot]; omega)]
    exact RetQ.ret [] (.cons rfl .nil) ⟨rfl, rfl⟩ none_kept
set_option maxHeartbeats 4000000 in
set_option maxRecDepth 100000 in
theorem toWldEnd_ok (ds : List D) (h : Sh.ok (.struct [(.struct [.int, .int, (.slice (.struct [.int, .int, (.slice .byte)])), .int, (.slice (.struct [.int, .int, (.slice .byte)])), .bool, .int, .bool, .int, .bool]), (.struct [.int, .int, (.struct [.int, (.slice .byte)]), .bool, .bool, .bool]), (.struct [.int, (.slice (.struct [.int, .int, (.slice .byte)])), .int, .int, .bool]), (.struct [.int, (.struct [.int, (.slice .byte)]), .bool]), (.slice (.slice .byte)), (.slice (.slice .byte))]) ds) (ht : tots ds ≤ 1048576) : DataOk Try.prog 89 [.agg (ds.map .d)] (.agg (ds.map .d)) := by
  have qf_0 := ok_rec h
  clear h
  obtain ⟨dsf0, _, rfl, hf0, qf_1⟩ := oks_cons qf_0
  clear qf_0
  obtain ⟨dsf1, _, rfl, hf1, qf_2⟩ := oks_cons qf_1
  clear qf_1
  obtain ⟨dsf2, _, rfl, hf2, qf_3⟩ := oks_cons qf_2
  clear qf_2
  obtain ⟨dsf3, _, rfl, hf3, qf_4⟩ := oks_cons qf_3
  clear qf_3
  obtain ⟨_, _, rfl, hf4, qf_5⟩ := oks_cons qf_4
  clear qf_4
  obtain ⟨esf4, rfl, hef4⟩ := ok_row hf4
  obtain ⟨_, _, rfl, hf5, qf_6⟩ := oks_cons qf_5
  clear qf_5
  obtain ⟨esf5, rfl, hef5⟩ := ok_row hf5
  obtain rfl := oks_nil qf_6
  have cf0 := toTxState_ok dsf0 hf0 (by simp only [tots_append, tots] at ht; omega)
  have cf1 := toRxState_ok dsf1 hf1 (by simp only [tots_append, tots] at ht; omega)
  have cf2 := toCrdTx_ok dsf2 hf2 (by simp only [tots_append, tots] at ht; omega)
  have cf3 := toCrdRx_ok dsf3 hf3 (by simp only [tots_append, tots] at ht; omega)
  have cf4 := toByteSS_ok esf4 hef4 (by simp only [tots_append, tots] at ht; omega)
  have cf5 := toByteSS_ok esf5 hef5 (by simp only [tots_append, tots] at ht; omega)
  have qf0__0 := ok_rec hf0
  clear hf0
  obtain ⟨_, _, rfl, hf0_0, qf0__1⟩ := oks_cons qf0__0
  clear qf0__0
  obtain ⟨nf0_0, inf0_0, rfl⟩ := ok_num hf0_0
  obtain ⟨_, _, rfl, hf0_1, qf0__2⟩ := oks_cons qf0__1
  clear qf0__1
  obtain ⟨nf0_1, inf0_1, rfl⟩ := ok_num hf0_1
  obtain ⟨_, _, rfl, hf0_2, qf0__3⟩ := oks_cons qf0__2
  clear qf0__2
  obtain ⟨esf0_2, rfl, hef0_2⟩ := ok_row hf0_2
  obtain ⟨_, _, rfl, hf0_3, qf0__4⟩ := oks_cons qf0__3
  clear qf0__3
  obtain ⟨nf0_3, inf0_3, rfl⟩ := ok_num hf0_3
  obtain ⟨_, _, rfl, hf0_4, qf0__5⟩ := oks_cons qf0__4
  clear qf0__4
  obtain ⟨esf0_4, rfl, hef0_4⟩ := ok_row hf0_4
  obtain ⟨_, _, rfl, hf0_5, qf0__6⟩ := oks_cons qf0__5
  clear qf0__5
  obtain ⟨bf0_5, rfl⟩ := ok_truth hf0_5
  obtain ⟨_, _, rfl, hf0_6, qf0__7⟩ := oks_cons qf0__6
  clear qf0__6
  obtain ⟨nf0_6, inf0_6, rfl⟩ := ok_num hf0_6
  obtain ⟨_, _, rfl, hf0_7, qf0__8⟩ := oks_cons qf0__7
  clear qf0__7
  obtain ⟨bf0_7, rfl⟩ := ok_truth hf0_7
  obtain ⟨_, _, rfl, hf0_8, qf0__9⟩ := oks_cons qf0__8
  clear qf0__8
  obtain ⟨nf0_8, inf0_8, rfl⟩ := ok_num hf0_8
  obtain ⟨_, _, rfl, hf0_9, qf0__10⟩ := oks_cons qf0__9
  clear qf0__9
  obtain ⟨bf0_9, rfl⟩ := ok_truth hf0_9
  obtain rfl := oks_nil qf0__10
  have qf1__0 := ok_rec hf1
  clear hf1
  obtain ⟨_, _, rfl, hf1_0, qf1__1⟩ := oks_cons qf1__0
  clear qf1__0
  obtain ⟨nf1_0, inf1_0, rfl⟩ := ok_num hf1_0
  obtain ⟨_, _, rfl, hf1_1, qf1__2⟩ := oks_cons qf1__1
  clear qf1__1
  obtain ⟨nf1_1, inf1_1, rfl⟩ := ok_num hf1_1
  obtain ⟨dsf1_2, _, rfl, hf1_2, qf1__3⟩ := oks_cons qf1__2
  clear qf1__2
  obtain ⟨_, _, rfl, hf1_3, qf1__4⟩ := oks_cons qf1__3
  clear qf1__3
  obtain ⟨bf1_3, rfl⟩ := ok_truth hf1_3
  obtain ⟨_, _, rfl, hf1_4, qf1__5⟩ := oks_cons qf1__4
  clear qf1__4
  obtain ⟨bf1_4, rfl⟩ := ok_truth hf1_4
  obtain ⟨_, _, rfl, hf1_5, qf1__6⟩ := oks_cons qf1__5
  clear qf1__5
  obtain ⟨bf1_5, rfl⟩ := ok_truth hf1_5
  obtain rfl := oks_nil qf1__6
  have qf1_2__0 := ok_rec hf1_2
  clear hf1_2
  obtain ⟨_, _, rfl, hf1_2_0, qf1_2__1⟩ := oks_cons qf1_2__0
  clear qf1_2__0
  obtain ⟨nf1_2_0, inf1_2_0, rfl⟩ := ok_num hf1_2_0
  obtain ⟨_, _, rfl, hf1_2_1, qf1_2__2⟩ := oks_cons qf1_2__1
  clear qf1_2__1
  obtain ⟨esf1_2_1, rfl, hef1_2_1⟩ := ok_row hf1_2_1
  obtain rfl := oks_nil qf1_2__2
  have qf2__0 := ok_rec hf2
  clear hf2
  obtain ⟨_, _, rfl, hf2_0, qf2__1⟩ := oks_cons qf2__0
  clear qf2__0
  obtain ⟨nf2_0, inf2_0, rfl⟩ := ok_num hf2_0
  obtain ⟨_, _, rfl, hf2_1, qf2__2⟩ := oks_cons qf2__1
  clear qf2__1
  obtain ⟨esf2_1, rfl, hef2_1⟩ := ok_row hf2_1
  obtain ⟨_, _, rfl, hf2_2, qf2__3⟩ := oks_cons qf2__2
  clear qf2__2
  obtain ⟨nf2_2, inf2_2, rfl⟩ := ok_num hf2_2
  obtain ⟨_, _, rfl, hf2_3, qf2__4⟩ := oks_cons qf2__3
  clear qf2__3
  obtain ⟨nf2_3, inf2_3, rfl⟩ := ok_num hf2_3
  obtain ⟨_, _, rfl, hf2_4, qf2__5⟩ := oks_cons qf2__4
  clear qf2__4
  obtain ⟨bf2_4, rfl⟩ := ok_truth hf2_4
  obtain rfl := oks_nil qf2__5
  have qf3__0 := ok_rec hf3
  clear hf3
  obtain ⟨_, _, rfl, hf3_0, qf3__1⟩ := oks_cons qf3__0
  clear qf3__0
  obtain ⟨nf3_0, inf3_0, rfl⟩ := ok_num hf3_0
  obtain ⟨dsf3_1, _, rfl, hf3_1, qf3__2⟩ := oks_cons qf3__1
  clear qf3__1
  obtain ⟨_, _, rfl, hf3_2, qf3__3⟩ := oks_cons qf3__2
  clear qf3__2
  obtain ⟨bf3_2, rfl⟩ := ok_truth hf3_2
  obtain rfl := oks_nil qf3__3
  have qf3_1__0 := ok_rec hf3_1
  clear hf3_1
  obtain ⟨_, _, rfl, hf3_1_0, qf3_1__1⟩ := oks_cons qf3_1__0
  clear qf3_1__0
  obtain ⟨nf3_1_0, inf3_1_0, rfl⟩ := ok_num hf3_1_0
  obtain ⟨_, _, rfl, hf3_1_1, qf3_1__2⟩ := oks_cons qf3_1__1
  clear qf3_1__1
  obtain ⟨esf3_1_1, rfl, hef3_1_1⟩ := ok_row hf3_1_1
  obtain rfl := oks_nil qf3_1__2
  simp only [List.cons_append, List.nil_append, List.append_nil, List.map_cons, List.map_nil]
  simp only [List.cons_append, List.nil_append, List.append_nil, List.map_cons, List.map_nil] at cf0 cf1 cf2 cf3
  refine Spec.intro (n := 29) (rv := [.cell 2 77]) Try.func89 rfl rfl rfl (by simp) fun C hN hX => ?_
  refine AW.seq ?_
  apply AW.list
  apply Wk.bx 1 rfl rfl (lt_of_ble rfl)
  apply Wk.alc 2 [.int .i64 0, .int .i64 0, .slice none 0 0, .int .i64 0, .slice none 0 0, .bool false, .int .i64 0, .bool false, .int .i64 0, .bool false, .int .i64 0, .int .i64 0, .int .i64 0, .slice none 0 0, .bool false, .bool false, .bool false, .int .i64 0, .slice none 0 0, .int .i64 0, .int .i64 0, .bool false, .int .i64 0, .int .i64 0, .slice none 0 0, .bool false, .slice none 0 0, .slice none 0 0] ze77 rfl rfl (lt_of_ble rfl)
  refine Wk.nil ?_
  refine AW.seq ?_
  apply AW.list
  apply Wk.alc 3 [.int .i64 0, .int .i64 0, .slice none 0 0, .int .i64 0, .slice none 0 0, .bool false, .int .i64 0, .bool false, .int .i64 0, .bool false, .int .i64 0, .int .i64 0, .int .i64 0, .slice none 0 0, .bool false, .bool false, .bool false, .int .i64 0, .slice none 0 0, .int .i64 0, .int .i64 0, .bool false, .int .i64 0, .int .i64 0, .slice none 0 0, .bool false, .slice none 0 0, .slice none 0 0] ze77 rfl rfl (lt_of_ble rfl)
  refine Wk.nil ?_
  refine AW.seq ?_
  apply AW.list
  apply Wk.fad 0 9 true fd128_0 rfl (lt_of_ble rfl)
  apply Wk.ld (i := 1) 10 true ty26 rfl rfl (by conv => lhs; whnf) (lt_of_ble rfl)
  apply Wk.dat cf0 Try.func13 rfl rfl rfl rfl rfl (lt_of_ble rfl)
  apply Wk.fad 0 9 true fd77_0 rfl (lt_of_ble rfl)
  apply Wk.sto (i := 3) 10 true ty33 rfl rfl rfl rfl (Nat.le_of_ble_eq_true rfl) (lt_of_ble rfl)
  refine Wk.nil ?_
  refine AW.seq ?_
  apply AW.list
  apply Wk.fad 10 6 true fd128_1 rfl (lt_of_ble rfl)
  apply Wk.ld (i := 1) 7 true ty124 rfl rfl (by conv => lhs; whnf) (lt_of_ble rfl)
  apply Wk.dat cf1 Try.func122 rfl rfl rfl rfl rfl (lt_of_ble rfl)
  apply Wk.fad 10 6 true fd77_1 rfl (lt_of_ble rfl)
  apply Wk.sto (i := 3) 7 true ty72 rfl rfl rfl rfl (Nat.le_of_ble_eq_true rfl) (lt_of_ble rfl)
  refine Wk.nil ?_
  skip
  refine AW.keep (n := 29) (ts := [(1, .ptr 1 0), (2, .ptr 2 0), (3, .ptr 3 0)]) (bs := [(1, .var [A.d (.v (.int .i64 nf0_0)), A.d (.v (.int .i64 nf0_1)), A.d (.row esf0_2), A.d (.v (.int .i64 nf0_3)), A.d (.row esf0_4), A.d (.v (.bool bf0_5)), A.d (.v (.int .i64 nf0_6)), A.d (.v (.bool bf0_7)), A.d (.v (.int .i64 nf0_8)), A.d (.v (.bool bf0_9)), A.d (.v (.int .i64 nf1_0)), A.d (.v (.int .i64 nf1_1)), A.d (.v (.int .i64 nf1_2_0)), A.d (.row esf1_2_1), A.d (.v (.bool bf1_3)), A.d (.v (.bool bf1_4)), A.d (.v (.bool bf1_5)), A.d (.v (.int .i64 nf2_0)), A.d (.row esf2_1), A.d (.v (.int .i64 nf2_2)), A.d (.v (.int .i64 nf2_3)), A.d (.v (.bool bf2_4)), A.d (.v (.int .i64 nf3_0)), A.d (.v (.int .i64 nf3_1_0)), A.d (.row esf3_1_1), A.d (.v (.bool bf3_2)), A.d (.row esf4), A.d (.row esf5)]), (2, .var [A.d (.v (.int .i64 0)), A.d (.v (.int .i64 0)), A.d (.v (.slice none 0 0)), A.d (.v (.int .i64 0)), A.d (.v (.slice none 0 0)), A.d (.v (.bool false)), A.d (.v (.int .i64 0)), A.d (.v (.bool false)), A.d (.v (.int .i64 0)), A.d (.v (.bool false)), A.d (.v (.int .i64 0)), A.d (.v (.int .i64 0)), A.d (.v (.int .i64 0)), A.d (.v (.slice none 0 0)), A.d (.v (.bool false)), A.d (.v (.bool false)), A.d (.v (.bool false)), A.d (.v (.int .i64 0)), A.d (.v (.slice none 0 0)), A.d (.v (.int .i64 0)), A.d (.v (.int .i64 0)), A.d (.v (.bool false)), A.d (.v (.int .i64 0)), A.d (.v (.int .i64 0)), A.d (.v (.slice none 0 0)), A.d (.v (.bool false)), A.d (.v (.slice none 0 0)), A.d (.v (.slice none 0 0))]), (3, .var [A.d (.v (.int .i64 nf0_0)), A.d (.v (.int .i64 nf0_1)), A.d (.row esf0_2), A.d (.v (.int .i64 nf0_3)), A.d (.row esf0_4), A.d (.v (.bool bf0_5)), A.d (.v (.int .i64 nf0_6)), A.d (.v (.bool bf0_7)), A.d (.v (.int .i64 nf0_8)), A.d (.v (.bool bf0_9)), A.d (.v (.int .i64 nf1_0)), A.d (.v (.int .i64 nf1_1)), A.d (.v (.int .i64 nf1_2_0)), A.d (.row esf1_2_1), A.d (.v (.bool bf1_3)), A.d (.v (.bool bf1_4)), A.d (.v (.bool bf1_5)), A.d (.v (.int .i64 0)), A.d (.v (.slice none 0 0)), A.d (.v (.int .i64 0)), A.d (.v (.int .i64 0)), A.d (.v (.bool false)), A.d (.v (.int .i64 0)), A.d (.v (.int .i64 0)), A.d (.v (.slice none 0 0)), A.d (.v (.bool false)), A.d (.v (.slice none 0 0)), A.d (.v (.slice none 0 0))])]) ⟨rfl, .cons rfl rfl (.cons rfl rfl (.cons rfl rfl .nil)), .cons rfl rfl (.cons rfl rfl (.cons rfl rfl .nil)), hN.mono (by simp [keys])⟩ ?_
  refine AW.seq ?_
  apply AW.list
  apply Wk.fad 17 4 true fd128_2 rfl (lt_of_ble rfl)
  apply Wk.ld (i := 1) 5 true ty40 rfl rfl (by conv => lhs; whnf) (lt_of_ble rfl)
  apply Wk.dat cf2 Try.func20 rfl rfl rfl rfl rfl (lt_of_ble rfl)
  apply Wk.fad 17 4 true fd77_2 rfl (lt_of_ble rfl)
  apply Wk.sto (i := 3) 5 true ty44 rfl rfl rfl rfl (Nat.le_of_ble_eq_true rfl) (lt_of_ble rfl)
  refine Wk.nil ?_
  refine AW.seq ?_
  apply AW.list
  apply Wk.fad 22 3 true fd128_3 rfl (lt_of_ble rfl)
  apply Wk.ld (i := 1) 4 true ty126 rfl rfl (by conv => lhs; whnf) (lt_of_ble rfl)
  apply Wk.dat cf3 Try.func123 rfl rfl rfl rfl rfl (lt_of_ble rfl)
  apply Wk.fad 22 3 true fd77_3 rfl (lt_of_ble rfl)
  apply Wk.sto (i := 3) 4 true ty74 rfl rfl rfl rfl (Nat.le_of_ble_eq_true rfl) (lt_of_ble rfl)
  refine Wk.nil ?_
  skip
  refine AW.keep (n := 29) (ts := [(1, .ptr 1 0), (2, .ptr 2 0), (3, .ptr 3 0)]) (bs := [(1, .var [A.d (.v (.int .i64 nf0_0)), A.d (.v (.int .i64 nf0_1)), A.d (.row esf0_2), A.d (.v (.int .i64 nf0_3)), A.d (.row esf0_4), A.d (.v (.bool bf0_5)), A.d (.v (.int .i64 nf0_6)), A.d (.v (.bool bf0_7)), A.d (.v (.int .i64 nf0_8)), A.d (.v (.bool bf0_9)), A.d (.v (.int .i64 nf1_0)), A.d (.v (.int .i64 nf1_1)), A.d (.v (.int .i64 nf1_2_0)), A.d (.row esf1_2_1), A.d (.v (.bool bf1_3)), A.d (.v (.bool bf1_4)), A.d (.v (.bool bf1_5)), A.d (.v (.int .i64 nf2_0)), A.d (.row esf2_1), A.d (.v (.int .i64 nf2_2)), A.d (.v (.int .i64 nf2_3)), A.d (.v (.bool bf2_4)), A.d (.v (.int .i64 nf3_0)), A.d (.v (.int .i64 nf3_1_0)), A.d (.row esf3_1_1), A.d (.v (.bool bf3_2)), A.d (.row esf4), A.d (.row esf5)]), (2, .var [A.d (.v (.int .i64 0)), A.d (.v (.int .i64 0)), A.d (.v (.slice none 0 0)), A.d (.v (.int .i64 0)), A.d (.v (.slice none 0 0)), A.d (.v (.bool false)), A.d (.v (.int .i64 0)), A.d (.v (.bool false)), A.d (.v (.int .i64 0)), A.d (.v (.bool false)), A.d (.v (.int .i64 0)), A.d (.v (.int .i64 0)), A.d (.v (.int .i64 0)), A.d (.v (.slice none 0 0)), A.d (.v (.bool false)), A.d (.v (.bool false)), A.d (.v (.bool false)), A.d (.v (.int .i64 0)), A.d (.v (.slice none 0 0)), A.d (.v (.int .i64 0)), A.d (.v (.int .i64 0)), A.d (.v (.bool false)), A.d (.v (.int .i64 0)), A.d (.v (.int .i64 0)), A.d (.v (.slice none 0 0)), A.d (.v (.bool false)), A.d (.v (.slice none 0 0)), A.d (.v (.slice none 0 0))]), (3, .var [A.d (.v (.int .i64 nf0_0)), A.d (.v (.int .i64 nf0_1)), A.d (.row esf0_2), A.d (.v (.int .i64 nf0_3)), A.d (.row esf0_4), A.d (.v (.bool bf0_5)), A.d (.v (.int .i64 nf0_6)), A.d (.v (.bool bf0_7)), A.d (.v (.int .i64 nf0_8)), A.d (.v (.bool bf0_9)), A.d (.v (.int .i64 nf1_0)), A.d (.v (.int .i64 nf1_1)), A.d (.v (.int .i64 nf1_2_0)), A.d (.row esf1_2_1), A.d (.v (.bool bf1_3)), A.d (.v (.bool bf1_4)), A.d (.v (.bool bf1_5)), A.d (.v (.int .i64 nf2_0)), A.d (.row esf2_1), A.d (.v (.int .i64 nf2_2)), A.d (.v (.int .i64 nf2_3)), A.d (.v (.bool bf2_4)), A.d (.v (.int .i64 nf3_0)), A.d (.v (.int .i64 nf3_1_0)), A.d (.row esf3_1_1), A.d (.v (.bool bf3_2)), A.d (.v (.slice none 0 0)), A.d (.v (.slice none 0 0))])]) ⟨rfl, .cons rfl rfl (.cons rfl rfl (.cons rfl rfl .nil)), .cons rfl rfl (.cons rfl rfl (.cons rfl rfl .nil)), hN.mono (by simp [keys])⟩ ?_
  refine AW.seq ?_
  apply AW.list
  apply Wk.fad 26 0 false fd128_4 rfl (lt_of_ble rfl)
  apply Wk.ld (i := 1) 1 false ty75 rfl rfl (by conv => lhs; whnf) (lt_of_ble rfl)
  apply Wk.dat cf4 Try.func124 rfl rfl rfl rfl rfl (lt_of_ble rfl)
  apply Wk.fad 26 0 false fd77_4 rfl (lt_of_ble rfl)
  apply Wk.sto (i := 3) 1 false ty75 rfl rfl rfl rfl (Nat.le_of_ble_eq_true rfl) (lt_of_ble rfl)
  refine Wk.nil ?_
  refine AW.seq ?_
  apply AW.list
  apply Wk.fad 27 0 false fd128_5 rfl (lt_of_ble rfl)
  apply Wk.ld (i := 1) 1 false ty75 rfl rfl (by conv => lhs; whnf) (lt_of_ble rfl)
  apply Wk.dat cf5 Try.func124 rfl rfl rfl rfl rfl (lt_of_ble rfl)
  apply Wk.fad 27 0 false fd77_5 rfl (lt_of_ble rfl)
  apply Wk.sto (i := 3) 1 false ty75 rfl rfl rfl rfl (Nat.le_of_ble_eq_true rfl) (lt_of_ble rfl)
  refine Wk.nil ?_
  refine AW.seq ?_
  apply AW.list
  apply Wk.ld (i := 3) 28 true ty77 rfl rfl (by conv => lhs; whnf) (lt_of_ble rfl)
  apply Wk.sto (i := 2) 28 true ty77 rfl rfl rfl rfl (Nat.le_of_ble_eq_true rfl) (lt_of_ble rfl)
  refine Wk.nil (AW.ret ?_)
  exact RetQ.ret [] (.cons ⟨2, 0, _, _, _, rfl, rfl, ty77, rfl⟩ .nil) ⟨rfl, rfl⟩ none_kept
set_option maxHeartbeats 4000000 in
set_option maxRecDepth 100000 in
theorem eqWldEnd_ok (ds : List D) (h : Sh.ok (.struct [(.struct [.int, .int, (.slice (.struct [.int, .int, (.slice .byte)])), .int, (.slice (.struct [.int, .int, (.slice .byte)])), .bool, .int, .bool, .int, .bool]), (.struct [.int, .int, (.struct [.int, (.slice .byte)]), .bool, .bool, .bool]), (.struct [.int, (.slice (.struct [.int, .int, (.slice .byte)])), .int, .int, .bool]), (.struct [.int, (.struct [.int, (.slice .byte)]), .bool]), (.slice (.slice .byte)), (.slice (.slice .byte))]) ds) : DataOk Try.prog 96 [.agg (ds.map .d), .agg (ds.map .d)] (.d (.v (.bool true))) := by
  have qf_0 := ok_rec h
  clear h
  obtain ⟨dsf0, _, rfl, hf0, qf_1⟩ := oks_cons qf_0
  clear qf_0
  obtain ⟨dsf1, _, rfl, hf1, qf_2⟩ := oks_cons qf_1
  clear qf_1
  obtain ⟨dsf2, _, rfl, hf2, qf_3⟩ := oks_cons qf_2
  clear qf_2
  obtain ⟨dsf3, _, rfl, hf3, qf_4⟩ := oks_cons qf_3
  clear qf_3
  obtain ⟨_, _, rfl, hf4, qf_5⟩ := oks_cons qf_4
  clear qf_4
  obtain ⟨esf4, rfl, hef4⟩ := ok_row hf4
  obtain ⟨_, _, rfl, hf5, qf_6⟩ := oks_cons qf_5
  clear qf_5
  obtain ⟨esf5, rfl, hef5⟩ := ok_row hf5
  obtain rfl := oks_nil qf_6
  have cf0 := eqTxState_ok dsf0 hf0
  have cf1 := eqRxState_ok dsf1 hf1
  have cf2 := eqCrdTx_ok dsf2 hf2
  have cf3 := eqCrdRx_ok dsf3 hf3
  have cf4 := eqByteSS_ok esf4 hef4
  have cf5 := eqByteSS_ok esf5 hef5
  have qf0__0 := ok_rec hf0
  clear hf0
  obtain ⟨_, _, rfl, hf0_0, qf0__1⟩ := oks_cons qf0__0
  clear qf0__0
  obtain ⟨nf0_0, inf0_0, rfl⟩ := ok_num hf0_0
  obtain ⟨_, _, rfl, hf0_1, qf0__2⟩ := oks_cons qf0__1
  clear qf0__1
  obtain ⟨nf0_1, inf0_1, rfl⟩ := ok_num hf0_1
  obtain ⟨_, _, rfl, hf0_2, qf0__3⟩ := oks_cons qf0__2
  clear qf0__2
  obtain ⟨esf0_2, rfl, hef0_2⟩ := ok_row hf0_2
  obtain ⟨_, _, rfl, hf0_3, qf0__4⟩ := oks_cons qf0__3
  clear qf0__3
  obtain ⟨nf0_3, inf0_3, rfl⟩ := ok_num hf0_3
  obtain ⟨_, _, rfl, hf0_4, qf0__5⟩ := oks_cons qf0__4
  clear qf0__4
  obtain ⟨esf0_4, rfl, hef0_4⟩ := ok_row hf0_4
  obtain ⟨_, _, rfl, hf0_5, qf0__6⟩ := oks_cons qf0__5
  clear qf0__5
  obtain ⟨bf0_5, rfl⟩ := ok_truth hf0_5
  obtain ⟨_, _, rfl, hf0_6, qf0__7⟩ := oks_cons qf0__6
  clear qf0__6
  obtain ⟨nf0_6, inf0_6, rfl⟩ := ok_num hf0_6
  obtain ⟨_, _, rfl, hf0_7, qf0__8⟩ := oks_cons qf0__7
  clear qf0__7
  obtain ⟨bf0_7, rfl⟩ := ok_truth hf0_7
  obtain ⟨_, _, rfl, hf0_8, qf0__9⟩ := oks_cons qf0__8
  clear qf0__8
  obtain ⟨nf0_8, inf0_8, rfl⟩ := ok_num hf0_8
  obtain ⟨_, _, rfl, hf0_9, qf0__10⟩ := oks_cons qf0__9
  clear qf0__9
  obtain ⟨bf0_9, rfl⟩ := ok_truth hf0_9
  obtain rfl := oks_nil qf0__10
  have qf1__0 := ok_rec hf1
  clear hf1
  obtain ⟨_, _, rfl, hf1_0, qf1__1⟩ := oks_cons qf1__0
  clear qf1__0
  obtain ⟨nf1_0, inf1_0, rfl⟩ := ok_num hf1_0
  obtain ⟨_, _, rfl, hf1_1, qf1__2⟩ := oks_cons qf1__1
  clear qf1__1
  obtain ⟨nf1_1, inf1_1, rfl⟩ := ok_num hf1_1
  obtain ⟨dsf1_2, _, rfl, hf1_2, qf1__3⟩ := oks_cons qf1__2
  clear qf1__2
  obtain ⟨_, _, rfl, hf1_3, qf1__4⟩ := oks_cons qf1__3
  clear qf1__3
  obtain ⟨bf1_3, rfl⟩ := ok_truth hf1_3
  obtain ⟨_, _, rfl, hf1_4, qf1__5⟩ := oks_cons qf1__4
  clear qf1__4
  obtain ⟨bf1_4, rfl⟩ := ok_truth hf1_4
  obtain ⟨_, _, rfl, hf1_5, qf1__6⟩ := oks_cons qf1__5
  clear qf1__5
  obtain ⟨bf1_5, rfl⟩ := ok_truth hf1_5
  obtain rfl := oks_nil qf1__6
  have qf1_2__0 := ok_rec hf1_2
  clear hf1_2
  obtain ⟨_, _, rfl, hf1_2_0, qf1_2__1⟩ := oks_cons qf1_2__0
  clear qf1_2__0
  obtain ⟨nf1_2_0, inf1_2_0, rfl⟩ := ok_num hf1_2_0
  obtain ⟨_, _, rfl, hf1_2_1, qf1_2__2⟩ := oks_cons qf1_2__1
  clear qf1_2__1
  obtain ⟨esf1_2_1, rfl, hef1_2_1⟩ := ok_row hf1_2_1
  obtain rfl := oks_nil qf1_2__2
  have qf2__0 := ok_rec hf2
  clear hf2
  obtain ⟨_, _, rfl, hf2_0, qf2__1⟩ := oks_cons qf2__0
  clear qf2__0
  obtain ⟨nf2_0, inf2_0, rfl⟩ := ok_num hf2_0
  obtain ⟨_, _, rfl, hf2_1, qf2__2⟩ := oks_cons qf2__1
  clear qf2__1
  obtain ⟨esf2_1, rfl, hef2_1⟩ := ok_row hf2_1
  obtain ⟨_, _, rfl, hf2_2, qf2__3⟩ := oks_cons qf2__2
  clear qf2__2
  obtain ⟨nf2_2, inf2_2, rfl⟩ := ok_num hf2_2
  obtain ⟨_, _, rfl, hf2_3, qf2__4⟩ := oks_cons qf2__3
  clear qf2__3
  obtain ⟨nf2_3, inf2_3, rfl⟩ := ok_num hf2_3
  obtain ⟨_, _, rfl, hf2_4, qf2__5⟩ := oks_cons qf2__4
  clear qf2__4
  obtain ⟨bf2_4, rfl⟩ := ok_truth hf2_4
  obtain rfl := oks_nil qf2__5
  have qf3__0 := ok_rec hf3
  clear hf3
  obtain ⟨_, _, rfl, hf3_0, qf3__1⟩ := oks_cons qf3__0
  clear qf3__0
  obtain ⟨nf3_0, inf3_0, rfl⟩ := ok_num hf3_0
  obtain ⟨dsf3_1, _, rfl, hf3_1, qf3__2⟩ := oks_cons qf3__1
  clear qf3__1
  obtain ⟨_, _, rfl, hf3_2, qf3__3⟩ := oks_cons qf3__2
  clear qf3__2
  obtain ⟨bf3_2, rfl⟩ := ok_truth hf3_2
  obtain rfl := oks_nil qf3__3
  have qf3_1__0 := ok_rec hf3_1
  clear hf3_1
  obtain ⟨_, _, rfl, hf3_1_0, qf3_1__1⟩ := oks_cons qf3_1__0
  clear qf3_1__0
  obtain ⟨nf3_1_0, inf3_1_0, rfl⟩ := ok_num hf3_1_0
  obtain ⟨_, _, rfl, hf3_1_1, qf3_1__2⟩ := oks_cons qf3_1__1
  clear qf3_1__1
  obtain ⟨esf3_1_1, rfl, hef3_1_1⟩ := ok_row hf3_1_1
  obtain rfl := oks_nil qf3_1__2
  simp only [List.cons_append, List.nil_append, List.append_nil, List.map_cons, List.map_nil]
  simp only [List.cons_append, List.nil_append, List.append_nil, List.map_cons, List.map_nil] at cf0 cf1 cf2 cf3
  refine Spec.intro (n := 41) (rv := [.tmp 4]) Try.func96 rfl rfl rfl (by simp) fun C hN hX => ?_
  refine AW.seq ?_
  apply AW.list
  apply Wk.bx 2 rfl rfl (lt_of_ble rfl)
  apply Wk.bx 3 rfl rfl (lt_of_ble rfl)
  apply Wk.asg (by conv => lhs; whnf) (lt_of_ble rfl)
  refine Wk.nil ?_
  refine AW.seq (AW.seq ?_)
  apply AW.list
  apply Wk.fad 0 9 true fd77_0 rfl (lt_of_ble rfl)
  apply Wk.ld (i := 2) 10 true ty33 rfl rfl (by conv => lhs; whnf) (lt_of_ble rfl)
  apply Wk.fad 0 9 true fd77_0 rfl (lt_of_ble rfl)
  apply Wk.ld (i := 3) 10 true ty33 rfl rfl (by conv => lhs; whnf) (lt_of_ble rfl)
  apply Wk.dat cf0 Try.func15 rfl rfl rfl rfl rfl (lt_of_ble rfl)
  apply Wk.un rfl (fun w => by simp [go_sem] <;> rfl) (lt_of_ble rfl)
  refine Wk.nil ?_
  refine AW.cond rfl (fun hc => by cases hc) (fun _ => AW.skip (thenA_normal ?_))
  refine AW.seq (AW.seq ?_)
  apply AW.list
  apply Wk.fad 10 6 true fd77_1 rfl (lt_of_ble rfl)
  apply Wk.ld (i := 2) 7 true ty72 rfl rfl (by conv => lhs; whnf) (lt_of_ble rfl)
  apply Wk.fad 10 6 true fd77_1 rfl (lt_of_ble rfl)
  apply Wk.ld (i := 3) 7 true ty72 rfl rfl (by conv => lhs; whnf) (lt_of_ble rfl)
  apply Wk.dat cf1 Try.func130 rfl rfl rfl rfl rfl (lt_of_ble rfl)
  apply Wk.un rfl (fun w => by simp [go_sem] <;> rfl) (lt_of_ble rfl)
  refine Wk.nil ?_
  refine AW.cond rfl (fun hc => by cases hc) (fun _ => AW.skip (thenA_normal ?_))
  refine AW.seq (AW.seq ?_)
  apply AW.list
  apply Wk.fad 17 4 true fd77_2 rfl (lt_of_ble rfl)
  apply Wk.ld (i := 2) 5 true ty44 rfl rfl (by conv => lhs; whnf) (lt_of_ble rfl)
  apply Wk.fad 17 4 true fd77_2 rfl (lt_of_ble rfl)
  apply Wk.ld (i := 3) 5 true ty44 rfl rfl (by conv => lhs; whnf) (lt_of_ble rfl)
  apply Wk.dat cf2 Try.func22 rfl rfl rfl rfl rfl (lt_of_ble rfl)
  apply Wk.un rfl (fun w => by simp [go_sem] <;> rfl) (lt_of_ble rfl)
  refine Wk.nil ?_
  refine AW.cond rfl (fun hc => by cases hc) (fun _ => AW.skip (thenA_normal ?_))
  refine AW.seq (AW.seq ?_)
  apply AW.list
  apply Wk.fad 22 3 true fd77_3 rfl (lt_of_ble rfl)
  apply Wk.ld (i := 2) 4 true ty74 rfl rfl (by conv => lhs; whnf) (lt_of_ble rfl)
  apply Wk.fad 22 3 true fd77_3 rfl (lt_of_ble rfl)
  apply Wk.ld (i := 3) 4 true ty74 rfl rfl (by conv => lhs; whnf) (lt_of_ble rfl)
  apply Wk.dat cf3 Try.func131 rfl rfl rfl rfl rfl (lt_of_ble rfl)
  apply Wk.un rfl (fun w => by simp [go_sem] <;> rfl) (lt_of_ble rfl)
  refine Wk.nil ?_
  refine AW.cond rfl (fun hc => by cases hc) (fun _ => AW.skip (thenA_normal ?_))
  refine AW.seq (AW.seq ?_)
  apply AW.list
  apply Wk.fad 26 0 false fd77_4 rfl (lt_of_ble rfl)
  apply Wk.ld (i := 2) 1 false ty75 rfl rfl (by conv => lhs; whnf) (lt_of_ble rfl)
  apply Wk.fad 26 0 false fd77_4 rfl (lt_of_ble rfl)
  apply Wk.ld (i := 3) 1 false ty75 rfl rfl (by conv => lhs; whnf) (lt_of_ble rfl)
  apply Wk.dat cf4 Try.func132 rfl rfl rfl rfl rfl (lt_of_ble rfl)
  apply Wk.un rfl (fun w => by simp [go_sem] <;> rfl) (lt_of_ble rfl)
  refine Wk.nil ?_
  refine AW.cond rfl (fun hc => by cases hc) (fun _ => AW.skip (thenA_normal ?_))
  refine AW.seq (AW.seq ?_)
  apply AW.list
  apply Wk.fad 27 0 false fd77_5 rfl (lt_of_ble rfl)
  apply Wk.ld (i := 2) 1 false ty75 rfl rfl (by conv => lhs; whnf) (lt_of_ble rfl)
  apply Wk.fad 27 0 false fd77_5 rfl (lt_of_ble rfl)
  apply Wk.ld (i := 3) 1 false ty75 rfl rfl (by conv => lhs; whnf) (lt_of_ble rfl)
  apply Wk.dat cf5 Try.func132 rfl rfl rfl rfl rfl (lt_of_ble rfl)
  apply Wk.un rfl (fun w => by simp [go_sem] <;> rfl) (lt_of_ble rfl)
  refine Wk.nil ?_
  refine AW.cond rfl (fun hc => by cases hc) (fun _ => AW.skip (thenA_normal ?_))
  refine AW.seq ?_
  apply AW.list
  apply Wk.asg (by conv => lhs; whnf) (lt_of_ble rfl)
  refine Wk.nil (AW.ret ?_)
  exact RetQ.ret [] (.cons rfl .nil) ⟨rfl, rfl⟩ none_kept
set_option maxHeartbeats 4000000 in
set_option maxRecDepth 100000 in
theorem szWldEnd_ok (ds : List D) (h : Sh.ok (.struct [(.struct [.int, .int, (.slice (.struct [.int, .int, (.slice .byte)])), .int, (.slice (.struct [.int, .int, (.slice .byte)])), .bool, .int, .bool, .int, .bool]), (.struct [.int, .int, (.struct [.int, (.slice .byte)]), .bool, .bool, .bool]), (.struct [.int, (.slice (.struct [.int, .int, (.slice .byte)])), .int, .int, .bool]), (.struct [.int, (.struct [.int, (.slice .byte)]), .bool]), (.slice (.slice .byte)), (.slice (.slice .byte))]) ds) (l : Nat) (hl : l ≤ 1048576) : DataOk Try.prog 85 [.agg (ds.map .d), .d (.v (.int .i64 (l : Int)))] (.d (.v (.int .i64 (leftI l (tots ds))))) := by
  have qf_0 := ok_rec h
  clear h
  obtain ⟨dsf0, _, rfl, hf0, qf_1⟩ := oks_cons qf_0
  clear qf_0
  obtain ⟨dsf1, _, rfl, hf1, qf_2⟩ := oks_cons qf_1
  clear qf_1
  obtain ⟨dsf2, _, rfl, hf2, qf_3⟩ := oks_cons qf_2
  clear qf_2
  obtain ⟨dsf3, _, rfl, hf3, qf_4⟩ := oks_cons qf_3
  clear qf_3
  obtain ⟨_, _, rfl, hf4, qf_5⟩ := oks_cons qf_4
  clear qf_4
  obtain ⟨esf4, rfl, hef4⟩ := ok_row hf4
  obtain ⟨_, _, rfl, hf5, qf_6⟩ := oks_cons qf_5
  clear qf_5
  obtain ⟨esf5, rfl, hef5⟩ := ok_row hf5
  obtain rfl := oks_nil qf_6
  have cf0 := fun (l : Nat) (hl : l ≤ 1048576) => szTxState_ok dsf0 hf0 l hl
  obtain ⟨tf0, htf0⟩ : ∃ t, tots dsf0 = t := ⟨_, rfl⟩
  rw [htf0] at cf0
  have cf1 := fun (l : Nat) (hl : l ≤ 1048576) => szRxState_ok dsf1 hf1 l hl
  obtain ⟨tf1, htf1⟩ : ∃ t, tots dsf1 = t := ⟨_, rfl⟩
  rw [htf1] at cf1
  have cf2 := fun (l : Nat) (hl : l ≤ 1048576) => szCrdTx_ok dsf2 hf2 l hl
  obtain ⟨tf2, htf2⟩ : ∃ t, tots dsf2 = t := ⟨_, rfl⟩
  rw [htf2] at cf2
  have cf3 := fun (l : Nat) (hl : l ≤ 1048576) => szCrdRx_ok dsf3 hf3 l hl
  obtain ⟨tf3, htf3⟩ : ∃ t, tots dsf3 = t := ⟨_, rfl⟩
  rw [htf3] at cf3
  have cf4 := fun (l : Nat) (hl : l ≤ 1048576) => szByteSS_ok esf4 hef4 l hl
  obtain ⟨tf4, htf4⟩ : ∃ t, (D.row esf4).tot = t := ⟨_, rfl⟩
  rw [htf4] at cf4
  have cf5 := fun (l : Nat) (hl : l ≤ 1048576) => szByteSS_ok esf5 hef5 l hl
  obtain ⟨tf5, htf5⟩ : ∃ t, (D.row esf5).tot = t := ⟨_, rfl⟩
  rw [htf5] at cf5
  have hsum : tots (dsf0 ++ (dsf1 ++ (dsf2 ++ (dsf3 ++ ([D.row esf4] ++ ([D.row esf5] ++ [])))))) = tf0 + tf1 + tf2 + tf3 + tf4 + tf5 := by
    simp only [tots_append, tots, htf0, htf1, htf2, htf3, htf4, htf5, D.tot.eq_1, Nat.add_zero, Nat.zero_add]
    try omega
  rw [hsum]
  clear hsum
  have qf0__0 := ok_rec hf0
  clear hf0
  obtain ⟨_, _, rfl, hf0_0, qf0__1⟩ := oks_cons qf0__0
  clear qf0__0
  obtain ⟨nf0_0, inf0_0, rfl⟩ := ok_num hf0_0
  obtain ⟨_, _, rfl, hf0_1, qf0__2⟩ := oks_cons qf0__1
  clear qf0__1
  obtain ⟨nf0_1, inf0_1, rfl⟩ := ok_num hf0_1
  obtain ⟨_, _, rfl, hf0_2, qf0__3⟩ := oks_cons qf0__2
  clear qf0__2
  obtain ⟨esf0_2, rfl, hef0_2⟩ := ok_row hf0_2
  obtain ⟨_, _, rfl, hf0_3, qf0__4⟩ := oks_cons qf0__3
  clear qf0__3
  obtain ⟨nf0_3, inf0_3, rfl⟩ := ok_num hf0_3
  obtain ⟨_, _, rfl, hf0_4, qf0__5⟩ := oks_cons qf0__4
  clear qf0__4
  obtain ⟨esf0_4, rfl, hef0_4⟩ := ok_row hf0_4
  obtain ⟨_, _, rfl, hf0_5, qf0__6⟩ := oks_cons qf0__5
  clear qf0__5
  obtain ⟨bf0_5, rfl⟩ := ok_truth hf0_5
  obtain ⟨_, _, rfl, hf0_6, qf0__7⟩ := oks_cons qf0__6
  clear qf0__6
  obtain ⟨nf0_6, inf0_6, rfl⟩ := ok_num hf0_6
  obtain ⟨_, _, rfl, hf0_7, qf0__8⟩ := oks_cons qf0__7
  clear qf0__7
  obtain ⟨bf0_7, rfl⟩ := ok_truth hf0_7
  obtain ⟨_, _, rfl, hf0_8, qf0__9⟩ := oks_cons qf0__8
  clear qf0__8
  obtain ⟨nf0_8, inf0_8, rfl⟩ := ok_num hf0_8
  obtain ⟨_, _, rfl, hf0_9, qf0__10⟩ := oks_cons qf0__9
  clear qf0__9
  obtain ⟨bf0_9, rfl⟩ := ok_truth hf0_9
  obtain rfl := oks_nil qf0__10
  have qf1__0 := ok_rec hf1
  clear hf1
  obtain ⟨_, _, rfl, hf1_0, qf1__1⟩ := oks_cons qf1__0
  clear qf1__0
  obtain ⟨nf1_0, inf1_0, rfl⟩ := ok_num hf1_0
  obtain ⟨_, _, rfl, hf1_1, qf1__2⟩ := oks_cons qf1__1
  clear qf1__1
  obtain ⟨nf1_1, inf1_1, rfl⟩ := ok_num hf1_1
  obtain ⟨dsf1_2, _, rfl, hf1_2, qf1__3⟩ := oks_cons qf1__2
  clear qf1__2
  obtain ⟨_, _, rfl, hf1_3, qf1__4⟩ := oks_cons qf1__3
  clear qf1__3
  obtain ⟨bf1_3, rfl⟩ := ok_truth hf1_3
  obtain ⟨_, _, rfl, hf1_4, qf1__5⟩ := oks_cons qf1__4
  clear qf1__4
  obtain ⟨bf1_4, rfl⟩ := ok_truth hf1_4
  obtain ⟨_, _, rfl, hf1_5, qf1__6⟩ := oks_cons qf1__5
  clear qf1__5
  obtain ⟨bf1_5, rfl⟩ := ok_truth hf1_5
  obtain rfl := oks_nil qf1__6
  have qf1_2__0 := ok_rec hf1_2
  clear hf1_2
  obtain ⟨_, _, rfl, hf1_2_0, qf1_2__1⟩ := oks_cons qf1_2__0
  clear qf1_2__0
  obtain ⟨nf1_2_0, inf1_2_0, rfl⟩ := ok_num hf1_2_0
  obtain ⟨_, _, rfl, hf1_2_1, qf1_2__2⟩ := oks_cons qf1_2__1
  clear qf1_2__1
  obtain ⟨esf1_2_1, rfl, hef1_2_1⟩ := ok_row hf1_2_1
  obtain rfl := oks_nil qf1_2__2
  have qf2__0 := ok_rec hf2
  clear hf2
  obtain ⟨_, _, rfl, hf2_0, qf2__1⟩ := oks_cons qf2__0
  clear qf2__0
  obtain ⟨nf2_0, inf2_0, rfl⟩ := ok_num hf2_0
  obtain ⟨_, _, rfl, hf2_1, qf2__2⟩ := oks_cons qf2__1
  clear qf2__1
  obtain ⟨esf2_1, rfl, hef2_1⟩ := ok_row hf2_1
  obtain ⟨_, _, rfl, hf2_2, qf2__3⟩ := oks_cons qf2__2
  clear qf2__2
  obtain ⟨nf2_2, inf2_2, rfl⟩ := ok_num hf2_2
  obtain ⟨_, _, rfl, hf2_3, qf2__4⟩ := oks_cons qf2__3
  clear qf2__3
  obtain ⟨nf2_3, inf2_3, rfl⟩ := ok_num hf2_3
  obtain ⟨_, _, rfl, hf2_4, qf2__5⟩ := oks_cons qf2__4
  clear qf2__4
  obtain ⟨bf2_4, rfl⟩ := ok_truth hf2_4
  obtain rfl := oks_nil qf2__5
  have qf3__0 := ok_rec hf3
  clear hf3
  obtain ⟨_, _, rfl, hf3_0, qf3__1⟩ := oks_cons qf3__0
  clear qf3__0
  obtain ⟨nf3_0, inf3_0, rfl⟩ := ok_num hf3_0
  obtain ⟨dsf3_1, _, rfl, hf3_1, qf3__2⟩ := oks_cons qf3__1
  clear qf3__1
  obtain ⟨_, _, rfl, hf3_2, qf3__3⟩ := oks_cons qf3__2
  clear qf3__2
  obtain ⟨bf3_2, rfl⟩ := ok_truth hf3_2
  obtain rfl := oks_nil qf3__3
  have qf3_1__0 := ok_rec hf3_1
  clear hf3_1
  obtain ⟨_, _, rfl, hf3_1_0, qf3_1__1⟩ := oks_cons qf3_1__0
  clear qf3_1__0
  obtain ⟨nf3_1_0, inf3_1_0, rfl⟩ := ok_num hf3_1_0
  obtain ⟨_, _, rfl, hf3_1_1, qf3_1__2⟩ := oks_cons qf3_1__1
  clear qf3_1__1
  obtain ⟨esf3_1_1, rfl, hef3_1_1⟩ := ok_row hf3_1_1
  obtain rfl := oks_nil qf3_1__2
  simp only [List.cons_append, List.nil_append, List.append_nil, List.map_cons, List.map_nil]
  simp only [List.cons_append, List.nil_append, List.append_nil, List.map_cons, List.map_nil] at cf0 cf1 cf2 cf3
  refine Spec.intro (n := 42) (rv := [.tmp 4]) Try.func85 rfl rfl rfl (by simp) fun C hN hX => ?_
  refine AW.seq ?_
  apply AW.list
  apply Wk.bx 2 rfl rfl (lt_of_ble rfl)
  apply Wk.asg (by conv => lhs; whnf) (lt_of_ble rfl)
  refine Wk.nil ?_
  have df0 := cf0 l (by omega)
  refine AW.seq ?_
  apply AW.list
  apply Wk.fad 0 9 true fd128_0 rfl (lt_of_ble rfl)
  apply Wk.ld (i := 2) 10 true ty26 rfl rfl (by conv => lhs; whnf) (lt_of_ble rfl)
  apply Wk.mv (by conv => lhs; whnf) (lt_of_ble rfl)
  apply Wk.dat df0 Try.func10 rfl rfl rfl rfl rfl (lt_of_ble rfl)
  apply Wk.asg (by conv => lhs; whnf) (lt_of_ble rfl)
  refine Wk.nil ?_
  refine AW.seq (AW.seq ?_)
  by_cases g0 : tf0 ≤ l
  case neg =>
    rw [show leftI l tf0 = -1 from if_neg g0]
    apply AW.list
    apply Wk.mv (by conv => lhs; whnf) (lt_of_ble rfl)
    apply Wk.bin rfl rfl (r := .bool true) (fun w => by simp [go_sem]) (lt_of_ble rfl)
    refine Wk.nil ?_
    refine AW.cond rfl (fun _ => ?_) (fun hc => by cases hc)
    refine AW.seq ?_
    apply AW.list
    apply Wk.asg (by conv => lhs; whnf) (lt_of_ble rfl)
    refine Wk.nil (AW.ret ?_)
    repeat (first | refine thenA_ret ?_ | refine inBlockA_ret ?_)
    rw [show leftI l (tf0 + tf1 + tf2 + tf3 + tf4 + tf5) = -1 from if_neg (by omega)]
    exact RetQ.ret [] (.cons rfl .nil) ⟨rfl, rfl⟩ none_kept
  rw [show leftI l tf0 = (l : Int) - (tf0 : Int) from if_pos g0]
  apply AW.list
  apply Wk.mv (by conv => lhs; whnf) (lt_of_ble rfl)
  apply Wk.bin rfl rfl (r := .bool false) (fun w => by simp [go_sem] <;> omega) (lt_of_ble rfl)
  refine Wk.nil ?_
  refine AW.cond rfl (fun hc => by cases hc) (fun _ => AW.skip (thenA_normal ?_))
  obtain ⟨l1, hl1⟩ : ∃ q : Nat, (l : Int) - (tf0 : Int) = (q : Int) := ⟨l - tf0, by omega⟩
  rw [hl1]
  have df1 := cf1 l1 (by omega)
  refine AW.seq ?_
  apply AW.list
  apply Wk.fad 10 6 true fd128_1 rfl (lt_of_ble rfl)
  apply Wk.ld (i := 2) 7 true ty124 rfl rfl (by conv => lhs; whnf) (lt_of_ble rfl)
  apply Wk.mv (by conv => lhs; whnf) (lt_of_ble rfl)
  apply Wk.dat df1 Try.func117 rfl rfl rfl rfl rfl (lt_of_ble rfl)
  apply Wk.asg (by conv => lhs; whnf) (lt_of_ble rfl)
  refine Wk.nil ?_
  refine AW.seq (AW.seq ?_)
  by_cases g1 : tf1 ≤ l1
  case neg =>
    rw [show leftI l1 tf1 = -1 from if_neg g1]
    apply AW.list
    apply Wk.mv (by conv => lhs; whnf) (lt_of_ble rfl)
    apply Wk.bin rfl rfl (r := .bool true) (fun w => by simp [go_sem]) (lt_of_ble rfl)
    refine Wk.nil ?_
    refine AW.cond rfl (fun _ => ?_) (fun hc => by cases hc)
    refine AW.seq ?_
    apply AW.list
    apply Wk.asg (by conv => lhs; whnf) (lt_of_ble rfl)
    refine Wk.nil (AW.ret ?_)
    repeat (first | refine thenA_ret ?_ | refine inBlockA_ret ?_)
    rw [show leftI l (tf0 + tf1 + tf2 + tf3 + tf4 + tf5) = -1 from if_neg (by omega)]
    exact RetQ.ret [] (.cons rfl .nil) ⟨rfl, rfl⟩ none_kept
  rw [show leftI l1 tf1 = (l1 : Int) - (tf1 : Int) from if_pos g1]
  apply AW.list
  apply Wk.mv (by conv => lhs; whnf) (lt_of_ble rfl)
  apply Wk.bin rfl rfl (r := .bool false) (fun w => by simp [go_sem] <;> omega) (lt_of_ble rfl)
  refine Wk.nil ?_
  refine AW.cond rfl (fun hc => by cases hc) (fun _ => AW.skip (thenA_normal ?_))
  obtain ⟨l2, hl2⟩ : ∃ q : Nat, (l1 : Int) - (tf1 : Int) = (q : Int) := ⟨l1 - tf1, by omega⟩
  rw [hl2]
  have df2 := cf2 l2 (by omega)
  refine AW.seq ?_
  apply AW.list
  apply Wk.fad 17 4 true fd128_2 rfl (lt_of_ble rfl)
  apply Wk.ld (i := 2) 5 true ty40 rfl rfl (by conv => lhs; whnf) (lt_of_ble rfl)
  apply Wk.mv (by conv => lhs; whnf) (lt_of_ble rfl)
  apply Wk.dat df2 Try.func18 rfl rfl rfl rfl rfl (lt_of_ble rfl)
  apply Wk.asg (by conv => lhs; whnf) (lt_of_ble rfl)
  refine Wk.nil ?_
  refine AW.seq (AW.seq ?_)
  by_cases g2 : tf2 ≤ l2
  case neg =>
    rw [show leftI l2 tf2 = -1 from if_neg g2]
    apply AW.list
    apply Wk.mv (by conv => lhs; whnf) (lt_of_ble rfl)
    apply Wk.bin rfl rfl (r := .bool true) (fun w => by simp [go_sem]) (lt_of_ble rfl)
    refine Wk.nil ?_
    refine AW.cond rfl (fun _ => ?_) (fun hc => by cases hc)
    refine AW.seq ?_
    apply AW.list
    apply Wk.asg (by conv => lhs; whnf) (lt_of_ble rfl)
    refine Wk.nil (AW.ret ?_)
    repeat (first | refine thenA_ret ?_ | refine inBlockA_ret ?_)
    rw [show leftI l (tf0 + tf1 + tf2 + tf3 + tf4 + tf5) = -1 from if_neg (by omega)]
    exact RetQ.ret [] (.cons rfl .nil) ⟨rfl, rfl⟩ none_kept
  rw [show leftI l2 tf2 = (l2 : Int) - (tf2 : Int) from if_pos g2]
  apply AW.list
  apply Wk.mv (by conv => lhs; whnf) (lt_of_ble rfl)
  apply Wk.bin rfl rfl (r := .bool false) (fun w => by simp [go_sem] <;> omega) (lt_of_ble rfl)
  refine Wk.nil ?_
  refine AW.cond rfl (fun hc => by cases hc) (fun _ => AW.skip (thenA_normal ?_))
  obtain ⟨l3, hl3⟩ : ∃ q : Nat, (l2 : Int) - (tf2 : Int) = (q : Int) := ⟨l2 - tf2, by omega⟩
  rw [hl3]
  have df3 := cf3 l3 (by omega)
  refine AW.seq ?_
  apply AW.list
  apply Wk.fad 22 3 true fd128_3 rfl (lt_of_ble rfl)
  apply Wk.ld (i := 2) 4 true ty126 rfl rfl (by conv => lhs; whnf) (lt_of_ble rfl)
  apply Wk.mv (by conv => lhs; whnf) (lt_of_ble rfl)
  apply Wk.dat df3 Try.func118 rfl rfl rfl rfl rfl (lt_of_ble rfl)
  apply Wk.asg (by conv => lhs; whnf) (lt_of_ble rfl)
  refine Wk.nil ?_
  refine AW.seq (AW.seq ?_)
  by_cases g3 : tf3 ≤ l3
  case neg =>
    rw [show leftI l3 tf3 = -1 from if_neg g3]
    apply AW.list
    apply Wk.mv (by conv => lhs; whnf) (lt_of_ble rfl)
    apply Wk.bin rfl rfl (r := .bool true) (fun w => by simp [go_sem]) (lt_of_ble rfl)
    refine Wk.nil ?_
    refine AW.cond rfl (fun _ => ?_) (fun hc => by cases hc)
    refine AW.seq ?_
    apply AW.list
    apply Wk.asg (by conv => lhs; whnf) (lt_of_ble rfl)
    refine Wk.nil (AW.ret ?_)
    repeat (first | refine thenA_ret ?_ | refine inBlockA_ret ?_)
    rw [show leftI l (tf0 + tf1 + tf2 + tf3 + tf4 + tf5) = -1 from if_neg (by omega)]
    exact RetQ.ret [] (.cons rfl .nil) ⟨rfl, rfl⟩ none_kept
  rw [show leftI l3 tf3 = (l3 : Int) - (tf3 : Int) from if_pos g3]
  apply AW.list
  apply Wk.mv (by conv => lhs; whnf) (lt_of_ble rfl)
  apply Wk.bin rfl rfl (r := .bool false) (fun w => by simp [go_sem] <;> omega) (lt_of_ble rfl)
  refine Wk.nil ?_
  refine AW.cond rfl (fun hc => by cases hc) (fun _ => AW.skip (thenA_normal ?_))
  obtain ⟨l4, hl4⟩ : ∃ q : Nat, (l3 : Int) - (tf3 : Int) = (q : Int) := ⟨l3 - tf3, by omega⟩
  rw [hl4]
  have df4 := cf4 l4 (by omega)
  refine AW.seq ?_
  apply AW.list
  apply Wk.fad 26 0 false fd128_4 rfl (lt_of_ble rfl)
  apply Wk.ld (i := 2) 1 false ty75 rfl rfl (by conv => lhs; whnf) (lt_of_ble rfl)
  apply Wk.mv (by conv => lhs; whnf) (lt_of_ble rfl)
  apply Wk.dat df4 Try.func119 rfl rfl rfl rfl rfl (lt_of_ble rfl)
  apply Wk.asg (by conv => lhs; whnf) (lt_of_ble rfl)
  refine Wk.nil ?_
  refine AW.seq (AW.seq ?_)
  by_cases g4 : tf4 ≤ l4
  case neg =>
    rw [show leftI l4 tf4 = -1 from if_neg g4]
    apply AW.list
    apply Wk.mv (by conv => lhs; whnf) (lt_of_ble rfl)
    apply Wk.bin rfl rfl (r := .bool true) (fun w => by simp [go_sem]) (lt_of_ble rfl)
    refine Wk.nil ?_
    refine AW.cond rfl (fun _ => ?_) (fun hc => by cases hc)
    refine AW.seq ?_
    apply AW.list
    apply Wk.asg (by conv => lhs; whnf) (lt_of_ble rfl)
    refine Wk.nil (AW.ret ?_)
    repeat (first | refine thenA_ret ?_ | refine inBlockA_ret ?_)
    rw [show leftI l (tf0 + tf1 + tf2 + tf3 + tf4 + tf5) = -1 from if_neg (by omega)]
    exact RetQ.ret [] (.cons rfl .nil) ⟨rfl, rfl⟩ none_kept
  rw [show leftI l4 tf4 = (l4 : Int) - (tf4 : Int) from if_pos g4]
  apply AW.list
  apply Wk.mv (by conv => lhs; whnf) (lt_of_ble rfl)
  apply Wk.bin rfl rfl (r := .bool false) (fun w => by simp [go_sem] <;> omega) (lt_of_ble rfl)
  refine Wk.nil ?_
  refine AW.cond rfl (fun hc => by cases hc) (fun _ => AW.skip (thenA_normal ?_))
  obtain ⟨l5, hl5⟩ : ∃ q : Nat, (l4 : Int) - (tf4 : Int) = (q : Int) := ⟨l4 - tf4, by omega⟩
  rw [hl5]
  have df5 := cf5 l5 (by omega)
  refine AW.seq ?_
  apply AW.list
  apply Wk.fad 27 0 false fd128_5 rfl (lt_of_ble rfl)
  apply Wk.ld (i := 2) 1 false ty75 rfl rfl (by conv => lhs; whnf) (lt_of_ble rfl)
  apply Wk.mv (by conv => lhs; whnf) (lt_of_ble rfl)
  apply Wk.dat df5 Try.func119 rfl rfl rfl rfl rfl (lt_of_ble rfl)
  apply Wk.asg (by conv => lhs; whnf) (lt_of_ble rfl)
  refine Wk.nil ?_
  refine AW.seq (AW.seq ?_)
  by_cases g5 : tf5 ≤ l5
  case neg =>
    rw [show leftI l5 tf5 = -1 from if_neg g5]
    apply AW.list
    apply Wk.mv (by conv => lhs; whnf) (lt_of_ble rfl)
    apply Wk.bin rfl rfl (r := .bool true) (fun w => by simp [go_sem]) (lt_of_ble rfl)
    refine Wk.nil ?_
    refine AW.cond rfl (fun _ => ?_) (fun hc => by cases hc)
    refine AW.seq ?_
    apply AW.list
    apply Wk.asg (by conv => lhs; whnf) (lt_of_ble rfl)
    refine Wk.nil (AW.ret ?_)
    repeat (first | refine thenA_ret ?_ | refine inBlockA_ret ?_)
    rw [show leftI l (tf0 + tf1 + tf2 + tf3 + tf4 + tf5) = -1 from if_neg (by omega)]
    exact RetQ.ret [] (.cons rfl .nil) ⟨rfl, rfl⟩ none_kept
  rw [show leftI l5 tf5 = (l5 : Int) - (tf5 : Int) from if_pos g5]
  apply AW.list
  apply Wk.mv (by conv => lhs; whnf) (lt_of_ble rfl)
  apply Wk.bin rfl rfl (r := .bool false) (fun w => by simp [go_sem] <;> omega) (lt_of_ble rfl)
  refine Wk.nil ?_
  refine AW.cond rfl (fun hc => by cases hc) (fun _ => AW.skip (thenA_normal ?_))
  refine AW.seq ?_
  apply AW.list
  apply Wk.mv (by conv => lhs; whnf) (lt_of_ble rfl)
  apply Wk.asg (by conv => lhs; whnf) (lt_of_ble rfl)
  refine Wk.nil (AW.ret ?_)
  rw [show leftI l (tf0 + tf1 + tf2 + tf3 + tf4 + tf5) = (l5 : Int) - (tf5 : Int) from (if_pos (by omega)).trans (by omega)]
  exact RetQ.ret [] (.cons rfl .nil) ⟨rfl, rfl⟩ none_kept
set_option maxHeartbeats 4000000 in
set_option maxRecDepth 100000 in
theorem toWldEndS_ok (es : List (List D)) (he : ∀ e ∈ es, Sh.ok (.struct [(.struct [.int, .int, (.slice (.struct [.int, .int, (.slice .byte)])), .int, (.slice (.struct [.int, .int, (.slice .byte)])), .bool, .int, .bool, .int, .bool]), (.struct [.int, .int, (.struct [.int, (.slice .byte)]), .bool, .bool, .bool]), (.struct [.int, (.slice (.struct [.int, .int, (.slice .byte)])), .int, .int, .bool]), (.struct [.int, (.struct [.int, (.slice .byte)]), .bool]), (.slice (.slice .byte)), (.slice (.slice .byte))]) e) (ht : (D.row es).tot ≤ 1048576) : DataOk Try.prog 54 [.d (.row es)] (.d (.row es)) := by
  have hl : es.length ≤ 1048576 := by simp only [D.tot] at ht; omega
  have hz : ∀ c ∈ es, c.length = 28 := sh_lens he
  refine Spec.intro (n := 23) (rv := [.tmp 2]) Try.func54 rfl rfl rfl (by simp) fun C hN hX => ?_
  refine AW.seq ?_
  apply AW.list
  apply Wk.asg (by conv => lhs; whnf) (lt_of_ble rfl)
  refine Wk.nil ?_
  refine AW.seq ?_
  apply AW.list
  apply Wk.mv (by conv => lhs; whnf) (lt_of_ble rfl)
  apply Wk.len un48 rfl (lt_of_ble rfl)
  apply Wk.mks 7 28 es.length un54 ap77 ze77 rfl rfl rfl rfl (by omega) (lt_of_ble rfl)
  apply Wk.asg (by conv => lhs; whnf) (lt_of_ble rfl)
  refine Wk.nil ?_
  refine AW.seq (AW.seq ?_)
  apply AW.list
  apply Wk.asg (by conv => lhs; whnf) (lt_of_ble rfl)
  refine Wk.nil (AW.block ?_)
  refine AW.loop (fun q : Nat => St.of 23 [(0, .d (.row es)), (3, .own 7 0), (4, .d (.v (.int .i64 (q : Int))))] [(7, .own 0 77 28 (mixA es [.int .i64 0, .int .i64 0, .slice none 0 0, .int .i64 0, .slice none 0 0, .bool false, .int .i64 0, .bool false, .int .i64 0, .bool false, .int .i64 0, .int .i64 0, .int .i64 0, .slice none 0 0, .bool false, .bool false, .bool false, .int .i64 0, .slice none 0 0, .int .i64 0, .int .i64 0, .bool false, .int .i64 0, .int .i64 0, .slice none 0 0, .bool false, .slice none 0 0, .slice none 0 0] q))]) (fun q => q ≤ es.length) (fun q => es.length - q) 0 (Nat.zero_le _) ?_ (fun q hq => ?_)
  · exact fun a w => Rel.keep ⟨rfl, .cons rfl rfl (.cons rfl rfl (.cons rfl rfl .nil)), .cons (by rw [mix_zero]; rfl) (by exact mix_within _ _ _) .nil, hN.mono (by simp [keys])⟩
  refine AW.seq (AW.seq ?_)
  apply AW.list
  apply Wk.mv (by conv => lhs; whnf) (lt_of_ble rfl)
  apply Wk.mv (by conv => lhs; whnf) (lt_of_ble rfl)
  apply Wk.len un48 rfl (lt_of_ble rfl)
  apply Wk.bin rfl rfl (fun w => by simp [go_sem] <;> rfl) (lt_of_ble rfl)
  refine Wk.nil ?_
  refine AW.cond rfl (fun hc => ?_) (fun hc => ?_)
  · have hlt : q < es.length := by simpa using hc
    obtain ⟨e, hd⟩ : ∃ e, es[q]? = some e := ⟨_, List.getElem?_eq_getElem hlt⟩
    have hse := he e (List.mem_of_getElem? hd)
    have hel : e.length = 28 := hz e (List.mem_of_getElem? hd)
    have hms := mix_set (es := es) (zs := [.int .i64 0, .int .i64 0, .slice none 0 0, .int .i64 0, .slice none 0 0, .bool false, .int .i64 0, .bool false, .int .i64 0, .bool false, .int .i64 0, .int .i64 0, .int .i64 0, .slice none 0 0, .bool false, .bool false, .bool false, .int .i64 0, .slice none 0 0, .int .i64 0, .int .i64 0, .bool false, .int .i64 0, .int .i64 0, .slice none 0 0, .bool false, .slice none 0 0, .slice none 0 0]) hd (by rw [hel]; rfl)
    have hmg := mix_get (es := es) (zs := [.int .i64 0, .int .i64 0, .slice none 0 0, .int .i64 0, .slice none 0 0, .bool false, .int .i64 0, .bool false, .int .i64 0, .bool false, .int .i64 0, .int .i64 0, .int .i64 0, .slice none 0 0, .bool false, .bool false, .bool false, .int .i64 0, .slice none 0 0, .int .i64 0, .int .i64 0, .bool false, .int .i64 0, .int .i64 0, .slice none 0 0, .bool false, .slice none 0 0, .slice none 0 0]) hlt
    have hml := mix_len (es := es) (zs := [.int .i64 0, .int .i64 0, .slice none 0 0, .int .i64 0, .slice none 0 0, .bool false, .int .i64 0, .bool false, .int .i64 0, .bool false, .int .i64 0, .int .i64 0, .int .i64 0, .slice none 0 0, .bool false, .bool false, .bool false, .int .i64 0, .slice none 0 0, .int .i64 0, .int .i64 0, .bool false, .int .i64 0, .int .i64 0, .slice none 0 0, .bool false, .slice none 0 0, .slice none 0 0]) (Nat.le_of_lt hlt)
    refine AW.skip ?_
    repeat (first | refine thenA_normal ?_ | refine inBlockA_normal ?_)
    refine AW.seq (AW.block ?_)
    apply AW.list
    have ht1 : tots e ≤ 1048576 := by have := totss_get hd; simp only [D.tot] at ht; omega
    apply Wk.mv (by conv => lhs; whnf) (lt_of_ble rfl)
    apply Wk.mv (by conv => lhs; whnf) (lt_of_ble rfl)
    apply Wk.mv (by conv => lhs; whnf) (lt_of_ble rfl)
    apply Wk.mv (by conv => lhs; whnf) (lt_of_ble rfl)
    apply Wk.iad 28 true un48 ty128 rfl rfl (by omega) hz (lt_of_ble rfl)
    apply Wk.ldr 28 true ty128 rfl hd (partA_all hel) (lt_of_ble rfl)
    apply Wk.dat (toWldEnd_ok e hse ht1) Try.func89 rfl rfl (by exact congrArg (fun q => [A.agg q]) (sh_nrm _ _ hse)) (by exact within1 e) (by exact withins_d [] e) (lt_of_ble rfl)
    apply Wk.iado 7 28 true un54 ty77 rfl rfl rfl (by rw [hml]; exact hlt) (lt_of_ble rfl)
    apply Wk.stoo 7 q 0 28 true ty77 rfl rfl (by omega) hmg rfl (by rw [List.length_map]; exact hel) (by decide) (lt_of_ble rfl)
    refine Wk.nil ?_
    repeat (first | refine thenA_normal ?_ | refine inBlockA_normal ?_)
    apply AW.list
    apply Wk.mv (by conv => lhs; whnf) (lt_of_ble rfl)
    apply Wk.addi rfl rfl (by omega) (lt_of_ble rfl)
    apply Wk.asg (by conv => lhs; whnf) (lt_of_ble rfl)
    refine Wk.nil ?_
    exact ⟨q + 1, by omega, by omega, fun a w => Rel.keep ⟨rfl, .cons rfl rfl (.cons rfl rfl (.cons rfl rfl .nil)), .cons (congrArg (Bx.own 0 77 28) hms) (by exact mix_within _ _ _) .nil, hN.mono (by simp [keys])⟩⟩
  · obtain rfl : q = es.length := by
      have : ¬ q < es.length := by simpa using hc
      omega
    refine AW.exit ?_
    repeat (first | refine inBlockA_same ?_ | refine thenA_exit ?_)
    repeat (first | refine thenA_normal ?_ | refine inBlockA_normal ?_)
    refine AW.seq ?_
    apply AW.list
    apply Wk.mv (by conv => lhs; whnf) (lt_of_ble rfl)
    apply Wk.asg (by conv => lhs; whnf) (lt_of_ble rfl)
    refine Wk.nil ?_
    repeat (first | refine thenA_normal ?_ | refine inBlockA_normal ?_)
    refine AW.thaw (t := 2) (i := 7) es rfl rfl (by rw [mix_end]; exact asData_sh he) hX.none ?_
    refine AW.ret ?_
    repeat (first | refine thenA_ret ?_ | refine inBlockA_ret ?_)
    exact RetQ.ret [] (.cons rfl .nil) ⟨rfl, rfl⟩ none_kept
set_option maxHeartbeats 4000000 in
set_option maxRecDepth 100000 in
theorem eqWldEndS_ok (es : List (List D)) (he : ∀ e ∈ es, Sh.ok (.struct [(.struct [.int, .int, (.slice (.struct [.int, .int, (.slice .byte)])), .int, (.slice (.struct [.int, .int, (.slice .byte)])), .bool, .int, .bool, .int, .bool]), (.struct [.int, .int, (.struct [.int, (.slice .byte)]), .bool, .bool, .bool]), (.struct [.int, (.slice (.struct [.int, .int, (.slice .byte)])), .int, .int, .bool]), (.struct [.int, (.struct [.int, (.slice .byte)]), .bool]), (.slice (.slice .byte)), (.slice (.slice .byte))]) e) : DataOk Try.prog 60 [.d (.row es), .d (.row es)] (.d (.v (.bool true))) := by
  have hz : ∀ c ∈ es, c.length = 28 := sh_lens he
  refine Spec.intro (n := 27) (rv := [.tmp 4]) Try.func60 rfl rfl rfl (by simp) fun C hN hX => ?_
  refine AW.bound (x := .tmp 0) (es := es) rfl fun hb => ?_
  refine AW.seq ?_
  apply AW.list
  apply Wk.asg (by conv => lhs; whnf) (lt_of_ble rfl)
  refine Wk.nil ?_
  refine AW.seq (AW.seq ?_)
  apply AW.list
  apply Wk.mv (by conv => lhs; whnf) (lt_of_ble rfl)
  apply Wk.len un54 rfl (lt_of_ble rfl)
  apply Wk.mv (by conv => lhs; whnf) (lt_of_ble rfl)
  apply Wk.len un54 rfl (lt_of_ble rfl)
  apply Wk.bin rfl rfl (fun w => by simp [go_sem] <;> rfl) (lt_of_ble rfl)
  refine Wk.nil ?_
  refine AW.cond rfl (fun hc => by simp at hc) (fun _ => AW.skip (thenA_normal ?_))
  refine AW.seq (AW.seq ?_)
  apply AW.list
  apply Wk.asg (by conv => lhs; whnf) (lt_of_ble rfl)
  refine Wk.nil (AW.block ?_)
  refine AW.loop (fun q : Nat => St.of 27 [(0, .d (.row es)), (1, .d (.row es)), (5, .d (.v (.int .i64 (q : Int))))] []) (fun q => q ≤ es.length) (fun q => es.length - q) 0 (Nat.zero_le _) ?_ (fun q hq => ?_)
  · exact fun a w => Rel.keep ⟨rfl, .cons rfl rfl (.cons rfl rfl (.cons rfl rfl .nil)), .nil, hN⟩
  refine AW.seq (AW.seq ?_)
  apply AW.list
  apply Wk.mv (by conv => lhs; whnf) (lt_of_ble rfl)
  apply Wk.mv (by conv => lhs; whnf) (lt_of_ble rfl)
  apply Wk.len un54 rfl (lt_of_ble rfl)
  apply Wk.bin rfl rfl (fun w => by simp [go_sem] <;> rfl) (lt_of_ble rfl)
  refine Wk.nil ?_
  refine AW.cond rfl (fun hc => ?_) (fun hc => ?_)
  · have hlt : q < es.length := by simpa using hc
    obtain ⟨e, hd⟩ : ∃ e, es[q]? = some e := ⟨_, List.getElem?_eq_getElem hlt⟩
    have hse := he e (List.mem_of_getElem? hd)
    have hel : e.length = 28 := hz e (List.mem_of_getElem? hd)
    refine AW.skip ?_
    repeat (first | refine thenA_normal ?_ | refine inBlockA_normal ?_)
    refine AW.seq (AW.block (AW.seq ?_))
    apply AW.draw (hm := hmix) (cs := _)
    · apply Wk.mv (by conv => lhs; whnf) (lt_of_ble rfl)
      apply Wk.mv (by conv => lhs; whnf) (lt_of_ble rfl)
      apply Wk.iad 28 true un54 ty77 rfl rfl (by omega) hz (lt_of_ble rfl)
      apply Wk.ldr 28 true ty77 rfl hd (partA_all hel) (lt_of_ble rfl)
      apply Wk.mv (by conv => lhs; whnf) (lt_of_ble rfl)
      apply Wk.mv (by conv => lhs; whnf) (lt_of_ble rfl)
      apply Wk.iad 28 true un54 ty77 rfl rfl (by omega) hz (lt_of_ble rfl)
      apply Wk.ldr 28 true ty77 rfl hd (partA_all hel) (lt_of_ble rfl)
      apply Wk.dat (eqWldEnd_ok e hse) Try.func96 rfl rfl (by exact congrArg (fun q => [A.agg q, A.agg q]) (sh_nrm _ _ hse)) (by exact within2 e) rfl (lt_of_ble rfl)
      apply Wk.un rfl (fun w => by simp [go_sem] <;> rfl) (lt_of_ble rfl)
      refine Wk.nil ?_
      refine AW.cond rfl (fun hn => by cases hn) (fun hn => ?_)
      refine AW.skip ?_
      repeat (first | refine thenA_normal ?_ | refine inBlockA_normal ?_)
      apply AW.list
      apply Wk.mv (by conv => lhs; whnf) (lt_of_ble rfl)
      apply Wk.addi rfl rfl (by omega) (lt_of_ble rfl)
      apply Wk.asg (by conv => lhs; whnf) (lt_of_ble rfl)
      refine Wk.nil ?_
      exact ⟨q + 1, by omega, by omega, fun a w => Rel.keep ⟨rfl, .cons rfl rfl (.cons rfl rfl (.cons rfl rfl .nil)), .nil, hN⟩⟩
    · rfl
    · rfl
  · refine AW.exit ?_
    repeat (first | refine inBlockA_same ?_ | refine thenA_exit ?_)
    repeat (first | refine thenA_normal ?_ | refine inBlockA_normal ?_)
    refine AW.seq ?_
    apply AW.list
    apply Wk.asg (by conv => lhs; whnf) (lt_of_ble rfl)
    refine Wk.nil (AW.ret ?_)
    repeat (first | refine thenA_ret ?_ | refine inBlockA_ret ?_)
    exact RetQ.ret [] (.cons rfl .nil) ⟨rfl, rfl⟩ none_kept
set_option maxHeartbeats 4000000 in
set_option maxRecDepth 100000 in
theorem szWldEndS_ok (es : List (List D)) (he : ∀ e ∈ es, Sh.ok (.struct [(.struct [.int, .int, (.slice (.struct [.int, .int, (.slice .byte)])), .int, (.slice (.struct [.int, .int, (.slice .byte)])), .bool, .int, .bool, .int, .bool]), (.struct [.int, .int, (.struct [.int, (.slice .byte)]), .bool, .bool, .bool]), (.struct [.int, (.slice (.struct [.int, .int, (.slice .byte)])), .int, .int, .bool]), (.struct [.int, (.struct [.int, (.slice .byte)]), .bool]), (.slice (.slice .byte)), (.slice (.slice .byte))]) e) (l : Nat) (hl : l ≤ 1048576) : DataOk Try.prog 51 [.d (.row es), .d (.v (.int .i64 (l : Int)))] (.d (.v (.int .i64 (leftI l (D.row es).tot)))) := by
  have hz : ∀ c ∈ es, c.length = 28 := sh_lens he
  refine Spec.intro (n := 27) (rv := [.tmp 4]) Try.func51 rfl rfl rfl (by simp) fun C hN hX => ?_
  refine AW.bound (x := .tmp 0) (es := es) rfl fun hb => ?_
  refine AW.seq ?_
  apply AW.list
  apply Wk.asg (by conv => lhs; whnf) (lt_of_ble rfl)
  refine Wk.nil ?_
  refine AW.seq ?_
  apply AW.list
  apply Wk.mv (by conv => lhs; whnf) (lt_of_ble rfl)
  apply Wk.mv (by conv => lhs; whnf) (lt_of_ble rfl)
  apply Wk.len un48 rfl (lt_of_ble rfl)
  apply Wk.subi rfl rfl (by omega) (lt_of_ble rfl)
  apply Wk.asg (by conv => lhs; whnf) (lt_of_ble rfl)
  refine Wk.nil ?_
  refine AW.seq (AW.seq ?_)
  by_cases h0 : es.length ≤ l
  · apply AW.list
    apply Wk.mv (by conv => lhs; whnf) (lt_of_ble rfl)
    apply Wk.bin rfl rfl (r := .bool false) (fun w => by simp [go_sem] <;> omega) (lt_of_ble rfl)
    refine Wk.nil ?_
    refine AW.cond rfl (fun hc => by cases hc) (fun _ => AW.skip (thenA_normal ?_))
    refine AW.seq (AW.seq ?_)
    apply AW.list
    apply Wk.asg (by conv => lhs; whnf) (lt_of_ble rfl)
    refine Wk.nil (AW.block ?_)
    refine AW.loop (fun q : Nat => St.of 27 [(0, .d (.row es)), (1, .d (.v (.int .i64 ((l : Int) - (es.length : Int) - (totss (es.take q) : Int))))), (5, .d (.v (.int .i64 (q : Int))))] []) (fun q => q ≤ es.length ∧ es.length + totss (es.take q) ≤ l) (fun q => es.length - q) 0 ⟨Nat.zero_le _, by simpa [totss] using h0⟩ ?_ (fun q hq => ?_)
    · exact fun a w => Rel.keep ⟨rfl, .cons rfl rfl (.cons (by simp [totss]; rfl) rfl (.cons rfl rfl .nil)), .nil, hN⟩
    obtain ⟨hq, hqt⟩ := hq
    refine AW.seq (AW.seq ?_)
    apply AW.list
    apply Wk.mv (by conv => lhs; whnf) (lt_of_ble rfl)
    apply Wk.mv (by conv => lhs; whnf) (lt_of_ble rfl)
    apply Wk.len un48 rfl (lt_of_ble rfl)
    apply Wk.bin rfl rfl (fun w => by simp [go_sem] <;> rfl) (lt_of_ble rfl)
    refine Wk.nil ?_
    refine AW.cond rfl (fun hc => ?_) (fun hc => ?_)
    · have hlt : q < es.length := by simpa using hc
      obtain ⟨e, hd⟩ : ∃ e, es[q]? = some e := ⟨_, List.getElem?_eq_getElem hlt⟩
      have hse := he e (List.mem_of_getElem? hd)
      have hel : e.length = 28 := hz e (List.mem_of_getElem? hd)
      have htk := totss_take hd
      have hle := totss_le es (q + 1)
      obtain ⟨l2, hl2⟩ : ∃ l2 : Nat, (l : Int) - (es.length : Int) - (totss (es.take q) : Int) = (l2 : Int) := ⟨l - es.length - totss (es.take q), by omega⟩
      refine AW.skip ?_
      repeat (first | refine thenA_normal ?_ | refine inBlockA_normal ?_)
      rw [hl2]
      refine AW.seq (AW.block (AW.seq ?_))
      apply AW.list
      have hc1 := szWldEnd_ok e hse l2 (by omega)
      apply Wk.mv (by conv => lhs; whnf) (lt_of_ble rfl)
      apply Wk.mv (by conv => lhs; whnf) (lt_of_ble rfl)
      apply Wk.iad 28 true un48 ty128 rfl rfl (by omega) hz (lt_of_ble rfl)
      apply Wk.ldr 28 true ty128 rfl hd (partA_all hel) (lt_of_ble rfl)
      apply Wk.mv (by conv => lhs; whnf) (lt_of_ble rfl)
      apply Wk.dat hc1 Try.func85 rfl rfl (by exact congrArg (fun q => [A.agg q, A.d (.v (.int .i64 (l2 : Int)))]) (sh_nrm _ _ hse)) (by exact within3 e _) rfl (lt_of_ble rfl)
      apply Wk.asg (by conv => lhs; whnf) (lt_of_ble rfl)
      refine Wk.nil ?_
      refine AW.seq ?_
      by_cases h1 : tots e ≤ l2
      · rw [show leftI l2 (tots e) = (l2 : Int) - ((tots e : Nat) : Int) from if_pos h1]
        apply AW.list
        apply Wk.mv (by conv => lhs; whnf) (lt_of_ble rfl)
        apply Wk.bin rfl rfl (r := .bool false) (fun w => by simp [go_sem] <;> omega) (lt_of_ble rfl)
        refine Wk.nil ?_
        refine AW.cond rfl (fun hn => by cases hn) (fun hn => ?_)
        refine AW.skip ?_
        repeat (first | refine thenA_normal ?_ | refine inBlockA_normal ?_)
        apply AW.list
        apply Wk.mv (by conv => lhs; whnf) (lt_of_ble rfl)
        apply Wk.addi rfl rfl (by omega) (lt_of_ble rfl)
        apply Wk.asg (by conv => lhs; whnf) (lt_of_ble rfl)
        refine Wk.nil ?_
        exact ⟨q + 1, ⟨by omega, by omega⟩, by omega, fun a w => Rel.keep ⟨rfl, .cons rfl rfl (.cons (congrArg (fun z : Int => A.d (.v (.int .i64 z))) (by omega)) rfl (.cons rfl rfl .nil)), .nil, hN⟩⟩
      · rw [show leftI l2 (tots e) = -1 from if_neg h1]
        apply AW.list
        apply Wk.mv (by conv => lhs; whnf) (lt_of_ble rfl)
        apply Wk.bin rfl rfl (r := .bool true) (fun w => by simp [go_sem]) (lt_of_ble rfl)
        refine Wk.nil ?_
        refine AW.cond rfl (fun _ => ?_) (fun hn => by cases hn)
        refine AW.seq ?_
        apply AW.list
        apply Wk.asg (by conv => lhs; whnf) (lt_of_ble rfl)
        refine Wk.nil (AW.ret ?_)
        repeat (first | refine thenA_ret ?_ | refine inBlockA_ret ?_)
        rw [show leftI l (D.row es).tot = -1 from if_neg (by simp only [D.tot]; omega)]
        exact RetQ.ret [] (.cons rfl .nil) ⟨rfl, rfl⟩ none_kept
    · obtain rfl : q = es.length := by
        have : ¬ q < es.length := by simpa using hc
        omega
      refine AW.exit ?_
      repeat (first | refine inBlockA_same ?_ | refine thenA_exit ?_)
      repeat (first | refine thenA_normal ?_ | refine inBlockA_normal ?_)
      refine AW.seq ?_
      apply AW.list
      apply Wk.mv (by conv => lhs; whnf) (lt_of_ble rfl)
      apply Wk.asg (by conv => lhs; whnf) (lt_of_ble rfl)
      refine Wk.nil (AW.ret ?_)
      repeat (first | refine thenA_ret ?_ | refine inBlockA_ret ?_)
      rw [List.take_length] at hqt
      rw [show leftI l (D.row es).tot = (l : Int) - (es.length : Int) - (totss (es.take es.length) : Int) from (if_pos (by simp only [D.tot]; omega)).trans (by simp only [D.tot, List.take_length]; omega)]
      exact RetQ.ret [] (.cons rfl .nil) ⟨rfl, rfl⟩ none_kept
  · apply AW.list
    apply Wk.mv (by conv => lhs; whnf) (lt_of_ble rfl)
    apply Wk.bin rfl rfl (r := .bool true) (fun w => by simp [go_sem] <;> omega) (lt_of_ble rfl)
    refine Wk.nil ?_
    refine AW.cond rfl (fun _ => ?_) (fun hc => by cases hc)
    refine AW.seq ?_
    apply AW.list
    apply Wk.asg (by conv => lhs; whnf) (lt_of_ble rfl)
    refine Wk.nil (AW.ret ?_)
    repeat (first | refine thenA_ret ?_ | refine inBlockA_ret ?_)
    rw [show leftI l (D.row es).tot = -1 from if_neg (by simp only [D.tot]; omega)]
    exact RetQ.ret [] (.cons rfl .nil) ⟨rfl, rfl⟩ none_kept
set_option maxHeartbeats 4000000 in
set_option maxRecDepth 100000 in
theorem toNetMsg_ok (ds : List D) (h : Sh.ok (.struct [.bool, (.slice .byte)]) ds) (ht : tots ds ≤ 1048576) : DataOk Try.prog 125 [.agg (ds.map .d)] (.agg (ds.map .d)) := by
  have qf_0 := ok_rec h
  clear h
  obtain ⟨_, _, rfl, hf0, qf_1⟩ := oks_cons qf_0
  clear qf_0
  obtain ⟨bf0, rfl⟩ := ok_truth hf0
  obtain ⟨_, _, rfl, hf1, qf_2⟩ := oks_cons qf_1
  clear qf_1
  obtain ⟨esf1, rfl, hef1⟩ := ok_row hf1
  obtain rfl := oks_nil qf_2
  have cf1 := toByteS_ok esf1 hef1 (by simp only [tots_append, tots] at ht; omega)
  simp only [List.cons_append, List.nil_append, List.append_nil, List.map_cons, List.map_nil]
  refine Spec.intro (n := 12) (rv := [.cell 2 92]) Try.func125 rfl rfl rfl (by simp) fun C hN hX => ?_
  refine AW.seq ?_
  apply AW.list
  apply Wk.bx 1 rfl rfl (lt_of_ble rfl)
  apply Wk.alc 2 [.bool false, .slice none 0 0] ze92 rfl rfl (lt_of_ble rfl)
  refine Wk.nil ?_
  refine AW.seq ?_
  apply AW.list
  apply Wk.alc 3 [.bool false, .slice none 0 0] ze92 rfl rfl (lt_of_ble rfl)
  refine Wk.nil ?_
  refine AW.seq ?_
  apply AW.list
  apply Wk.fad 0 0 false fd157_0 rfl (lt_of_ble rfl)
  apply Wk.ld (i := 1) 1 false ty4 rfl rfl (by conv => lhs; whnf) (lt_of_ble rfl)
  apply Wk.fad 0 0 false fd92_0 rfl (lt_of_ble rfl)
  apply Wk.sto (i := 3) 1 false ty4 rfl rfl rfl rfl (Nat.le_of_ble_eq_true rfl) (lt_of_ble rfl)
  refine Wk.nil ?_
  refine AW.seq ?_
  apply AW.list
  apply Wk.fad 1 0 false fd157_1 rfl (lt_of_ble rfl)
  apply Wk.ld (i := 1) 1 false ty64 rfl rfl (by conv => lhs; whnf) (lt_of_ble rfl)
  apply Wk.dat cf1 Try.func114 rfl rfl rfl rfl rfl (lt_of_ble rfl)
  apply Wk.fad 1 0 false fd92_1 rfl (lt_of_ble rfl)
  apply Wk.sto (i := 3) 1 false ty64 rfl rfl rfl rfl (Nat.le_of_ble_eq_true rfl) (lt_of_ble rfl)
  refine Wk.nil ?_
  refine AW.seq ?_
  apply AW.list
  apply Wk.ld (i := 3) 2 true ty92 rfl rfl (by conv => lhs; whnf) (lt_of_ble rfl)
  apply Wk.sto (i := 2) 2 true ty92 rfl rfl rfl rfl (Nat.le_of_ble_eq_true rfl) (lt_of_ble rfl)
  refine Wk.nil (AW.ret ?_)
  exact RetQ.ret [] (.cons ⟨2, 0, _, _, _, rfl, rfl, ty92, rfl⟩ .nil) ⟨rfl, rfl⟩ none_kept
set_option maxHeartbeats 4000000 in
set_option maxRecDepth 100000 in
theorem eqNetMsg_ok (ds : List D) (h : Sh.ok (.struct [.bool, (.slice .byte)]) ds) : DataOk Try.prog 133 [.agg (ds.map .d), .agg (ds.map .d)] (.d (.v (.bool true))) := by
  have qf_0 := ok_rec h
  clear h
  obtain ⟨_, _, rfl, hf0, qf_1⟩ := oks_cons qf_0
  clear qf_0
  obtain ⟨bf0, rfl⟩ := ok_truth hf0
  obtain ⟨_, _, rfl, hf1, qf_2⟩ := oks_cons qf_1
  clear qf_1
  obtain ⟨esf1, rfl, hef1⟩ := ok_row hf1
  obtain rfl := oks_nil qf_2
  have cf1 := eqByteS_ok esf1 hef1
  simp only [List.cons_append, List.nil_append, List.append_nil, List.map_cons, List.map_nil]
  refine Spec.intro (n := 16) (rv := [.tmp 4]) Try.func133 rfl rfl rfl (by simp) fun C hN hX => ?_
  refine AW.seq ?_
  apply AW.list
  apply Wk.bx 2 rfl rfl (lt_of_ble rfl)
  apply Wk.bx 3 rfl rfl (lt_of_ble rfl)
  apply Wk.asg (by conv => lhs; whnf) (lt_of_ble rfl)
  refine Wk.nil ?_
  refine AW.seq (AW.seq ?_)
  apply AW.list
  apply Wk.fad 0 0 false fd92_0 rfl (lt_of_ble rfl)
  apply Wk.ld (i := 2) 1 false ty4 rfl rfl (by conv => lhs; whnf) (lt_of_ble rfl)
  apply Wk.fad 0 0 false fd92_0 rfl (lt_of_ble rfl)
  apply Wk.ld (i := 3) 1 false ty4 rfl rfl (by conv => lhs; whnf) (lt_of_ble rfl)
  apply Wk.bin rfl rfl (r := .bool false) (fun w => by simp [go_sem]) (lt_of_ble rfl)
  refine Wk.nil ?_
  refine AW.cond rfl (fun hc => by cases hc) (fun _ => AW.skip (thenA_normal ?_))
  refine AW.seq (AW.seq ?_)
  apply AW.list
  apply Wk.fad 1 0 false fd92_1 rfl (lt_of_ble rfl)
  apply Wk.ld (i := 2) 1 false ty64 rfl rfl (by conv => lhs; whnf) (lt_of_ble rfl)
  apply Wk.fad 1 0 false fd92_1 rfl (lt_of_ble rfl)
  apply Wk.ld (i := 3) 1 false ty64 rfl rfl (by conv => lhs; whnf) (lt_of_ble rfl)
  apply Wk.dat cf1 Try.func116 rfl rfl rfl rfl rfl (lt_of_ble rfl)
  apply Wk.un rfl (fun w => by simp [go_sem] <;> rfl) (lt_of_ble rfl)
  refine Wk.nil ?_
  refine AW.cond rfl (fun hc => by cases hc) (fun _ => AW.skip (thenA_normal ?_))
  refine AW.seq ?_
  apply AW.list
  apply Wk.asg (by conv => lhs; whnf) (lt_of_ble rfl)
  refine Wk.nil (AW.ret ?_)
  exact RetQ.ret [] (.cons rfl .nil) ⟨rfl, rfl⟩ none_kept
set_option maxHeartbeats 4000000 in
set_option maxRecDepth 100000 in
theorem szNetMsg_ok (ds : List D) (h : Sh.ok (.struct [.bool, (.slice .byte)]) ds) (l : Nat) (hl : l ≤ 1048576) : DataOk Try.prog 120 [.agg (ds.map .d), .d (.v (.int .i64 (l : Int)))] (.d (.v (.int .i64 (leftI l (tots ds))))) := by
  have qf_0 := ok_rec h
  clear h
  obtain ⟨_, _, rfl, hf0, qf_1⟩ := oks_cons qf_0
  clear qf_0
  obtain ⟨bf0, rfl⟩ := ok_truth hf0
  obtain ⟨_, _, rfl, hf1, qf_2⟩ := oks_cons qf_1
  clear qf_1
  obtain ⟨esf1, rfl, hef1⟩ := ok_row hf1
  obtain rfl := oks_nil qf_2
  have cf1 := fun (l : Nat) (hl : l ≤ 1048576) => szByteS_ok esf1 hef1 l hl
  obtain ⟨tf1, htf1⟩ : ∃ t, (D.row esf1).tot = t := ⟨_, rfl⟩
  rw [htf1] at cf1
  have hsum : tots ([D.v (.bool bf0)] ++ ([D.row esf1] ++ [])) = tf1 := by
    simp only [tots_append, tots, htf1, D.tot.eq_1, Nat.add_zero, Nat.zero_add]
    try omega
  rw [hsum]
  clear hsum
  simp only [List.cons_append, List.nil_append, List.append_nil, List.map_cons, List.map_nil]
  refine Spec.intro (n := 12) (rv := [.tmp 4]) Try.func120 rfl rfl rfl (by simp) fun C hN hX => ?_
  refine AW.seq ?_
  apply AW.list
  apply Wk.bx 2 rfl rfl (lt_of_ble rfl)
  apply Wk.asg (by conv => lhs; whnf) (lt_of_ble rfl)
  refine Wk.nil ?_
  have df1 := cf1 l (by omega)
  refine AW.seq ?_
  apply AW.list
  apply Wk.fad 1 0 false fd157_1 rfl (lt_of_ble rfl)
  apply Wk.ld (i := 2) 1 false ty64 rfl rfl (by conv => lhs; whnf) (lt_of_ble rfl)
  apply Wk.mv (by conv => lhs; whnf) (lt_of_ble rfl)
  apply Wk.dat df1 Try.func112 rfl rfl rfl rfl rfl (lt_of_ble rfl)
  apply Wk.asg (by conv => lhs; whnf) (lt_of_ble rfl)
  refine Wk.nil ?_
  refine AW.seq (AW.seq ?_)
  by_cases g0 : tf1 ≤ l
  case neg =>
    rw [show leftI l tf1 = -1 from if_neg g0]
    apply AW.list
    apply Wk.mv (by conv => lhs; whnf) (lt_of_ble rfl)
    apply Wk.bin rfl rfl (r := .bool true) (fun w => by simp [go_sem]) (lt_of_ble rfl)
    refine Wk.nil ?_
    refine AW.cond rfl (fun _ => ?_) (fun hc => by cases hc)
    refine AW.seq ?_
    apply AW.list
    apply Wk.asg (by conv => lhs; whnf) (lt_of_ble rfl)
    refine Wk.nil (AW.ret ?_)
    repeat (first | refine thenA_ret ?_ | refine inBlockA_ret ?_)
    exact RetQ.ret [] (.cons rfl .nil) ⟨rfl, rfl⟩ none_kept
  rw [show leftI l tf1 = (l : Int) - (tf1 : Int) from if_pos g0]
  apply AW.list
  apply Wk.mv (by conv => lhs; whnf) (lt_of_ble rfl)
  apply Wk.bin rfl rfl (r := .bool false) (fun w => by simp [go_sem] <;> omega) (lt_of_ble rfl)
  refine Wk.nil ?_
  refine AW.cond rfl (fun hc => by cases hc) (fun _ => AW.skip (thenA_normal ?_))
  refine AW.seq ?_
  apply AW.list
  apply Wk.mv (by conv => lhs; whnf) (lt_of_ble rfl)
  apply Wk.asg (by conv => lhs; whnf) (lt_of_ble rfl)
  refine Wk.nil (AW.ret ?_)
  exact RetQ.ret [] (.cons rfl .nil) ⟨rfl, rfl⟩ none_kept
set_option maxHeartbeats 4000000 in
set_option maxRecDepth 100000 in
theorem toNetMsgS_ok (es : List (List D)) (he : ∀ e ∈ es, Sh.ok (.struct [.bool, (.slice .byte)]) e) (ht : (D.row es).tot ≤ 1048576) : DataOk Try.prog 90 [.d (.row es)] (.d (.row es)) := by
  have hl : es.length ≤ 1048576 := by simp only [D.tot] at ht; omega
  have hz : ∀ c ∈ es, c.length = 2 := sh_lens he
  refine Spec.intro (n := 23) (rv := [.tmp 2]) Try.func90 rfl rfl rfl (by simp) fun C hN hX => ?_
  refine AW.seq ?_
  apply AW.list
  apply Wk.asg (by conv => lhs; whnf) (lt_of_ble rfl)
  refine Wk.nil ?_
  refine AW.seq ?_
  apply AW.list
  apply Wk.mv (by conv => lhs; whnf) (lt_of_ble rfl)
  apply Wk.len un130 rfl (lt_of_ble rfl)
  apply Wk.mks 7 2 es.length un78 ap92 ze92 rfl rfl rfl rfl (by omega) (lt_of_ble rfl)
  apply Wk.asg (by conv => lhs; whnf) (lt_of_ble rfl)
  refine Wk.nil ?_
  refine AW.seq (AW.seq ?_)
  apply AW.list
  apply Wk.asg (by conv => lhs; whnf) (lt_of_ble rfl)
  refine Wk.nil (AW.block ?_)
  refine AW.loop (fun q : Nat => St.of 23 [(0, .d (.row es)), (3, .own 7 0), (4, .d (.v (.int .i64 (q : Int))))] [(7, .own 0 92 2 (mixA es [.bool false, .slice none 0 0] q))]) (fun q => q ≤ es.length) (fun q => es.length - q) 0 (Nat.zero_le _) ?_ (fun q hq => ?_)
  · exact fun a w => Rel.keep ⟨rfl, .cons rfl rfl (.cons rfl rfl (.cons rfl rfl .nil)), .cons (by rw [mix_zero]; rfl) (by exact mix_within _ _ _) .nil, hN.mono (by simp [keys])⟩
  refine AW.seq (AW.seq ?_)
  apply AW.list
  apply Wk.mv (by conv => lhs; whnf) (lt_of_ble rfl)
  apply Wk.mv (by conv => lhs; whnf) (lt_of_ble rfl)
  apply Wk.len un130 rfl (lt_of_ble rfl)
  apply Wk.bin rfl rfl (fun w => by simp [go_sem] <;> rfl) (lt_of_ble rfl)
  refine Wk.nil ?_
  refine AW.cond rfl (fun hc => ?_) (fun hc => ?_)
  · have hlt : q < es.length := by simpa using hc
    obtain ⟨e, hd⟩ : ∃ e, es[q]? = some e := ⟨_, List.getElem?_eq_getElem hlt⟩
    have hse := he e (List.mem_of_getElem? hd)
    have hel : e.length = 2 := hz e (List.mem_of_getElem? hd)
    have hms := mix_set (es := es) (zs := [.bool false, .slice none 0 0]) hd (by rw [hel]; rfl)
    have hmg := mix_get (es := es) (zs := [.bool false, .slice none 0 0]) hlt
    have hml := mix_len (es := es) (zs := [.bool false, .slice none 0 0]) (Nat.le_of_lt hlt)
    refine AW.skip ?_
    repeat (first | refine thenA_normal ?_ | refine inBlockA_normal ?_)
    refine AW.seq (AW.block ?_)
    apply AW.list
    have ht1 : tots e ≤ 1048576 := by have := totss_get hd; simp only [D.tot] at ht; omega
    apply Wk.mv (by conv => lhs; whnf) (lt_of_ble rfl)
    apply Wk.mv (by conv => lhs; whnf) (lt_of_ble rfl)
    apply Wk.mv (by conv => lhs; whnf) (lt_of_ble rfl)
    apply Wk.mv (by conv => lhs; whnf) (lt_of_ble rfl)
    apply Wk.iad 2 true un130 ty157 rfl rfl (by omega) hz (lt_of_ble rfl)
    apply Wk.ldr 2 true ty157 rfl hd (partA_all hel) (lt_of_ble rfl)
    apply Wk.dat (toNetMsg_ok e hse ht1) Try.func125 rfl rfl (by exact congrArg (fun q => [A.agg q]) (sh_nrm _ _ hse)) (by exact within1 e) (by exact withins_d [] e) (lt_of_ble rfl)
    apply Wk.iado 7 2 true un78 ty92 rfl rfl rfl (by rw [hml]; exact hlt) (lt_of_ble rfl)
    apply Wk.stoo 7 q 0 2 true ty92 rfl rfl (by omega) hmg rfl (by rw [List.length_map]; exact hel) (by decide) (lt_of_ble rfl)
    refine Wk.nil ?_
    repeat (first | refine thenA_normal ?_ | refine inBlockA_normal ?_)
    apply AW.list
    apply Wk.mv (by conv => lhs; whnf) (lt_of_ble rfl)
    apply Wk.addi rfl rfl (by omega) (lt_of_ble rfl)
    apply Wk.asg (by conv => lhs; whnf) (lt_of_ble rfl)
    refine Wk.nil ?_
    exact ⟨q + 1, by omega, by omega, fun a w => Rel.keep ⟨rfl, .cons rfl rfl (.cons rfl rfl (.cons rfl rfl .nil)), .cons (congrArg (Bx.own 0 92 2) hms) (by exact mix_within _ _ _) .nil, hN.mono (by simp [keys])⟩⟩
  · obtain rfl : q = es.length := by
      have : ¬ q < es.length := by simpa using hc
      omega
    refine AW.exit ?_
    repeat (first | refine inBlockA_same ?_ | refine thenA_exit ?_)
    repeat (first | refine thenA_normal ?_ | refine inBlockA_normal ?_)
    refine AW.seq ?_
    apply AW.list
    apply Wk.mv (by conv => lhs; whnf) (lt_of_ble rfl)
    apply Wk.asg (by conv => lhs; whnf) (lt_of_ble rfl)
    refine Wk.nil ?_
    repeat (first | refine thenA_normal ?_ | refine inBlockA_normal ?_)
    refine AW.thaw (t := 2) (i := 7) es rfl rfl (by rw [mix_end]; exact asData_sh he) hX.none ?_
    refine AW.ret ?_
    repeat (first | refine thenA_ret ?_ | refine inBlockA_ret ?_)
    exact RetQ.ret [] (.cons rfl .nil) ⟨rfl, rfl⟩ none_kept
set_option maxHeartbeats 4000000 in
set_option maxRecDepth 100000 in
theorem eqNetMsgS_ok (es : List (List D)) (he : ∀ e ∈ es, Sh.ok (.struct [.bool, (.slice .byte)]) e) : DataOk Try.prog 97 [.d (.row es), .d (.row es)] (.d (.v (.bool true))) := by
  have hz : ∀ c ∈ es, c.length = 2 := sh_lens he
  refine Spec.intro (n := 27) (rv := [.tmp 4]) Try.func97 rfl rfl rfl (by simp) fun C hN hX => ?_
  refine AW.bound (x := .tmp 0) (es := es) rfl fun hb => ?_
  refine AW.seq ?_
  apply AW.list
  apply Wk.asg (by conv => lhs; whnf) (lt_of_ble rfl)
  refine Wk.nil ?_
  refine AW.seq (AW.seq ?_)
  apply AW.list
  apply Wk.mv (by conv => lhs; whnf) (lt_of_ble rfl)
  apply Wk.len un78 rfl (lt_of_ble rfl)
  apply Wk.mv (by conv => lhs; whnf) (lt_of_ble rfl)
  apply Wk.len un78 rfl (lt_of_ble rfl)
  apply Wk.bin rfl rfl (fun w => by simp [go_sem] <;> rfl) (lt_of_ble rfl)
  refine Wk.nil ?_
  refine AW.cond rfl (fun hc => by simp at hc) (fun _ => AW.skip (thenA_normal ?_))
  refine AW.seq (AW.seq ?_)
  apply AW.list
  apply Wk.asg (by conv => lhs; whnf) (lt_of_ble rfl)
  refine Wk.nil (AW.block ?_)
  refine AW.loop (fun q : Nat => St.of 27 [(0, .d (.row es)), (1, .d (.row es)), (5, .d (.v (.int .i64 (q : Int))))] []) (fun q => q ≤ es.length) (fun q => es.length - q) 0 (Nat.zero_le _) ?_ (fun q hq => ?_)
  · exact fun a w => Rel.keep ⟨rfl, .cons rfl rfl (.cons rfl rfl (.cons rfl rfl .nil)), .nil, hN⟩
  refine AW.seq (AW.seq ?_)
  apply AW.list
  apply Wk.mv (by conv => lhs; whnf) (lt_of_ble rfl)
  apply Wk.mv (by conv => lhs; whnf) (lt_of_ble rfl)
  apply Wk.len un78 rfl (lt_of_ble rfl)
  apply Wk.bin rfl rfl (fun w => by simp [go_sem] <;> rfl) (lt_of_ble rfl)
  refine Wk.nil ?_
  refine AW.cond rfl (fun hc => ?_) (fun hc => ?_)
  · have hlt : q < es.length := by simpa using hc
    obtain ⟨e, hd⟩ : ∃ e, es[q]? = some e := ⟨_, List.getElem?_eq_getElem hlt⟩
    have hse := he e (List.mem_of_getElem? hd)
    have hel : e.length = 2 := hz e (List.mem_of_getElem? hd)
    refine AW.skip ?_
    repeat (first | refine thenA_normal ?_ | refine inBlockA_normal ?_)
    refine AW.seq (AW.block (AW.seq ?_))
    apply AW.draw (hm := hmix) (cs := _)
    · apply Wk.mv (by conv => lhs; whnf) (lt_of_ble rfl)
      apply Wk.mv (by conv => lhs; whnf) (lt_of_ble rfl)
      apply Wk.iad 2 true un78 ty92 rfl rfl (by omega) hz (lt_of_ble rfl)
      apply Wk.ldr 2 true ty92 rfl hd (partA_all hel) (lt_of_ble rfl)
      apply Wk.mv (by conv => lhs; whnf) (lt_of_ble rfl)
      apply Wk.mv (by conv => lhs; whnf) (lt_of_ble rfl)
      apply Wk.iad 2 true un78 ty92 rfl rfl (by omega) hz (lt_of_ble rfl)
      apply Wk.ldr 2 true ty92 rfl hd (partA_all hel) (lt_of_ble rfl)
      apply Wk.dat (eqNetMsg_ok e hse) Try.func133 rfl rfl (by exact congrArg (fun q => [A.agg q, A.agg q]) (sh_nrm _ _ hse)) (by exact within2 e) rfl (lt_of_ble rfl)
      apply Wk.un rfl (fun w => by simp [go_sem] <;> rfl) (lt_of_ble rfl)
      refine Wk.nil ?_
      refine AW.cond rfl (fun hn => by cases hn) (fun hn => ?_)
      refine AW.skip ?_
      repeat (first | refine thenA_normal ?_ | refine inBlockA_normal ?_)
      apply AW.list
      apply Wk.mv (by conv => lhs; whnf) (lt_of_ble rfl)
      apply Wk.addi rfl rfl (by omega) (lt_of_ble rfl)
      apply Wk.asg (by conv => lhs; whnf) (lt_of_ble rfl)
      refine Wk.nil ?_
      exact ⟨q + 1, by omega, by omega, fun a w => Rel.keep ⟨rfl, .cons rfl rfl (.cons rfl rfl (.cons rfl rfl .nil)), .nil, hN⟩⟩
    · rfl
    · rfl
  · refine AW.exit ?_
    repeat (first | refine inBlockA_same ?_ | refine thenA_exit ?_)
    repeat (first | refine thenA_normal ?_ | refine inBlockA_normal ?_)
    refine AW.seq ?_
    apply AW.list
    apply Wk.asg (by conv => lhs; whnf) (lt_of_ble rfl)
    refine Wk.nil (AW.ret ?_)
    repeat (first | refine thenA_ret ?_ | refine inBlockA_ret ?_)
    exact RetQ.ret [] (.cons rfl .nil) ⟨rfl, rfl⟩ none_kept
set_option maxHeartbeats 4000000 in
set_option maxRecDepth 100000 in
theorem szNetMsgS_ok (es : List (List D)) (he : ∀ e ∈ es, Sh.ok (.struct [.bool, (.slice .byte)]) e) (l : Nat) (hl : l ≤ 1048576) : DataOk Try.prog 86 [.d (.row es), .d (.v (.int .i64 (l : Int)))] (.d (.v (.int .i64 (leftI l (D.row es).tot)))) := by
  have hz : ∀ c ∈ es, c.length = 2 := sh_lens he
  refine Spec.intro (n := 27) (rv := [.tmp 4]) Try.func86 rfl rfl rfl (by simp) fun C hN hX => ?_
  refine AW.bound (x := .tmp 0) (es := es) rfl fun hb => ?_
  refine AW.seq ?_
  apply AW.list
  apply Wk.asg (by conv => lhs; whnf) (lt_of_ble rfl)
  refine Wk.nil ?_
  refine AW.seq ?_
  apply AW.list
  apply Wk.mv (by conv => lhs; whnf) (lt_of_ble rfl)
  apply Wk.mv (by conv => lhs; whnf) (lt_of_ble rfl)
  apply Wk.len un130 rfl (lt_of_ble rfl)
  apply Wk.subi rfl rfl (by omega) (lt_of_ble rfl)
  apply Wk.asg (by conv => lhs; whnf) (lt_of_ble rfl)
  refine Wk.nil ?_
  refine AW.seq (AW.seq ?_)
  by_cases h0 : es.length ≤ l
  · apply AW.list
    apply Wk.mv (by conv => lhs; whnf) (lt_of_ble rfl)
    apply Wk.bin rfl rfl (r := .bool false) (fun w => by simp [go_sem] <;> omega) (lt_of_ble rfl)
    refine Wk.nil ?_
    refine AW.cond rfl (fun hc => by cases hc) (fun _ => AW.skip (thenA_normal ?_))
    refine AW.seq (AW.seq ?_)
    apply AW.list
    apply Wk.asg (by conv => lhs; whnf) (lt_of_ble rfl)
    refine Wk.nil (AW.block ?_)
    refine AW.loop (fun q : Nat => St.of 27 [(0, .d (.row es)), (1, .d (.v (.int .i64 ((l : Int) - (es.length : Int) - (totss (es.take q) : Int))))), (5, .d (.v (.int .i64 (q : Int))))] []) (fun q => q ≤ es.length ∧ es.length + totss (es.take q) ≤ l) (fun q => es.length - q) 0 ⟨Nat.zero_le _, by simpa [totss] using h0⟩ ?_ (fun q hq => ?_)
    · exact fun a w => Rel.keep ⟨rfl, .cons rfl rfl (.cons (by simp [totss]; rfl) rfl (.cons rfl rfl .nil)), .nil, hN⟩
    obtain ⟨hq, hqt⟩ := hq
    refine AW.seq (AW.seq ?_)
    apply AW.list
    apply Wk.mv (by conv => lhs; whnf) (lt_of_ble rfl)
    apply Wk.mv (by conv => lhs; whnf) (lt_of_ble rfl)
    apply Wk.len un130 rfl (lt_of_ble rfl)
    apply Wk.bin rfl rfl (fun w => by simp [go_sem] <;> rfl) (lt_of_ble rfl)
    refine Wk.nil ?_
    refine AW.cond rfl (fun hc => ?_) (fun hc => ?_)
    · have hlt : q < es.length := by simpa using hc
      obtain ⟨e, hd⟩ : ∃ e, es[q]? = some e := ⟨_, List.getElem?_eq_getElem hlt⟩
      have hse := he e (List.mem_of_getElem? hd)
      have hel : e.length = 2 := hz e (List.mem_of_getElem? hd)
      have htk := totss_take hd
      have hle := totss_le es (q + 1)
      obtain ⟨l2, hl2⟩ : ∃ l2 : Nat, (l : Int) - (es.length : Int) - (totss (es.take q) : Int) = (l2 : Int) := ⟨l - es.length - totss (es.take q), by omega⟩
      refine AW.skip ?_
      repeat (first | refine thenA_normal ?_ | refine inBlockA_normal ?_)
      rw [hl2]
      refine AW.seq (AW.block (AW.seq ?_))
      apply AW.list
      have hc1 := szNetMsg_ok e hse l2 (by omega)
      apply Wk.mv (by conv => lhs; whnf) (lt_of_ble rfl)
      apply Wk.mv (by conv => lhs; whnf) (lt_of_ble rfl)
      apply Wk.iad 2 true un130 ty157 rfl rfl (by omega) hz (lt_of_ble rfl)
      apply Wk.ldr 2 true ty157 rfl hd (partA_all hel) (lt_of_ble rfl)
      apply Wk.mv (by conv => lhs; whnf) (lt_of_ble rfl)
      apply Wk.dat hc1 Try.func120 rfl rfl (by exact congrArg (fun q => [A.agg q, A.d (.v (.int .i64 (l2 : Int)))]) (sh_nrm _ _ hse)) (by exact within3 e _) rfl (lt_of_ble rfl)
      apply Wk.asg (by conv => lhs; whnf) (lt_of_ble rfl)
      refine Wk.nil ?_
      refine AW.seq ?_
      by_cases h1 : tots e ≤ l2
      · rw [show leftI l2 (tots e) = (l2 : Int) - ((tots e : Nat) : Int) from if_pos h1]
        apply AW.list
        apply Wk.mv (by conv => lhs; whnf) (lt_of_ble rfl)
        apply Wk.bin rfl rfl (r := .bool false) (fun w => by simp [go_sem] <;> omega) (lt_of_ble rfl)
        refine Wk.nil ?_
        refine AW.cond rfl (fun hn => by cases hn) (fun hn => ?_)
        refine AW.skip ?_
        repeat (first | refine thenA_normal ?_ | refine inBlockA_normal ?_)
        apply AW.list
        apply Wk.mv (by conv => lhs; whnf) (lt_of_ble rfl)
        apply Wk.addi rfl rfl (by omega) (lt_of_ble rfl)
        apply Wk.asg (by conv => lhs; whnf) (lt_of_ble rfl)
        refine Wk.nil ?_
        exact ⟨q + 1, ⟨by omega, by omega⟩, by omega, fun a w => Rel.keep ⟨rfl, .cons rfl rfl (.cons (congrArg (fun z : Int => A.d (.v (.int .i64 z))) (by omega)) rfl (.cons rfl rfl .nil)), .nil, hN⟩⟩
      · rw [show leftI l2 (tots e) = -1 from if_neg h1]
        apply AW.list
        apply Wk.mv (by conv => lhs; whnf) (lt_of_ble rfl)
        apply Wk.bin rfl rfl (r := .bool true) (fun w => by simp [go_sem]) (lt_of_ble rfl)
        refine Wk.nil ?_
        refine AW.cond rfl (fun _ => ?_) (fun hn => by cases hn)
        refine AW.seq ?_
        apply AW.list
        apply Wk.asg (by conv => lhs; whnf) (lt_of_ble rfl)
        refine Wk.nil (AW.ret ?_)
        repeat (first | refine thenA_ret ?_ | refine inBlockA_ret ?_)
        rw [show leftI l (D.row es).tot = -1 from if_neg (by simp only [D.tot]; omega)]
        exact RetQ.ret [] (.cons rfl .nil) ⟨rfl, rfl⟩ none_kept
    · obtain rfl : q = es.length := by
        have : ¬ q < es.length := by simpa using hc
        omega
      refine AW.exit ?_
      repeat (first | refine inBlockA_same ?_ | refine thenA_exit ?_)
      repeat (first | refine thenA_normal ?_ | refine inBlockA_normal ?_)
      refine AW.seq ?_
      apply AW.list
      apply Wk.mv (by conv => lhs; whnf) (lt_of_ble rfl)
      apply Wk.asg (by conv => lhs; whnf) (lt_of_ble rfl)
      refine Wk.nil (AW.ret ?_)
      repeat (first | refine thenA_ret ?_ | refine inBlockA_ret ?_)
      rw [List.take_length] at hqt
      rw [show leftI l (D.row es).tot = (l : Int) - (es.length : Int) - (totss (es.take es.length) : Int) from (if_pos (by simp only [D.tot]; omega)).trans (by simp only [D.tot, List.take_length]; omega)]
      exact RetQ.ret [] (.cons rfl .nil) ⟨rfl, rfl⟩ none_kept
  · apply AW.list
    apply Wk.mv (by conv => lhs; whnf) (lt_of_ble rfl)
    apply Wk.bin rfl rfl (r := .bool true) (fun w => by simp [go_sem] <;> omega) (lt_of_ble rfl)
    refine Wk.nil ?_
    refine AW.cond rfl (fun _ => ?_) (fun hc => by cases hc)
    refine AW.seq ?_
    apply AW.list
    apply Wk.asg (by conv => lhs; whnf) (lt_of_ble rfl)
    refine Wk.nil (AW.ret ?_)
    repeat (first | refine thenA_ret ?_ | refine inBlockA_ret ?_)
    rw [show leftI l (D.row es).tot = -1 from if_neg (by simp only [D.tot]; omega)]
    exact RetQ.ret [] (.cons rfl .nil) ⟨rfl, rfl⟩ none_kept
set_option maxHeartbeats 4000000 in
set_option maxRecDepth 100000 in
theorem toNetMsgSS_ok (es : List (List D)) (he : ∀ e ∈ es, Sh.ok (.slice (.struct [.bool, (.slice .byte)])) e) (ht : (D.row es).tot ≤ 1048576) : DataOk Try.prog 55 [.d (.row es)] (.d (.row es)) := by
  have hl : es.length ≤ 1048576 := by simp only [D.tot] at ht; omega
  have hz : ∀ c ∈ es, c.length = 1 := sh_lens he
  refine Spec.intro (n := 23) (rv := [.tmp 2]) Try.func55 rfl rfl rfl (by simp) fun C hN hX => ?_
  refine AW.seq ?_
  apply AW.list
  apply Wk.asg (by conv => lhs; whnf) (lt_of_ble rfl)
  refine Wk.nil ?_
  refine AW.seq ?_
  apply AW.list
  apply Wk.mv (by conv => lhs; whnf) (lt_of_ble rfl)
  apply Wk.len un49 rfl (lt_of_ble rfl)
  apply Wk.mks 7 1 es.length un55 ap78 ze78 rfl rfl rfl rfl (by omega) (lt_of_ble rfl)
  apply Wk.asg (by conv => lhs; whnf) (lt_of_ble rfl)
  refine Wk.nil ?_
  refine AW.seq (AW.seq ?_)
  apply AW.list
  apply Wk.asg (by conv => lhs; whnf) (lt_of_ble rfl)
  refine Wk.nil (AW.block ?_)
  refine AW.loop (fun q : Nat => St.of 23 [(0, .d (.row es)), (3, .own 7 0), (4, .d (.v (.int .i64 (q : Int))))] [(7, .own 0 78 1 (mixA es [.slice none 0 0] q))]) (fun q => q ≤ es.length) (fun q => es.length - q) 0 (Nat.zero_le _) ?_ (fun q hq => ?_)
  · exact fun a w => Rel.keep ⟨rfl, .cons rfl rfl (.cons rfl rfl (.cons rfl rfl .nil)), .cons (by rw [mix_zero]; rfl) (by exact mix_within _ _ _) .nil, hN.mono (by simp [keys])⟩
  refine AW.seq (AW.seq ?_)
  apply AW.list
  apply Wk.mv (by conv => lhs; whnf) (lt_of_ble rfl)
  apply Wk.mv (by conv => lhs; whnf) (lt_of_ble rfl)
  apply Wk.len un49 rfl (lt_of_ble rfl)
  apply Wk.bin rfl rfl (fun w => by simp [go_sem] <;> rfl) (lt_of_ble rfl)
  refine Wk.nil ?_
  refine AW.cond rfl (fun hc => ?_) (fun hc => ?_)
  · have hlt : q < es.length := by simpa using hc
    obtain ⟨e, hd⟩ : ∃ e, es[q]? = some e := ⟨_, List.getElem?_eq_getElem hlt⟩
    have hse := he e (List.mem_of_getElem? hd)
    have hel : e.length = 1 := hz e (List.mem_of_getElem? hd)
    have hms := mix_set (es := es) (zs := [.slice none 0 0]) hd (by rw [hel]; rfl)
    have hmg := mix_get (es := es) (zs := [.slice none 0 0]) hlt
    have hml := mix_len (es := es) (zs := [.slice none 0 0]) (Nat.le_of_lt hlt)
    refine AW.skip ?_
    repeat (first | refine thenA_normal ?_ | refine inBlockA_normal ?_)
    refine AW.seq (AW.block ?_)
    have ht1 : tots e ≤ 1048576 := by have := totss_get hd; simp only [D.tot] at ht; omega
    obtain ⟨fs, rfl, hf⟩ := hse
    have ht2 : (D.row fs).tot ≤ 1048576 := by simpa [tots] using ht1
    apply AW.list
    apply Wk.mv (by conv => lhs; whnf) (lt_of_ble rfl)
    apply Wk.mv (by conv => lhs; whnf) (lt_of_ble rfl)
    apply Wk.mv (by conv => lhs; whnf) (lt_of_ble rfl)
    apply Wk.mv (by conv => lhs; whnf) (lt_of_ble rfl)
    apply Wk.iad 1 false un49 ty130 rfl rfl (by omega) hz (lt_of_ble rfl)
    apply Wk.ldr 1 false ty130 rfl hd (by conv => lhs; whnf) (lt_of_ble rfl)
    apply Wk.dat (toNetMsgS_ok fs hf ht2) Try.func90 rfl rfl rfl rfl rfl (lt_of_ble rfl)
    apply Wk.iado 7 1 false un55 ty78 rfl rfl rfl (by rw [hml]; exact hlt) (lt_of_ble rfl)
    apply Wk.stoo 7 q 0 1 false ty78 rfl rfl (by omega) hmg rfl rfl (by decide) (lt_of_ble rfl)
    refine Wk.nil ?_
    repeat (first | refine thenA_normal ?_ | refine inBlockA_normal ?_)
    apply AW.list
    apply Wk.mv (by conv => lhs; whnf) (lt_of_ble rfl)
    apply Wk.addi rfl rfl (by omega) (lt_of_ble rfl)
    apply Wk.asg (by conv => lhs; whnf) (lt_of_ble rfl)
    refine Wk.nil ?_
    exact ⟨q + 1, by omega, by omega, fun a w => Rel.keep ⟨rfl, .cons rfl rfl (.cons rfl rfl (.cons rfl rfl .nil)), .cons (congrArg (Bx.own 0 78 1) hms) (by exact mix_within _ _ _) .nil, hN.mono (by simp [keys])⟩⟩
  · obtain rfl : q = es.length := by
      have : ¬ q < es.length := by simpa using hc
      omega
    refine AW.exit ?_
    repeat (first | refine inBlockA_same ?_ | refine thenA_exit ?_)
    repeat (first | refine thenA_normal ?_ | refine inBlockA_normal ?_)
    refine AW.seq ?_
    apply AW.list
    apply Wk.mv (by conv => lhs; whnf) (lt_of_ble rfl)
    apply Wk.asg (by conv => lhs; whnf) (lt_of_ble rfl)
    refine Wk.nil ?_
    repeat (first | refine thenA_normal ?_ | refine inBlockA_normal ?_)
    refine AW.thaw (t := 2) (i := 7) es rfl rfl (by rw [mix_end]; exact asData_sh he) hX.none ?_
    refine AW.ret ?_
    repeat (first | refine thenA_ret ?_ | refine inBlockA_ret ?_)
    exact RetQ.ret [] (.cons rfl .nil) ⟨rfl, rfl⟩ none_kept
set_option maxHeartbeats 4000000 in
set_option maxRecDepth 100000 in
theorem eqNetMsgSS_ok (es : List (List D)) (he : ∀ e ∈ es, Sh.ok (.slice (.struct [.bool, (.slice .byte)])) e) : DataOk Try.prog 61 [.d (.row es), .d (.row es)] (.d (.v (.bool true))) := by
  have hz : ∀ c ∈ es, c.length = 1 := sh_lens he
  refine Spec.intro (n := 27) (rv := [.tmp 4]) Try.func61 rfl rfl rfl (by simp) fun C hN hX => ?_
  refine AW.bound (x := .tmp 0) (es := es) rfl fun hb => ?_
  refine AW.seq ?_
  apply AW.list
  apply Wk.asg (by conv => lhs; whnf) (lt_of_ble rfl)
  refine Wk.nil ?_
  refine AW.seq (AW.seq ?_)
  apply AW.list
  apply Wk.mv (by conv => lhs; whnf) (lt_of_ble rfl)
  apply Wk.len un55 rfl (lt_of_ble rfl)
  apply Wk.mv (by conv => lhs; whnf) (lt_of_ble rfl)
  apply Wk.len un55 rfl (lt_of_ble rfl)
  apply Wk.bin rfl rfl (fun w => by simp [go_sem] <;> rfl) (lt_of_ble rfl)
  refine Wk.nil ?_
  refine AW.cond rfl (fun hc => by simp at hc) (fun _ => AW.skip (thenA_normal ?_))
  refine AW.seq (AW.seq ?_)
  apply AW.list
  apply Wk.asg (by conv => lhs; whnf) (lt_of_ble rfl)
  refine Wk.nil (AW.block ?_)
  refine AW.loop (fun q : Nat => St.of 27 [(0, .d (.row es)), (1, .d (.row es)), (5, .d (.v (.int .i64 (q : Int))))] []) (fun q => q ≤ es.length) (fun q => es.length - q) 0 (Nat.zero_le _) ?_ (fun q hq => ?_)
  · exact fun a w => Rel.keep ⟨rfl, .cons rfl rfl (.cons rfl rfl (.cons rfl rfl .nil)), .nil, hN⟩
  refine AW.seq (AW.seq ?_)
  apply AW.list
  apply Wk.mv (by conv => lhs; whnf) (lt_of_ble rfl)
  apply Wk.mv (by conv => lhs; whnf) (lt_of_ble rfl)
  apply Wk.len un55 rfl (lt_of_ble rfl)
  apply Wk.bin rfl rfl (fun w => by simp [go_sem] <;> rfl) (lt_of_ble rfl)
  refine Wk.nil ?_
  refine AW.cond rfl (fun hc => ?_) (fun hc => ?_)
  · have hlt : q < es.length := by simpa using hc
    obtain ⟨e, hd⟩ : ∃ e, es[q]? = some e := ⟨_, List.getElem?_eq_getElem hlt⟩
    have hse := he e (List.mem_of_getElem? hd)
    have hel : e.length = 1 := hz e (List.mem_of_getElem? hd)
    refine AW.skip ?_
    repeat (first | refine thenA_normal ?_ | refine inBlockA_normal ?_)
    refine AW.seq (AW.block (AW.seq ?_))
    obtain ⟨fs, rfl, hf⟩ := hse
    apply AW.draw (hm := hmix) (cs := _)
    · apply Wk.mv (by conv => lhs; whnf) (lt_of_ble rfl)
      apply Wk.mv (by conv => lhs; whnf) (lt_of_ble rfl)
      apply Wk.iad 1 false un55 ty78 rfl rfl (by omega) hz (lt_of_ble rfl)
      apply Wk.ldr 1 false ty78 rfl hd (by conv => lhs; whnf) (lt_of_ble rfl)
      apply Wk.mv (by conv => lhs; whnf) (lt_of_ble rfl)
      apply Wk.mv (by conv => lhs; whnf) (lt_of_ble rfl)
      apply Wk.iad 1 false un55 ty78 rfl rfl (by omega) hz (lt_of_ble rfl)
      apply Wk.ldr 1 false ty78 rfl hd (by conv => lhs; whnf) (lt_of_ble rfl)
      apply Wk.dat (eqNetMsgS_ok fs hf) Try.func97 rfl rfl rfl rfl rfl (lt_of_ble rfl)
      apply Wk.un rfl (fun w => by simp [go_sem] <;> rfl) (lt_of_ble rfl)
      refine Wk.nil ?_
      refine AW.cond rfl (fun hn => by cases hn) (fun hn => ?_)
      refine AW.skip ?_
      repeat (first | refine thenA_normal ?_ | refine inBlockA_normal ?_)
      apply AW.list
      apply Wk.mv (by conv => lhs; whnf) (lt_of_ble rfl)
      apply Wk.addi rfl rfl (by omega) (lt_of_ble rfl)
      apply Wk.asg (by conv => lhs; whnf) (lt_of_ble rfl)
      refine Wk.nil ?_
      exact ⟨q + 1, by omega, by omega, fun a w => Rel.keep ⟨rfl, .cons rfl rfl (.cons rfl rfl (.cons rfl rfl .nil)), .nil, hN⟩⟩
    · rfl
    · rfl
  · refine AW.exit ?_
    repeat (first | refine inBlockA_same ?_ | refine thenA_exit ?_)
    repeat (first | refine thenA_normal ?_ | refine inBlockA_normal ?_)
    refine AW.seq ?_
    apply AW.list
    apply Wk.asg (by conv => lhs; whnf) (lt_of_ble rfl)
    refine Wk.nil (AW.ret ?_)
    repeat (first | refine thenA_ret ?_ | refine inBlockA_ret ?_)
    exact RetQ.ret [] (.cons rfl .nil) ⟨rfl, rfl⟩ none_kept
set_option maxHeartbeats 4000000 in
set_option maxRecDepth 100000 in
theorem szNetMsgSS_ok (es : List (List D)) (he : ∀ e ∈ es, Sh.ok (.slice (.struct [.bool, (.slice .byte)])) e) (l : Nat) (hl : l ≤ 1048576) : DataOk Try.prog 52 [.d (.row es), .d (.v (.int .i64 (l : Int)))] (.d (.v (.int .i64 (leftI l (D.row es).tot)))) := by
  have hz : ∀ c ∈ es, c.length = 1 := sh_lens he
  refine Spec.intro (n := 27) (rv := [.tmp 4]) Try.func52 rfl rfl rfl (by simp) fun C hN hX => ?_
  refine AW.bound (x := .tmp 0) (es := es) rfl fun hb => ?_
  refine AW.seq ?_
  apply AW.list
  apply Wk.asg (by conv => lhs; whnf) (lt_of_ble rfl)
  refine Wk.nil ?_
  refine AW.seq ?_
  apply AW.list
  apply Wk.mv (by conv => lhs; whnf) (lt_of_ble rfl)
  apply Wk.mv (by conv => lhs; whnf) (lt_of_ble rfl)
  apply Wk.len un49 rfl (lt_of_ble rfl)
  apply Wk.subi rfl rfl (by omega) (lt_of_ble rfl)
  apply Wk.asg (by conv => lhs; whnf) (lt_of_ble rfl)
  refine Wk.nil ?_
  refine AW.seq (AW.seq ?_)
  by_cases h0 : es.length ≤ l
  · apply AW.list
    apply Wk.mv (by conv => lhs; whnf) (lt_of_ble rfl)
    apply Wk.bin rfl rfl (r := .bool false) (fun w => by simp [go_sem] <;> omega) (lt_of_ble rfl)
    refine Wk.nil ?_
    refine AW.cond rfl (fun hc => by cases hc) (fun _ => AW.skip (thenA_normal ?_))
    refine AW.seq (AW.seq ?_)
    apply AW.list
    apply Wk.asg (by conv => lhs; whnf) (lt_of_ble rfl)
    refine Wk.nil (AW.block ?_)
    refine AW.loop (fun q : Nat => St.of 27 [(0, .d (.row es)), (1, .d (.v (.int .i64 ((l : Int) - (es.length : Int) - (totss (es.take q) : Int))))), (5, .d (.v (.int .i64 (q : Int))))] []) (fun q => q ≤ es.length ∧ es.length + totss (es.take q) ≤ l) (fun q => es.length - q) 0 ⟨Nat.zero_le _, by simpa [totss] using h0⟩ ?_ (fun q hq => ?_)
    · exact fun a w => Rel.keep ⟨rfl, .cons rfl rfl (.cons (by simp [totss]; rfl) rfl (.cons rfl rfl .nil)), .nil, hN⟩
    obtain ⟨hq, hqt⟩ := hq
    refine AW.seq (AW.seq ?_)
    apply AW.list
    apply Wk.mv (by conv => lhs; whnf) (lt_of_ble rfl)
    apply Wk.mv (by conv => lhs; whnf) (lt_of_ble rfl)
    apply Wk.len un49 rfl (lt_of_ble rfl)
    apply Wk.bin rfl rfl (fun w => by simp [go_sem] <;> rfl) (lt_of_ble rfl)
    refine Wk.nil ?_
    refine AW.cond rfl (fun hc => ?_) (fun hc => ?_)
    · have hlt : q < es.length := by simpa using hc
      obtain ⟨e, hd⟩ : ∃ e, es[q]? = some e := ⟨_, List.getElem?_eq_getElem hlt⟩
      have hse := he e (List.mem_of_getElem? hd)
      have hel : e.length = 1 := hz e (List.mem_of_getElem? hd)
      have htk := totss_take hd
      have hle := totss_le es (q + 1)
      obtain ⟨l2, hl2⟩ : ∃ l2 : Nat, (l : Int) - (es.length : Int) - (totss (es.take q) : Int) = (l2 : Int) := ⟨l - es.length - totss (es.take q), by omega⟩
      refine AW.skip ?_
      repeat (first | refine thenA_normal ?_ | refine inBlockA_normal ?_)
      rw [hl2]
      refine AW.seq (AW.block (AW.seq ?_))
      obtain ⟨fs, rfl, hf⟩ := hse
      have hc1 := szNetMsgS_ok fs hf l2 (by omega)
      have htf : tots [D.row fs] = (D.row fs).tot := by simp [tots]
      apply AW.list
      apply Wk.mv (by conv => lhs; whnf) (lt_of_ble rfl)
      apply Wk.mv (by conv => lhs; whnf) (lt_of_ble rfl)
      apply Wk.iad 1 false un49 ty130 rfl rfl (by omega) hz (lt_of_ble rfl)
      apply Wk.ldr 1 false ty130 rfl hd (by conv => lhs; whnf) (lt_of_ble rfl)
      apply Wk.mv (by conv => lhs; whnf) (lt_of_ble rfl)
      apply Wk.dat hc1 Try.func86 rfl rfl rfl rfl rfl (lt_of_ble rfl)
      apply Wk.asg (by conv => lhs; whnf) (lt_of_ble rfl)
      refine Wk.nil ?_
      refine AW.seq ?_
      by_cases h1 : (D.row fs).tot ≤ l2
      · rw [show leftI l2 ((D.row fs).tot) = (l2 : Int) - (((D.row fs).tot : Nat) : Int) from if_pos h1]
        apply AW.list
        apply Wk.mv (by conv => lhs; whnf) (lt_of_ble rfl)
        apply Wk.bin rfl rfl (r := .bool false) (fun w => by simp [go_sem] <;> omega) (lt_of_ble rfl)
        refine Wk.nil ?_
        refine AW.cond rfl (fun hn => by cases hn) (fun hn => ?_)
        refine AW.skip ?_
        repeat (first | refine thenA_normal ?_ | refine inBlockA_normal ?_)
        apply AW.list
        apply Wk.mv (by conv => lhs; whnf) (lt_of_ble rfl)
        apply Wk.addi rfl rfl (by omega) (lt_of_ble rfl)
        apply Wk.asg (by conv => lhs; whnf) (lt_of_ble rfl)
        refine Wk.nil ?_
        exact ⟨q + 1, ⟨by omega, by omega⟩, by omega, fun a w => Rel.keep ⟨rfl, .cons rfl rfl (.cons (congrArg (fun z : Int => A.d (.v (.int .i64 z))) (by omega)) rfl (.cons rfl rfl .nil)), .nil, hN⟩⟩
      · rw [show leftI l2 ((D.row fs).tot) = -1 from if_neg h1]
        apply AW.list
        apply Wk.mv (by conv => lhs; whnf) (lt_of_ble rfl)
        apply Wk.bin rfl rfl (r := .bool true) (fun w => by simp [go_sem]) (lt_of_ble rfl)
        refine Wk.nil ?_
        refine AW.cond rfl (fun _ => ?_) (fun hn => by cases hn)
        refine AW.seq ?_
        apply AW.list
        apply Wk.asg (by conv => lhs; whnf) (lt_of_ble rfl)
        refine Wk.nil (AW.ret ?_)
        repeat (first | refine thenA_ret ?_ | refine inBlockA_ret ?_)
        rw [show leftI l (D.row es).tot = -1 from if_neg (by simp only [D.tot]; omega)]
        exact RetQ.ret [] (.cons rfl .nil) ⟨rfl, rfl⟩ none_kept
    · obtain rfl : q = es.length := by
        have : ¬ q < es.length := by simpa using hc
        omega
      refine AW.exit ?_
      repeat (first | refine inBlockA_same ?_ | refine thenA_exit ?_)
      repeat (first | refine thenA_normal ?_ | refine inBlockA_normal ?_)
      refine AW.seq ?_
      apply AW.list
      apply Wk.mv (by conv => lhs; whnf) (lt_of_ble rfl)
      apply Wk.asg (by conv => lhs; whnf) (lt_of_ble rfl)
      refine Wk.nil (AW.ret ?_)
      repeat (first | refine thenA_ret ?_ | refine inBlockA_ret ?_)
      rw [List.take_length] at hqt
      rw [show leftI l (D.row es).tot = (l : Int) - (es.length : Int) - (totss (es.take es.length) : Int) from (if_pos (by simp only [D.tot]; omega)).trans (by simp only [D.tot, List.take_length]; omega)]
      exact RetQ.ret [] (.cons rfl .nil) ⟨rfl, rfl⟩ none_kept
  · apply AW.list
    apply Wk.mv (by conv => lhs; whnf) (lt_of_ble rfl)
    apply Wk.bin rfl rfl (r := .bool true) (fun w => by simp [go_sem] <;> omega) (lt_of_ble rfl)
    refine Wk.nil ?_
    refine AW.cond rfl (fun _ => ?_) (fun hc => by cases hc)
    refine AW.seq ?_
    apply AW.list
    apply Wk.asg (by conv => lhs; whnf) (lt_of_ble rfl)
    refine Wk.nil (AW.ret ?_)
    repeat (first | refine thenA_ret ?_ | refine inBlockA_ret ?_)
    rw [show leftI l (D.row es).tot = -1 from if_neg (by simp only [D.tot]; omega)]
    exact RetQ.ret [] (.cons rfl .nil) ⟨rfl, rfl⟩ none_kept
set_option maxHeartbeats 4000000 in
set_option maxRecDepth 100000 in
theorem toWldWorld_ok (ds : List D) (h : Sh.ok (.struct [(.struct [.int, .int, .int, .int, .int]), (.slice (.struct [(.struct [.int, .int, (.slice (.struct [.int, .int, (.slice .byte)])), .int, (.slice (.struct [.int, .int, (.slice .byte)])), .bool, .int, .bool, .int, .bool]), (.struct [.int, .int, (.struct [.int, (.slice .byte)]), .bool, .bool, .bool]), (.struct [.int, (.slice (.struct [.int, .int, (.slice .byte)])), .int, .int, .bool]), (.struct [.int, (.struct [.int, (.slice .byte)]), .bool]), (.slice (.slice .byte)), (.slice (.slice .byte))])), (.slice (.slice (.struct [.bool, (.slice .byte)]))), .int]) ds) (ht : tots ds ≤ 1048576) : DataOk Try.prog 25 [.agg (ds.map .d)] (.agg (ds.map .d)) := by
  have qf_0 := ok_rec h
  clear h
  obtain ⟨dsf0, _, rfl, hf0, qf_1⟩ := oks_cons qf_0
  clear qf_0
  obtain ⟨_, _, rfl, hf1, qf_2⟩ := oks_cons qf_1
  clear qf_1
  obtain ⟨esf1, rfl, hef1⟩ := ok_row hf1
  obtain ⟨_, _, rfl, hf2, qf_3⟩ := oks_cons qf_2
  clear qf_2
  obtain ⟨esf2, rfl, hef2⟩ := ok_row hf2
  obtain ⟨_, _, rfl, hf3, qf_4⟩ := oks_cons qf_3
  clear qf_3
  obtain ⟨nf3, inf3, rfl⟩ := ok_num hf3
  obtain rfl := oks_nil qf_4
  have cf0 := toCfgOpts_ok dsf0 hf0
  have cf1 := toWldEndS_ok esf1 hef1 (by simp only [tots_append, tots] at ht; omega)
  have cf2 := toNetMsgSS_ok esf2 hef2 (by simp only [tots_append, tots] at ht; omega)
  have qf0__0 := ok_rec hf0
  clear hf0
  obtain ⟨_, _, rfl, hf0_0, qf0__1⟩ := oks_cons qf0__0
  clear qf0__0
  obtain ⟨nf0_0, inf0_0, rfl⟩ := ok_num hf0_0
  obtain ⟨_, _, rfl, hf0_1, qf0__2⟩ := oks_cons qf0__1
  clear qf0__1
  obtain ⟨nf0_1, inf0_1, rfl⟩ := ok_num hf0_1
  obtain ⟨_, _, rfl, hf0_2, qf0__3⟩ := oks_cons qf0__2
  clear qf0__2
  obtain ⟨nf0_2, inf0_2, rfl⟩ := ok_num hf0_2
  obtain ⟨_, _, rfl, hf0_3, qf0__4⟩ := oks_cons qf0__3
  clear qf0__3
  obtain ⟨nf0_3, inf0_3, rfl⟩ := ok_num hf0_3
  obtain ⟨_, _, rfl, hf0_4, qf0__5⟩ := oks_cons qf0__4
  clear qf0__4
  obtain ⟨nf0_4, inf0_4, rfl⟩ := ok_num hf0_4
  obtain rfl := oks_nil qf0__5
  simp only [List.cons_append, List.nil_append, List.append_nil, List.map_cons, List.map_nil]
  simp only [List.cons_append, List.nil_append, List.append_nil, List.map_cons, List.map_nil] at cf0
  refine Spec.intro (n := 20) (rv := [.cell 2 57]) Try.func25 rfl rfl rfl (by simp) fun C hN hX => ?_
  refine AW.seq ?_
  apply AW.list
  apply Wk.bx 1 rfl rfl (lt_of_ble rfl)
  apply Wk.alc 2 [.int .i64 0, .int .i64 0, .int .i64 0, .int .i64 0, .int .i64 0, .slice none 0 0, .slice none 0 0, .int .i64 0] ze57 rfl rfl (lt_of_ble rfl)
  refine Wk.nil ?_
  refine AW.seq ?_
  apply AW.list
  apply Wk.alc 3 [.int .i64 0, .int .i64 0, .int .i64 0, .int .i64 0, .int .i64 0, .slice none 0 0, .slice none 0 0, .int .i64 0] ze57 rfl rfl (lt_of_ble rfl)
  refine Wk.nil ?_
  refine AW.seq ?_
  apply AW.list
  apply Wk.fad 0 4 true fd51_0 rfl (lt_of_ble rfl)
  apply Wk.ld (i := 1) 5 true ty23 rfl rfl (by conv => lhs; whnf) (lt_of_ble rfl)
  apply Wk.dat cf0 Try.func12 rfl rfl rfl rfl rfl (lt_of_ble rfl)
  apply Wk.fad 0 4 true fd57_0 rfl (lt_of_ble rfl)
  apply Wk.sto (i := 3) 5 true ty29 rfl rfl rfl rfl (Nat.le_of_ble_eq_true rfl) (lt_of_ble rfl)
  refine Wk.nil ?_
  refine AW.seq ?_
  apply AW.list
  apply Wk.fad 5 0 false fd51_1 rfl (lt_of_ble rfl)
  apply Wk.ld (i := 1) 1 false ty48 rfl rfl (by conv => lhs; whnf) (lt_of_ble rfl)
  apply Wk.dat cf1 Try.func54 rfl rfl rfl rfl rfl (lt_of_ble rfl)
  apply Wk.fad 5 0 false fd57_1 rfl (lt_of_ble rfl)
  apply Wk.sto (i := 3) 1 false ty54 rfl rfl rfl rfl (Nat.le_of_ble_eq_true rfl) (lt_of_ble rfl)
  refine Wk.nil ?_
  refine AW.seq ?_
  apply AW.list
  apply Wk.fad 6 0 false fd51_2 rfl (lt_of_ble rfl)
  apply Wk.ld (i := 1) 1 false ty49 rfl rfl (by conv => lhs; whnf) (lt_of_ble rfl)
  apply Wk.dat cf2 Try.func55 rfl rfl rfl rfl rfl (lt_of_ble rfl)
  apply Wk.fad 6 0 false fd57_2 rfl (lt_of_ble rfl)
  apply Wk.sto (i := 3) 1 false ty55 rfl rfl rfl rfl (Nat.le_of_ble_eq_true rfl) (lt_of_ble rfl)
  refine Wk.nil ?_
  refine AW.seq ?_
  apply AW.list
  apply Wk.fad 7 0 false fd51_3 rfl (lt_of_ble rfl)
  apply Wk.ld (i := 1) 1 false ty3 rfl rfl (by conv => lhs; whnf) (lt_of_ble rfl)
  apply Wk.fad 7 0 false fd57_3 rfl (lt_of_ble rfl)
  apply Wk.sto (i := 3) 1 false ty3 rfl rfl rfl rfl (Nat.le_of_ble_eq_true rfl) (lt_of_ble rfl)
  refine Wk.nil ?_
  refine AW.seq ?_
  apply AW.list
  apply Wk.ld (i := 3) 8 true ty57 rfl rfl (by conv => lhs; whnf) (lt_of_ble rfl)
  apply Wk.sto (i := 2) 8 true ty57 rfl rfl rfl rfl (Nat.le_of_ble_eq_true rfl) (lt_of_ble rfl)
  refine Wk.nil (AW.ret ?_)
  exact RetQ.ret [] (.cons ⟨2, 0, _, _, _, rfl, rfl, ty57, rfl⟩ .nil) ⟨rfl, rfl⟩ none_kept
set_option maxHeartbeats 4000000 in
set_option maxRecDepth 100000 in
theorem eqWldWorld_ok (ds : List D) (h : Sh.ok (.struct [(.struct [.int, .int, .int, .int, .int]), (.slice (.struct [(.struct [.int, .int, (.slice (.struct [.int, .int, (.slice .byte)])), .int, (.slice (.struct [.int, .int, (.slice .byte)])), .bool, .int, .bool, .int, .bool]), (.struct [.int, .int, (.struct [.int, (.slice .byte)]), .bool, .bool, .bool]), (.struct [.int, (.slice (.struct [.int, .int, (.slice .byte)])), .int, .int, .bool]), (.struct [.int, (.struct [.int, (.slice .byte)]), .bool]), (.slice (.slice .byte)), (.slice (.slice .byte))])), (.slice (.slice (.struct [.bool, (.slice .byte)]))), .int]) ds) : DataOk Try.prog 27 [.agg (ds.map .d), .agg (ds.map .d)] (.d (.v (.bool true))) := by
  have qf_0 := ok_rec h
  clear h
  obtain ⟨dsf0, _, rfl, hf0, qf_1⟩ := oks_cons qf_0
  clear qf_0
  obtain ⟨_, _, rfl, hf1, qf_2⟩ := oks_cons qf_1
  clear qf_1
  obtain ⟨esf1, rfl, hef1⟩ := ok_row hf1
  obtain ⟨_, _, rfl, hf2, qf_3⟩ := oks_cons qf_2
  clear qf_2
  obtain ⟨esf2, rfl, hef2⟩ := ok_row hf2
  obtain ⟨_, _, rfl, hf3, qf_4⟩ := oks_cons qf_3
  clear qf_3
  obtain ⟨nf3, inf3, rfl⟩ := ok_num hf3
  obtain rfl := oks_nil qf_4
  have cf0 := eqCfgOpts_ok dsf0 hf0
  have cf1 := eqWldEndS_ok esf1 hef1
  have cf2 := eqNetMsgSS_ok esf2 hef2
  have qf0__0 := ok_rec hf0
  clear hf0
  obtain ⟨_, _, rfl, hf0_0, qf0__1⟩ := oks_cons qf0__0
  clear qf0__0
  obtain ⟨nf0_0, inf0_0, rfl⟩ := ok_num hf0_0
  obtain ⟨_, _, rfl, hf0_1, qf0__2⟩ := oks_cons qf0__1
  clear qf0__1
  obtain ⟨nf0_1, inf0_1, rfl⟩ := ok_num hf0_1
  obtain ⟨_, _, rfl, hf0_2, qf0__3⟩ := oks_cons qf0__2
  clear qf0__2
  obtain ⟨nf0_2, inf0_2, rfl⟩ := ok_num hf0_2
  obtain ⟨_, _, rfl, hf0_3, qf0__4⟩ := oks_cons qf0__3
  clear qf0__3
  obtain ⟨nf0_3, inf0_3, rfl⟩ := ok_num hf0_3
  obtain ⟨_, _, rfl, hf0_4, qf0__5⟩ := oks_cons qf0__4
  clear qf0__4
  obtain ⟨nf0_4, inf0_4, rfl⟩ := ok_num hf0_4
  obtain rfl := oks_nil qf0__5
  simp only [List.cons_append, List.nil_append, List.append_nil, List.map_cons, List.map_nil]
  simp only [List.cons_append, List.nil_append, List.append_nil, List.map_cons, List.map_nil] at cf0
  refine Spec.intro (n := 28) (rv := [.tmp 4]) Try.func27 rfl rfl rfl (by simp) fun C hN hX => ?_
  refine AW.seq ?_
  apply AW.list
  apply Wk.bx 2 rfl rfl (lt_of_ble rfl)
  apply Wk.bx 3 rfl rfl (lt_of_ble rfl)
  apply Wk.asg (by conv => lhs; whnf) (lt_of_ble rfl)
  refine Wk.nil ?_
  refine AW.seq (AW.seq ?_)
  apply AW.list
  apply Wk.fad 0 4 true fd57_0 rfl (lt_of_ble rfl)
  apply Wk.ld (i := 2) 5 true ty29 rfl rfl (by conv => lhs; whnf) (lt_of_ble rfl)
  apply Wk.fad 0 4 true fd57_0 rfl (lt_of_ble rfl)
  apply Wk.ld (i := 3) 5 true ty29 rfl rfl (by conv => lhs; whnf) (lt_of_ble rfl)
  apply Wk.dat cf0 Try.func59 rfl rfl rfl rfl rfl (lt_of_ble rfl)
  apply Wk.un rfl (fun w => by simp [go_sem] <;> rfl) (lt_of_ble rfl)
  refine Wk.nil ?_
  refine AW.cond rfl (fun hc => by cases hc) (fun _ => AW.skip (thenA_normal ?_))
  refine AW.seq (AW.seq ?_)
  apply AW.list
  apply Wk.fad 5 0 false fd57_1 rfl (lt_of_ble rfl)
  apply Wk.ld (i := 2) 1 false ty54 rfl rfl (by conv => lhs; whnf) (lt_of_ble rfl)
  apply Wk.fad 5 0 false fd57_1 rfl (lt_of_ble rfl)
  apply Wk.ld (i := 3) 1 false ty54 rfl rfl (by conv => lhs; whnf) (lt_of_ble rfl)
  apply Wk.dat cf1 Try.func60 rfl rfl rfl rfl rfl (lt_of_ble rfl)
  apply Wk.un rfl (fun w => by simp [go_sem] <;> rfl) (lt_of_ble rfl)
  refine Wk.nil ?_
  refine AW.cond rfl (fun hc => by cases hc) (fun _ => AW.skip (thenA_normal ?_))
  refine AW.seq (AW.seq ?_)
  apply AW.list
  apply Wk.fad 6 0 false fd57_2 rfl (lt_of_ble rfl)
  apply Wk.ld (i := 2) 1 false ty55 rfl rfl (by conv => lhs; whnf) (lt_of_ble rfl)
  apply Wk.fad 6 0 false fd57_2 rfl (lt_of_ble rfl)
  apply Wk.ld (i := 3) 1 false ty55 rfl rfl (by conv => lhs; whnf) (lt_of_ble rfl)
  apply Wk.dat cf2 Try.func61 rfl rfl rfl rfl rfl (lt_of_ble rfl)
  apply Wk.un rfl (fun w => by simp [go_sem] <;> rfl) (lt_of_ble rfl)
  refine Wk.nil ?_
  refine AW.cond rfl (fun hc => by cases hc) (fun _ => AW.skip (thenA_normal ?_))
  refine AW.seq (AW.seq ?_)
  apply AW.list
  apply Wk.fad 7 0 false fd57_3 rfl (lt_of_ble rfl)
  apply Wk.ld (i := 2) 1 false ty3 rfl rfl (by conv => lhs; whnf) (lt_of_ble rfl)
  apply Wk.fad 7 0 false fd57_3 rfl (lt_of_ble rfl)
  apply Wk.ld (i := 3) 1 false ty3 rfl rfl (by conv => lhs; whnf) (lt_of_ble rfl)
  apply Wk.bin rfl rfl (r := .bool false) (fun w => by simp [go_sem]) (lt_of_ble rfl)
  refine Wk.nil ?_
  refine AW.cond rfl (fun hc => by cases hc) (fun _ => AW.skip (thenA_normal ?_))
  refine AW.seq ?_
  apply AW.list
  apply Wk.asg (by conv => lhs; whnf) (lt_of_ble rfl)
  refine Wk.nil (AW.ret ?_)
  exact RetQ.ret [] (.cons rfl .nil) ⟨rfl, rfl⟩ none_kept
set_option maxHeartbeats 4000000 in
set_option maxRecDepth 100000 in
theorem szWldWorld_ok (ds : List D) (h : Sh.ok (.struct [(.struct [.int, .int, .int, .int, .int]), (.slice (.struct [(.struct [.int, .int, (.slice (.struct [.int, .int, (.slice .byte)])), .int, (.slice (.struct [.int, .int, (.slice .byte)])), .bool, .int, .bool, .int, .bool]), (.struct [.int, .int, (.struct [.int, (.slice .byte)]), .bool, .bool, .bool]), (.struct [.int, (.slice (.struct [.int, .int, (.slice .byte)])), .int, .int, .bool]), (.struct [.int, (.struct [.int, (.slice .byte)]), .bool]), (.slice (.slice .byte)), (.slice (.slice .byte))])), (.slice (.slice (.struct [.bool, (.slice .byte)]))), .int]) ds) (l : Nat) (hl : l ≤ 1048576) : DataOk Try.prog 23 [.agg (ds.map .d), .d (.v (.int .i64 (l : Int)))] (.d (.v (.int .i64 (leftI l (tots ds))))) := by
  have qf_0 := ok_rec h
  clear h
  obtain ⟨dsf0, _, rfl, hf0, qf_1⟩ := oks_cons qf_0
  clear qf_0
  obtain ⟨_, _, rfl, hf1, qf_2⟩ := oks_cons qf_1
  clear qf_1
  obtain ⟨esf1, rfl, hef1⟩ := ok_row hf1
  obtain ⟨_, _, rfl, hf2, qf_3⟩ := oks_cons qf_2
  clear qf_2
  obtain ⟨esf2, rfl, hef2⟩ := ok_row hf2
  obtain ⟨_, _, rfl, hf3, qf_4⟩ := oks_cons qf_3
  clear qf_3
  obtain ⟨nf3, inf3, rfl⟩ := ok_num hf3
  obtain rfl := oks_nil qf_4
  have cf1 := fun (l : Nat) (hl : l ≤ 1048576) => szWldEndS_ok esf1 hef1 l hl
  obtain ⟨tf1, htf1⟩ : ∃ t, (D.row esf1).tot = t := ⟨_, rfl⟩
  rw [htf1] at cf1
  have cf2 := fun (l : Nat) (hl : l ≤ 1048576) => szNetMsgSS_ok esf2 hef2 l hl
  obtain ⟨tf2, htf2⟩ : ∃ t, (D.row esf2).tot = t := ⟨_, rfl⟩
  rw [htf2] at cf2
  have hsum : tots (dsf0 ++ ([D.row esf1] ++ ([D.row esf2] ++ ([D.v (.int .i64 nf3)] ++ [])))) = tf1 + tf2 := by
    simp only [tots_append, tots, D.tot.eq_1, htf1, htf2]
    try simp only [tots_nos hf0]
    omega
  rw [hsum]
  clear hsum
  have qf0__0 := ok_rec hf0
  clear hf0
  obtain ⟨_, _, rfl, hf0_0, qf0__1⟩ := oks_cons qf0__0
  clear qf0__0
  obtain ⟨nf0_0, inf0_0, rfl⟩ := ok_num hf0_0
  obtain ⟨_, _, rfl, hf0_1, qf0__2⟩ := oks_cons qf0__1
  clear qf0__1
  obtain ⟨nf0_1, inf0_1, rfl⟩ := ok_num hf0_1
  obtain ⟨_, _, rfl, hf0_2, qf0__3⟩ := oks_cons qf0__2
  clear qf0__2
  obtain ⟨nf0_2, inf0_2, rfl⟩ := ok_num hf0_2
  obtain ⟨_, _, rfl, hf0_3, qf0__4⟩ := oks_cons qf0__3
  clear qf0__3
  obtain ⟨nf0_3, inf0_3, rfl⟩ := ok_num hf0_3
  obtain ⟨_, _, rfl, hf0_4, qf0__5⟩ := oks_cons qf0__4
  clear qf0__4
  obtain ⟨nf0_4, inf0_4, rfl⟩ := ok_num hf0_4
  obtain rfl := oks_nil qf0__5
  simp only [List.cons_append, List.nil_append, List.append_nil, List.map_cons, List.map_nil]
  refine Spec.intro (n := 18) (rv := [.tmp 4]) Try.func23 rfl rfl rfl (by simp) fun C hN hX => ?_
  refine AW.seq ?_
  apply AW.list
  apply Wk.bx 2 rfl rfl (lt_of_ble rfl)
  apply Wk.asg (by conv => lhs; whnf) (lt_of_ble rfl)
  refine Wk.nil ?_
  have df1 := cf1 l (by omega)
  refine AW.seq ?_
  apply AW.list
  apply Wk.fad 5 0 false fd51_1 rfl (lt_of_ble rfl)
  apply Wk.ld (i := 2) 1 false ty48 rfl rfl (by conv => lhs; whnf) (lt_of_ble rfl)
  apply Wk.mv (by conv => lhs; whnf) (lt_of_ble rfl)
  apply Wk.dat df1 Try.func51 rfl rfl rfl rfl rfl (lt_of_ble rfl)
  apply Wk.asg (by conv => lhs; whnf) (lt_of_ble rfl)
  refine Wk.nil ?_
  refine AW.seq (AW.seq ?_)
  by_cases g0 : tf1 ≤ l
  case neg =>
    rw [show leftI l tf1 = -1 from if_neg g0]
    apply AW.list
    apply Wk.mv (by conv => lhs; whnf) (lt_of_ble rfl)
    apply Wk.bin rfl rfl (r := .bool true) (fun w => by simp [go_sem]) (lt_of_ble rfl)
    refine Wk.nil ?_
    refine AW.cond rfl (fun _ => ?_) (fun hc => by cases hc)
    refine AW.seq ?_
    apply AW.list
    apply Wk.asg (by conv => lhs; whnf) (lt_of_ble rfl)
    refine Wk.nil (AW.ret ?_)
    repeat (first | refine thenA_ret ?_ | refine inBlockA_ret ?_)
    rw [show leftI l (tf1 + tf2) = -1 from if_neg (by omega)]
    exact RetQ.ret [] (.cons rfl .nil) ⟨rfl, rfl⟩ none_kept
  rw [show leftI l tf1 = (l : Int) - (tf1 : Int) from if_pos g0]
  apply AW.list
  apply Wk.mv (by conv => lhs; whnf) (lt_of_ble rfl)
  apply Wk.bin rfl rfl (r := .bool false) (fun w => by simp [go_sem] <;> omega) (lt_of_ble rfl)
  refine Wk.nil ?_
  refine AW.cond rfl (fun hc => by cases hc) (fun _ => AW.skip (thenA_normal ?_))
  obtain ⟨l1, hl1⟩ : ∃ q : Nat, (l : Int) - (tf1 : Int) = (q : Int) := ⟨l - tf1, by omega⟩
  rw [hl1]
  have df2 := cf2 l1 (by omega)
  refine AW.seq ?_
  apply AW.list
  apply Wk.fad 6 0 false fd51_2 rfl (lt_of_ble rfl)
  apply Wk.ld (i := 2) 1 false ty49 rfl rfl (by conv => lhs; whnf) (lt_of_ble rfl)
  apply Wk.mv (by conv => lhs; whnf) (lt_of_ble rfl)
  apply Wk.dat df2 Try.func52 rfl rfl rfl rfl rfl (lt_of_ble rfl)
  apply Wk.asg (by conv => lhs; whnf) (lt_of_ble rfl)
  refine Wk.nil ?_
  refine AW.seq (AW.seq ?_)
  by_cases g1 : tf2 ≤ l1
  case neg =>
    rw [show leftI l1 tf2 = -1 from if_neg g1]
    apply AW.list
    apply Wk.mv (by conv => lhs; whnf) (lt_of_ble rfl)
    apply Wk.bin rfl rfl (r := .bool true) (fun w => by simp [go_sem]) (lt_of_ble rfl)
    refine Wk.nil ?_
    refine AW.cond rfl (fun _ => ?_) (fun hc => by cases hc)
    refine AW.seq ?_
    apply AW.list
    apply Wk.asg (by conv => lhs; whnf) (lt_of_ble rfl)
    refine Wk.nil (AW.ret ?_)
    repeat (first | refine thenA_ret ?_ | refine inBlockA_ret ?_)
    rw [show leftI l (tf1 + tf2) = -1 from if_neg (by omega)]
    exact RetQ.ret [] (.cons rfl .nil) ⟨rfl, rfl⟩ none_kept
  rw [show leftI l1 tf2 = (l1 : Int) - (tf2 : Int) from if_pos g1]
  apply AW.list
  apply Wk.mv (by conv => lhs; whnf) (lt_of_ble rfl)
  apply Wk.bin rfl rfl (r := .bool false) (fun w => by simp [go_sem] <;> omega) (lt_of_ble rfl)
  refine Wk.nil ?_
  refine AW.cond rfl (fun hc => by cases hc) (fun _ => AW.skip (thenA_normal ?_))
  refine AW.seq ?_
  apply AW.list
  apply Wk.mv (by conv => lhs; whnf) (lt_of_ble rfl)
  apply Wk.asg (by conv => lhs; whnf) (lt_of_ble rfl)
  refine Wk.nil (AW.ret ?_)
  rw [show leftI l (tf1 + tf2) = (l1 : Int) - (tf2 : Int) from (if_pos (by omega)).trans (by omega)]
  exact RetQ.ret [] (.cons rfl .nil) ⟨rfl, rfl⟩ none_kept
end Go.Proofs.Ytdjadeegjbhihaa
