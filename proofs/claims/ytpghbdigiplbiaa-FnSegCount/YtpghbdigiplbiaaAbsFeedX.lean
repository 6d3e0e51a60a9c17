/- What comes of pieces one behind the other: liFeed; lists of messages compared; over what values read as. -/
import Derived.Test.YtpghbdigiplbiaaMa
import Derived.Test.YtpghbdigiplbiaaMb
import Derived.Test.YtpghbdigiplbiaaMc
import Derived.Test.YtpghbdigiplbiaaMd
import Derived.Test.YtpghbdigiplbiaaSegLostX
import Derived.Test.YtpghbdigiplbiaaAbsBorX
namespace Go.Proofs.Ytpghbdigiplbiaa
open Go Go.RowKit
def msgsD (ms : List (List Nat)) : D := .row (ms.map fun zs => [bytesD zs])
def msgsA (ms : List (List Nat)) : List (List A) := ms.map fun zs => [A.d (bytesD zs)]
theorem asData_msgs (ms : List (List Nat)) : asData (msgsA ms) (ms.map fun zs => [bytesD zs]) := by
  simp [asData, msgsA, nrms, nrm, bytesD]
theorem one_msgs (ms : List (List Nat)) : ∀ c ∈ msgsA ms, c.length = 1 := by
  intro c hc
  obtain ⟨z, _, rfl⟩ := List.mem_map.1 hc
  rfl
theorem one_msgsD (ms : List (List Nat)) : ∀ c ∈ (ms.map fun zs => [bytesD zs]), c.length = 1 := by
  intro c hc
  obtain ⟨z, _, rfl⟩ := List.mem_map.1 hc
  rfl
theorem within_msgs {K : List Nat} (ms : List (List Nat)) : (msgsA ms).all (A.withins K) = true := by
  simp [msgsA, A.withins, A.within]
theorem asData_parts (xs : List Dat) : asData ((xs.map datD).map (·.map A.d)) (xs.map datD) := by
  simp [asData, nrms, nrm, datD, bytesD]
def SmallD (ds : List Dat) : Prop := ∀ d ∈ ds, Byt d.2.2 ∧ d.2.2.length ≤ 24
set_option maxHeartbeats 2000000 in
set_option maxRecDepth 100000 in
theorem liFeed_ok (ds : List Dat) (hs : SmallD ds) (hn : ds.length ≤ 1000) : DataOk Try.prog 22 [.d (partsD ds)] (.d (msgsD (feedF 0 [] ds))) := by
  refine Spec.intro (n := 35) (rv := [.tmp 2]) Try.func22 rfl rfl rfl (by simp) fun C hN hX => ?_
  refine AW.seq ?_
  apply AW.list
  apply Wk.asg (by conv => lhs; whnf) (lt_of_ble rfl)
  refine Wk.nil ?_
  refine AW.seq ?_
  apply AW.list
  apply Wk.bld [.int .i64 0, .slice none 0 0] [(0, 1), (1, 1)] bl30 rfl (by conv => lhs; whnf) (lt_of_ble rfl)
  apply Wk.alc 3 [.int .i64 0, .slice none 0 0] ze30 rfl rfl (lt_of_ble rfl)
  apply Wk.sto (i := 3) 2 true ty30 rfl rfl rfl rfl (Nat.le_of_ble_eq_true rfl) (lt_of_ble rfl)
  refine Wk.nil ?_
  refine AW.nrmb (j := 3) rfl ?_
  refine AW.seq ?_
  apply AW.list
  apply Wk.lst 10 1 false [.slice none 0 0] un42 ty22 ze22 rfl rfl (by rfl) (by rfl) (by decide) (by decide) rfl rfl (all_len rfl) (lt_of_ble rfl)
  apply Wk.asg (by conv => lhs; whnf) (lt_of_ble rfl)
  refine Wk.nil ?_
  refine AW.seq (AW.seq ?_)
  apply AW.list
  apply Wk.asg (by conv => lhs; whnf) (lt_of_ble rfl)
  refine Wk.nil (AW.block ?_)
  refine AW.loop (fun x : Nat × Int × List Nat × Nat × List (List Nat) => St.of 35 [(0, .d (partsD ds)), (3, .ptr 3 0), (4, .own 10 x.2.2.2.1), (5, .d (.v (.int .i64 (x.1 : Int))))] [(3, .var [.d (.v (.int .i64 x.2.1)), .d (bytesD x.2.2.1)]), (10, .own x.2.2.2.1 22 1 (msgsA x.2.2.2.2))]) (fun x => x.1 ≤ ds.length ∧ x.2.2.2.2 ++ feedF x.2.1 x.2.2.1 (ds.drop x.1) = feedF 0 [] ds ∧ Byt x.2.2.1 ∧ x.2.2.1.length ≤ 40 ∧ x.2.2.2.2.length ≤ x.1) (fun x => ds.length - x.1) (0, 0, [], 0, []) ⟨Nat.zero_le _, by simp, (fun x hx => by cases hx), by simp, by simp⟩ ?_ ?_
  · exact fun a w => Rel.keep ⟨rfl, .cons rfl rfl (.cons rfl rfl (.cons rfl rfl (.cons rfl rfl .nil))), .cons rfl rfl (.cons rfl rfl .nil), hN.mono (by simp [keys])⟩
  rintro ⟨k, j, acc, q, o⟩ ⟨hk, hf, hb, hl, ho⟩
  simp only at hk hf hb hl ho
  show AW Try.prog C _ _ (St.of 35 [(0, .d (partsD ds)), (3, .ptr 3 0), (4, .own 10 q), (5, .d (.v (.int .i64 (k : Int))))] [(3, .var [.d (.v (.int .i64 j)), .d (bytesD acc)]), (10, .own q 22 1 (msgsA o))])
  refine AW.seq (AW.seq ?_)
  apply AW.list
  apply Wk.mv (by conv => lhs; whnf) (lt_of_ble rfl)
  apply Wk.mv (by conv => lhs; whnf) (lt_of_ble rfl)
  apply Wk.len un25 rfl (lt_of_ble rfl)
  apply Wk.bin rfl rfl (fun w => by simp [go_sem] <;> rfl) (lt_of_ble rfl)
  refine Wk.nil ?_
  refine AW.cond rfl (fun hc => ?_) (fun hc => ?_)
  · have hlt : k < ds.length := by simpa using hc
    obtain ⟨d, hd⟩ : ∃ d, ds[k]? = some d := ⟨_, List.getElem?_eq_getElem hlt⟩
    have hds := hs d (List.mem_of_getElem? hd)
    have hget : (ds.map datD)[k]? = some (datD d) := by simp [hd]
    have hklt : k < (ds.map datD).length := by simpa using hlt
    have hput := iputN_ok j acc d hb hds.1 (by omega) (by omega)
    have hsm := stG_small (m := j) hb hds.1
    have hdrop : ds.drop k = d :: ds.drop (k + 1) := by
      obtain ⟨hk', rfl⟩ := List.getElem?_eq_some_iff.1 hd
      exact List.drop_eq_getElem_cons hk'
    rw [hdrop] at hf
    simp only [feedF] at hf
    refine AW.skip ?_
    repeat (first | refine thenA_normal ?_ | refine inBlockA_normal ?_)
    refine AW.seq (AW.block (AW.seq ?_))
    apply AW.draw (hm := hmix) (cs := _)
    · apply Wk.ld (i := 3) 2 true ty30 rfl rfl (by conv => lhs; whnf) (lt_of_ble rfl)
      apply Wk.mv (by conv => lhs; whnf) (lt_of_ble rfl)
      apply Wk.mv (by conv => lhs; whnf) (lt_of_ble rfl)
      apply Wk.iad 3 true un25 ty34 rfl rfl hklt (datD_len _) (lt_of_ble rfl)
      apply Wk.ldr 3 true ty34 rfl hget (by conv => lhs; whnf) (lt_of_ble rfl)
      apply Wk.dat hput Try.func13 rfl rfl rfl rfl rfl (lt_of_ble rfl)
      apply Wk.mv (by conv => lhs; whnf) (lt_of_ble rfl)
      apply Wk.ext rfl rfl (lt_of_ble rfl)
      apply Wk.ext rfl rfl (lt_of_ble rfl)
      apply Wk.ext rfl rfl (lt_of_ble rfl)
      apply Wk.alc 6 [.int .i64 0, .slice none 0 0] ze30 rfl rfl (lt_of_ble rfl)
      apply Wk.sto (i := 6) 2 true ty30 rfl rfl rfl rfl (Nat.le_of_ble_eq_true rfl) (lt_of_ble rfl)
      apply Wk.asg (by conv => lhs; whnf) (lt_of_ble rfl)
      apply Wk.asg (by conv => lhs; whnf) (lt_of_ble rfl)
      refine Wk.nil ?_
      refine AW.seq ?_
      apply AW.list
      apply Wk.ld (i := 6) 2 true ty30 rfl rfl (by conv => lhs; whnf) (lt_of_ble rfl)
      apply Wk.sto (i := 3) 2 true ty30 rfl rfl rfl rfl (Nat.le_of_ble_eq_true rfl) (lt_of_ble rfl)
      refine Wk.nil ?_
      refine AW.seq ?_
      apply AW.list
      by_cases h2 : stA j acc d = 2
      · apply Wk.mv (by conv => lhs; whnf) (lt_of_ble rfl)
        apply Wk.bin rfl rfl (r := .bool true) (fun w => by simp [go_sem, h2]) (lt_of_ble rfl)
        refine Wk.nil ?_
        refine AW.cond rfl (fun _ => ?_) (fun hc => by cases hc)
        apply AW.list
        apply Wk.mv (by conv => lhs; whnf) (lt_of_ble rfl)
        apply Wk.mv (by conv => lhs; whnf) (lt_of_ble rfl)
        apply Wk.lst 32 1 false [.slice none 0 0] un42 ty22 ze22 rfl rfl (by rfl) (by rfl) (by decide) (by decide) rfl rfl (all_len rfl) (lt_of_ble rfl)
        apply Wk.appOO 10 32 1 un42 ap22 rfl rfl rfl rfl (by decide) (all_len rfl) (one_msgs o) (by simp [msgsA]; omega) (lt_of_ble rfl)
        apply Wk.asg (by conv => lhs; whnf) (lt_of_ble rfl)
        refine Wk.nil ?_
        repeat (first | refine thenA_normal ?_ | refine inBlockA_normal ?_)
        apply AW.list
        apply Wk.mv (by conv => lhs; whnf) (lt_of_ble rfl)
        apply Wk.addi rfl rfl (by omega) (lt_of_ble rfl)
        apply Wk.asg (by conv => lhs; whnf) (lt_of_ble rfl)
        refine Wk.nil ?_
        rw [if_pos h2, ← List.append_assoc] at hf
        refine ⟨(k + 1, stN j acc d, stG j acc d, q + 1, o ++ [stM j acc d]), ⟨by simp only; omega, hf, hsm.1, hsm.2.1, by simp; omega⟩, by simp only; omega, ?_⟩
        refine fun a w => Rel.keep ⟨rfl, .cons rfl rfl (.cons rfl rfl (.cons rfl rfl (.cons rfl rfl .nil))), .cons rfl rfl (.cons ?_ (by exact within_msgs _) .nil), hN.mono (by simp [keys])⟩
        simp only [msgsA, List.map_append]
        rfl
      · apply Wk.mv (by conv => lhs; whnf) (lt_of_ble rfl)
        apply Wk.bin rfl rfl (r := .bool false) (fun w => by simp [go_sem, h2]) (lt_of_ble rfl)
        refine Wk.nil ?_
        refine AW.cond rfl (fun hc => by cases hc) (fun _ => AW.skip ?_)
        repeat (first | refine thenA_normal ?_ | refine inBlockA_normal ?_)
        apply AW.list
        apply Wk.mv (by conv => lhs; whnf) (lt_of_ble rfl)
        apply Wk.addi rfl rfl (by omega) (lt_of_ble rfl)
        apply Wk.asg (by conv => lhs; whnf) (lt_of_ble rfl)
        refine Wk.nil ?_
        rw [if_neg h2, List.nil_append] at hf
        refine ⟨(k + 1, stN j acc d, stG j acc d, q, o), ⟨by simp only; omega, hf, hsm.1, hsm.2.1, by simp only; omega⟩, by simp only; omega, ?_⟩
        exact fun a w => Rel.keep ⟨rfl, .cons rfl rfl (.cons rfl rfl (.cons rfl rfl (.cons rfl rfl .nil))), .cons rfl rfl (.cons rfl (by exact within_msgs _) .nil), hN.mono (by simp [keys])⟩
    · rfl
    · rfl
  · have hke : ds.drop k = [] := by
      apply List.drop_eq_nil_of_le
      simp at hc
      omega
    rw [hke] at hf
    simp only [feedF, List.append_nil] at hf
    subst hf
    refine AW.exit ?_
    repeat (first | refine inBlockA_same ?_ | refine thenA_exit ?_)
    repeat (first | refine thenA_normal ?_ | refine inBlockA_normal ?_)
    refine AW.seq ?_
    apply AW.list
    apply Wk.mv (by conv => lhs; whnf) (lt_of_ble rfl)
    apply Wk.asg (by conv => lhs; whnf) (lt_of_ble rfl)
    refine Wk.nil ?_
    refine AW.thaw (t := 2) (i := 10) _ rfl rfl (asData_msgs _) hX.none ?_
    refine AW.ret ?_
    repeat (first | refine thenA_ret ?_ | refine inBlockA_ret ?_)
    exact RetQ.ret [] (.cons rfl .nil) ⟨rfl, rfl⟩ none_kept
theorem liSdusE (ms : List (List Nat)) : DataOk Try.prog 23 [.d (msgsD ms), .d (msgsD ms)] (.d (.v (.bool true))) := by
  refine Spec.intro (n := 27) (rv := [.tmp 4]) Try.func23 rfl rfl rfl (by simp) fun C hN hX => ?_
  refine AW.bound (x := .tmp 0) rfl fun hb => ?_
  simp only [List.length_map] at hb
  refine AW.seq ?_
  apply AW.list
  apply Wk.asg (by conv => lhs; whnf) (lt_of_ble rfl)
  refine Wk.nil ?_
  refine AW.seq (AW.seq ?_)
  apply AW.list
  apply Wk.mv (by conv => lhs; whnf) (lt_of_ble rfl)
  apply Wk.len un42 rfl (lt_of_ble rfl)
  apply Wk.mv (by conv => lhs; whnf) (lt_of_ble rfl)
  apply Wk.len un42 rfl (lt_of_ble rfl)
  apply Wk.bin rfl rfl (fun w => by simp [go_sem] <;> rfl) (lt_of_ble rfl)
  refine Wk.nil ?_
  refine AW.cond rfl (fun hc => by simp at hc) (fun _ => AW.skip (thenA_normal ?_))
  refine AW.seq (AW.seq ?_)
  apply AW.list
  apply Wk.asg (by conv => lhs; whnf) (lt_of_ble rfl)
  refine Wk.nil (AW.block ?_)
  refine AW.loop (fun q : Nat => St.of 27 [(0, .d (msgsD ms)), (1, .d (msgsD ms)), (5, .d (.v (.int .i64 (q : Int))))] []) (fun q => q ≤ ms.length) (fun q => ms.length - q) 0 (Nat.zero_le _) ?_ (fun q hq => ?_)
  · exact fun a w => Rel.keep ⟨rfl, .cons rfl rfl (.cons rfl rfl (.cons rfl rfl .nil)), .nil, hN⟩
  refine AW.seq (AW.seq ?_)
  apply AW.list
  apply Wk.mv (by conv => lhs; whnf) (lt_of_ble rfl)
  apply Wk.mv (by conv => lhs; whnf) (lt_of_ble rfl)
  apply Wk.len un42 rfl (lt_of_ble rfl)
  apply Wk.bin rfl rfl (fun w => by simp [go_sem] <;> rfl) (lt_of_ble rfl)
  refine Wk.nil ?_
  refine AW.cond rfl (fun hc => ?_) (fun hc => ?_)
  · have hlt : q < ms.length := by simpa using hc
    obtain ⟨d, hd⟩ : ∃ d, ms[q]? = some d := ⟨_, List.getElem?_eq_getElem hlt⟩
    have hget : (ms.map fun zs => [bytesD zs])[q]? = some [bytesD d] := by simp [hd]
    refine AW.skip ?_
    repeat (first | refine thenA_normal ?_ | refine inBlockA_normal ?_)
    refine AW.seq (AW.block (AW.seq ?_))
    apply AW.draw (hm := hmix) (cs := _)
    · apply Wk.mv (by conv => lhs; whnf) (lt_of_ble rfl)
      apply Wk.mv (by conv => lhs; whnf) (lt_of_ble rfl)
      apply Wk.iad 1 false un42 ty22 rfl rfl (by simpa using hlt) (one_msgsD ms) (lt_of_ble rfl)
      apply Wk.ldr 1 false ty22 rfl hget (by conv => lhs; whnf) (lt_of_ble rfl)
      apply Wk.mv (by conv => lhs; whnf) (lt_of_ble rfl)
      apply Wk.mv (by conv => lhs; whnf) (lt_of_ble rfl)
      apply Wk.iad 1 false un42 ty22 rfl rfl (by simpa using hlt) (one_msgsD ms) (lt_of_ble rfl)
      apply Wk.ldr 1 false ty22 rfl hget (by conv => lhs; whnf) (lt_of_ble rfl)
      apply Wk.dat (liBytesE d) Try.func15 rfl rfl rfl rfl rfl (lt_of_ble rfl)
      apply Wk.un rfl (fun w => by simp [go_sem] <;> rfl) (lt_of_ble rfl)
      refine Wk.nil ?_
      refine AW.cond rfl (fun hn => by cases hn) (fun hn => ?_)
      refine AW.skip ?_
      repeat (first | refine thenA_normal ?_ | refine inBlockA_normal ?_)
      apply AW.list
      apply Wk.mv (by conv => lhs; whnf) (lt_of_ble rfl)
      apply Wk.addi rfl rfl (by omega) (lt_of_ble rfl)
      apply Wk.asg (by conv => lhs; whnf) (lt_of_ble rfl)
      refine Wk.nil ?_
      exact ⟨q + 1, by omega, by omega, fun a w => Rel.keep ⟨rfl, .cons rfl rfl (.cons rfl rfl (.cons rfl rfl .nil)), .nil, hN⟩⟩
    · rfl
    · rfl
  · refine AW.exit ?_
    repeat (first | refine inBlockA_same ?_ | refine thenA_exit ?_)
    repeat (first | refine thenA_normal ?_ | refine inBlockA_normal ?_)
    refine AW.seq ?_
    apply AW.list
    apply Wk.asg (by conv => lhs; whnf) (lt_of_ble rfl)
    refine Wk.nil (AW.ret ?_)
    repeat (first | refine thenA_ret ?_ | refine inBlockA_ret ?_)
    exact RetQ.ret [] (.cons rfl .nil) ⟨rfl, rfl⟩ none_kept
end Go.Proofs.Ytpghbdigiplbiaa
