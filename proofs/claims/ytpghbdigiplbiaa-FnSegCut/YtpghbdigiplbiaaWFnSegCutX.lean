/- The law FnSegCut (promise 18: a message is its pieces) returns true at every code. -/
import Derived.Test.YtpghbdigiplbiaaMa
import Derived.Test.YtpghbdigiplbiaaMb
import Derived.Test.YtpghbdigiplbiaaMc
import Derived.Test.YtpghbdigiplbiaaMd
import Derived.RowKit3
namespace Go.Proofs.Ytpghbdigiplbiaa
open Go Go.RowKit
set_option maxHeartbeats 8000000 in
set_option maxRecDepth 100000 in
theorem lawSegCut_ok (cs : List (Fin 256)) : DataOk Try.prog 3 [.d (bytesD (cs.map (·.val)))] (.d (.v (.bool true))) := by
  refine Spec.intro (n := 113) (rv := [.tmp 2]) Try.func3 rfl rfl rfl (by simp) fun C hN hX => ?_
  refine AW.seq ?_
  apply AW.list
  apply Wk.asg (by conv => lhs; whnf) (lt_of_ble rfl)
  refine Wk.nil ?_
  refine AW.seq (AW.seq ?_)
  apply AW.list
  apply Wk.mv (by conv => lhs; whnf) (lt_of_ble rfl)
  apply Wk.len un22 rfl (lt_of_ble rfl)
  apply Wk.bin rfl rfl (fun w => by simp [go_sem] <;> rfl) (lt_of_ble rfl)
  refine Wk.nil ?_
  refine AW.cond rfl (fun hc => ?_) (fun hc => ?_)
  · refine AW.seq ?_
    apply AW.list
    apply Wk.asg (by conv => lhs; whnf) (lt_of_ble rfl)
    refine Wk.nil (AW.ret ?_)
    refine thenA_ret ?_
    exact RetQ.ret [] (.cons rfl .nil) ⟨rfl, rfl⟩ none_kept
  refine AW.skip (thenA_normal ?_)
  refine AW.seq ?_
  apply AW.list
  apply Wk.mv (by conv => lhs; whnf) (lt_of_ble rfl)
  apply Wk.datw (drawCut_ok cs) Try.func8 rfl rfl rfl rfl (lt_of_ble rfl)
  rintro _ ⟨bs, m, rfl, hbl, hm0, hm9⟩
  apply Wk.mv (by conv => lhs; whnf) (lt_of_ble rfl)
  apply Wk.ext rfl rfl (lt_of_ble rfl)
  apply Wk.ext rfl rfl (lt_of_ble rfl)
  apply Wk.asg (by conv => lhs; whnf) (lt_of_ble rfl)
  apply Wk.asg (by conv => lhs; whnf) (lt_of_ble rfl)
  refine Wk.nil ?_
  have hzs : ∃ zs, zs = bs.map (·.val) := ⟨_, rfl⟩
  obtain ⟨zs, hzs⟩ := hzs
  have hby : Byt zs := by rw [hzs]; exact fin_byt bs
  have hzl : zs.length ≤ 26 := by rw [hzs]; simpa using hbl
  rw [← hzs]
  clear hzs hbl
  refine AW.seq ?_
  apply AW.list
  apply Wk.mv (by conv => lhs; whnf) (lt_of_ble rfl)
  apply Wk.mv (by conv => lhs; whnf) (lt_of_ble rfl)
  apply Wk.dat (icut_ok zs m hby (by omega)) Try.func9 rfl rfl rfl rfl rfl (lt_of_ble rfl)
  apply Wk.asg (by conv => lhs; whnf) (lt_of_ble rfl)
  refine Wk.nil ?_
  refine AW.seq (AW.seq ?_)
  apply AW.list
  apply Wk.mv (by conv => lhs; whnf) (lt_of_ble rfl)
  apply Wk.mv (by conv => lhs; whnf) (lt_of_ble rfl)
  apply Wk.mv (by conv => lhs; whnf) (lt_of_ble rfl)
  apply Wk.dat (scut_ok zs m hby (by omega)) Try.func11 rfl rfl rfl rfl rfl (lt_of_ble rfl)
  apply Wk.dat (liPartsE (cutD zs m)) Try.func10 rfl rfl rfl rfl rfl (lt_of_ble rfl)
  apply Wk.un rfl (fun w => by simp [go_sem] <;> rfl) (lt_of_ble rfl)
  refine Wk.nil ?_
  refine AW.cond rfl (fun hc => by cases hc) (fun _ => AW.skip (thenA_normal ?_))
  refine AW.seq (AW.seq ?_)
  by_cases q1 : 24 < zs.length
  · have hno := cut_no (zs := zs) (m := m) (by simp only [cutB, decide_eq_false_iff_not]; omega)
    apply AW.list
    apply Wk.mv (by conv => lhs; whnf) (lt_of_ble rfl)
    apply Wk.len un22 rfl (lt_of_ble rfl)
    apply Wk.bin rfl rfl (r := .bool true) (fun w => by simp [go_sem] <;> omega) (lt_of_ble rfl)
    apply Wk.mv (by conv => lhs; whnf) (lt_of_ble rfl)
    apply Wk.goff 31 (ok_move _) rfl rfl (by decide)
    apply Wk.goff 31 (ok_bin _ _ _ _ _) rfl rfl (by decide)
    apply Wk.pckT rfl (by conv => lhs; whnf) (lt_of_ble rfl)
    apply Wk.mv (by conv => lhs; whnf) (lt_of_ble rfl)
    apply Wk.goff 35 (ok_move _) rfl rfl (by decide)
    apply Wk.goff 35 (ok_bin _ _ _ _ _) rfl rfl (by decide)
    apply Wk.pckT rfl (by conv => lhs; whnf) (lt_of_ble rfl)
    refine Wk.nil ?_
    refine AW.cond rfl (fun _ => ?_) (fun hc => by cases hc)
    refine AW.seq ?_
    apply AW.list
    apply Wk.mv (by conv => lhs; whnf) (lt_of_ble rfl)
    apply Wk.len un25 rfl (lt_of_ble rfl)
    apply Wk.bin rfl rfl (r := .bool true) (fun w => by simp [go_sem, hno]) (lt_of_ble rfl)
    apply Wk.mv (by conv => lhs; whnf) (lt_of_ble rfl)
    apply Wk.gon 42 rfl rfl
    apply Wk.dat liok_ok Try.func12 rfl rfl rfl rfl rfl (lt_of_ble rfl)
    apply Wk.pckT rfl (by conv => lhs; whnf) (lt_of_ble rfl)
    apply Wk.asg (by conv => lhs; whnf) (lt_of_ble rfl)
    refine Wk.nil (AW.ret ?_)
    refine thenA_ret ?_
    exact RetQ.ret [] (.cons rfl .nil) ⟨rfl, rfl⟩ none_kept
  by_cases q2 : m < 1
  · have hno := cut_no (zs := zs) (m := m) (by simp only [cutB, decide_eq_false_iff_not]; omega)
    apply AW.list
    apply Wk.mv (by conv => lhs; whnf) (lt_of_ble rfl)
    apply Wk.len un22 rfl (lt_of_ble rfl)
    apply Wk.bin rfl rfl (r := .bool false) (fun w => by simp [go_sem] <;> omega) (lt_of_ble rfl)
    apply Wk.mv (by conv => lhs; whnf) (lt_of_ble rfl)
    apply Wk.gon 31 rfl rfl
    apply Wk.mv (by conv => lhs; whnf) (lt_of_ble rfl)
    apply Wk.gon 31 rfl rfl
    apply Wk.bin rfl rfl (r := .bool true) (fun w => by simp [go_sem] <;> omega) (lt_of_ble rfl)
    apply Wk.pckF rfl (by conv => lhs; whnf) (lt_of_ble rfl)
    apply Wk.mv (by conv => lhs; whnf) (lt_of_ble rfl)
    apply Wk.goff 35 (ok_move _) rfl rfl (by decide)
    apply Wk.goff 35 (ok_bin _ _ _ _ _) rfl rfl (by decide)
    apply Wk.pckT rfl (by conv => lhs; whnf) (lt_of_ble rfl)
    refine Wk.nil ?_
    refine AW.cond rfl (fun _ => ?_) (fun hc => by cases hc)
    refine AW.seq ?_
    apply AW.list
    apply Wk.mv (by conv => lhs; whnf) (lt_of_ble rfl)
    apply Wk.len un25 rfl (lt_of_ble rfl)
    apply Wk.bin rfl rfl (r := .bool true) (fun w => by simp [go_sem, hno]) (lt_of_ble rfl)
    apply Wk.mv (by conv => lhs; whnf) (lt_of_ble rfl)
    apply Wk.gon 42 rfl rfl
    apply Wk.dat liok_ok Try.func12 rfl rfl rfl rfl rfl (lt_of_ble rfl)
    apply Wk.pckT rfl (by conv => lhs; whnf) (lt_of_ble rfl)
    apply Wk.asg (by conv => lhs; whnf) (lt_of_ble rfl)
    refine Wk.nil (AW.ret ?_)
    refine thenA_ret ?_
    exact RetQ.ret [] (.cons rfl .nil) ⟨rfl, rfl⟩ none_kept
  by_cases q3 : 8 < m
  · have hno := cut_no (zs := zs) (m := m) (by simp only [cutB, decide_eq_false_iff_not]; omega)
    apply AW.list
    apply Wk.mv (by conv => lhs; whnf) (lt_of_ble rfl)
    apply Wk.len un22 rfl (lt_of_ble rfl)
    apply Wk.bin rfl rfl (r := .bool false) (fun w => by simp [go_sem] <;> omega) (lt_of_ble rfl)
    apply Wk.mv (by conv => lhs; whnf) (lt_of_ble rfl)
    apply Wk.gon 31 rfl rfl
    apply Wk.mv (by conv => lhs; whnf) (lt_of_ble rfl)
    apply Wk.gon 31 rfl rfl
    apply Wk.bin rfl rfl (r := .bool false) (fun w => by simp [go_sem] <;> omega) (lt_of_ble rfl)
    apply Wk.pckF rfl (by conv => lhs; whnf) (lt_of_ble rfl)
    apply Wk.mv (by conv => lhs; whnf) (lt_of_ble rfl)
    apply Wk.gon 35 rfl rfl
    apply Wk.mv (by conv => lhs; whnf) (lt_of_ble rfl)
    apply Wk.gon 35 rfl rfl
    apply Wk.bin rfl rfl (r := .bool true) (fun w => by simp [go_sem] <;> omega) (lt_of_ble rfl)
    apply Wk.pckF rfl (by conv => lhs; whnf) (lt_of_ble rfl)
    refine Wk.nil ?_
    refine AW.cond rfl (fun _ => ?_) (fun hc => by cases hc)
    refine AW.seq ?_
    apply AW.list
    apply Wk.mv (by conv => lhs; whnf) (lt_of_ble rfl)
    apply Wk.len un25 rfl (lt_of_ble rfl)
    apply Wk.bin rfl rfl (r := .bool true) (fun w => by simp [go_sem, hno]) (lt_of_ble rfl)
    apply Wk.mv (by conv => lhs; whnf) (lt_of_ble rfl)
    apply Wk.gon 42 rfl rfl
    apply Wk.dat liok_ok Try.func12 rfl rfl rfl rfl rfl (lt_of_ble rfl)
    apply Wk.pckT rfl (by conv => lhs; whnf) (lt_of_ble rfl)
    apply Wk.asg (by conv => lhs; whnf) (lt_of_ble rfl)
    refine Wk.nil (AW.ret ?_)
    refine thenA_ret ?_
    exact RetQ.ret [] (.cons rfl .nil) ⟨rfl, rfl⟩ none_kept
  have hcb : cutB zs.length m = true := by simp only [cutB, decide_eq_true_eq]; omega
  apply AW.list
  apply Wk.mv (by conv => lhs; whnf) (lt_of_ble rfl)
  apply Wk.len un22 rfl (lt_of_ble rfl)
  apply Wk.bin rfl rfl (r := .bool false) (fun w => by simp [go_sem] <;> omega) (lt_of_ble rfl)
  apply Wk.mv (by conv => lhs; whnf) (lt_of_ble rfl)
  apply Wk.gon 31 rfl rfl
  apply Wk.mv (by conv => lhs; whnf) (lt_of_ble rfl)
  apply Wk.gon 31 rfl rfl
  apply Wk.bin rfl rfl (r := .bool false) (fun w => by simp [go_sem] <;> omega) (lt_of_ble rfl)
  apply Wk.pckF rfl (by conv => lhs; whnf) (lt_of_ble rfl)
  apply Wk.mv (by conv => lhs; whnf) (lt_of_ble rfl)
  apply Wk.gon 35 rfl rfl
  apply Wk.mv (by conv => lhs; whnf) (lt_of_ble rfl)
  apply Wk.gon 35 rfl rfl
  apply Wk.bin rfl rfl (r := .bool false) (fun w => by simp [go_sem] <;> omega) (lt_of_ble rfl)
  apply Wk.pckF rfl (by conv => lhs; whnf) (lt_of_ble rfl)
  refine Wk.nil ?_
  refine AW.cond rfl (fun hc => by cases hc) (fun _ => AW.skip (thenA_normal ?_))
  refine AW.seq ?_
  apply AW.list
  apply Wk.bld [.int .i64 0, .slice none 0 0] [(0, 1), (1, 1)] bl30 rfl (by conv => lhs; whnf) (lt_of_ble rfl)
  apply Wk.alc 6 [.int .i64 0, .slice none 0 0] ze30 rfl rfl (lt_of_ble rfl)
  apply Wk.sto (i := 6) 2 true ty30 rfl rfl rfl rfl (Nat.le_of_ble_eq_true rfl) (lt_of_ble rfl)
  refine Wk.nil ?_
  refine AW.nrmb (j := 6) rfl ?_
  refine AW.seq (AW.seq ?_)
  apply AW.list
  apply Wk.asg (by conv => lhs; whnf) (lt_of_ble rfl)
  refine Wk.nil (AW.block ?_)
  refine AW.loop (fun x : Nat × Int × List Nat => St.of 113 [(3, .d (bytesD zs)), (4, .d (.v (.int .i64 m))), (5, .d (partsD (cutD zs m))), (6, .ptr 6 0), (7, .d (.v (.int .i64 ((x.1 : Nat) : Int))))] [(6, .var [.d (.v (.int .i64 x.2.1)), .d (bytesD x.2.2)])]) (fun x => x.1 ≤ (cutD zs m).length ∧ Cut zs m x.1 x.2.1 x.2.2) (fun x => (cutD zs m).length - x.1) (0, 0, []) ⟨Nat.zero_le _, Cut.zero zs m⟩ ?_ ?_
  · exact fun a w => Rel.keep ⟨rfl, .cons rfl rfl (.cons rfl rfl (.cons rfl rfl (.cons rfl rfl (.cons rfl rfl .nil)))), .cons rfl rfl .nil, hN.mono (by simp [keys])⟩
  rintro ⟨k, j, acc⟩ ⟨hk, hcut⟩
  simp only at hk hcut
  show AW Try.prog C _ _ (St.of 113 [(3, .d (bytesD zs)), (4, .d (.v (.int .i64 m))), (5, .d (partsD (cutD zs m))), (6, .ptr 6 0), (7, .d (.v (.int .i64 ((k : Nat) : Int))))] [(6, .var [.d (.v (.int .i64 j)), .d (bytesD acc)])])
  refine AW.seq (AW.seq ?_)
  apply AW.list
  apply Wk.mv (by conv => lhs; whnf) (lt_of_ble rfl)
  apply Wk.mv (by conv => lhs; whnf) (lt_of_ble rfl)
  apply Wk.len un25 rfl (lt_of_ble rfl)
  apply Wk.bin rfl rfl (fun w => by simp [go_sem] <;> rfl) (lt_of_ble rfl)
  refine Wk.nil ?_
  refine AW.cond rfl (fun hc => ?_) (fun hc => ?_)
  · have hlt : k < (cutD zs m).length := by simpa using hc
    obtain ⟨d, hd, hpb, hdm, hnext, hmore, hlast, _, _⟩ := hcut.step hcb hlt
    obtain ⟨hj, hja, hjb⟩ := hcut.join hcb
    have hds := cutD_small zs m hby d (List.mem_of_getElem? hd)
    have hget : ((cutD zs m).map datD)[k]? = some (datD d) := by simp [hd]
    have hlen : ((cutD zs m).map datD).length = (cutD zs m).length := by simp
    have hklt : k < ((cutD zs m).map datD).length := by rw [hlen]; exact hlt
    have hcl : 1 ≤ (cutD zs m).length ∧ (cutD zs m).length ≤ 40 := by
      obtain ⟨x1, x2, x3⟩ := cut_yes hcb
      have hq := Nat.div_le_self (zs.length + m.toNat - 1) m.toNat
      rw [cut_length hcb]
      generalize (zs.length + m.toNat - 1) / m.toNat = q at hq ⊢
      omega
    have hput := iputN_ok j acc d (hjb hby) hds.1 (by omega) (by omega)
    refine AW.skip ?_
    repeat (first | refine thenA_normal ?_ | refine inBlockA_normal ?_)
    refine AW.seq (AW.block (AW.seq ?_))
    apply AW.draw (hm := hmix) (cs := _)
    · apply Wk.ld (i := 6) 2 true ty30 rfl rfl (by conv => lhs; whnf) (lt_of_ble rfl)
      apply Wk.mv (by conv => lhs; whnf) (lt_of_ble rfl)
      apply Wk.mv (by conv => lhs; whnf) (lt_of_ble rfl)
      apply Wk.iad 3 true un25 ty34 rfl rfl hklt (datD_len _) (lt_of_ble rfl)
      apply Wk.ldr 3 true ty34 rfl hget (by conv => lhs; whnf) (lt_of_ble rfl)
      apply Wk.dat hput Try.func13 rfl rfl rfl rfl rfl (lt_of_ble rfl)
      apply Wk.mv (by conv => lhs; whnf) (lt_of_ble rfl)
      apply Wk.ext rfl rfl (lt_of_ble rfl)
      apply Wk.ext rfl rfl (lt_of_ble rfl)
      apply Wk.ext rfl rfl (lt_of_ble rfl)
      apply Wk.alc 8 [.int .i64 0, .slice none 0 0] ze30 rfl rfl (lt_of_ble rfl)
      apply Wk.sto (i := 8) 2 true ty30 rfl rfl rfl rfl (Nat.le_of_ble_eq_true rfl) (lt_of_ble rfl)
      apply Wk.asg (by conv => lhs; whnf) (lt_of_ble rfl)
      apply Wk.asg (by conv => lhs; whnf) (lt_of_ble rfl)
      refine Wk.nil ?_
      refine AW.seq (AW.seq ?_)
      apply AW.list
      apply Wk.mv (by conv => lhs; whnf) (lt_of_ble rfl)
      apply Wk.mv (by conv => lhs; whnf) (lt_of_ble rfl)
      apply Wk.iad 3 true un25 ty34 rfl rfl hklt (datD_len _) (lt_of_ble rfl)
      apply Wk.ldr 3 true ty34 rfl hget (by conv => lhs; whnf) (lt_of_ble rfl)
      apply Wk.dat (ipartb d hpb) Try.func14 rfl rfl rfl rfl rfl (lt_of_ble rfl)
      apply Wk.un rfl (fun w => by simp [go_sem] <;> rfl) (lt_of_ble rfl)
      apply Wk.mv (by conv => lhs; whnf) (lt_of_ble rfl)
      apply Wk.gon 68 rfl rfl
      apply Wk.mv (by conv => lhs; whnf) (lt_of_ble rfl)
      apply Wk.gon 68 rfl rfl
      apply Wk.mv (by conv => lhs; whnf) (lt_of_ble rfl)
      apply Wk.gon 68 rfl rfl
      apply Wk.iad 3 true un25 ty34 rfl rfl hklt (datD_len _) (lt_of_ble rfl)
      apply Wk.gon 68 rfl rfl
      apply Wk.fad 2 0 false fd34_2 rfl (lt_of_ble rfl)
      apply Wk.gon 68 rfl rfl
      apply Wk.ldr 1 false ty22 rfl hget (by conv => lhs; whnf) (lt_of_ble rfl)
      apply Wk.gon 68 rfl rfl
      apply Wk.len un22 rfl (lt_of_ble rfl)
      apply Wk.gon 68 rfl rfl
      apply Wk.mv (by conv => lhs; whnf) (lt_of_ble rfl)
      apply Wk.gon 68 rfl rfl
      apply Wk.bin rfl rfl (r := .bool false) (fun w => by simp [go_sem] <;> omega) (lt_of_ble rfl)
      apply Wk.pckF rfl (by conv => lhs; whnf) (lt_of_ble rfl)
      refine Wk.nil ?_
      refine AW.cond rfl (fun hc => by cases hc) (fun _ => AW.skip (thenA_normal ?_))
      refine AW.seq (AW.seq ?_)
      by_cases hk1 : k + 1 < (cutD zs m).length
      · apply AW.list
        apply Wk.mv (by conv => lhs; whnf) (lt_of_ble rfl)
        apply Wk.mv (by conv => lhs; whnf) (lt_of_ble rfl)
        apply Wk.len un25 rfl (lt_of_ble rfl)
        apply Wk.subi rfl rfl (by simp <;> omega) (lt_of_ble rfl)
        apply Wk.bin rfl rfl (r := .bool true) (fun w => by simp [go_sem] <;> omega) (lt_of_ble rfl)
        apply Wk.mv (by conv => lhs; whnf) (lt_of_ble rfl)
        apply Wk.gon 83 rfl rfl
        apply Wk.mv (by conv => lhs; whnf) (lt_of_ble rfl)
        apply Wk.gon 83 rfl rfl
        apply Wk.bin rfl rfl (r := .bool false) (fun w => by simp [go_sem, (hmore hk1).1]) (lt_of_ble rfl)
        apply Wk.pckT rfl (by conv => lhs; whnf) (lt_of_ble rfl)
        apply Wk.mv (by conv => lhs; whnf) (lt_of_ble rfl)
        apply Wk.gon 87 rfl rfl
        apply Wk.mv (by conv => lhs; whnf) (lt_of_ble rfl)
        apply Wk.gon 87 rfl rfl
        apply Wk.mv (by conv => lhs; whnf) (lt_of_ble rfl)
        apply Wk.gon 87 rfl rfl
        apply Wk.len un25 rfl (lt_of_ble rfl)
        apply Wk.gon 87 rfl rfl
        apply Wk.subi rfl rfl (by simp <;> omega) (lt_of_ble rfl)
        apply Wk.gon 87 rfl rfl
        apply Wk.bin rfl rfl (r := .bool false) (fun w => by simp [go_sem] <;> omega) (lt_of_ble rfl)
        apply Wk.gon 87 rfl rfl
        apply Wk.mv (by conv => lhs; whnf) (lt_of_ble rfl)
        apply Wk.goff 93 (ok_move _) rfl rfl (by simp)
        apply Wk.goff 93 (ok_bin _ _ _ _ _) rfl rfl (by simp)
        apply Wk.goff 93 (ok_move _) rfl rfl (by simp)
        apply Wk.goffu 96 (ok_move _) rfl rfl
        apply Wk.goffu 96 (ok_move _) rfl rfl
        apply Wk.goffu 96 (ok_datw ((liBytesE zs).w rfl) Try.func15 rfl rfl) rfl rfl
        apply Wk.goffu 96 (ok_un _ _ _) rfl rfl
        apply Wk.goff 93 (ok_pick _ _ _) rfl rfl (by simp)
        apply Wk.gon 87 rfl rfl
        apply Wk.pckF rfl (by conv => lhs; whnf) (lt_of_ble rfl)
        apply Wk.pckF rfl (by conv => lhs; whnf) (lt_of_ble rfl)
        refine Wk.nil ?_
        refine AW.cond rfl (fun hc => by cases hc) (fun _ => AW.skip (thenA_normal ?_))
        apply AW.list
        apply Wk.ld (i := 8) 2 true ty30 rfl rfl (by conv => lhs; whnf) (lt_of_ble rfl)
        apply Wk.sto (i := 6) 2 true ty30 rfl rfl rfl rfl (Nat.le_of_ble_eq_true rfl) (lt_of_ble rfl)
        refine Wk.nil ?_
        repeat (first | refine thenA_normal ?_ | refine inBlockA_normal ?_)
        apply AW.list
        apply Wk.mv (by conv => lhs; whnf) (lt_of_ble rfl)
        apply Wk.addi rfl rfl (by omega) (lt_of_ble rfl)
        apply Wk.asg (by conv => lhs; whnf) (lt_of_ble rfl)
        refine Wk.nil ?_
        refine ⟨(k + 1, stN j acc d, stG j acc d), ⟨by simp only; omega, hnext⟩, by simp only; omega, ?_⟩
        exact fun a w => Rel.keep ⟨rfl, .cons rfl rfl (.cons rfl rfl (.cons rfl rfl (.cons rfl rfl (.cons rfl rfl .nil)))), .cons rfl rfl .nil, hN.mono (by simp [keys])⟩
      · have hk2 : k + 1 = (cutD zs m).length := by omega
        apply AW.list
        apply Wk.mv (by conv => lhs; whnf) (lt_of_ble rfl)
        apply Wk.mv (by conv => lhs; whnf) (lt_of_ble rfl)
        apply Wk.len un25 rfl (lt_of_ble rfl)
        apply Wk.subi rfl rfl (by simp <;> omega) (lt_of_ble rfl)
        apply Wk.bin rfl rfl (r := .bool false) (fun w => by simp [go_sem] <;> omega) (lt_of_ble rfl)
        apply Wk.mv (by conv => lhs; whnf) (lt_of_ble rfl)
        apply Wk.goff 83 (ok_move _) rfl rfl (by simp)
        apply Wk.goff 83 (ok_bin _ _ _ _ _) rfl rfl (by simp)
        apply Wk.pckF rfl (by conv => lhs; whnf) (lt_of_ble rfl)
        apply Wk.mv (by conv => lhs; whnf) (lt_of_ble rfl)
        apply Wk.gon 87 rfl rfl
        apply Wk.mv (by conv => lhs; whnf) (lt_of_ble rfl)
        apply Wk.gon 87 rfl rfl
        apply Wk.mv (by conv => lhs; whnf) (lt_of_ble rfl)
        apply Wk.gon 87 rfl rfl
        apply Wk.len un25 rfl (lt_of_ble rfl)
        apply Wk.gon 87 rfl rfl
        apply Wk.subi rfl rfl (by simp <;> omega) (lt_of_ble rfl)
        apply Wk.gon 87 rfl rfl
        apply Wk.bin rfl rfl (r := .bool true) (fun w => by simp [go_sem] <;> omega) (lt_of_ble rfl)
        apply Wk.gon 87 rfl rfl
        apply Wk.mv (by conv => lhs; whnf) (lt_of_ble rfl)
        apply Wk.gon 93 rfl rfl
        apply Wk.mv (by conv => lhs; whnf) (lt_of_ble rfl)
        apply Wk.gon 93 rfl rfl
        apply Wk.bin rfl rfl (r := .bool false) (fun w => by simp [go_sem, (hlast hk2).1]) (lt_of_ble rfl)
        apply Wk.gon 93 rfl rfl
        apply Wk.mv (by conv => lhs; whnf) (lt_of_ble rfl)
        apply Wk.gon 96 rfl rfl
        apply Wk.mv (by conv => lhs; whnf) (lt_of_ble rfl)
        apply Wk.gon 96 rfl rfl
        apply Wk.mv (by conv => lhs; whnf) (lt_of_ble rfl)
        apply Wk.gon 96 rfl rfl
        apply Wk.dat (liBytesEq (hlast hk2).2) Try.func15 rfl rfl rfl rfl rfl (lt_of_ble rfl)
        apply Wk.gon 96 rfl rfl
        apply Wk.un rfl (fun w => by simp [go_sem] <;> rfl) (lt_of_ble rfl)
        apply Wk.gon 93 rfl rfl
        apply Wk.pckF rfl (by conv => lhs; whnf) (lt_of_ble rfl)
        apply Wk.gon 87 rfl rfl
        apply Wk.pckT rfl (by conv => lhs; whnf) (lt_of_ble rfl)
        apply Wk.pckF rfl (by conv => lhs; whnf) (lt_of_ble rfl)
        refine Wk.nil ?_
        refine AW.cond rfl (fun hc => by cases hc) (fun _ => AW.skip (thenA_normal ?_))
        apply AW.list
        apply Wk.ld (i := 8) 2 true ty30 rfl rfl (by conv => lhs; whnf) (lt_of_ble rfl)
        apply Wk.sto (i := 6) 2 true ty30 rfl rfl rfl rfl (Nat.le_of_ble_eq_true rfl) (lt_of_ble rfl)
        refine Wk.nil ?_
        repeat (first | refine thenA_normal ?_ | refine inBlockA_normal ?_)
        apply AW.list
        apply Wk.mv (by conv => lhs; whnf) (lt_of_ble rfl)
        apply Wk.addi rfl rfl (by omega) (lt_of_ble rfl)
        apply Wk.asg (by conv => lhs; whnf) (lt_of_ble rfl)
        refine Wk.nil ?_
        refine ⟨(k + 1, stN j acc d, stG j acc d), ⟨by simp only; omega, hnext⟩, by simp only; omega, ?_⟩
        exact fun a w => Rel.keep ⟨rfl, .cons rfl rfl (.cons rfl rfl (.cons rfl rfl (.cons rfl rfl (.cons rfl rfl .nil)))), .cons rfl rfl .nil, hN.mono (by simp [keys])⟩
    · rfl
    · rfl
  · have hke : k = (cutD zs m).length := by simp at hc; omega
    subst hke
    obtain ⟨rfl, rfl⟩ := hcut.last
    have hcl : 1 ≤ (cutD zs m).length ∧ (cutD zs m).length ≤ 40 := by
      obtain ⟨x1, x2, x3⟩ := cut_yes hcb
      have hq := Nat.div_le_self (zs.length + m.toNat - 1) m.toNat
      rw [cut_length hcb]
      generalize (zs.length + m.toNat - 1) / m.toNat = q at hq ⊢
      omega
    refine AW.exit ?_
    repeat (first | refine inBlockA_same ?_ | refine thenA_exit ?_)
    repeat (first | refine thenA_normal ?_ | refine inBlockA_normal ?_)
    refine AW.seq ?_
    apply AW.list
    apply Wk.mv (by conv => lhs; whnf) (lt_of_ble rfl)
    apply Wk.len un25 rfl (lt_of_ble rfl)
    apply Wk.bin rfl rfl (r := .bool true) (fun w => by simp [go_sem] <;> omega) (lt_of_ble rfl)
    apply Wk.mv (by conv => lhs; whnf) (lt_of_ble rfl)
    apply Wk.gon 108 rfl rfl
    apply Wk.ld (i := 6) 2 true ty30 rfl rfl (by conv => lhs; whnf) (lt_of_ble rfl)
    apply Wk.gon 108 rfl rfl
    apply Wk.bld [.int .i64 0, .slice none 0 0] [(0, 1), (1, 1)] bl30 rfl (by conv => lhs; whnf) (lt_of_ble rfl)
    apply Wk.gon 108 rfl rfl
    apply Wk.dat (liJoinN 0 []) Try.func16 rfl rfl rfl rfl rfl (lt_of_ble rfl)
    apply Wk.pckT rfl (by conv => lhs; whnf) (lt_of_ble rfl)
    apply Wk.asg (by conv => lhs; whnf) (lt_of_ble rfl)
    refine Wk.nil (AW.ret ?_)
    repeat (first | refine thenA_ret ?_ | refine inBlockA_ret ?_)
    exact RetQ.ret [] (.cons rfl .nil) ⟨rfl, rfl⟩ none_kept
namespace fnSegCut
set_option maxRecDepth 100000 in
theorem walk (a0 : Option Addr) (len0 cap0 : Nat) (z0 : List Int) (w : World) (w0 : IsRow .u8 w a0 len0 cap0 z0) :
    Calls Try.prog 3 #[.slice a0 len0 cap0] w fun e w' => e = .returned (.bool true) ∧ Below w.heap.size w w' := by
  by_cases hs0 : (1048576 : Int) < (len0 : Int)
  · go_enter Try.func3, Try.ntmps3
    go_wp2
    go_ret
    exact ⟨rfl, Below.refl _ _⟩
  obtain ⟨cz, hR0, _⟩ := w0.rd (by omega)
  obtain ⟨zs, rfl⟩ := byt_fin hR0.1
  exact (lawSegCut_ok zs).run hR0
end fnSegCut
end Go.Proofs.Ytpghbdigiplbiaa
