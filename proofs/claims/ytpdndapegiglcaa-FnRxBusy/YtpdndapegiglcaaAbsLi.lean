/- The laws' own comparisons, over what values read as. -/
import Derived.Test.YtpdndapegiglcaaAbsDraw
import Derived.Test.YtpdndapegiglcaaAbsTy
namespace Go.Proofs.Ytpdndapegiglcaa
open Go

theorem liBytes_ok (zs ys : List Nat) : DataOk Try.prog 29 [.d (bytesD zs), .d (bytesD ys)] (.d (.v (.bool (decide (zs = ys))))) := by
  refine Spec.intro (n := 26) (rv := [.tmp 4]) Try.func29 rfl rfl rfl (by simp) fun C hN hX => ?_
  refine AW.bound (x := .tmp 0) rfl fun hb => ?_
  simp only [List.length_map] at hb
  refine AW.seq ?_
  apply AW.list
  apply Wk.asg (by conv => lhs; whnf) (lt_of_ble rfl)
  refine Wk.nil ?_
  refine AW.seq (AW.seq ?_)
  apply AW.list
  apply Wk.mv (by conv => lhs; whnf) (lt_of_ble rfl)
  apply Wk.len Try.underlying22 rfl (lt_of_ble rfl)
  apply Wk.mv (by conv => lhs; whnf) (lt_of_ble rfl)
  apply Wk.len Try.underlying22 rfl (lt_of_ble rfl)
  apply Wk.bin rfl rfl (fun w => by simp [go_sem]; rfl) (lt_of_ble rfl)
  refine Wk.nil ?_
  refine AW.cond rfl (fun h => ?_) (fun h => ?_)
  · refine AW.seq ?_
    apply AW.list
    apply Wk.asg (by conv => lhs; whnf) (lt_of_ble rfl)
    refine Wk.nil (AW.ret ?_)
    repeat (first | refine thenA_ret ?_ | refine inBlockA_ret ?_)
    refine RetQ.ret [] (.cons rfl .nil) ⟨?_, rfl⟩ none_kept
    simp only [bne_iff_ne, ne_eq, Int.natCast_inj] at h
    have : ¬ zs = ys := fun e => h (by rw [e])
    simp only [this, decide_false]
    rfl
  · simp only [bne_eq_false_iff_eq, Int.natCast_inj] at h
    refine AW.skip (thenA_normal ?_)
    refine AW.seq (AW.seq ?_)
    apply AW.list
    apply Wk.asg (by conv => lhs; whnf) (lt_of_ble rfl)
    refine Wk.nil (AW.block ?_)
    refine AW.loop (fun k => St.of 26 [(0, .d (bytesD zs)), (1, .d (bytesD ys)), (5, .d (.v (.int .i64 (k : Nat))))] []) (fun k => k ≤ zs.length ∧ ∀ j, j < k → zs.getD j 0 = ys.getD j 0) (fun k => zs.length - k) 0 ⟨Nat.zero_le _, fun j hj => by omega⟩ ?_ (fun k hk => ?_)
    · exact fun a w => Rel.keep ⟨rfl, .cons rfl rfl (.cons rfl rfl (.cons rfl rfl .nil)), .nil, hN⟩
    refine AW.seq (AW.seq ?_)
    apply AW.list
    apply Wk.mv (by conv => lhs; whnf) (lt_of_ble rfl)
    apply Wk.mv (by conv => lhs; whnf) (lt_of_ble rfl)
    apply Wk.len Try.underlying22 rfl (lt_of_ble rfl)
    apply Wk.bin rfl rfl (fun w => by simp [go_sem]; rfl) (lt_of_ble rfl)
    refine Wk.nil ?_
    refine AW.cond rfl (fun hc => ?_) (fun hc => ?_)
    · refine AW.skip ?_
      repeat (first | refine thenA_normal ?_ | refine inBlockA_normal ?_)
      have hlt : k < zs.length := by simpa using hc
      refine AW.seq (AW.block (AW.seq ?_))
      apply AW.draw (hm := hmix) (cs := _)
      · apply Wk.mv (by conv => lhs; whnf) (lt_of_ble rfl)
        apply Wk.mv (by conv => lhs; whnf) (lt_of_ble rfl)
        apply Wk.iad 1 false Try.underlying22 ty5 rfl rfl (by simpa using hlt) (one_bytes _) (lt_of_ble rfl)
        apply Wk.ldr 1 false ty5 rfl (bytes_get zs k hlt) rfl (lt_of_ble rfl)
        apply Wk.mv (by conv => lhs; whnf) (lt_of_ble rfl)
        apply Wk.mv (by conv => lhs; whnf) (lt_of_ble rfl)
        apply Wk.iad 1 false Try.underlying22 ty5 rfl rfl (by simp; omega) (one_bytes _) (lt_of_ble rfl)
        apply Wk.ldr 1 false ty5 rfl (bytes_get ys k (by omega)) rfl (lt_of_ble rfl)
        apply Wk.bin rfl rfl (fun w => by simp [go_sem]; rfl) (lt_of_ble rfl)
        refine Wk.nil ?_
        refine AW.cond rfl (fun hn => ?_) (fun hn => ?_)
        · refine AW.seq ?_
          apply AW.list
          apply Wk.asg (by conv => lhs; whnf) (lt_of_ble rfl)
          refine Wk.nil (AW.ret ?_)
          repeat (first | refine thenA_ret ?_ | refine inBlockA_ret ?_)
          refine RetQ.ret [] (.cons rfl .nil) ⟨?_, rfl⟩ none_kept
          have : ¬ zs = ys := fun e => by simp [e] at hn
          simp only [this, decide_false]
          rfl
        · refine AW.skip ?_
          repeat (first | refine thenA_normal ?_ | refine inBlockA_normal ?_)
          apply AW.list
          apply Wk.mv (by conv => lhs; whnf) (lt_of_ble rfl)
          apply Wk.addi rfl rfl (by omega) (lt_of_ble rfl)
          apply Wk.asg (by conv => lhs; whnf) (lt_of_ble rfl)
          refine Wk.nil ?_
          refine ⟨k + 1, ⟨by omega, fun j hj => ?_⟩, by omega, fun a w => Rel.keep ⟨rfl, .cons rfl rfl (.cons rfl rfl (.cons rfl rfl .nil)), .nil, hN⟩⟩
          by_cases e : j = k
          · subst e
            simp only [bne_eq_false_iff_eq, Int.natCast_inj] at hn
            exact hn
          · exact hk.2 j (by omega)
      · rfl
      · rfl
    · refine AW.exit ?_
      repeat (first | refine inBlockA_same ?_ | refine thenA_exit ?_)
      repeat (first | refine thenA_normal ?_ | refine inBlockA_normal ?_)
      refine AW.seq ?_
      apply AW.list
      apply Wk.asg (by conv => lhs; whnf) (lt_of_ble rfl)
      refine Wk.nil (AW.ret ?_)
      repeat (first | refine thenA_ret ?_ | refine inBlockA_ret ?_)
      refine RetQ.ret [] (.cons rfl .nil) ⟨?_, rfl⟩ none_kept
      have : zs = ys := List.ext_getElem h fun j h1 h2 => by
        have := hk.2 j (by simp at hc; omega)
        simpa [List.getD_eq_getElem?_getD, h1, h2] using this
      simp only [this, decide_true]
      rfl
end Go.Proofs.Ytpdndapegiglcaa
