/- Opening a reader; what has come of a message, over what values read as. -/
import Derived.Test.YtpdndapegiglcaaAbsBytes
namespace Go.Proofs.Ytpdndapegiglcaa
open Go
set_option maxRecDepth 100000 in
theorem open_ok : OpenOk Try.prog 13 := by
  intro zs
  refine Spec.intro (n := 11) (rv := [.tmp 2]) Try.func13 rfl rfl rfl (by simp) fun C hN hX => ?_
  refine AW.seq ?_
  apply AW.list
  apply Wk.asg (by conv => lhs; whnf) (lt_of_ble rfl)
  refine Wk.nil ?_
  refine AW.seq (AW.seq ?_)
  apply AW.list
  apply Wk.mv (by conv => lhs; whnf) (lt_of_ble rfl)
  apply Wk.len un22 rfl (lt_of_ble rfl)
  apply Wk.bin rfl rfl (fun w => by simp [go_sem] <;> rfl) (lt_of_ble rfl)
  refine Wk.nil ?_
  have fin : ∀ (ys : List (Fin 256)) (σ : St), σ.t 2 = .ptr 0 0 → σ.b 0 = rdr ys 0 → RetQ Try.prog [.tmp 2] (fun r bs => r = .ptr 0 0 ∧ ∃ zs', bs = [(0, rdr zs' 0)]) .ret σ := by
    intro ys σ h2 hb
    exact RetQ.ret [(0, rdr ys 0)] (.cons h2 .nil) ⟨rfl, ys, rfl⟩ (kept1 hb)
  refine AW.cond rfl (fun hc => ?_) (fun hc => ?_)
  · have hl : 2000 ≤ ((zs.map (·.val)).map fun z : Nat => [D.v (.int .u8 (z : Int))]).length := by
      simp at hc ⊢
      omega
    apply AW.list
    apply Wk.mv (by conv => lhs; whnf) (lt_of_ble rfl)
    apply Wk.slc (m := 2000) (l := 0) 1 false un22 ty5 rfl (by exact if_pos ⟨by decide, Int.ofNat_le.2 hl⟩) rfl (one_bytes _) (lt_of_ble rfl)
    apply Wk.asg (by conv => lhs; whnf) (lt_of_ble rfl)
    refine Wk.nil (thenA_normal ?_)
    refine AW.seq ?_
    apply AW.list
    apply Wk.mv (by conv => lhs; whnf) (lt_of_ble rfl)
    apply Wk.bld [.slice none 0 0, .int .i64 0] [(0, 1), (1, 1)] bl61 rfl (by conv => lhs; whnf) (lt_of_ble rfl)
    apply Wk.bx 0 rfl rfl (lt_of_ble rfl)
    apply Wk.asg (by conv => lhs; whnf) (lt_of_ble rfl)
    refine Wk.nil (AW.ret ?_)
    refine fin (zs.take 2000) _ rfl ?_
    simp [rdr, bytesD, List.map_take, St.put, upd, setA]
  · refine AW.skip (thenA_normal ?_)
    refine AW.seq ?_
    apply AW.list
    apply Wk.mv (by conv => lhs; whnf) (lt_of_ble rfl)
    apply Wk.bld [.slice none 0 0, .int .i64 0] [(0, 1), (1, 1)] bl61 rfl (by conv => lhs; whnf) (lt_of_ble rfl)
    apply Wk.bx 0 rfl rfl (lt_of_ble rfl)
    apply Wk.asg (by conv => lhs; whnf) (lt_of_ble rfl)
    refine Wk.nil (AW.ret ?_)
    exact fin zs _ rfl rfl
end Go.Proofs.Ytpdndapegiglcaa
