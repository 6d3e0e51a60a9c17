/- The law of CfgOk, promise 23, returns true at every code. -/
import Derived.Test.YtkilgnljgfmbnaaDrawOpts
import Derived.Test.YtkilgnljgfmbnaaLiOk
import Derived.RowKit3
namespace Go.Proofs.Ytkilgnljgfmbnaa.fnCfgOk
open Go.RowKit

set_option maxRecDepth 100000 in
set_option maxHeartbeats 8000000 in
theorem small (a0 : Option Addr) (len0 cap0 : Nat) (cz : List Nat) (w : World) (hs0 : ¬ (1048576 : Int) < (len0 : Int)) (hR0 : Rd w (.slice a0 len0 cap0) cz) :
    Calls Try.prog 3 #[.slice a0 len0 cap0] w fun e w' => e = .returned (.bool true) ∧ Below w.heap.size w w' := by
  go_enter Try.func3, Try.ntmps3
  go_wp2_with fail
  refine (drawCfg_any _ cz _ hR0).mono ?_
  rintro e w1 ⟨x0, x1, x2, x3, x4, rfl, hd, bl⟩
  obtain ⟨w2, e2, B1, b2, hs2⟩ := bo1 w1 #[.int .i64 x0, .int .i64 x1, .int .i64 x2, .int .i64 x3, .int .i64 x4] 24
  have k1 := B1.k
  replace bl := bchain bl b2
  clear b2 hR0
  cases ho : Opt.ok ⟨x0, x1, x2, x3, x4⟩
  · go_wp2_with (first
      | (go_at_call 11; refine (spec_cfg_v _ _ _ _ _ _).mono ?_; rintro e w' ⟨rfl, bb⟩; rw [ho]; clear k1; replace bl := bchain bl bb; replace B1 := B1.kept bb; clear bb; have k1 := B1.k)
      | (go_at_call 10; refine (impl_cfg_v _ _ _ _ _ _).mono ?_; rintro e w' ⟨rfl, bb⟩; rw [ho]; clear k1; (try clear e2); replace bl := bchain bl bb; replace B1 := B1.kept bb; clear bb; have k1 := B1.k)
      | (go_at_call 12; refine (li_ok _).mono ?_; rintro e w3 ⟨rfl, b3⟩))
    go_ret
    exact ⟨rfl, bchain bl b3⟩
  · go_wp2_with fail
    refine (impl_cfg_v _ _ _ _ _ _).mono ?_; rintro e w' ⟨rfl, bb⟩; rw [ho]; clear k1; (try clear e2); replace bl := bchain bl bb; replace B1 := B1.kept bb; clear bb; have k1 := B1.k
    go_wp2_with fail
    refine (spec_cfg_v _ _ _ _ _ _).mono ?_; rintro e w' ⟨rfl, bb⟩; rw [ho]; clear k1; replace bl := bchain bl bb; replace B1 := B1.kept bb; clear bb; have k1 := B1.k
    have hlt := B1.1
    obtain ⟨wD, eD, BA, BB, BC, BD, bD, hsD⟩ := bo4 w' #[.int .i64 x0, .int .i64 0, .int .i64 x2, .int .i64 x3, .int .i64 x4] 24 #[.int .i64 x0, .int .i64 x1, .int .i64 0, .int .i64 x3, .int .i64 x4] 24 #[.int .i64 x0, .int .i64 x1, .int .i64 x2, .int .i64 0, .int .i64 x4] 24 #[.int .i64 x0, .int .i64 x1, .int .i64 x2, .int .i64 x3, .int .i64 0] 24
    have HE : Hid (_ = wD) := eD
    clear eD
    have oA := B1.kept (bo_alloc w' (.cells #[.int .i64 x0, .int .i64 0, .int .i64 x2, .int .i64 x3, .int .i64 x4] 24))
    have oB := oA.kept (bo_alloc _ (.cells #[.int .i64 x0, .int .i64 x1, .int .i64 0, .int .i64 x3, .int .i64 x4] 24))
    have oC := oB.kept (bo_alloc _ (.cells #[.int .i64 x0, .int .i64 x1, .int .i64 x2, .int .i64 0, .int .i64 x4] 24))
    have oD := oC.kept (bo_alloc _ (.cells #[.int .i64 x0, .int .i64 x1, .int .i64 x2, .int .i64 x3, .int .i64 0] 24))
    have kD := oD.k
    have kA := oA.k
    have kB := oB.k
    have kC := oC.k
    clear oA oB oC oD
    replace B1 := B1.kept bD
    replace bl := bchain bl bD
    clear bD
    have k2 := B1.k
    have k3 := BA.k
    have k4 := BB.k
    have k5 := BC.k
    have k6 := BD.k
    go_wp2_with fail
    rw [HE.out]
    clear HE kA kB kC kD k1
    have o1 : Opt.ok ⟨x0, 1, 1, 1, 1⟩ = true := by simp [Opt.ok, inB] at ho ⊢; omega
    have o2 : Opt.ok ⟨x0, 0, x2, x3, x4⟩ = false := by simp [Opt.ok, inB]
    have o3 : Opt.ok ⟨x0, x1, 0, x3, x4⟩ = false := by simp [Opt.ok, inB]
    have o4 : Opt.ok ⟨x0, x1, x2, 0, x4⟩ = false := by simp [Opt.ok, inB]
    have o5 : Opt.ok ⟨x0, x1, x2, x3, 0⟩ = false := by simp [Opt.ok, inB]
    refine (impl_cfg_v _ _ _ _ _ _).mono ?_
    rintro e w' ⟨rfl, bb⟩; rw [o1]; clear k2 k3 k4 k5 k6; replace bl := bchain bl bb; replace B1 := B1.kept bb; replace BA := BA.kept bb; replace BB := BB.kept bb; replace BC := BC.kept bb; replace BD := BD.kept bb; clear bb; have k2 := B1.k; have k3 := BA.k; have k4 := BB.k; have k5 := BC.k; have k6 := BD.k
    go_wp2_with fail
    refine (impl_cfg_v _ _ _ _ _ _).mono ?_
    rintro e w' ⟨rfl, bb⟩; rw [o2]; clear k2 k3 k4 k5 k6; replace bl := bchain bl bb; replace B1 := B1.kept bb; replace BA := BA.kept bb; replace BB := BB.kept bb; replace BC := BC.kept bb; replace BD := BD.kept bb; clear bb; have k2 := B1.k; have k3 := BA.k; have k4 := BB.k; have k5 := BC.k; have k6 := BD.k
    go_wp2_with fail
    refine (impl_cfg_v _ _ _ _ _ _).mono ?_
    rintro e w' ⟨rfl, bb⟩; rw [o3]; clear k2 k3 k4 k5 k6; replace bl := bchain bl bb; replace B1 := B1.kept bb; replace BA := BA.kept bb; replace BB := BB.kept bb; replace BC := BC.kept bb; replace BD := BD.kept bb; clear bb; have k2 := B1.k; have k3 := BA.k; have k4 := BB.k; have k5 := BC.k; have k6 := BD.k
    go_wp2_with fail
    refine (impl_cfg_v _ _ _ _ _ _).mono ?_
    rintro e w' ⟨rfl, bb⟩; rw [o4]; clear k2 k3 k4 k5 k6; replace bl := bchain bl bb; replace B1 := B1.kept bb; replace BA := BA.kept bb; replace BB := BB.kept bb; replace BC := BC.kept bb; replace BD := BD.kept bb; clear bb; have k2 := B1.k; have k3 := BA.k; have k4 := BB.k; have k5 := BC.k; have k6 := BD.k
    go_wp2_with fail
    refine (impl_cfg_v _ _ _ _ _ _).mono ?_
    rintro e w' ⟨rfl, bb⟩; rw [o5]; clear k2 k3 k4 k5 k6; replace bl := bchain bl bb; replace B1 := B1.kept bb; replace BA := BA.kept bb; replace BB := BB.kept bb; replace BC := BC.kept bb; replace BD := BD.kept bb; clear bb; have k2 := B1.k; have k3 := BA.k; have k4 := BB.k; have k5 := BC.k; have k6 := BD.k
    go_wp2
    go_ret
    exact ⟨rfl, bl⟩
theorem walk (a0 : Option Addr) (len0 cap0 : Nat) (z0 : List Int) (w : World) (w0 : IsRow .u8 w a0 len0 cap0 z0) :
    Calls Try.prog 3 #[.slice a0 len0 cap0] w fun e w' => e = .returned (.bool true) ∧ Below w.heap.size w w' := by
  by_cases hs0 : (1048576 : Int) < (len0 : Int)
  · go_enter Try.func3, Try.ntmps3
    go_wp2
    go_ret
    exact ⟨rfl, Below.refl _ _⟩
  · obtain ⟨cz, hR0, _⟩ := w0.rd (by omega)
    exact small a0 len0 cap0 cz w hs0 hR0
end Go.Proofs.Ytkilgnljgfmbnaa.fnCfgOk
