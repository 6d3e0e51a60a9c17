/- The law of CfgOk returns true at every argument. -/
import Derived.Test.YtgoebhbbgmjodaaXCfg
namespace Go.Proofs.Ytgoebhbbgmjodaa.fnExactCfgOk
open Go.RowKit
set_option maxHeartbeats 1000000 in
theorem walk (m n p u t : Int) (w : World) :
    Calls Try.prog 3 #[.agg #[.int .i64 m, .int .i64 n, .int .i64 p, .int .i64 u, .int .i64 t]] w fun e w' => e = .returned (.bool true) ∧ Below w.heap.size w w' := by
  obtain ⟨w0, e0, B1, b0, hs⟩ := bo1 w #[.int .i64 m, .int .i64 n, .int .i64 p, .int .i64 u, .int .i64 t] 23
  have k1 := B1.k
  go_enter Try.func3, Try.ntmps3
  go_wp2_with (first
    | (go_at_call 10; refine (toCfg_v _ _ _ _ _ _).mono ?_; rintro e w' ⟨rfl, bb⟩; clear k1; (try clear e0); replace b0 := bchain b0 bb; replace B1 := B1.kept bb; clear bb; have k1 := B1.k)
    | (go_at_call 9; refine (spec_cfg_v _ _ _ _ _ _).mono ?_; rintro e w' ⟨rfl, bb⟩; clear k1; replace b0 := bchain b0 bb; replace B1 := B1.kept bb; clear bb; have k1 := B1.k)
    | (go_at_call 11; refine (impl_cfg_v _ _ _ _ _ _).mono ?_; rintro e w' ⟨rfl, bb⟩; clear k1; replace b0 := bchain b0 bb; replace B1 := B1.kept bb; clear bb; have k1 := B1.k))
  go_ret
  exact ⟨rfl, b0⟩
end Go.Proofs.Ytgoebhbbgmjodaa.fnExactCfgOk
