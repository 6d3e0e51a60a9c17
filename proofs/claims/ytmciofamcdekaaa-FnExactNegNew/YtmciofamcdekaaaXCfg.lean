/- What the exact laws do with what one wants: a copy, a comparison. -/
import Derived.Test.YtmciofamcdekaaaCfg
namespace Go.Proofs.Ytmciofamcdekaaa
open Go.RowKit

set_option maxHeartbeats 1000000 in
theorem toCfg_v (m n p u t : Int) (w : World) :
    Calls Try.prog 16 #[.agg #[.int .i64 m, .int .i64 n, .int .i64 p, .int .i64 u, .int .i64 t]] w fun e w' => e = .returned (.agg #[.int .i64 m, .int .i64 n, .int .i64 p, .int .i64 u, .int .i64 t]) ∧ Below w.heap.size w w' := by
  go_enter Try.func16, Try.ntmps16
  go_wp2
  go_returns
  exact ⟨rfl, (((Below.refl _ _).alloc (Nat.le_refl _) _).alloc (by simp) _).alloc (by simp; omega) _⟩
set_option maxHeartbeats 1000000 in
theorem eqCfg_v (m n p u t : Int) (w : World) :
    Calls Try.prog 41 #[.agg #[.int .i64 m, .int .i64 n, .int .i64 p, .int .i64 u, .int .i64 t], .agg #[.int .i64 m, .int .i64 n, .int .i64 p, .int .i64 u, .int .i64 t]] w fun e w' => e = .returned (.bool true) ∧ Below w.heap.size w w' := by
  go_enter Try.func41, Try.ntmps41
  go_wp2
  go_ret
  exact ⟨rfl, ((Below.refl _ _).alloc (Nat.le_refl _) _).alloc (by simp) _⟩
end Go.Proofs.Ytmciofamcdekaaa
