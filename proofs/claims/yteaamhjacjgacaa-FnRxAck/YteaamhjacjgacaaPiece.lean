/- A piece by itself: when it is ok, of the program and of the specification. -/
import Derived.Test.YteaamhjacjgacaaFrmMath
import Derived.Test.YteaamhjacjgacaaOwnMore
import Derived.Deep.Light
namespace Go.Proofs.Yteaamhjacjgacaa
open Go.RowKit

set_option maxHeartbeats 1000000 in
theorem piece_any (seg len : Int) (a : Option Addr) (n cap : Nat) (w : World) :
    Calls Try.prog 50 #[.agg #[.int .i64 seg, .int .i64 len, .slice a n cap]] w fun e w' => e = .returned (.bool (pieceB seg len n)) ∧ Below w.heap.size w w' := by
  go_enter Try.func50, Try.ntmps50
  go_wp2
  all_goals
    go_ret
    refine ⟨ret_bool ?_, (Below.refl _ _).alloc (Nat.le_refl _) _⟩
    go_light
    rw [Bool.eq_iff_iff]
    simp only [pieceB, decide_eq_true_eq]
    grind
end Go.Proofs.Yteaamhjacjgacaa
