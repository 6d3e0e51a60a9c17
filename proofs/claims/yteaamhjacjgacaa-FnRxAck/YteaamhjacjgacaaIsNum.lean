/- The program's own test whether something is a number. -/
import Derived.Test.YteaamhjacjgacaaIn
import Derived.Deep.Light
namespace Go.Proofs.Yteaamhjacjgacaa
open Go.RowKit

theorem number_any (n : Int) (w : World) :
    Calls Try.prog 53 #[.int .i64 n] w fun e w' => e = .returned (.bool (inB n 0 7)) ∧ w' = w := by
  go_enter Try.func53, Try.ntmps53
  go_wp2
  all_goals
    go_ret
    refine ⟨ret_bool ?_, rfl⟩
    go_light
    rw [Bool.eq_iff_iff]
    simp only [inB_iff]
    grind
end Go.Proofs.Yteaamhjacjgacaa
