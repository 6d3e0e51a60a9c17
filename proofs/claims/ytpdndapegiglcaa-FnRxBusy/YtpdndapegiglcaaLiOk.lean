/- What the laws ask at the end of a way: it is so. -/
import Derived.Test.YtpdndapegiglcaaCfg
namespace Go.Proofs.Ytpdndapegiglcaa
open Go.RowKit
theorem li_ok (w : World) :
    Calls Try.prog 10 #[] w fun e w' => e = .returned (.bool true) ∧ Below w.heap.size w w' := by
  go_enter Try.func10, Try.ntmps10
  go_wp2_with (go_at_call 25; refine (impl_cfg_v _ _ _ _ _ _).mono ?_; rintro e w' ⟨rfl, b1⟩)
  go_ret
  exact ⟨rfl, b1⟩
end Go.Proofs.Ytpdndapegiglcaa
