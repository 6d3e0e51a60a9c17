/- What the laws ask at the end of a way: it is so. -/
import Derived.Test.YteaamhjacjgacaaCfg
namespace Go.Proofs.Yteaamhjacjgacaa
open Go.RowKit
theorem li_ok (w : World) :
    Calls Try.prog 9 #[] w fun e w' => e = .returned (.bool true) ∧ Below w.heap.size w w' := by
  go_enter Try.func9, Try.ntmps9
  go_wp2_with (go_at_call 20; refine (impl_cfg_v _ _ _ _ _ _).mono ?_; rintro e w' ⟨rfl, b1⟩)
  go_ret
  exact ⟨rfl, b1⟩
end Go.Proofs.Yteaamhjacjgacaa
