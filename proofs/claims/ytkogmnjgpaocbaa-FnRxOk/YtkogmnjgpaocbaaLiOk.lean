/- What the laws ask at the end of a way: it is so. -/
import Derived.Test.YtkogmnjgpaocbaaCfg
namespace Go.Proofs.Ytkogmnjgpaocbaa
open Go.RowKit
theorem li_ok (w : World) :
    Calls Try.prog 16 #[] w fun e w' => e = .returned (.bool true) ∧ Below w.heap.size w w' := by
  go_enter Try.func16, Try.ntmps16
  go_wp2_with (go_at_call 59; refine (impl_cfg_v _ _ _ _ _ _).mono ?_; rintro e w' ⟨rfl, b1⟩)
  go_ret
  exact ⟨rfl, b1⟩
end Go.Proofs.Ytkogmnjgpaocbaa
