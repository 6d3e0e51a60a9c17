/- What the exact laws do with frames: a comparison. -/
import Derived.Test.YtfeaagjnfncdnaaDoorXBytes
import Derived.Test.YtfeaagjnfncdnaaDoorFrmMath
import Derived.Test.YtfeaagjnfncdnaaDoorOwnMore
import Derived.Deep.Light
namespace Go.Proofs.YtfeaagjnfncdnaaDoor
open Go.RowKit

set_option maxHeartbeats 2000000 in
theorem eqFrame_same (kind seq ack : Int) (poll final : Bool) (say seg len : Int) (s t : Value) (zs : List Nat) (w : World) (hs : Rd w s zs) (ht : Rd w t zs) :
    Calls Tryd.prog 7 #[.agg #[.int .i64 kind, .int .i64 seq, .int .i64 ack, .bool poll, .bool final, .int .i64 say, .int .i64 seg, .int .i64 len, s], .agg #[.int .i64 kind, .int .i64 seq, .int .i64 ack, .bool poll, .bool final, .int .i64 say, .int .i64 seg, .int .i64 len, t]] w fun e w' => e = .returned (.bool true) ∧ Below w.heap.size w w' := by
  obtain ⟨a, cap, rfl⟩ := hs.form
  obtain ⟨a', cap', rfl⟩ := ht.form
  have B0 := fun (o1 o2 : Obj) => ((Below.refl w.heap.size w).alloc (Nat.le_refl _) o1).alloc (by simp) o2
  have hs2 := fun (o1 o2 : Obj) => hs.kept (B0 o1 o2)
  have ht2 := fun (o1 o2 : Obj) => ht.kept (B0 o1 o2)
  go_enter Tryd.func7, Tryd.ntmps7
  go_wp2_with (go_at_call 8; refine (eqBytes_b _ _ zs _ (hs2 _ _) (ht2 _ _)).mono ?_; rintro e w1 ⟨rfl, b1⟩)
  go_ret
  exact ⟨rfl, (B0 _ _).trans (b1.mono (by simp; omega))⟩
end Go.Proofs.YtfeaagjnfncdnaaDoor
