/- What the exact laws do with frames: a look at the marks in a frame's bytes. -/
import Derived.Test.YtfeaagjnfncdnaaDoorXBytes
import Derived.Test.YtfeaagjnfncdnaaDoorOwnMore
namespace Go.Proofs.YtfeaagjnfncdnaaDoor
open Go.RowKit
set_option maxHeartbeats 1000000 in
theorem heldFrame1 (kind seq ack : Int) (poll final : Bool) (say seg len : Int) (s : Value) (n B : Nat) (w : World) (hown : Own w B s (marks 1 n)) (hn : n ≤ 2000000) :
    Calls Tryd.prog 11 #[.agg #[.int .i64 kind, .int .i64 seq, .int .i64 ack, .bool poll, .bool final, .int .i64 say, .int .i64 seg, .int .i64 len, s], .int .i64 1] w fun e w' => e = .returned (.int .i64 (1 + (n : Int))) ∧ Below w.heap.size w w' := by
  obtain ⟨x, m, c, rfl⟩ : ∃ x n c, s = .slice x n c := by
    rcases hown.2 with ⟨h, _⟩ | ⟨g, cap, cur, h, _⟩
    · exact ⟨_, _, _, h⟩
    · exact ⟨_, _, _, h⟩
  have hneg : ¬ (1 : Int) + (n : Int) < 0 := by omega
  go_enter Tryd.func11, Tryd.ntmps11
  go_wp2_with fail
  refine (held1 _ n B _ (hown.alloc _) hn).mono ?_
  rintro e w1 ⟨rfl, b1⟩
  go_wp2
  go_ret
  exact ⟨rfl, box_below b1⟩
end Go.Proofs.YtfeaagjnfncdnaaDoor
