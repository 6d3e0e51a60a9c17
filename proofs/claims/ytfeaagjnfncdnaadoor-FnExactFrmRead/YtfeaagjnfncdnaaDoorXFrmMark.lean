/- What the exact laws do with frames: marks in a frame's bytes. -/
import Derived.Test.YtfeaagjnfncdnaaDoorXBytes
import Derived.Test.YtfeaagjnfncdnaaDoorOwnMore
namespace Go.Proofs.YtfeaagjnfncdnaaDoor
open Go.RowKit

set_option maxHeartbeats 1000000 in
theorem markFrame1 (W : World) (B : Nat) (kind seq ack : Int) (poll final : Bool) (say seg len : Int) (s : Value) (zs : List Nat) (w : World) (hown : Own w B s zs) (hlen : zs.length ≤ 2000000) (hb : Below W.heap.size W w) (hB : W.heap.size ≤ B) :
    Calls Tryd.prog 10 #[.agg #[.int .i64 kind, .int .i64 seq, .int .i64 ack, .bool poll, .bool final, .int .i64 say, .int .i64 seg, .int .i64 len, s], .int .i64 1] w fun e w' => e = .returned (.int .i64 (1 + (zs.length : Int))) ∧ Own w' B s (marks 1 zs.length) ∧ w.grownBy w' s.ownBlock ∧ Below W.heap.size W w' := by
  obtain ⟨x, n, c, rfl⟩ : ∃ x n c, s = .slice x n c := by
    rcases hown.2 with ⟨h, _⟩ | ⟨g, cap, cur, h, _⟩
    · exact ⟨_, _, _, h⟩
    · exact ⟨_, _, _, h⟩
  have hbx := hb.alloc hb.size (.cells #[.int .i64 kind, .int .i64 seq, .int .i64 ack, .bool poll, .bool final, .int .i64 say, .int .i64 seg, .int .i64 len, .slice x n c] 24)
  go_enter Tryd.func10, Tryd.ntmps10
  go_wp2_with fail
  refine (mark1 W B _ zs _ (hown.alloc _) hlen hbx hB).mono ?_
  rintro e w1 ⟨rfl, o1, g1, b1⟩
  go_wp2
  go_ret
  refine ⟨rfl, o1, ?_, b1⟩
  exact ⟨g1.os, g1.tape, g1.output, Nat.le_trans (by simp) g1.size, fun k hk hne => (g1.block k (by simp; omega) hne).trans (((Below.refl w.heap.size w).alloc (Nat.le_refl _) _).block k hk)⟩
end Go.Proofs.YtfeaagjnfncdnaaDoor
