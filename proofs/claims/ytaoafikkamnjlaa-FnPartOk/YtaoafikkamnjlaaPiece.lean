/- A piece by itself: when it is ok, of the program and of the specification. -/
import Derived.Test.YtaoafikkamnjlaaFrmMath
import Derived.Test.YtaoafikkamnjlaaOwnMore
import Derived.Deep.Light
namespace Go.Proofs.Ytaoafikkamnjlaa
open Go.RowKit

set_option maxHeartbeats 1000000 in
theorem piece_any (seg len : Int) (a : Option Addr) (n cap : Nat) (w : World) :
    Calls Try.prog 72 #[.agg #[.int .i64 seg, .int .i64 len, .slice a n cap]] w fun e w' => e = .returned (.bool (pieceB seg len n)) ∧ Below w.heap.size w w' := by
  go_enter Try.func72, Try.ntmps72
  go_wp2
  all_goals
    go_ret
    refine ⟨ret_bool ?_, (Below.refl _ _).alloc (Nat.le_refl _) _⟩
    go_light
    rw [Bool.eq_iff_iff]
    simp only [pieceB, decide_eq_true_eq]
    grind
set_option maxHeartbeats 2000000 in
theorem spec_seg (kind seq ack : Int) (poll final : Bool) (say seg len : Int) (a : Option Addr) (n cap : Nat) (w : World) :
    Calls Try.prog 76 #[.agg #[.int .i64 kind, .int .i64 seq, .int .i64 ack, .bool poll, .bool final, .int .i64 say, .int .i64 seg, .int .i64 len, .slice a n cap]] w fun e w' => e = .returned (.bool (pieceB seg len n)) ∧ Below w.heap.size w w' := by
  go_enter Try.func76, Try.ntmps76
  go_wp2_with (go_at_call 58; refine (in_any _ _ _ _).mono ?_; rintro e w' ⟨rfl, rfl⟩)
  all_goals
    go_ret
    refine ⟨ret_bool ?_, (Below.refl _ _).alloc (Nat.le_refl _) _⟩
    go_light
    rw [Bool.eq_iff_iff]
    simp only [pieceB, inB_iff, decide_eq_true_eq, beq_iff_eq, beq_eq_false_iff_ne, Bool.false_eq_true, true_iff, false_iff, ne_eq] at *
    omega
set_option maxHeartbeats 1000000 in
theorem impl_part (seg len : Int) (a : Option Addr) (n cap : Nat) (w : World) :
    Calls Try.prog 31 #[.agg #[.int .i64 seg, .int .i64 len, .slice a n cap]] w fun e w' => e = .returned (.bool (pieceB seg len n)) ∧ Below w.heap.size w w' := by
  go_enter Try.func31, Try.ntmps31
  go_wp2_with (go_at_call 72; refine (piece_any _ _ _ _ _ _).mono ?_; rintro e w' ⟨rfl, hb⟩)
  go_ret
  exact ⟨rfl, box_below hb⟩
set_option maxHeartbeats 1000000 in
theorem spec_part (seg len : Int) (a : Option Addr) (n cap : Nat) (w : World) :
    Calls Try.prog 37 #[.agg #[.int .i64 seg, .int .i64 len, .slice a n cap]] w fun e w' => e = .returned (.bool (pieceB seg len n)) ∧ Below w.heap.size w w' := by
  go_enter Try.func37, Try.ntmps37
  go_wp2_with (go_at_call 76; refine (spec_seg _ _ _ _ _ _ _ _ _ _ _ _).mono ?_; rintro e w' ⟨rfl, hb⟩)
  go_ret
  exact ⟨rfl, box_below hb⟩
end Go.Proofs.Ytaoafikkamnjlaa
