/- The numbers that the laws of numbers draw. -/
import Derived.Test.YteennkfgnbhhhaaDrawBytes
import Derived.Handy
namespace Go.Proofs.Yteennkfgnbhhhaa
open Go.RowKit

set_option maxHeartbeats 1000000 in
theorem drawFar_any (v : Value) (zs : List Nat) (w : World) (h : Rd w v zs) :
    Calls Try.prog 9 #[v] w fun e w' => ∃ a b : Int, e = .returned (.tuple #[.int .i64 a, .int .i64 b]) ∧ (-1 ≤ a ∧ a ≤ 8) ∧ (-1 ≤ b ∧ b ≤ 8) ∧ Below w.heap.size w w' := by
  go_enter Try.func9, Try.ntmps9
  go_wp2_with fail
  refine (open_any v zs _ h).mono ?_
  rintro e w1 ⟨rfl, ⟨cs, r1⟩, b1⟩
  go_wp2_with fail
  refine (pick_any w.heap.size w.heap.size 0 cs 10 w1 r1 (by omega) (by omega)).mono ?_
  rintro e w2 ⟨x, rfl, hx, r2, g2⟩
  have b2 : Below w.heap.size w w2 := b1.grown g2 b1.size (fun q e => by cases e; exact Nat.le_refl _)
  go_wp2_with fail
  refine (pick_any w.heap.size w.heap.size (0 + 1) cs 10 w2 r2 (by omega) (by omega)).mono ?_
  rintro e w3 ⟨y, rfl, hy, r3, g3⟩
  have b3 : Below w.heap.size w w3 := b2.grown g3 b2.size (fun q e => by cases e; exact Nat.le_refl _)
  go_wp2
  go_returns
  exact ⟨_, _, rfl, by omega, by omega, b3⟩
theorem drawNext_any (v : Value) (zs : List Nat) (w : World) (h : Rd w v zs) :
    Calls Try.prog 15 #[v] w fun e w' => ∃ a : Int, e = .returned (.int .i64 a) ∧ (0 ≤ a ∧ a < 10) ∧ Below w.heap.size w w' := by
  go_enter Try.func15, Try.ntmps15
  go_wp2_with fail
  refine (open_any v zs _ h).mono ?_
  rintro e w1 ⟨rfl, ⟨cs, r1⟩, b1⟩
  go_wp2_with fail
  refine (pick_any w.heap.size w.heap.size 0 cs 10 w1 r1 (by omega) (by omega)).mono ?_
  rintro e w2 ⟨x, rfl, hx, r2, g2⟩
  have b2 : Below w.heap.size w w2 := b1.grown g2 b1.size (fun q e => by cases e; exact Nat.le_refl _)
  go_wp2
  go_ret
  exact ⟨_, rfl, by omega, b2⟩
theorem row_four (w : World) (a b c d : Int) (i : Nat) (hi : i < 4) : ∃ y : Int, (y = a ∨ y = b ∨ y = c ∨ y = d) ∧ (w.alloc (.cells #[.int .i64 a, .int .i64 b, .int .i64 c, .int .i64 d] 3)).cell? ⟨w.heap.size, i, none⟩ = some (.int .i64 y) := by
  match i, hi with
  | 0, _ => exact ⟨a, by simp, by simp⟩
  | 1, _ => exact ⟨b, by simp, by simp⟩
  | 2, _ => exact ⟨c, by simp, by simp⟩
  | 3, _ => exact ⟨d, by simp, by simp⟩
set_option maxHeartbeats 1000000 in
theorem drawOf_any (v : Value) (zs : List Nat) (w : World) (h : Rd w v zs) :
    Calls Try.prog 14 #[v] w fun e w' => ∃ a : Int, e = .returned (.int .i64 a) ∧ (-1 ≤ a ∧ a < 100 ∨ a = 9223372036854775807) ∧ Below w.heap.size w w' := by
  go_enter Try.func14, Try.ntmps14
  go_wp2_with fail
  refine (open_any v zs _ h).mono ?_
  rintro e w1 ⟨rfl, ⟨cs, r1⟩, b1⟩
  go_wp2_with fail
  refine (pick_any w.heap.size w.heap.size 0 cs 100 w1 r1 (by omega) (by omega)).mono ?_
  rintro e w2 ⟨x, rfl, hx, r2, g2⟩
  have b2 : Below w.heap.size w w2 := b1.grown g2 b1.size (fun q e => by cases e; exact Nat.le_refl _)
  go_wp2_with fail
  refine (pick_any w.heap.size w.heap.size (0 + 1) cs 9 w2 r2 (by omega) (by omega)).mono ?_
  rintro e w3 ⟨y, rfl, hy, r3, g3⟩
  have b3 : Below w.heap.size w w3 := b2.grown g3 b2.size (fun q e => by cases e; exact Nat.le_refl _)
  go_wp2_with fail
  have r4 := r3.other (grown_alloc w3 (.cells #[.int .i64 (x : Int), .int .i64 (-1), .int .i64 9223372036854775807, .int .i64 (y : Int)] 3) none) (fun q e => by cases e)
  have b4 : Below w.heap.size w (w3.alloc (.cells #[.int .i64 (x : Int), .int .i64 (-1), .int .i64 9223372036854775807, .int .i64 (y : Int)] 3)) := b3.alloc b3.size _
  refine (pick_any w.heap.size w.heap.size (0 + 1 + 1) cs 4 _ r4 (by omega) (by omega)).mono ?_
  rintro e w5 ⟨i, rfl, hi, r5, g5⟩
  have b5 : Below w.heap.size w w5 := b4.grown g5 b4.size (fun q e => by cases e; exact Nat.le_refl _)
  obtain ⟨z, hz, cz⟩ := row_four w3 x (-1) 9223372036854775807 y i (by omega)
  have hs := r3.lt
  have cz5 : w5.cell? ⟨w3.heap.size, i, none⟩ = some (.int .i64 z) := g5.cell cz (by simp; omega)
  have hi4 : (i : Int) < 4 := by omega
  have hzz : -1 ≤ z ∧ z < 100 ∨ z = 9223372036854775807 := by omega
  clear hz cz
  go_wp2
  go_ret
  exact ⟨_, rfl, hzz, b5⟩
end Go.Proofs.Yteennkfgnbhhhaa
