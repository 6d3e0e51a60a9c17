/- The bytes that the laws of sums draw: some bytes, few, in new memory. -/
import Derived.Test.YthbmafoikloocaaDrawTurn
import Derived.Test.YthbmafoikloocaaCrcPut
namespace Go.Proofs.Ythbmafoikloocaa
open Go.RowKit

theorem drawPut_any (v : Value) (zs : List Nat) (w : World) (h : Rd w v zs) :
    Calls Try.prog 4 #[v] w fun e w' => ∃ v' ys, e = .returned v' ∧ Own w' w.heap.size v' ys ∧ Byt ys ∧ ys.length ≤ 20 ∧ Below w.heap.size w w' := by
  go_enter Try.func4, Try.ntmps4
  go_wp2_with fail
  refine (open_any v zs _ h).mono ?_
  rintro e w1 ⟨rfl, ⟨cs, r1⟩, b1⟩
  go_wp2_with fail
  refine (bytes_any w.heap.size w.heap.size 0 cs 20 w1 r1 (by omega) (by omega)).mono ?_
  rintro e w2 ⟨v2, ys, p2, rfl, o2, by2, ln2, r2, hp2, g2⟩
  have b2 : Below w.heap.size w w2 := b1.grown g2 b1.size (fun q e => by cases e; exact Nat.le_refl _)
  have o2' := ownsRow_mono o2 b1.size
  go_wp2
  go_ret
  exact ⟨_, ys, rfl, o2', by2, ln2, b2⟩

set_option maxHeartbeats 1000000 in
theorem drawCut_any (v : Value) (zs : List Nat) (w : World) (h : Rd w v zs) :
    Calls Try.prog 5 #[v] w fun e w' => ∃ v' ys, e = .returned v' ∧ Own w' w.heap.size v' ys ∧ Byt ys ∧ ys.length ≤ 19 ∧ Below w.heap.size w w' := by
  go_enter Try.func5, Try.ntmps5
  go_wp2_with fail
  refine (open_any v zs _ h).mono ?_
  rintro e w1 ⟨rfl, ⟨cs, r1⟩, b1⟩
  have hz1 := b1.size
  have hl1 := r1.lt
  go_wp2_with fail
  refine (bytes_any w.heap.size w.heap.size 0 cs 16 w1 r1 (by omega) (by omega)).mono ?_
  rintro e w2 ⟨v2, ys, p2, rfl, o2, by2, ln2, r2, hp2, g2⟩
  have b2 : Below w.heap.size w w2 := b1.grown g2 b1.size (fun q e => by cases e; exact Nat.le_refl _)
  have hz2 := g2.size
  go_wp2_with fail
  refine (spec_put v2 ys _ (o2.rd by2 (by omega)) (by omega)).mono ?_
  rintro e w3 ⟨v3, rfl, o3, b3⟩
  have r3 := r2.other (below_grown b3) (fun q e => by cases e)
  have b3w : Below w.heap.size w w3 := bchain b2 b3
  have hz3 := b3.size
  have pl := putL_length ys
  go_wp2_with fail
  refine (pick_any w.heap.size w.heap.size p2 cs 3 w3 r3 (by omega) (by omega)).mono ?_
  rintro e w4 ⟨k, rfl, hk, r4, g4⟩
  have b4 : Below w.heap.size w w4 := b3w.grown g4 b3w.size (fun q e => by cases e; exact Nat.le_refl _)
  have o4 := o3.since g4 (fun q e => by cases e; omega)
  have hz4 := g4.size
  by_cases h0 : k = 0
  · subst h0
    go_wp2_with fail
    refine (turn_any w.heap.size w.heap.size (p2 + 1) _ v3 cs (putL ys) w4 r4 (by omega) o4 (putL_byt by2) (by omega) (by omega)).mono ?_
    rintro e w5 ⟨v5, xs, p5, rfl, o5, by5, ln5, r5, hp5, g5⟩
    have b5 : Below w.heap.size w w5 := b4.grown g5 b4.size (fun q e => by cases e; exact Nat.le_refl _)
    have o5' := ownsRow_mono o5 b4.size
    have l5 : xs.length ≤ 19 := by omega
    go_wp2
    go_ret
    exact ⟨_, xs, rfl, o5', by5, l5, b5⟩
  · have hk0 : ((k : Int) == 0) = false := beq_eq_false_iff_ne.2 (by omega)
    have o4' := ownsRow_mono o4 (show w.heap.size ≤ w2.heap.size by omega)
    have l4 : (putL ys).length ≤ 19 := by omega
    have y4 := putL_byt by2
    go_wp2
    go_ret
    exact ⟨_, putL ys, rfl, o4', y4, l4, b4⟩
end Go.Proofs.Ythbmafoikloocaa
