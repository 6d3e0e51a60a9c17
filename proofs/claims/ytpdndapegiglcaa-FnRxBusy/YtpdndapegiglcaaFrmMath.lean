/- Frames as plain data: when one is ok. -/
import Derived.Test.YtpdndapegiglcaaAppend
import Derived.Test.YtpdndapegiglcaaIn
namespace Go.Proofs.Ytpdndapegiglcaa
open Go.RowKit

/-- A piece is ok. -/
def pieceB (seg len : Int) (n : Nat) : Bool := decide (n ≤ 8 ∧ ((seg = 0 ∧ len = n) ∨ (seg = 1 ∧ 1 ≤ n ∧ (n : Int) < len ∧ len ≤ 24) ∨ ((seg = 2 ∨ seg = 3) ∧ 1 ≤ n ∧ len = 0)))
/-- A frame is ok. -/
def frmB (kind seq ack : Int) (poll final : Bool) (say seg len : Int) (n : Nat) : Bool := decide (
  (kind = 1 ∧ (0 ≤ seq ∧ seq ≤ 7) ∧ (0 ≤ ack ∧ ack ≤ 7) ∧ poll = false ∧ say = 0 ∧ pieceB seg len n = true) ∨
  (kind = 2 ∧ seq = 0 ∧ (0 ≤ ack ∧ ack ≤ 7) ∧ ¬ (poll = true ∧ final = true) ∧ (0 ≤ say ∧ say ≤ 2) ∧ seg = 0 ∧ len = 0 ∧ n = 0) ∨
  (kind = 3 ∧ seq = 0 ∧ ack = 0 ∧ poll = false ∧ final = false ∧ say = 0 ∧ pieceB seg len n = true) ∨
  (kind = 4 ∧ seq = 0 ∧ ack = 0 ∧ poll = false ∧ final = false ∧ say = 0 ∧ seg = 0 ∧ (1 ≤ len ∧ len ≤ 255) ∧ n = 0))

theorem Rd.form {w : World} {v : Value} {zs : List Nat} (h : Rd w v zs) : ∃ a cap, v = .slice a zs.length cap := by
  rcases h.2.2 with ⟨rfl, a, c, rfl, _⟩ | ⟨b, off, cap, rfl, _⟩
  · exact ⟨_, _, rfl⟩
  · exact ⟨_, _, rfl⟩
theorem bool_of_iff {a b : Bool} (h : a = true ↔ b = true) : a = b := by
  cases a <;> cases b <;> simp_all
end Go.Proofs.Ytpdndapegiglcaa
