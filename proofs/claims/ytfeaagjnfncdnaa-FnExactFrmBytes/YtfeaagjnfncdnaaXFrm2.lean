/- What the exact laws do with frames, on: marks in a frame's bytes, and a look at them; boxed variables. -/
import Derived.Test.YtfeaagjnfncdnaaXFrm
namespace Go.Proofs.Ytfeaagjnfncdnaa
open Go.RowKit

/-- The block b holds these cells. -/
def Cel (w : World) (b : Nat) (cs : Array Value) : Prop := b < w.heap.size ∧ ∀ k, w.cell? ⟨b, k, none⟩ = cs[k]?
theorem Cel.kept {w w' : World} {b : Nat} {cs : Array Value} (h : Cel w b cs) (hb : Below w.heap.size w w') : Cel w' b cs := ⟨Nat.lt_of_lt_of_le h.1 hb.size, fun k => (hb.cell (p := ⟨b, k, none⟩) h.1).trans (h.2 k)⟩
theorem Cel.other {w w' : World} {b : Nat} {cs : Array Value} {r : Option Nat} (h : Cel w b cs) (hg : w.grownBy w' r) (hne : some b ≠ r) : Cel w' b cs :=
  ⟨Nat.lt_of_lt_of_le h.1 hg.size, fun k => (World.cell?_of_block (a := ⟨b, k, none⟩) (hg.block b h.1 hne)).trans (h.2 k)⟩
theorem cel_box (w : World) (cs : Array Value) (t : TypeId) : Cel (w.alloc (.cells cs t)) w.heap.size cs := ⟨by simp, fun k => by simp⟩
theorem own_box_apart {w : World} {B : Nat} {v : Value} {zs : List Nat} (h : Own w B v zs) {b : Nat} (hb : b < B ∨ w.heap.size ≤ b) : some b ≠ v.ownBlock := by
  intro e
  have := World.ownsRow.lt h b e.symm
  omega

set_option maxHeartbeats 1000000 in
theorem markFrame1 (W : World) (B : Nat) (kind seq ack : Int) (poll final : Bool) (say seg len : Int) (s : Value) (zs : List Nat) (w : World) (hown : Own w B s zs) (hlen : zs.length ≤ 2000000) (hb : Below W.heap.size W w) (hB : W.heap.size ≤ B) :
    Calls Try.prog 13 #[.agg #[.int .i64 kind, .int .i64 seq, .int .i64 ack, .bool poll, .bool final, .int .i64 say, .int .i64 seg, .int .i64 len, s], .int .i64 1] w fun e w' => e = .returned (.int .i64 (1 + (zs.length : Int))) ∧ Own w' B s (marks 1 zs.length) ∧ w.grownBy w' s.ownBlock ∧ Below W.heap.size W w' := by
  obtain ⟨x, n, c, rfl⟩ : ∃ x n c, s = .slice x n c := by
    rcases hown.2 with ⟨h, _⟩ | ⟨g, cap, cur, h, _⟩
    · exact ⟨_, _, _, h⟩
    · exact ⟨_, _, _, h⟩
  have hbx := hb.alloc hb.size (.cells #[.int .i64 kind, .int .i64 seq, .int .i64 ack, .bool poll, .bool final, .int .i64 say, .int .i64 seg, .int .i64 len, .slice x n c] 27)
  go_enter Try.func13, Try.ntmps13
  go_wp2_with fail
  refine (mark1 W B _ zs _ (hown.alloc _) hlen hbx hB).mono ?_
  rintro e w1 ⟨rfl, o1, g1, b1⟩
  go_wp2
  go_ret
  refine ⟨rfl, o1, ?_, b1⟩
  exact ⟨g1.os, g1.tape, g1.output, Nat.le_trans (by simp) g1.size, fun k hk hne => (g1.block k (by simp; omega) hne).trans (((Below.refl w.heap.size w).alloc (Nat.le_refl _) _).block k hk)⟩
end Go.Proofs.Ytfeaagjnfncdnaa
