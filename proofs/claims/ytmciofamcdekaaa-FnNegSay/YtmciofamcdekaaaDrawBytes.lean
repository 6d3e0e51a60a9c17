/- A reader is opened over a code; bytes are drawn from it: some bytes, so many at most, in new memory. -/
import Derived.Test.YtmciofamcdekaaaDraw
namespace Go.Proofs.Ytmciofamcdekaaa
open Go.RowKit

theorem Rd.low {w : World} {v : Value} {zs : List Nat} (h : Rd w v zs) (hl : zs.length ≤ 2000) : RdB w w.heap.size v zs := by
  obtain ⟨h1, _, h3⟩ := h
  refine ⟨h1, hl, ?_⟩
  rcases h3 with ⟨rfl, a, c, rfl, _⟩ | ⟨b, off, cap, e, _, _, h6, h7⟩
  · exact .inl ⟨rfl, _, _, rfl⟩
  · exact .inr ⟨b, off, cap, e, h6, h7⟩

set_option maxRecDepth 100000 in
set_option maxHeartbeats 2000000 in
theorem open_any (v : Value) (zs : List Nat) (w : World) (h : Rd w v zs) :
    Calls Try.prog 45 #[v] w fun e w' => e = .returned (.pointer (some ⟨w.heap.size, 0, none⟩)) ∧ (∃ cs, Rdr w' w.heap.size w.heap.size 0 cs) ∧ Below w.heap.size w w' := by
  by_cases hl : zs.length ≤ 2000
  · have hB := h.low hl
    obtain ⟨a, cap, rfl⟩ : ∃ a cap, v = .slice a zs.length cap := by
      rcases h.2.2 with ⟨rfl, a, c, rfl, _⟩ | ⟨b, off, cap, rfl, _⟩
      · exact ⟨_, _, rfl⟩
      · exact ⟨_, _, rfl⟩
    have hn : ¬ (2000 : Int) < (zs.length : Int) := by omega
    go_enter Try.func45, Try.ntmps45
    go_wp2
    go_ret
    have hb : Below w.heap.size w (w.alloc (.cells #[.slice a zs.length cap, .int .i64 0] 82)) := (Below.refl _ _).alloc (Nat.le_refl _) _
    exact ⟨rfl, ⟨zs, Nat.le_refl _, _, _, hB.kept hb, heap_alloc_new w _⟩, hb⟩
  · rcases h.2.2 with ⟨rfl, _⟩ | ⟨b, off, cap, rfl, hcap, hm, hb, hc⟩
    · simp at hl
    have ht : (zs.take 2000).length = 2000 := by rw [List.length_take]; omega
    have hB : RdB w w.heap.size (.slice (some ⟨b, off, none⟩) 2000 cap) (zs.take 2000) := ⟨h.1.take _, by omega, .inr ⟨b, off, cap, by rw [ht], hb, fun j hj => by rw [ht] at hj; rw [hc j (by omega)]; simp [hj]⟩⟩
    have hn : (2000 : Int) < (zs.length : Int) := by omega
    have hcp : 2000 ≤ cap := by omega
    go_enter Try.func45, Try.ntmps45
    go_wp2
    go_ret
    have hb : Below w.heap.size w (w.alloc (.cells #[.slice (some ⟨b, off, none⟩) 2000 cap, .int .i64 0] 82)) := (Below.refl _ _).alloc (Nat.le_refl _) _
    exact ⟨rfl, ⟨zs.take 2000, Nat.le_refl _, _, _, hB.kept hb, heap_alloc_new w _⟩, hb⟩

theorem rd_one (w : World) (x : Nat) (hx : x < 256) : Rd (w.alloc (.cells #[.int .u8 (x : Int)] 5)) (.slice (some ⟨w.heap.size, 0, none⟩) 1 1) [x] := by
  refine ⟨?_, by simp, .inr ⟨w.heap.size, 0, 1, rfl, by simp, by unfold maxLen; omega, by simp, ?_⟩⟩
  · intro z hz
    simp at hz
    omega
  · intro j hj
    match j, hj with
    | 0, _ => simp

/-- Three numbers in a new row: the one at a place below three. -/
theorem row_three (w : World) (a b c : Nat) (ha : a < 256) (hb : b < 256) (hc : c < 256) (i : Nat) (hi : i < 3) : ∃ y : Nat, y < 256 ∧ (w.alloc (.cells #[.int .i64 (a : Int), .int .i64 (b : Int), .int .i64 (c : Int)] 3)).cell? ⟨w.heap.size, i, none⟩ = some (.int .i64 (y : Int)) := by
  match i, hi with
  | 0, _ => exact ⟨a, ha, by simp⟩
  | 1, _ => exact ⟨b, hb, by simp⟩
  | 2, _ => exact ⟨c, hc, by simp⟩

end Go.Proofs.Ytmciofamcdekaaa
