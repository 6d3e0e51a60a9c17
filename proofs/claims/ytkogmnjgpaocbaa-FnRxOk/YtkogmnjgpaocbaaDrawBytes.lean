/- A reader is opened over a code; bytes are drawn from it: some bytes, so many at most, in new memory. -/
import Derived.Test.YtkogmnjgpaocbaaDraw
namespace Go.Proofs.Ytkogmnjgpaocbaa
open Go.RowKit

theorem Rd.low {w : World} {v : Value} {zs : List Nat} (h : Rd w v zs) (hl : zs.length ≤ 2000) : RdB w w.heap.size v zs := by
  obtain ⟨h1, _, h3⟩ := h
  refine ⟨h1, hl, ?_⟩
  rcases h3 with ⟨rfl, a, c, rfl, _⟩ | ⟨b, off, cap, e, _, _, h6, h7⟩
  · exact .inl ⟨rfl, _, _, rfl⟩
  · exact .inr ⟨b, off, cap, e, h6, h7⟩

set_option maxRecDepth 100000 in
set_option maxHeartbeats 2000000 in
theorem open_any (v : Value) (zs : List Nat) (w : World) (h : Rd w v zs) :
    Calls Try.prog 52 #[v] w fun e w' => e = .returned (.pointer (some ⟨w.heap.size, 0, none⟩)) ∧ (∃ cs, Rdr w' w.heap.size w.heap.size 0 cs) ∧ Below w.heap.size w w' := by
  by_cases hl : zs.length ≤ 2000
  · have hB := h.low hl
    obtain ⟨a, cap, rfl⟩ : ∃ a cap, v = .slice a zs.length cap := by
      rcases h.2.2 with ⟨rfl, a, c, rfl, _⟩ | ⟨b, off, cap, rfl, _⟩
      · exact ⟨_, _, rfl⟩
      · exact ⟨_, _, rfl⟩
    have hn : ¬ (2000 : Int) < (zs.length : Int) := by omega
    go_enter Try.func52, Try.ntmps52
    go_wp2
    go_ret
    have hb : Below w.heap.size w (w.alloc (.cells #[.slice a zs.length cap, .int .i64 0] 115)) := (Below.refl _ _).alloc (Nat.le_refl _) _
    exact ⟨rfl, ⟨zs, Nat.le_refl _, _, _, hB.kept hb, heap_alloc_new w _⟩, hb⟩
  · rcases h.2.2 with ⟨rfl, _⟩ | ⟨b, off, cap, rfl, hcap, hm, hb, hc⟩
    · simp at hl
    have ht : (zs.take 2000).length = 2000 := by rw [List.length_take]; omega
    have hB : RdB w w.heap.size (.slice (some ⟨b, off, none⟩) 2000 cap) (zs.take 2000) := ⟨h.1.take _, by omega, .inr ⟨b, off, cap, by rw [ht], hb, fun j hj => by rw [ht] at hj; rw [hc j (by omega)]; simp [hj]⟩⟩
    have hn : (2000 : Int) < (zs.length : Int) := by omega
    have hcp : 2000 ≤ cap := by omega
    go_enter Try.func52, Try.ntmps52
    go_wp2
    go_ret
    have hb : Below w.heap.size w (w.alloc (.cells #[.slice (some ⟨b, off, none⟩) 2000 cap, .int .i64 0] 115)) := (Below.refl _ _).alloc (Nat.le_refl _) _
    exact ⟨rfl, ⟨zs.take 2000, Nat.le_refl _, _, _, hB.kept hb, heap_alloc_new w _⟩, hb⟩

theorem rd_one (w : World) (x : Nat) (hx : x < 256) : Rd (w.alloc (.cells #[.int .u8 (x : Int)] 5)) (.slice (some ⟨w.heap.size, 0, none⟩) 1 1) [x] := by
  refine ⟨?_, by simp, .inr ⟨w.heap.size, 0, 1, rfl, by simp, by unfold maxLen; omega, by simp, ?_⟩⟩
  · intro z hz
    simp at hz
    omega
  · intro j hj
    match j, hj with
    | 0, _ => simp

/-- Three numbers in a new row: the one at a place below three. -/
theorem row_three (w : World) (a b c : Nat) (ha : a < 256) (hb : b < 256) (hc : c < 256) (i : Nat) (hi : i < 3) : ∃ y : Nat, y < 256 ∧ (w.alloc (.cells #[.int .i64 (a : Int), .int .i64 (b : Int), .int .i64 (c : Int)] 3)).cell? ⟨w.heap.size, i, none⟩ = some (.int .i64 (y : Int)) := by
  match i, hi with
  | 0, _ => exact ⟨a, ha, by simp⟩
  | 1, _ => exact ⟨b, hb, by simp⟩
  | 2, _ => exact ⟨c, hc, by simp⟩

set_option maxRecDepth 100000 in
set_option maxHeartbeats 2000000 in
theorem bytes_any (B g p : Nat) (zs : List Nat) (n : Nat) (w : World) (h : Rdr w B g p zs) (hp : p + 4 * n ≤ 900000000) (hn : n ≤ 1000000) :
    Calls Try.prog 65 #[.pointer (some ⟨g, 0, none⟩), .int .i64 n] w fun e w' => ∃ v ys p', e = .returned v ∧ Own w' w.heap.size v ys ∧ Byt ys ∧ ys.length ≤ n ∧ Rdr w' B g p' zs ∧ p' ≤ p + 1 + 3 * n ∧ w.grownBy w' (some g) := by
  have hg := h.lt
  have hgB := h.1
  go_enter Try.func65, Try.ntmps65
  go_wp2_with fail
  have g0 := grown_alloc w (.cells #[] 5) (some g)
  have r0 := h.other (grown_alloc w (.cells #[] 5) none) (fun q e => by cases e)
  refine (pick_any B g p zs _ _ r0 (by omega) (by omega)).mono ?_
  rintro e w1 ⟨k0, rfl, hk0, r1, g1⟩
  have o1 : Own w1 w.heap.size (.slice (some ⟨w.heap.size, 0, none⟩) 0 0) [] := (own_empty w w.heap.size (Nat.le_refl _)).since g1 (fun q e => by cases e; exact hg)
  have gr1 := grown_trans g0 g1
  clear r0 g0 g1
  go_wp2_with fail
  go_loopw [5, 6] (fun v t wr => ∃ (k : Nat) (ys : List Nat) (p' : Nat), t = .int .i64 k ∧ k + ys.length ≤ n ∧ Byt ys ∧ p' + 3 * k ≤ p + 1 + 3 * n ∧ Own wr w.heap.size v ys ∧ Rdr wr B g p' zs ∧ w.grownBy wr (some g)) (fun _ t _ => (intOf t).toNat)
  case atStart => exact ⟨k0, [], p + 1, rfl, by simp; omega, fun z hz => by simp at hz, by omega, o1, r1, gr1⟩
  case round =>
    clear o1 r1 gr1 h
    obtain ⟨k, ys, p', rfl, hkn, hby, hpp, o1, r1, gr1⟩ := hrel
    by_cases hk : 0 < k
    · have hkk : (0 : Int) < (k : Int) := by omega
      have hwr := gr1.size
      go_wp2_with fail
      refine (pick_any B g _ zs _ _ r1 (by omega) (by omega)).mono ?_
      rintro e w2 ⟨a, rfl, ha, r2, g2⟩
      have o2 := o1.since g2 (fun q e => by cases e; exact hg)
      have gr2 := grown_trans gr1 g2
      clear o1 r1 gr1 g2
      go_wp2_with fail
      refine (pick_any B g _ zs _ _ r2 (by omega) (by omega)).mono ?_
      rintro e w3 ⟨b, rfl, hb, r3, g3⟩
      have o3 := o2.since g3 (fun q e => by cases e; exact hg)
      have gr3 := grown_trans gr2 g3
      have hw3 := gr3.size
      clear o2 r2 gr2 g3
      go_wp2_with fail
      have r4 := r3.other (grown_alloc w3 (.cells #[.int .i64 (a : Int), .int .i64 (b : Int), .int .i64 255] 3) none) (fun q e => by cases e)
      refine (pick_any B g _ zs _ _ r4 (by omega) (by omega)).mono ?_
      rintro e w4 ⟨i, rfl, hi, r5, g5⟩
      obtain ⟨y, hy, cy⟩ := row_three w3 a b 255 (by omega) (by omega) (by omega) i (by omega)
      have cy4 : w4.cell? ⟨w3.heap.size, i, none⟩ = some (.int .i64 (y : Int)) := g5.cell cy (by simp; omega)
      have o5 := (o3.alloc (.cells #[.int .i64 (a : Int), .int .i64 (b : Int), .int .i64 255] 3)).since g5 (fun q e => by cases e; exact hg)
      have gr5 := grown_trans (grown_trans gr3 (grown_alloc w3 (.cells #[.int .i64 (a : Int), .int .i64 (b : Int), .int .i64 255] 3) (some g))) g5
      have hw5 := gr5.size
      have hyw : IntKind.u8.wrap (y : Int) = (y : Int) := by rw [IntKind.wrap_u8']; omega
      have hi3 : (i : Int) < 3 := by omega
      clear o3 r3 gr3 r4 g5 cy
      have o6 := o5.alloc (.cells #[.int .u8 (y : Int)] 5)
      have rd6 := rd_one w4 y hy
      go_wp2_with (at_builtin; refine wpList_app _ rfl (.tmp 16) (.tmp 27) rfl w.heap.size _ ys rfl o6 _ _ rfl rd6 (by simp; omega) (by simp; omega) ?_)
      intro v7 w7 o7 g7
      have hne := fun q e => (World.ownsRow.lt o6 q e).1
      have gr7 := grown_new (grown_trans gr5 (grown_alloc w4 (.cells #[.int .u8 (y : Int)] 5) (some g))) g7 hne
      have r7 := (r5.other (grown_alloc w4 (.cells #[.int .u8 (y : Int)] 5) none) (fun q e => by cases e)).other g7 (fun q e => by have := hne q e; omega)
      have hby7 : Byt (ys ++ [y]) := by
        intro z hz
        simp at hz
        rcases hz with hz | rfl
        · exact hby z hz
        · exact hy
      clear g7 o5 o6 rd6 gr5 r5 hne
      go_wp2
      go_roundw
      case rel => exact ⟨k - 1, ys ++ [y], _, by go_num, by simp; omega, hby7, by omega, o7, r7, gr7⟩
      case measure => simp [intOf]; omega
    · have : k = 0 := by omega
      subst this
      go_wp2
      go_ret
      exact ⟨_, ys, p', rfl, o1, hby, by omega, r1, by omega, gr1⟩
end Go.Proofs.Ytkogmnjgpaocbaa
