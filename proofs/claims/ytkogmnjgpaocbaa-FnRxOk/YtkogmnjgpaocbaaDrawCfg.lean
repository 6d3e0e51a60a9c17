/- What one wants, drawn: between its bounds, or, where it is asked for, with something wrong. -/
import Derived.Test.YtkogmnjgpaocbaaOpenDraw
import Derived.Test.YtkogmnjgpaocbaaBoxLaw
import Derived.Test.YtkogmnjgpaocbaaCfg
namespace Go.Proofs.Ytkogmnjgpaocbaa
open Go.RowKit

def cfgPR (B g : Nat) : Nat → Value → World → Prop
  | 0, v, _ => v = .pointer (some ⟨g, 0, none⟩)
  | 1, v, _ => PInt 0 (2 - 1) v
  | 2, v, _ => PInt 1 2 v
  | 3, v, _ => v = .pointer (some ⟨g, 0, none⟩)
  | 4, v, _ => PInt 0 (4 - 1) v
  | 5, v, _ => PInt 1 4 v
  | 6, v, _ => v = .pointer (some ⟨g, 0, none⟩)
  | 7, v, _ => PInt 0 (8 - 1) v
  | 8, v, _ => PInt 1 8 v
  | 9, v, w => PRow g 3 1 8 v w
  | 10, v, _ => v = .pointer (some ⟨g, 0, none⟩)
  | 11, v, _ => PInt 0 (3 - 1) v
  | 12, v, w => PCell g 1 8 v w
  | 13, v, _ => PInt 1 8 v
  | 14, v, _ => v = .pointer (some ⟨g, 0, none⟩)
  | 15, v, _ => PInt 0 (24 - 1) v
  | 16, v, _ => PInt 1 24 v
  | 17, v, w => PRow g 2 1 24 v w
  | 18, v, _ => v = .pointer (some ⟨g, 0, none⟩)
  | 19, v, _ => PInt 0 (2 - 1) v
  | 20, v, w => PCell g 1 24 v w
  | 21, v, _ => PInt 1 24 v
  | 22, v, _ => v = .pointer (some ⟨g, 0, none⟩)
  | 23, v, _ => PInt 0 (5 - 1) v
  | 24, v, _ => PInt 1 5 v
  | 25, v, _ => ∃ x0 x1 x2 x3 x4 : Int, v = .agg #[.int .i64 x0, .int .i64 x1, .int .i64 x2, .int .i64 x3, .int .i64 x4] ∧ (1 ≤ x0 ∧ x0 ≤ 2) ∧ (1 ≤ x1 ∧ x1 ≤ 4) ∧ (1 ≤ x2 ∧ x2 ≤ 8) ∧ (1 ≤ x3 ∧ x3 ≤ 24) ∧ (1 ≤ x4 ∧ x4 ≤ 5)
  | 26, v, w => PBox B g #[.int .i64 0, .int .i64 0, .int .i64 0, .int .i64 0, .int .i64 0] 53 v w
  | _, _, _ => True
theorem cfgPR_mono (B g : Nat) (j : Nat) (v : Value) (w w' : World) (h : cfgPR B g j v w) (k : w.grownBy w' (some g)) : cfgPR B g j v w' := by
  match j with
  | 0 => exact h
  | 1 => exact h
  | 2 => exact h
  | 3 => exact h
  | 4 => exact h
  | 5 => exact h
  | 6 => exact h
  | 7 => exact h
  | 8 => exact h
  | 9 => exact PRow.mono h k
  | 10 => exact h
  | 11 => exact h
  | 12 => exact PCell.mono h k
  | 13 => exact h
  | 14 => exact h
  | 15 => exact h
  | 16 => exact h
  | 17 => exact PRow.mono h k
  | 18 => exact h
  | 19 => exact h
  | 20 => exact PCell.mono h k
  | 21 => exact h
  | 22 => exact h
  | 23 => exact h
  | 24 => exact h
  | 25 => exact h
  | 26 => exact PBox.mono h k
  | _ + 27 => trivial


theorem Bo.far {w : World} {r : Nat} {cs : Array Value} (h : Bo w r cs) (b f : Nat) (v : Value) (hne : r ≠ b) : Bo (w.setCell ⟨b, f, none⟩ v) r cs :=
  h.grown (g := b) ⟨rfl, rfl, rfl, by simp [World.setCell], fun k _ hk => Below.heap_setCell _ _ _ _ (fun e => hk (by rw [e]))⟩ hne
/-- Two numbers in a new row: the one at a place below two. -/
theorem row_two (w : World) (a b : Int) (i : Nat) (hi : i < 2) : ∃ y : Int, (y = a ∨ y = b) ∧ (w.alloc (.cells #[.int .i64 a, .int .i64 b] 3)).cell? ⟨w.heap.size, i, none⟩ = some (.int .i64 y) := by
  match i, hi with
  | 0, _ => exact ⟨a, by simp, by simp⟩
  | 1, _ => exact ⟨b, by simp, by simp⟩
/-- What one wants, as it is drawn: each between its bounds, or one beyond; ok, if nothing wrong was asked for. -/
def Drawn (x0 x1 x2 x3 x4 : Int) : Prop := (0 ≤ x0 ∧ x0 ≤ 3) ∧ (0 ≤ x1 ∧ x1 ≤ 5) ∧ (0 ≤ x2 ∧ x2 ≤ 9) ∧ (0 ≤ x3 ∧ x3 ≤ 25) ∧ (0 ≤ x4 ∧ x4 ≤ 6)
set_option maxRecDepth 100000 in
set_option maxHeartbeats 8000000 in
theorem cfg_any (B g p : Nat) (zs : List Nat) (n : Nat) (w : World) (h : Rdr w B g p zs) (hp : p ≤ 800000000) (hn : n < 1000000) :
    Calls Try.prog 76 #[.pointer (some ⟨g, 0, none⟩), .int .i64 n] w fun e w' => ∃ (x0 x1 x2 x3 x4 : Int) (p' : Nat), e = .returned (.agg #[.int .i64 x0, .int .i64 x1, .int .i64 x2, .int .i64 x3, .int .i64 x4]) ∧ Drawn x0 x1 x2 x3 x4 ∧ (n = 0 → Opt.ok ⟨x0, x1, x2, x3, x4⟩ = true) ∧ (n = 1 → Opt.ok ⟨x0, x1, x2, x3, x4⟩ = false) ∧ p' ≤ p + 40 ∧ Rdr w' B g p' zs ∧ w.grownBy w' (some g) := by
  have hg := h.lt
  have G0 : Gd (w.alloc (.cells #[.int .i64 0, .int .i64 0, .int .i64 0, .int .i64 0, .int .i64 0] 53)).drew B g p zs 0 (w.alloc (.cells #[.int .i64 0, .int .i64 0, .int .i64 0, .int .i64 0, .int .i64 0] 53)).drew := ⟨p, by omega, (h.other (grown_alloc w _ none) (fun q e => by cases e)).drew, grown_refl _ _⟩
  have gw0 : w.grownBy (w.alloc (.cells #[.int .i64 0, .int .i64 0, .int .i64 0, .int .i64 0, .int .i64 0] 53)).drew (some g) := grown_trans (grown_alloc w _ _) ⟨rfl, rfl, rfl, Nat.le_refl _, fun _ _ _ => rfl⟩
  have R0 : Bl (w.alloc (.cells #[.int .i64 0, .int .i64 0, .int .i64 0, .int .i64 0, .int .i64 0] 53)).drew w.heap.size #[.int .i64 0, .int .i64 0, .int .i64 0, .int .i64 0, .int .i64 0] 53 := bl_new w _ _
  have hs0 : (w.alloc (.cells #[.int .i64 0, .int .i64 0, .int .i64 0, .int .i64 0, .int .i64 0] 53)).drew.heap.size = w.heap.size + 1 := by simp [World.drew]
  go_enter Try.func76, Try.ntmps76
  go_wp2_with fail
  refine region_tail 27 [6, 7, 8, 9, 10, 11, 12, 13, 14, 15, 16, 17, 18, 19, 20, 21, 22, 23, 24, 25, 26, 27, 28, 29, 30, 31, 5] [27] (cfgPR (w.alloc (.cells #[.int .i64 0, .int .i64 0, .int .i64 0, .int .i64 0, .int .i64 0] 53)).drew.heap.size g) (Gd _ B g p zs) (fun w w' => w.grownBy w' (some g)) (by kernel_rfl) (by kernel_rfl) (dsts_in (by kernel_rfl)) G0 (cfgPR_mono _ g) ?_ ?_
  · rename_i hbig; clear hbig
    intro i o hi ho a w c hc hG hk
    match i, hi with
    | 0, _ =>
      cases ho
      have e0 : a.eval (.tmp 0) = .pointer (some ⟨g, 0, none⟩) := hk.was 0 (by kernel_rfl)
      exact st_val (PR := cfgPR _ g 0) (v := .pointer (some ⟨g, 0, none⟩)) (run_move e0) hG rfl
    | 1, _ =>
      cases ho
      have e6 : a.eval (.tmp 6) = .pointer (some ⟨g, 0, none⟩) := hk.has 0 6 (by kernel_rfl) (by simp)
      exact st_pick (n := 2) (run_call rfl e6 rfl) hG (by omega) (by omega)
    | 2, _ =>
      cases ho
      obtain ⟨k7, e7, l7, u7⟩ := hk.has 1 7 (by kernel_rfl) (by simp)
      exact st_val (PR := cfgPR _ g 2) (v := .int .i64 (1 + k7)) (run_add rfl e7 (by omega)) hG ⟨_, rfl, by omega, by omega⟩
    | 3, _ =>
      cases ho
      have e0 : a.eval (.tmp 0) = .pointer (some ⟨g, 0, none⟩) := hk.was 0 (by kernel_rfl)
      exact st_val (PR := cfgPR _ g 3) (v := .pointer (some ⟨g, 0, none⟩)) (run_move e0) hG rfl
    | 4, _ =>
      cases ho
      have e9 : a.eval (.tmp 9) = .pointer (some ⟨g, 0, none⟩) := hk.has 3 9 (by kernel_rfl) (by simp)
      exact st_pick (n := 4) (run_call rfl e9 rfl) hG (by omega) (by omega)
    | 5, _ =>
      cases ho
      obtain ⟨k10, e10, l10, u10⟩ := hk.has 4 10 (by kernel_rfl) (by simp)
      exact st_val (PR := cfgPR _ g 5) (v := .int .i64 (1 + k10)) (run_add rfl e10 (by omega)) hG ⟨_, rfl, by omega, by omega⟩
    | 6, _ =>
      cases ho
      have e0 : a.eval (.tmp 0) = .pointer (some ⟨g, 0, none⟩) := hk.was 0 (by kernel_rfl)
      exact st_val (PR := cfgPR _ g 6) (v := .pointer (some ⟨g, 0, none⟩)) (run_move e0) hG rfl
    | 7, _ =>
      cases ho
      have e12 : a.eval (.tmp 12) = .pointer (some ⟨g, 0, none⟩) := hk.has 6 12 (by kernel_rfl) (by simp)
      exact st_pick (n := 8) (run_call rfl e12 rfl) hG (by omega) (by omega)
    | 8, _ =>
      cases ho
      obtain ⟨k13, e13, l13, u13⟩ := hk.has 7 13 (by kernel_rfl) (by simp)
      exact st_val (PR := cfgPR _ g 8) (v := .int .i64 (1 + k13)) (run_add rfl e13 (by omega)) hG ⟨_, rfl, by omega, by omega⟩
    | 9, _ =>
      cases ho
      obtain ⟨k14, e14, l14, u14⟩ := hk.has 8 14 (by kernel_rfl) (by simp)
      refine st_new (PR := cfgPR _ g 9) (v := .slice (some ⟨w.heap.size, 0, none⟩) 3 3) (x := .cells #[.int .i64 k14, .int .i64 3, .int .i64 8] 3) (run_build3 e14 rfl rfl) hG ⟨w.heap.size, rfl, by have := hG.lt.1; omega, by simp, fun j hj => ?_⟩
      match j, hj with
      | 0, _ => exact ⟨_, by simp; rfl, by omega, by omega⟩
      | 1, _ => exact ⟨_, by simp; rfl, by omega, by omega⟩
      | 2, _ => exact ⟨_, by simp; rfl, by omega, by omega⟩
    | 10, _ =>
      cases ho
      have e0 : a.eval (.tmp 0) = .pointer (some ⟨g, 0, none⟩) := hk.was 0 (by kernel_rfl)
      exact st_val (PR := cfgPR _ g 10) (v := .pointer (some ⟨g, 0, none⟩)) (run_move e0) hG rfl
    | 11, _ =>
      cases ho
      have e16 : a.eval (.tmp 16) = .pointer (some ⟨g, 0, none⟩) := hk.has 10 16 (by kernel_rfl) (by simp)
      exact st_pick (n := 3) (run_call rfl e16 rfl) hG (by omega) (by omega)
    | 12, _ =>
      cases ho
      obtain ⟨b15, e15, g15, s15, c15⟩ := hk.has 9 15 (by kernel_rfl) (by simp)
      obtain ⟨k17, e17, l17, u17⟩ := hk.has 11 17 (by kernel_rfl) (by simp)
      obtain ⟨iN, rfl⟩ := Int.eq_ofNat_of_zero_le (show 0 ≤ k17 by omega)
      have hlt : iN < 3 := by omega
      obtain ⟨y, hy, hl, hu⟩ := c15 iN hlt
      exact st_val (PR := cfgPR _ g 12) (v := .pointer (some ⟨b15, iN, none⟩)) (run_index e15 e17 hlt) hG ⟨b15, iN, rfl, g15, s15, y, hy, hl, hu⟩
    | 13, _ =>
      cases ho
      obtain ⟨b18, j18, e18, g18, s18, y18, c18, l18, u18⟩ := hk.has 12 18 (by kernel_rfl) (by simp)
      exact st_val (PR := cfgPR _ g 13) (v := .int .i64 y18) (run_load e18 c18) hG ⟨y18, rfl, l18, u18⟩
    | 14, _ =>
      cases ho
      have e0 : a.eval (.tmp 0) = .pointer (some ⟨g, 0, none⟩) := hk.was 0 (by kernel_rfl)
      exact st_val (PR := cfgPR _ g 14) (v := .pointer (some ⟨g, 0, none⟩)) (run_move e0) hG rfl
    | 15, _ =>
      cases ho
      have e20 : a.eval (.tmp 20) = .pointer (some ⟨g, 0, none⟩) := hk.has 14 20 (by kernel_rfl) (by simp)
      exact st_pick (n := 24) (run_call rfl e20 rfl) hG (by omega) (by omega)
    | 16, _ =>
      cases ho
      obtain ⟨k21, e21, l21, u21⟩ := hk.has 15 21 (by kernel_rfl) (by simp)
      exact st_val (PR := cfgPR _ g 16) (v := .int .i64 (1 + k21)) (run_add rfl e21 (by omega)) hG ⟨_, rfl, by omega, by omega⟩
    | 17, _ =>
      cases ho
      obtain ⟨k22, e22, l22, u22⟩ := hk.has 16 22 (by kernel_rfl) (by simp)
      refine st_new (PR := cfgPR _ g 17) (v := .slice (some ⟨w.heap.size, 0, none⟩) 2 2) (x := .cells #[.int .i64 24, .int .i64 k22] 3) (run_build2 rfl e22) hG ⟨w.heap.size, rfl, by have := hG.lt.1; omega, by simp, fun j hj => ?_⟩
      match j, hj with
      | 0, _ => exact ⟨_, by simp; rfl, by omega, by omega⟩
      | 1, _ => exact ⟨_, by simp; rfl, by omega, by omega⟩
    | 18, _ =>
      cases ho
      have e0 : a.eval (.tmp 0) = .pointer (some ⟨g, 0, none⟩) := hk.was 0 (by kernel_rfl)
      exact st_val (PR := cfgPR _ g 18) (v := .pointer (some ⟨g, 0, none⟩)) (run_move e0) hG rfl
    | 19, _ =>
      cases ho
      have e24 : a.eval (.tmp 24) = .pointer (some ⟨g, 0, none⟩) := hk.has 18 24 (by kernel_rfl) (by simp)
      exact st_pick (n := 2) (run_call rfl e24 rfl) hG (by omega) (by omega)
    | 20, _ =>
      cases ho
      obtain ⟨b23, e23, g23, s23, c23⟩ := hk.has 17 23 (by kernel_rfl) (by simp)
      obtain ⟨k25, e25, l25, u25⟩ := hk.has 19 25 (by kernel_rfl) (by simp)
      obtain ⟨iN, rfl⟩ := Int.eq_ofNat_of_zero_le (show 0 ≤ k25 by omega)
      have hlt : iN < 2 := by omega
      obtain ⟨y, hy, hl, hu⟩ := c23 iN hlt
      exact st_val (PR := cfgPR _ g 20) (v := .pointer (some ⟨b23, iN, none⟩)) (run_index e23 e25 hlt) hG ⟨b23, iN, rfl, g23, s23, y, hy, hl, hu⟩
    | 21, _ =>
      cases ho
      obtain ⟨b26, j26, e26, g26, s26, y26, c26, l26, u26⟩ := hk.has 20 26 (by kernel_rfl) (by simp)
      exact st_val (PR := cfgPR _ g 21) (v := .int .i64 y26) (run_load e26 c26) hG ⟨y26, rfl, l26, u26⟩
    | 22, _ =>
      cases ho
      have e0 : a.eval (.tmp 0) = .pointer (some ⟨g, 0, none⟩) := hk.was 0 (by kernel_rfl)
      exact st_val (PR := cfgPR _ g 22) (v := .pointer (some ⟨g, 0, none⟩)) (run_move e0) hG rfl
    | 23, _ =>
      cases ho
      have e28 : a.eval (.tmp 28) = .pointer (some ⟨g, 0, none⟩) := hk.has 22 28 (by kernel_rfl) (by simp)
      exact st_pick (n := 5) (run_call rfl e28 rfl) hG (by omega) (by omega)
    | 24, _ =>
      cases ho
      obtain ⟨k29, e29, l29, u29⟩ := hk.has 23 29 (by kernel_rfl) (by simp)
      exact st_val (PR := cfgPR _ g 24) (v := .int .i64 (1 + k29)) (run_add rfl e29 (by omega)) hG ⟨_, rfl, by omega, by omega⟩
    | 25, _ =>
      cases ho
      obtain ⟨k8, e8, l8, u8⟩ := hk.has 2 8 (by kernel_rfl) (by simp)
      obtain ⟨k11, e11, l11, u11⟩ := hk.has 5 11 (by kernel_rfl) (by simp)
      obtain ⟨k19, e19, l19, u19⟩ := hk.has 13 19 (by kernel_rfl) (by simp)
      obtain ⟨k27, e27, l27, u27⟩ := hk.has 21 27 (by kernel_rfl) (by simp)
      obtain ⟨k30, e30, l30, u30⟩ := hk.has 24 30 (by kernel_rfl) (by simp)
      exact st_val (PR := cfgPR _ g 25) (v := .agg #[.int .i64 k8, .int .i64 k11, .int .i64 k19, .int .i64 k27, .int .i64 k30]) (run_struct5 e8 e11 e19 e27 e30) hG ⟨_, _, _, _, _, rfl, ⟨by omega, by omega⟩, ⟨by omega, by omega⟩, ⟨by omega, by omega⟩, ⟨by omega, by omega⟩, ⟨by omega, by omega⟩⟩
    | 26, _ =>
      cases ho
      exact st_new (PR := cfgPR _ g 26) (v := .pointer (some ⟨w.heap.size, 0, none⟩)) (x := .cells #[.int .i64 0, .int .i64 0, .int .i64 0, .int .i64 0, .int .i64 0] 53) run_alloc5 hG ⟨w.heap.size, rfl, by have := hG.lt.1; omega, hG.lt.2, heap_alloc_new w _⟩
    | k + 27, hi => omega
  · intro vals w1 hG hv
    obtain ⟨x0, x1, x2, x3, x4, e25, b0, b1, b2, b3, b4⟩ := hv 25 (by omega)
    obtain ⟨b, e26, hbg, hbB, hbc⟩ := hv 26 (by omega)
    clear hv
    simp only [putsL, Act.put, e25, e26, List.setIfInBounds_toArray, List.set_cons_zero, List.set_cons_succ]
    clear e25 e26
    obtain ⟨p1, hp1, r1, g1⟩ := hG
    rw [hs0] at hbB
    have gw1 := grown_trans gw0 g1
    have R1 := R0.grown g1 (by omega)
    refine tail_one rfl rfl ?_
    refine wp_store_row 53 _ _ rfl b #[.int .i64 x0, .int .i64 x1, .int .i64 x2, .int .i64 x3, .int .i64 x4] rfl rfl _ _ hbc (by kernel_rfl) rfl (by simp [Value.oneCell']) ?_
    have X2 := (Bl.row hbc #[.int .i64 x0, .int .i64 x1, .int .i64 x2, .int .i64 x3, .int .i64 x4]).bo
    have R2 := (R1.row_far b #[.int .i64 x0, .int .i64 x1, .int .i64 x2, .int .i64 x3, .int .i64 x4] (by omega)).bo
    have r2 := r1.row b #[.int .i64 x0, .int .i64 x1, .int .i64 x2, .int .i64 x3, .int .i64 x4] (by omega)
    have gw2 := grown_row gw1 b #[.int .i64 x0, .int .i64 x1, .int .i64 x2, .int .i64 x3, .int .i64 x4] (by omega)
    clear hbc R1 r1 gw1 g1 G0 gw0 R0 h
    generalize w1.setRow b #[.int .i64 x0, .int .i64 x1, .int .i64 x2, .int .i64 x3, .int .i64 x4] = w2 at *
    clear w1
    go_wp2_with fail
    refine (odd_any B g p1 zs n w2 r2 (by omega) hn).mono ?_
    rintro e w3 ⟨wrong, p3, rfl, hwr, hwr1, hp3, r3, g3⟩
    have gw3 := grown_trans gw2 g3
    have X3 := X2.grown g3 hbg
    have R3 := R2.grown g3 (by omega)
    clear X2 R2 r2 gw2 g3
    cases wrong
    · have kx := X3.k
      have kr := R3.k
      have fr := R3.f
      have ok0 : Opt.ok ⟨x0, x1, x2, x3, x4⟩ = true := by
        simp only [Opt.ok, Bool.and_eq_true, inB_iff]
        omega
      have rz := ((((r3.cell w.heap.size 0 (.int .i64 x0) (by omega)).cell w.heap.size 1 (.int .i64 x1) (by omega)).cell w.heap.size 2 (.int .i64 x2) (by omega)).cell w.heap.size 3 (.int .i64 x3) (by omega)).cell w.heap.size 4 (.int .i64 x4) (by omega)
      have gz := grown_cell (grown_cell (grown_cell (grown_cell (grown_cell gw3 w.heap.size 0 (.int .i64 x0) (by omega)) w.heap.size 1 (.int .i64 x1) (by omega)) w.heap.size 2 (.int .i64 x2) (by omega)) w.heap.size 3 (.int .i64 x3) (by omega)) w.heap.size 4 (.int .i64 x4) (by omega)
      have dz : Drawn x0 x1 x2 x3 x4 := by unfold Drawn; omega
      have kz := (((((R3.put 0 (by simp) (.int .i64 x0)).put 1 (by simp) (.int .i64 x1)).put 2 (by simp) (.int .i64 x2)).put 3 (by simp) (.int .i64 x3)).put 4 (by simp) (.int .i64 x4)).k
      clear r3 gw3
      go_wp2
      exact bodyPost_ret (v := .agg #[.int .i64 x0, .int .i64 x1, .int .i64 x2, .int .i64 x3, .int .i64 x4]) (by simp [results, Try.results76, go_sem, kz]) rfl ⟨x0, x1, x2, x3, x4, p3, rfl, dz, fun _ => ok0, fun h => absurd (hwr1 h) (by decide), by omega, rz, gz⟩
    · have h0 : n ≠ 0 := fun h => by have := hwr h; cases this
      go_wp2_with fail
      refine (pick_any B g p3 zs 5 w3 r3 (by omega) (by omega)).mono ?_
      rintro e w4 ⟨k, rfl, hk, r4, g4⟩
      have gw4 := grown_trans gw3 g4
      have X4 := X3.grown g4 hbg
      have R4 := R3.grown g4 (by omega)
      clear X3 R3 r3 gw3 g4
      rcases (show k = 0 ∨ k = 1 ∨ k = 2 ∨ k = 3 ∨ k = 4 by omega) with rfl | rfl | rfl | rfl | rfl
      · have r5 := r4.other (grown_alloc w4 (.cells #[.int .i64 0, .int .i64 3] 3) none) (fun q e => by cases e)
        have hl4 := r4.lt
        have hs4 := gw4.size
        go_wp2_with fail
        refine (pick_any B g (p3 + 1) zs 2 _ r5 (by omega) (by omega)).mono ?_
        rintro e w6 ⟨i, rfl, hi, r6, g6⟩
        have gw6 := grown_trans (grown_trans gw4 (grown_alloc w4 (.cells #[.int .i64 0, .int .i64 3] 3) _)) g6
        have X6 := (X4.kept (bo_alloc w4 (.cells #[.int .i64 0, .int .i64 3] 3))).grown g6 hbg
        have R6 := (R4.kept (bo_alloc w4 (.cells #[.int .i64 0, .int .i64 3] 3))).grown g6 (by omega)
        obtain ⟨y, hy, cy⟩ := row_two w4 0 3 i (by omega)
        have cy6 : w6.cell? ⟨w4.heap.size, i, none⟩ = some (.int .i64 y) := g6.cell cy (by simp; omega)
        have hi2 : (i : Int) < 2 := by omega
        have dz : Drawn y x1 x2 x3 x4 := by unfold Drawn; omega
        have oz : Opt.ok ⟨y, x1, x2, x3, x4⟩ = false := by
          rw [← Bool.not_eq_true]
          simp only [Opt.ok, Bool.and_eq_true, inB_iff]
          omega
        have X7 := X6.put 0 (by simp) (.int .i64 y)
        have R7 := R6.far b 0 (.int .i64 y) (by omega)
        have r7 := r6.cell b 0 (.int .i64 y) (by omega)
        have gw7 := grown_cell gw6 b 0 (.int .i64 y) (by omega)
        have rz := ((((r7.cell w.heap.size 0 (.int .i64 y) (by omega)).cell w.heap.size 1 (.int .i64 x1) (by omega)).cell w.heap.size 2 (.int .i64 x2) (by omega)).cell w.heap.size 3 (.int .i64 x3) (by omega)).cell w.heap.size 4 (.int .i64 x4) (by omega)
        have gz := grown_cell (grown_cell (grown_cell (grown_cell (grown_cell gw7 w.heap.size 0 (.int .i64 y) (by omega)) w.heap.size 1 (.int .i64 x1) (by omega)) w.heap.size 2 (.int .i64 x2) (by omega)) w.heap.size 3 (.int .i64 x3) (by omega)) w.heap.size 4 (.int .i64 x4) (by omega)
        have fx := X6.f
        have kx := X6.k
        have kx7 := X7.k
        have kr7 := R7.k
        have fr7 := R7.f
        have kz := (((((R7.put 0 (by simp) (.int .i64 y)).put 1 (by simp) (.int .i64 x1)).put 2 (by simp) (.int .i64 x2)).put 3 (by simp) (.int .i64 x3)).put 4 (by simp) (.int .i64 x4)).k
        clear r4 r5 r6 r7 gw4 gw6 gw7 g6 X4 X6 R4 R6 X7 R7 cy hy
        go_wp2
        exact bodyPost_ret (v := .agg #[.int .i64 y, .int .i64 x1, .int .i64 x2, .int .i64 x3, .int .i64 x4]) (by simp [results, Try.results76, go_sem, kz]) rfl ⟨y, x1, x2, x3, x4, p3 + 1 + 1, rfl, dz, fun h => absurd h h0, fun _ => oz, by omega, rz, gz⟩
      · have r5 := r4.other (grown_alloc w4 (.cells #[.int .i64 0, .int .i64 5] 3) none) (fun q e => by cases e)
        have hl4 := r4.lt
        have hs4 := gw4.size
        go_wp2_with fail
        refine (pick_any B g (p3 + 1) zs 2 _ r5 (by omega) (by omega)).mono ?_
        rintro e w6 ⟨i, rfl, hi, r6, g6⟩
        have gw6 := grown_trans (grown_trans gw4 (grown_alloc w4 (.cells #[.int .i64 0, .int .i64 5] 3) _)) g6
        have X6 := (X4.kept (bo_alloc w4 (.cells #[.int .i64 0, .int .i64 5] 3))).grown g6 hbg
        have R6 := (R4.kept (bo_alloc w4 (.cells #[.int .i64 0, .int .i64 5] 3))).grown g6 (by omega)
        obtain ⟨y, hy, cy⟩ := row_two w4 0 5 i (by omega)
        have cy6 : w6.cell? ⟨w4.heap.size, i, none⟩ = some (.int .i64 y) := g6.cell cy (by simp; omega)
        have hi2 : (i : Int) < 2 := by omega
        have dz : Drawn x0 y x2 x3 x4 := by unfold Drawn; omega
        have oz : Opt.ok ⟨x0, y, x2, x3, x4⟩ = false := by
          rw [← Bool.not_eq_true]
          simp only [Opt.ok, Bool.and_eq_true, inB_iff]
          omega
        have X7 := X6.put 1 (by simp) (.int .i64 y)
        have R7 := R6.far b 1 (.int .i64 y) (by omega)
        have r7 := r6.cell b 1 (.int .i64 y) (by omega)
        have gw7 := grown_cell gw6 b 1 (.int .i64 y) (by omega)
        have rz := ((((r7.cell w.heap.size 0 (.int .i64 x0) (by omega)).cell w.heap.size 1 (.int .i64 y) (by omega)).cell w.heap.size 2 (.int .i64 x2) (by omega)).cell w.heap.size 3 (.int .i64 x3) (by omega)).cell w.heap.size 4 (.int .i64 x4) (by omega)
        have gz := grown_cell (grown_cell (grown_cell (grown_cell (grown_cell gw7 w.heap.size 0 (.int .i64 x0) (by omega)) w.heap.size 1 (.int .i64 y) (by omega)) w.heap.size 2 (.int .i64 x2) (by omega)) w.heap.size 3 (.int .i64 x3) (by omega)) w.heap.size 4 (.int .i64 x4) (by omega)
        have fx := X6.f
        have kx := X6.k
        have kx7 := X7.k
        have kr7 := R7.k
        have fr7 := R7.f
        have kz := (((((R7.put 0 (by simp) (.int .i64 x0)).put 1 (by simp) (.int .i64 y)).put 2 (by simp) (.int .i64 x2)).put 3 (by simp) (.int .i64 x3)).put 4 (by simp) (.int .i64 x4)).k
        clear r4 r5 r6 r7 gw4 gw6 gw7 g6 X4 X6 R4 R6 X7 R7 cy hy
        go_wp2
        exact bodyPost_ret (v := .agg #[.int .i64 x0, .int .i64 y, .int .i64 x2, .int .i64 x3, .int .i64 x4]) (by simp [results, Try.results76, go_sem, kz]) rfl ⟨x0, y, x2, x3, x4, p3 + 1 + 1, rfl, dz, fun h => absurd h h0, fun _ => oz, by omega, rz, gz⟩
      · have r5 := r4.other (grown_alloc w4 (.cells #[.int .i64 0, .int .i64 9] 3) none) (fun q e => by cases e)
        have hl4 := r4.lt
        have hs4 := gw4.size
        go_wp2_with fail
        refine (pick_any B g (p3 + 1) zs 2 _ r5 (by omega) (by omega)).mono ?_
        rintro e w6 ⟨i, rfl, hi, r6, g6⟩
        have gw6 := grown_trans (grown_trans gw4 (grown_alloc w4 (.cells #[.int .i64 0, .int .i64 9] 3) _)) g6
        have X6 := (X4.kept (bo_alloc w4 (.cells #[.int .i64 0, .int .i64 9] 3))).grown g6 hbg
        have R6 := (R4.kept (bo_alloc w4 (.cells #[.int .i64 0, .int .i64 9] 3))).grown g6 (by omega)
        obtain ⟨y, hy, cy⟩ := row_two w4 0 9 i (by omega)
        have cy6 : w6.cell? ⟨w4.heap.size, i, none⟩ = some (.int .i64 y) := g6.cell cy (by simp; omega)
        have hi2 : (i : Int) < 2 := by omega
        have dz : Drawn x0 x1 y x3 x4 := by unfold Drawn; omega
        have oz : Opt.ok ⟨x0, x1, y, x3, x4⟩ = false := by
          rw [← Bool.not_eq_true]
          simp only [Opt.ok, Bool.and_eq_true, inB_iff]
          omega
        have X7 := X6.put 2 (by simp) (.int .i64 y)
        have R7 := R6.far b 2 (.int .i64 y) (by omega)
        have r7 := r6.cell b 2 (.int .i64 y) (by omega)
        have gw7 := grown_cell gw6 b 2 (.int .i64 y) (by omega)
        have rz := ((((r7.cell w.heap.size 0 (.int .i64 x0) (by omega)).cell w.heap.size 1 (.int .i64 x1) (by omega)).cell w.heap.size 2 (.int .i64 y) (by omega)).cell w.heap.size 3 (.int .i64 x3) (by omega)).cell w.heap.size 4 (.int .i64 x4) (by omega)
        have gz := grown_cell (grown_cell (grown_cell (grown_cell (grown_cell gw7 w.heap.size 0 (.int .i64 x0) (by omega)) w.heap.size 1 (.int .i64 x1) (by omega)) w.heap.size 2 (.int .i64 y) (by omega)) w.heap.size 3 (.int .i64 x3) (by omega)) w.heap.size 4 (.int .i64 x4) (by omega)
        have fx := X6.f
        have kx := X6.k
        have kx7 := X7.k
        have kr7 := R7.k
        have fr7 := R7.f
        have kz := (((((R7.put 0 (by simp) (.int .i64 x0)).put 1 (by simp) (.int .i64 x1)).put 2 (by simp) (.int .i64 y)).put 3 (by simp) (.int .i64 x3)).put 4 (by simp) (.int .i64 x4)).k
        clear r4 r5 r6 r7 gw4 gw6 gw7 g6 X4 X6 R4 R6 X7 R7 cy hy
        go_wp2
        exact bodyPost_ret (v := .agg #[.int .i64 x0, .int .i64 x1, .int .i64 y, .int .i64 x3, .int .i64 x4]) (by simp [results, Try.results76, go_sem, kz]) rfl ⟨x0, x1, y, x3, x4, p3 + 1 + 1, rfl, dz, fun h => absurd h h0, fun _ => oz, by omega, rz, gz⟩
      · have r5 := r4.other (grown_alloc w4 (.cells #[.int .i64 0, .int .i64 25] 3) none) (fun q e => by cases e)
        have hl4 := r4.lt
        have hs4 := gw4.size
        go_wp2_with fail
        refine (pick_any B g (p3 + 1) zs 2 _ r5 (by omega) (by omega)).mono ?_
        rintro e w6 ⟨i, rfl, hi, r6, g6⟩
        have gw6 := grown_trans (grown_trans gw4 (grown_alloc w4 (.cells #[.int .i64 0, .int .i64 25] 3) _)) g6
        have X6 := (X4.kept (bo_alloc w4 (.cells #[.int .i64 0, .int .i64 25] 3))).grown g6 hbg
        have R6 := (R4.kept (bo_alloc w4 (.cells #[.int .i64 0, .int .i64 25] 3))).grown g6 (by omega)
        obtain ⟨y, hy, cy⟩ := row_two w4 0 25 i (by omega)
        have cy6 : w6.cell? ⟨w4.heap.size, i, none⟩ = some (.int .i64 y) := g6.cell cy (by simp; omega)
        have hi2 : (i : Int) < 2 := by omega
        have dz : Drawn x0 x1 x2 y x4 := by unfold Drawn; omega
        have oz : Opt.ok ⟨x0, x1, x2, y, x4⟩ = false := by
          rw [← Bool.not_eq_true]
          simp only [Opt.ok, Bool.and_eq_true, inB_iff]
          omega
        have X7 := X6.put 3 (by simp) (.int .i64 y)
        have R7 := R6.far b 3 (.int .i64 y) (by omega)
        have r7 := r6.cell b 3 (.int .i64 y) (by omega)
        have gw7 := grown_cell gw6 b 3 (.int .i64 y) (by omega)
        have rz := ((((r7.cell w.heap.size 0 (.int .i64 x0) (by omega)).cell w.heap.size 1 (.int .i64 x1) (by omega)).cell w.heap.size 2 (.int .i64 x2) (by omega)).cell w.heap.size 3 (.int .i64 y) (by omega)).cell w.heap.size 4 (.int .i64 x4) (by omega)
        have gz := grown_cell (grown_cell (grown_cell (grown_cell (grown_cell gw7 w.heap.size 0 (.int .i64 x0) (by omega)) w.heap.size 1 (.int .i64 x1) (by omega)) w.heap.size 2 (.int .i64 x2) (by omega)) w.heap.size 3 (.int .i64 y) (by omega)) w.heap.size 4 (.int .i64 x4) (by omega)
        have fx := X6.f
        have kx := X6.k
        have kx7 := X7.k
        have kr7 := R7.k
        have fr7 := R7.f
        have kz := (((((R7.put 0 (by simp) (.int .i64 x0)).put 1 (by simp) (.int .i64 x1)).put 2 (by simp) (.int .i64 x2)).put 3 (by simp) (.int .i64 y)).put 4 (by simp) (.int .i64 x4)).k
        clear r4 r5 r6 r7 gw4 gw6 gw7 g6 X4 X6 R4 R6 X7 R7 cy hy
        go_wp2
        exact bodyPost_ret (v := .agg #[.int .i64 x0, .int .i64 x1, .int .i64 x2, .int .i64 y, .int .i64 x4]) (by simp [results, Try.results76, go_sem, kz]) rfl ⟨x0, x1, x2, y, x4, p3 + 1 + 1, rfl, dz, fun h => absurd h h0, fun _ => oz, by omega, rz, gz⟩
      · have r5 := r4.other (grown_alloc w4 (.cells #[.int .i64 0, .int .i64 6] 3) none) (fun q e => by cases e)
        have hl4 := r4.lt
        have hs4 := gw4.size
        go_wp2_with fail
        refine (pick_any B g (p3 + 1) zs 2 _ r5 (by omega) (by omega)).mono ?_
        rintro e w6 ⟨i, rfl, hi, r6, g6⟩
        have gw6 := grown_trans (grown_trans gw4 (grown_alloc w4 (.cells #[.int .i64 0, .int .i64 6] 3) _)) g6
        have X6 := (X4.kept (bo_alloc w4 (.cells #[.int .i64 0, .int .i64 6] 3))).grown g6 hbg
        have R6 := (R4.kept (bo_alloc w4 (.cells #[.int .i64 0, .int .i64 6] 3))).grown g6 (by omega)
        obtain ⟨y, hy, cy⟩ := row_two w4 0 6 i (by omega)
        have cy6 : w6.cell? ⟨w4.heap.size, i, none⟩ = some (.int .i64 y) := g6.cell cy (by simp; omega)
        have hi2 : (i : Int) < 2 := by omega
        have dz : Drawn x0 x1 x2 x3 y := by unfold Drawn; omega
        have oz : Opt.ok ⟨x0, x1, x2, x3, y⟩ = false := by
          rw [← Bool.not_eq_true]
          simp only [Opt.ok, Bool.and_eq_true, inB_iff]
          omega
        have X7 := X6.put 4 (by simp) (.int .i64 y)
        have R7 := R6.far b 4 (.int .i64 y) (by omega)
        have r7 := r6.cell b 4 (.int .i64 y) (by omega)
        have gw7 := grown_cell gw6 b 4 (.int .i64 y) (by omega)
        have rz := ((((r7.cell w.heap.size 0 (.int .i64 x0) (by omega)).cell w.heap.size 1 (.int .i64 x1) (by omega)).cell w.heap.size 2 (.int .i64 x2) (by omega)).cell w.heap.size 3 (.int .i64 x3) (by omega)).cell w.heap.size 4 (.int .i64 y) (by omega)
        have gz := grown_cell (grown_cell (grown_cell (grown_cell (grown_cell gw7 w.heap.size 0 (.int .i64 x0) (by omega)) w.heap.size 1 (.int .i64 x1) (by omega)) w.heap.size 2 (.int .i64 x2) (by omega)) w.heap.size 3 (.int .i64 x3) (by omega)) w.heap.size 4 (.int .i64 y) (by omega)
        have fx := X6.f
        have kx := X6.k
        have kx7 := X7.k
        have kr7 := R7.k
        have fr7 := R7.f
        have kz := (((((R7.put 0 (by simp) (.int .i64 x0)).put 1 (by simp) (.int .i64 x1)).put 2 (by simp) (.int .i64 x2)).put 3 (by simp) (.int .i64 x3)).put 4 (by simp) (.int .i64 y)).k
        clear r4 r5 r6 r7 gw4 gw6 gw7 g6 X4 X6 R4 R6 X7 R7 cy hy
        go_wp2
        exact bodyPost_ret (v := .agg #[.int .i64 x0, .int .i64 x1, .int .i64 x2, .int .i64 x3, .int .i64 y]) (by simp [results, Try.results76, go_sem, kz]) rfl ⟨x0, x1, x2, x3, y, p3 + 1 + 1, rfl, dz, fun h => absurd h h0, fun _ => oz, by omega, rz, gz⟩
end Go.Proofs.Ytkogmnjgpaocbaa
