/- A sum and a byte, drawn. -/
import Derived.Test.YteennkfgnbhhhaaOpenDraw
namespace Go.Proofs.Yteennkfgnbhhhaa
open Go.RowKit

def stpPR (_B g : Nat) : Nat → Value → World → Prop
  | 0, v, _ => v = .pointer (some ⟨g, 0, none⟩)
  | 1, v, _ => PInt 0 (256 - 1) v
  | 2, v, _ => PInt 0 65280 v
  | 3, v, _ => v = .pointer (some ⟨g, 0, none⟩)
  | 4, v, _ => PInt 0 (256 - 1) v
  | 5, v, _ => PInt 0 65535 v
  | 6, v, w => PRow g 5 (-1) 65536 v w
  | 7, v, w => PRow g 7 0 4 v w
  | 8, v, _ => v = .pointer (some ⟨g, 0, none⟩)
  | 9, v, _ => PInt 0 (7 - 1) v
  | 10, v, w => PCell g 0 4 v w
  | 11, v, _ => PInt 0 4 v
  | 12, v, w => PCell g (-1) 65536 v w
  | 13, v, _ => PInt (-1) 65536 v
  | 14, v, _ => v = .pointer (some ⟨g, 0, none⟩)
  | 15, v, _ => PInt 0 (256 - 1) v
  | 16, v, _ => ∃ k : Nat, v = .int .u8 (k : Int) ∧ k < 256
  | 17, v, _ => PInt (-1) 65536 v
  | _, _, _ => True
theorem stpPR_mono (B g : Nat) (j : Nat) (v : Value) (w w' : World) (h : stpPR B g j v w) (k : w.grownBy w' (some g)) : stpPR B g j v w' := by
  match j with
  | 0 => exact h
  | 1 => exact h
  | 2 => exact h
  | 3 => exact h
  | 4 => exact h
  | 5 => exact h
  | 6 => exact PRow.mono h k
  | 7 => exact PRow.mono h k
  | 8 => exact h
  | 9 => exact h
  | 10 => exact PCell.mono h k
  | 11 => exact h
  | 12 => exact PCell.mono h k
  | 13 => exact h
  | 14 => exact h
  | 15 => exact h
  | 16 => exact h
  | 17 => exact h
  | _ + 18 => trivial

set_option maxRecDepth 100000 in
set_option maxHeartbeats 4000000 in
theorem drawStep_any (v : Value) (zs : List Nat) (w : World) (h : Rd w v zs) :
    Calls Try.prog 25 #[v] w fun e w' => ∃ (s : Int) (b : Nat), e = .returned (.tuple #[.int .i64 s, .int .u8 (b : Int)]) ∧ (-1 ≤ s ∧ s ≤ 65536) ∧ b < 256 ∧ Below w.heap.size w w' := by
  obtain ⟨g, hgd⟩ : ∃ g, g = w.heap.size := ⟨_, rfl⟩
  go_enter Try.func25, Try.ntmps25
  go_wp2_with fail
  refine (open_any v zs _ h).mono ?_
  rw [← hgd]
  rintro e w1 ⟨rfl, ⟨cs, r1⟩, b1⟩
  have G0 : Gd w1.drew g g 0 cs 0 w1.drew := ⟨0, by omega, r1.drew, grown_refl _ _⟩
  have hp : (0 : Nat) ≤ 800000000 := by omega
  go_wp2_with fail
  refine region_tail 18 [7, 8, 9, 10, 11, 12, 13, 14, 15, 16, 17, 18, 19, 20, 21, 22, 23, 2] [18] (stpPR g g) (Gd _ g g 0 cs) (fun w w' => w.grownBy w' (some g)) (by kernel_rfl) (by kernel_rfl) (dsts_in (by kernel_rfl)) G0 (stpPR_mono _ g) ?_ ?_
  · rename_i hbig; clear hbig
    intro i o hi ho a w c hc hG hk
    match i, hi with
    | 0, _ =>
      cases ho
      have e4 : a.eval (.tmp 4) = .pointer (some ⟨g, 0, none⟩) := (hk.was 4 (by kernel_rfl)).trans (by rw [hgd]; rfl)
      exact st_val (PR := stpPR g g 0) (v := .pointer (some ⟨g, 0, none⟩)) (run_move e4) hG rfl
    | 1, _ =>
      cases ho
      have e7 : a.eval (.tmp 7) = .pointer (some ⟨g, 0, none⟩) := hk.has 0 7 (by kernel_rfl) (by simp)
      exact st_pick (n := 256) (run_call rfl e7 rfl) hG (by omega) (by omega)
    | 2, _ =>
      cases ho
      obtain ⟨k8, e8, l8, u8⟩ := hk.has 1 8 (by kernel_rfl) (by simp)
      exact st_val (PR := stpPR g g 2) (v := .int .i64 (k8 * 256)) (run_mul e8 rfl (by omega)) hG ⟨_, rfl, by omega, by omega⟩
    | 3, _ =>
      cases ho
      have e4 : a.eval (.tmp 4) = .pointer (some ⟨g, 0, none⟩) := (hk.was 4 (by kernel_rfl)).trans (by rw [hgd]; rfl)
      exact st_val (PR := stpPR g g 3) (v := .pointer (some ⟨g, 0, none⟩)) (run_move e4) hG rfl
    | 4, _ =>
      cases ho
      have e10 : a.eval (.tmp 10) = .pointer (some ⟨g, 0, none⟩) := hk.has 3 10 (by kernel_rfl) (by simp)
      exact st_pick (n := 256) (run_call rfl e10 rfl) hG (by omega) (by omega)
    | 5, _ =>
      cases ho
      obtain ⟨k9, e9, l9, u9⟩ := hk.has 2 9 (by kernel_rfl) (by simp)
      obtain ⟨k11, e11, l11, u11⟩ := hk.has 4 11 (by kernel_rfl) (by simp)
      exact st_val (PR := stpPR g g 5) (v := .int .i64 (k9 + k11)) (run_add e9 e11 (by omega)) hG ⟨_, rfl, by omega, by omega⟩
    | 6, _ =>
      cases ho
      obtain ⟨k12, e12, l12, u12⟩ := hk.has 5 12 (by kernel_rfl) (by simp)
      refine st_new (PR := stpPR g g 6) (v := .slice (some ⟨w.heap.size, 0, none⟩) 5 5) (x := .cells #[.int .i64 k12, .int .i64 0, .int .i64 65535, .int .i64 (-1), .int .i64 65536] 3) (run_build5 e12 rfl rfl rfl rfl) hG ⟨w.heap.size, rfl, by have := hG.lt.1; omega, by simp, fun j hj => ?_⟩
      match j, hj with
      | 0, _ => exact ⟨_, by simp; rfl, by omega, by omega⟩
      | 1, _ => exact ⟨_, by simp; rfl, by omega, by omega⟩
      | 2, _ => exact ⟨_, by simp; rfl, by omega, by omega⟩
      | 3, _ => exact ⟨_, by simp; rfl, by omega, by omega⟩
      | 4, _ => exact ⟨_, by simp; rfl, by omega, by omega⟩
    | 7, _ =>
      cases ho
      refine st_new (PR := stpPR g g 7) (v := .slice (some ⟨w.heap.size, 0, none⟩) 7 7) (x := .cells #[.int .i64 0, .int .i64 0, .int .i64 0, .int .i64 1, .int .i64 2, .int .i64 3, .int .i64 4] 3) (run_build7 rfl rfl rfl rfl rfl rfl rfl) hG ⟨w.heap.size, rfl, by have := hG.lt.1; omega, by simp, fun j hj => ?_⟩
      match j, hj with
      | 0, _ => exact ⟨_, by simp; rfl, by omega, by omega⟩
      | 1, _ => exact ⟨_, by simp; rfl, by omega, by omega⟩
      | 2, _ => exact ⟨_, by simp; rfl, by omega, by omega⟩
      | 3, _ => exact ⟨_, by simp; rfl, by omega, by omega⟩
      | 4, _ => exact ⟨_, by simp; rfl, by omega, by omega⟩
      | 5, _ => exact ⟨_, by simp; rfl, by omega, by omega⟩
      | 6, _ => exact ⟨_, by simp; rfl, by omega, by omega⟩
    | 8, _ =>
      cases ho
      have e4 : a.eval (.tmp 4) = .pointer (some ⟨g, 0, none⟩) := (hk.was 4 (by kernel_rfl)).trans (by rw [hgd]; rfl)
      exact st_val (PR := stpPR g g 8) (v := .pointer (some ⟨g, 0, none⟩)) (run_move e4) hG rfl
    | 9, _ =>
      cases ho
      have e15 : a.eval (.tmp 15) = .pointer (some ⟨g, 0, none⟩) := hk.has 8 15 (by kernel_rfl) (by simp)
      exact st_pick (n := 7) (run_call rfl e15 rfl) hG (by omega) (by omega)
    | 10, _ =>
      cases ho
      obtain ⟨b14, e14, g14, s14, c14⟩ := hk.has 7 14 (by kernel_rfl) (by simp)
      obtain ⟨k16, e16, l16, u16⟩ := hk.has 9 16 (by kernel_rfl) (by simp)
      obtain ⟨iN, rfl⟩ := Int.eq_ofNat_of_zero_le (show 0 ≤ k16 by omega)
      have hlt : iN < 7 := by omega
      obtain ⟨y, hy, hl, hu⟩ := c14 iN hlt
      exact st_val (PR := stpPR g g 10) (v := .pointer (some ⟨b14, iN, none⟩)) (run_index e14 e16 hlt) hG ⟨b14, iN, rfl, g14, s14, y, hy, hl, hu⟩
    | 11, _ =>
      cases ho
      obtain ⟨b17, j17, e17, g17, s17, y17, c17, l17, u17⟩ := hk.has 10 17 (by kernel_rfl) (by simp)
      exact st_val (PR := stpPR g g 11) (v := .int .i64 y17) (run_load e17 c17) hG ⟨y17, rfl, l17, u17⟩
    | 12, _ =>
      cases ho
      obtain ⟨b13, e13, g13, s13, c13⟩ := hk.has 6 13 (by kernel_rfl) (by simp)
      obtain ⟨k18, e18, l18, u18⟩ := hk.has 11 18 (by kernel_rfl) (by simp)
      obtain ⟨iN, rfl⟩ := Int.eq_ofNat_of_zero_le (show 0 ≤ k18 by omega)
      have hlt : iN < 5 := by omega
      obtain ⟨y, hy, hl, hu⟩ := c13 iN hlt
      exact st_val (PR := stpPR g g 12) (v := .pointer (some ⟨b13, iN, none⟩)) (run_index e13 e18 hlt) hG ⟨b13, iN, rfl, g13, s13, y, hy, hl, hu⟩
    | 13, _ =>
      cases ho
      obtain ⟨b19, j19, e19, g19, s19, y19, c19, l19, u19⟩ := hk.has 12 19 (by kernel_rfl) (by simp)
      exact st_val (PR := stpPR g g 13) (v := .int .i64 y19) (run_load e19 c19) hG ⟨y19, rfl, l19, u19⟩
    | 14, _ =>
      cases ho
      have e4 : a.eval (.tmp 4) = .pointer (some ⟨g, 0, none⟩) := (hk.was 4 (by kernel_rfl)).trans (by rw [hgd]; rfl)
      exact st_val (PR := stpPR g g 14) (v := .pointer (some ⟨g, 0, none⟩)) (run_move e4) hG rfl
    | 15, _ =>
      cases ho
      have e21 : a.eval (.tmp 21) = .pointer (some ⟨g, 0, none⟩) := hk.has 14 21 (by kernel_rfl) (by simp)
      exact st_pick (n := 256) (run_call rfl e21 rfl) hG (by omega) (by omega)
    | 16, _ =>
      cases ho
      obtain ⟨k22, e22, l22, u22⟩ := hk.has 15 22 (by kernel_rfl) (by simp)
      obtain ⟨kN, rfl⟩ := Int.eq_ofNat_of_zero_le (show 0 ≤ k22 by omega)
      exact st_val (PR := stpPR g g 16) (v := .int .u8 (kN : Int)) (run_conv e22 (by omega)) hG ⟨kN, rfl, by omega⟩
    | 17, _ =>
      cases ho
      obtain ⟨k20, e20, l20, u20⟩ := hk.has 13 20 (by kernel_rfl) (by simp)
      exact st_val (PR := stpPR g g 17) (v := .int .i64 k20) (run_assign e20) hG ⟨k20, rfl, by omega, by omega⟩
    | k + 18, hi => omega
  · intro vals w2 hG hv
    obtain ⟨s, e13, hl, hu⟩ := hv 17 (by omega)
    obtain ⟨b, e16, hb⟩ := hv 16 (by omega)
    clear hv
    simp only [putsL, Act.put, e13, e16, List.setIfInBounds_toArray, List.set_cons_zero, List.set_cons_succ]
    clear e13 e16
    obtain ⟨p2, hp2, r2, g2⟩ := hG
    have b2 : Below g w w2 := (b1.drew).grown g2 (by have := b1.drew.size; omega) (fun q e => by cases e; omega)
    refine tail_one rfl rfl ?_
    go_simp
    go_wp2
    rw [hgd] at b2
    go_returns
    exact ⟨s, b, rfl, by omega, hb, b2⟩
end Go.Proofs.Yteennkfgnbhhhaa
