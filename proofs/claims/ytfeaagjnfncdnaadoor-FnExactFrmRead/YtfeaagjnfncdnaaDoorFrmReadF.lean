/- The program's reader reads a frame: five numbers and so many bytes. -/
import Derived.Test.YtfeaagjnfncdnaaDoorFrmReader
namespace Go.Proofs.YtfeaagjnfncdnaaDoor
open Go.RowKit

theorem Fr.kept {w w' : World} {g : Nat} {zs : List Nat} {e : Bool} (h : Fr w g zs e) (hb : Below w.heap.size w w') : Fr w' g zs e := by
  obtain ⟨s, ev, hs, hg2, c0, c1, fz, hne, hev⟩ := h
  exact ⟨s, ev, hs.kept hb, Nat.lt_of_lt_of_le hg2 hb.size, (hb.cell (p := ⟨g, 0, none⟩) hg2).trans c0, (hb.cell (p := ⟨g, 1, none⟩) hg2).trans c1, fun o => (hb.frozen (p := ⟨g, o, none⟩) hg2).trans (fz o), hne, hev⟩
theorem Rd.more {w w' : World} {v : Value} {zs : List Nat} {u : Option Nat} (h : Rd w v zs) (hg : w.grownBy w' u) (hne : ∀ b, v.ownBlock = some b → some b ≠ u) : Rd w' v zs := by
  obtain ⟨h1, h2, h3⟩ := h
  refine ⟨h1, h2, ?_⟩
  rcases h3 with h3 | ⟨b, off, cap, e, h4, h5, h6, h7⟩
  · exact .inl h3
  · exact .inr ⟨b, off, cap, e, h4, h5, Nat.lt_of_lt_of_le h6 hg.size, fun j hj => (World.cell?_of_block (a := ⟨b, off + j, none⟩) (hg.block b h6 (hne b (by rw [e]; rfl)))).trans (h7 j hj)⟩
theorem Fr.more {w w' : World} {g : Nat} {zs : List Nat} {e : Bool} {u : Option Nat} (h : Fr w g zs e) (hg : w.grownBy w' u) (hu : ∀ k, u = some k → g < k) : Fr w' g zs e := by
  obtain ⟨s, ev, hs, hg2, c0, c1, fz, hne, hev⟩ := h
  have hgu : some g ≠ u := fun e => by have := hu g e.symm; omega
  exact ⟨s, ev, hs.more hg (fun b e e' => by have := hu b e'.symm; have := hne b e; omega), Nat.lt_of_lt_of_le hg2 hg.size, (World.cell?_of_block (a := ⟨g, 0, none⟩) (hg.block g hg2 hgu)).trans c0, (World.cell?_of_block (a := ⟨g, 1, none⟩) (hg.block g hg2 hgu)).trans c1, fun o => (World.frozen?_of_block (a := ⟨g, o, none⟩) (hg.block g hg2 hgu)).trans (fz o), hne, hev⟩
theorem own_form {w : World} {B : Nat} {v : Value} {zs : List Nat} (h : Own w B v zs) : ∃ x n c, v = .slice x n c := by
  rcases h.2 with ⟨h, _⟩ | ⟨g, cap, cur, h, _⟩
  · exact ⟨_, _, _, h⟩
  · exact ⟨_, _, _, h⟩
theorem Fr.lt {w : World} {g : Nat} {zs : List Nat} {e : Bool} (h : Fr w g zs e) : g < w.heap.size := by
  obtain ⟨s, ev, hs, hg2, _⟩ := h
  exact hg2

/-- One number taken: what is left, whether there is an error; the number. -/
def stp (s : List Nat × Bool) : List Nat × Bool := (tkZ 1 s.1 s.2, tkE 1 s.1 s.2)
def num (s : List Nat × Bool) : Nat := (tkR 1 s.1 s.2).getD 0 0
theorem num_step (g : Nat) (s : List Nat × Bool) (w : World) (hF : Fr w g s.1 s.2) (hE : Errs w) (hg : 3 ≤ g) :
    Calls Tryd.prog 23 #[.pointer (some ⟨g, 0, none⟩)] w fun r w' => r = .returned (.int .i64 (num s : Int)) ∧ num s < 256 ∧ Fr w' g (stp s).1 (stp s).2 ∧ w.grownBy w' (some g) ∧ Errs w' := by
  refine (number_rd g s.1 s.2 w hF hE).mono ?_
  rintro r w1 ⟨rfl, h1, h2, h3⟩
  exact ⟨rfl, h1, h2, h3, hE.grown h3 hg⟩

set_option maxHeartbeats 4000000 in
theorem read_any (g : Nat) (s : List Nat × Bool) (w : World) (hF : Fr w g s.1 s.2) (hE : Errs w) (hg : 3 ≤ g) :
    Calls Tryd.prog 15 #[.pointer (some ⟨g, 0, none⟩)] w fun r w' => ∃ v',
      r = .returned (.agg #[.int .i64 (num s : Int), .int .i64 ((num (stp s) : Int) / 16), .int .i64 ((num (stp s) : Int) % 16), .bool ((num (stp (stp s)) : Int) % 2 == 1), .bool ((num (stp (stp s)) : Int) / 2 % 2 == 1), .int .i64 ((num (stp (stp s)) : Int) / 4 % 4), .int .i64 ((num (stp (stp s)) : Int) / 16), .int .i64 (num (stp (stp (stp s))) : Int), v']) ∧
      Own w' w.heap.size v' (tkR (num (stp (stp (stp (stp s))))) (stp (stp (stp (stp (stp s))))).1 (stp (stp (stp (stp (stp s))))).2) ∧
      Fr w' g (tkZ (num (stp (stp (stp (stp s))))) (stp (stp (stp (stp (stp s))))).1 (stp (stp (stp (stp (stp s))))).2) (tkE (num (stp (stp (stp (stp s))))) (stp (stp (stp (stp (stp s))))).1 (stp (stp (stp (stp (stp s))))).2) ∧ w.grownBy w' (some g) := by
  have z0 := hF.lt
  go_enter Tryd.func15, Tryd.ntmps15
  have bx : Below w.heap.size w (w.alloc (.cells #[.int .i64 0, .int .i64 0, .int .i64 0, .bool false, .bool false, .int .i64 0, .int .i64 0, .int .i64 0, .slice none 0 0] 24)) := (Below.refl _ _).alloc (Nat.le_refl _) _
  have gr := grown_alloc' w (.cells #[.int .i64 0, .int .i64 0, .int .i64 0, .bool false, .bool false, .int .i64 0, .int .i64 0, .int .i64 0, .slice none 0 0] 24) (some g)
  have cR := celF_box w #[.int .i64 0, .int .i64 0, .int .i64 0, .bool false, .bool false, .int .i64 0, .int .i64 0, .int .i64 0, .slice none 0 0] 24
  have nR : some w.heap.size ≠ some g := fun e => by cases e; omega
  have F0 := hF.kept bx
  have E0 := hE.kept bx
  go_wp2_with fail
  refine (num_step g s _ F0 E0 hg).mono ?_
  rintro r w1 ⟨rfl, l1, F1, g1, E1⟩
  replace gr := grown_step gr g1
  replace cR := cR.other g1 nR
  go_wp2_with fail
  refine (num_step g (stp s) _ F1 E1 hg).mono ?_
  rintro r w2 ⟨rfl, l2, F2, g2, E2⟩
  replace gr := grown_step gr g2
  replace cR := cR.other g2 nR
  go_wp2_with fail
  refine (num_step g (stp (stp s)) _ F2 E2 hg).mono ?_
  rintro r w3 ⟨rfl, l3, F3, g3, E3⟩
  replace gr := grown_step gr g3
  replace cR := cR.other g3 nR
  go_wp2_with fail
  refine (num_step g (stp (stp (stp s))) _ F3 E3 hg).mono ?_
  rintro r w4 ⟨rfl, l4, F4, g4, E4⟩
  replace gr := grown_step gr g4
  replace cR := cR.other g4 nR
  go_wp2_with fail
  refine (num_step g (stp (stp (stp (stp s)))) _ F4 E4 hg).mono ?_
  rintro r w5 ⟨rfl, l5, F5, g5, E5⟩
  replace gr := grown_step gr g5
  replace cR := cR.other g5 nR
  clear E0 E1 E2 E3 E4 F0 F1 F2 F3 F4 g1 g2 g3 g4 g5 bx
  go_wp2_with fail
  refine (take_any g _ _ _ _ F5 E5 (by omega)).mono ?_
  rintro r w6 ⟨v6, rfl, r6, F6, g6⟩
  replace gr := grown_step gr g6
  replace cR := cR.other g6 nR
  have z6 := gr.size
  have zR := cR.1
  have o7 := own_none w6 (w.heap.size + 1)
  have ll := r6.2.1
  go_wp2_with (at_builtin; refine wpList_app _ rfl (.const (.slice none 0 0)) (.tmp 38) rfl (w.heap.size + 1) _ [] rfl o7 _ _ rfl r6 (by simp; omega) (by omega) ?_)
  intro v7 w7 o7 g7
  have F7 := F6.more g7 (fun k e => by simp [Value.ownBlock] at e)
  replace gr := grown_fresh gr g7 (fun k e => by simp [Value.ownBlock] at e)
  replace cR := cR.other g7 (by simp [Value.ownBlock])
  obtain ⟨xa, xn, xc, hv7⟩ := own_form o7
  rw [hv7] at o7 ⊢
  have kc := cR.2.1
  have kf := cR.2.2
  clear g6 g7 F6 r6
  go_wp2
  refine bodyPost_ret (v := .agg #[.int .i64 (num s : Int), .int .i64 ((num (stp s) : Int) / 16), .int .i64 ((num (stp s) : Int) % 16), .bool ((num (stp (stp s)) : Int) % 2 == 1), .bool ((num (stp (stp s)) : Int) / 2 % 2 == 1), .int .i64 ((num (stp (stp s)) : Int) / 4 % 4), .int .i64 ((num (stp (stp s)) : Int) / 16), .int .i64 (num (stp (stp (stp s))) : Int), .slice xa xn xc]) (by simp [results, Tryd.results15, go_sem, kc]) rfl ⟨_, rfl, ?_, ?_, ?_⟩
  · refine Own.base (B := w.heap.size + 1) ?_ (by omega)
    iterate 9 refine Own.set ?_ _ _ _ (by omega)
    simpa using o7
  · iterate 9 refine Fr.more ?_ (grown_set _ w.heap.size _ _) (fun k e => by cases e; exact z0)
    exact F7
  · iterate 9 refine grown_fresh ?_ (grown_set _ w.heap.size _ _) (fun k e => by cases e; omega)
    exact gr
end Go.Proofs.YtfeaagjnfncdnaaDoor
