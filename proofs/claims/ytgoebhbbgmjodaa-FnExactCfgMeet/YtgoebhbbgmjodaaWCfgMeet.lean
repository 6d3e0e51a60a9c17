/- The law of CfgMeet returns true at every argument. -/
import Derived.Test.YtgoebhbbgmjodaaXCfg
import Derived.Test.YtgoebhbbgmjodaaMeet
namespace Go.Proofs.Ytgoebhbbgmjodaa.fnExactCfgMeet
open Go.RowKit
set_option maxHeartbeats 2000000 in
theorem walk (a1 a2 a3 a4 a5 b1 b2 b3 b4 b5 : Int) (w : World) :
    Calls Try.prog 4 #[.agg #[.int .i64 a1, .int .i64 a2, .int .i64 a3, .int .i64 a4, .int .i64 a5], .agg #[.int .i64 b1, .int .i64 b2, .int .i64 b3, .int .i64 b4, .int .i64 b5]] w fun e w' => e = .returned (.bool true) ∧ Below w.heap.size w w' := by
  obtain ⟨M, hM⟩ : ∃ M, meet ⟨a1, a2, a3, a4, a5⟩ ⟨b1, b2, b3, b4, b5⟩ = M := ⟨_, rfl⟩
  obtain ⟨T, hT⟩ : ∃ T, meets ⟨a1, a2, a3, a4, a5⟩ ⟨b1, b2, b3, b4, b5⟩ = T := ⟨_, rfl⟩
  obtain ⟨w0, e0, B1, B2, b0, hs⟩ := bo2 w #[.int .i64 a1, .int .i64 a2, .int .i64 a3, .int .i64 a4, .int .i64 a5] 23 #[.int .i64 b1, .int .i64 b2, .int .i64 b3, .int .i64 b4, .int .i64 b5] 23
  have k1 := B1.k
  have k2 := B2.k
  go_enter Try.func4, Try.ntmps4
  go_wp2_with fail
  go_cut [5, 6] from 9 (fun s0 s1 wx => ∃ g, s0 = .pointer (some ⟨g, 0, none⟩) ∧ s1 = .bool T ∧ Bo wx g #[.int .i64 M.mode, .int .i64 M.win, .int .i64 M.mps, .int .i64 M.mtu, .int .i64 M.tri] ∧ Below w0.heap.size w0 wx)
  case first =>
    clear k1 k2
    obtain ⟨ι, W, inW, ofW⟩ := cls (fun w' => Below w0.heap.size w0.drew w')
    have ne : Nonempty ι := ⟨(inW _ (Below.refl _ _)).choose⟩
    have q1 : ∀ x k, (W x).cell? ⟨w.heap.size, k, none⟩ = (#[.int .i64 a1, .int .i64 a2, .int .i64 a3, .int .i64 a4, .int .i64 a5] : Array Value)[k]? := fun x k => ((ofW x).cell (p := ⟨w.heap.size, k, none⟩) B1.1).trans (B1.k k)
    have q2 : ∀ x k, (W x).cell? ⟨w.heap.size + 1, k, none⟩ = (#[.int .i64 b1, .int .i64 b2, .int .i64 b3, .int .i64 b4, .int .i64 b5] : Array Value)[k]? := fun x k => ((ofW x).cell (p := ⟨w.heap.size + 1, k, none⟩) B2.1).trans (B2.k k)
    have yl : Below w0.heap.size w0.drew w0.drew := Below.refl _ _
    have zl : w0.heap.size ≤ w0.drew.heap.size := Nat.le_refl _
    have dl : Below w0.heap.size w0 w0.drew := (Below.refl _ _).drew
    refine region_part (fun w' => ∃ x, w' = W x) 10 [(0, true), (2, true)] 9 ⟨none, .assign (.tmp 0), 0, "", #[], none⟩ (by kernel_rfl) (by kernel_rfl) (inW _ yl) (fun x _ _ _ _ h => by cases x <;> exact h) ?_
    generalize ed : w0.drew = dw at yl zl dl inW ofW ⊢
    simp only [arrange, List.map_cons, List.map_nil, List.getD_cons_zero, List.getD_cons_succ]
    iterate 2 (refine by_read rfl (fun K hK => ?_); go_simp; refine hK _ ?_; clear hK K)
    refine by_nil ?_
    refine rest_two 1 8 ⟨none, .assign (.tmp 0), 0, "", #[], none⟩ (by kernel_rfl) ?_ ?_
    · simp only [arrange, List.map_cons, List.map_nil, List.getD_cons_zero, List.getD_cons_succ]
      refine by_move rfl (fun K hK => ?_)
      go_simp
      go_at_call 10
      refine (toCfg_v _ _ _ _ _ _).mono ?_
      rintro e x1 ⟨rfl, y1⟩
      replace yl := yl.trans (y1.mono zl)
      replace zl := Nat.le_trans zl y1.size
      refine hK _ _ (fun _ => inW _ yl) ?_
      clear hK K
      refine by_nil ?_
      refine rest_two 3 8 ⟨none, .assign (.tmp 0), 0, "", #[], none⟩ (by kernel_rfl) ?_ ?_
      · simp only [arrange, List.map_cons, List.map_nil, List.getD_cons_zero, List.getD_cons_succ]
        refine by_move rfl (fun K hK => ?_)
        go_simp
        go_at_call 10
        refine (toCfg_v _ _ _ _ _ _).mono ?_
        rintro e x2 ⟨rfl, y2⟩
        replace yl := yl.trans (y2.mono zl)
        replace zl := Nat.le_trans zl y2.size
        refine hK _ _ (fun _ => inW _ yl) ?_
        clear hK K
        refine by_nil ?_
        refine rest_two 4 8 ⟨none, .assign (.tmp 0), 0, "", #[], none⟩ (by kernel_rfl) ?_ ?_
        · simp only [arrange, List.map_cons, List.map_nil, List.getD_cons_zero, List.getD_cons_succ]
          refine by_move rfl (fun K hK => ?_)
          go_simp
          go_at_call 12
          refine (spec_meet ⟨a1, a2, a3, a4, a5⟩ ⟨b1, b2, b3, b4, b5⟩ _).mono ?_
          rintro e x3 ⟨rfl, y3⟩
          simp only [hM, hT]
          replace yl := yl.trans (y3.mono zl)
          replace zl := Nat.le_trans zl y3.size
          refine hK _ _ (fun _ => inW _ yl) ?_
          clear hK K
          refine by_nil ?_
          refine rest_by [(5, true), (6, true), (7, true), (8, false), (9, false), (10, false)] ⟨none, .assign (.tmp 0), 0, "", #[], none⟩ (by kernel_rfl) (inW _ yl) (fun x _ _ _ _ h => by cases x <;> exact h) ?_
          simp only [arrange, List.map_cons, List.map_nil, List.getD_cons_zero, List.getD_cons_succ]
          iterate 3 (refine by_read rfl (fun K hK => ?_); go_simp; refine hK _ ?_; clear hK K)
          refine by_move rfl (fun K hK => ?_)
          go_simp
          obtain ⟨x4, ew, G, y4, _⟩ := bo1 x3 #[.int .i64 0, .int .i64 0, .int .i64 0, .int .i64 0, .int .i64 0] 25
          rw [ew]
          clear ew
          have gl := zl
          replace yl := yl.trans (y4.mono zl)
          replace zl := Nat.le_trans zl y4.size
          refine hK _ _ (fun _ => inW _ yl) ?_
          clear hK K
          have kG := G.k
          have fG := G.f
          refine by_move rfl (fun K hK => ?_)
          go_simp
          have G2 := ((((G.put 0 (by simp) (.int .i64 M.mode)).put 1 (by simp) (.int .i64 M.win)).put 2 (by simp) (.int .i64 M.mps)).put 3 (by simp) (.int .i64 M.mtu)).put 4 (by simp) (.int .i64 M.tri)
          replace yl := ((((yl.setCell (p := ⟨x3.heap.size, 0, none⟩) gl (.int .i64 M.mode)).setCell (p := ⟨x3.heap.size, 1, none⟩) gl (.int .i64 M.win)).setCell (p := ⟨x3.heap.size, 2, none⟩) gl (.int .i64 M.mps)).setCell (p := ⟨x3.heap.size, 3, none⟩) gl (.int .i64 M.mtu)).setCell (p := ⟨x3.heap.size, 4, none⟩) gl (.int .i64 M.tri)
          refine hK _ _ (fun _ => inW _ yl) ?_
          clear hK K
          refine by_move rfl (fun K hK => ?_)
          go_simp
          refine hK _ _ (fun h => absurd h (by decide)) ?_
          clear hK K
          refine by_nil ?_
          go_wp2
          go_meet
          exact ⟨_, rfl, rfl, G2, dl.trans yl⟩
        · simp only [arrange, List.map_cons, List.map_nil, List.getD_cons_zero, List.getD_cons_succ]
          refine by_move rfl (fun K hK => ?_)
          go_simp
          obtain ⟨x5, ew, G, y5, _⟩ := bo1 x2 #[.int .i64 0, .int .i64 0, .int .i64 0, .int .i64 0, .int .i64 0] 25
          rw [ew]
          clear ew
          have gl := zl
          replace yl := yl.trans (y5.mono zl)
          replace zl := Nat.le_trans zl y5.size
          refine hK _ _ (fun _ => inW _ yl) ?_
          clear hK K
          refine by_nil ?_
          refine rest_by [(4, false), (5, true), (6, true), (7, true), (9, false), (10, false)] ⟨none, .assign (.tmp 0), 0, "", #[], none⟩ (by kernel_rfl) (inW _ yl) (fun x _ _ _ _ h => by cases x <;> exact h) ?_
          simp only [arrange, List.map_cons, List.map_nil, List.getD_cons_zero, List.getD_cons_succ]
          refine by_move rfl (fun K hK => ?_)
          go_simp
          go_at_call 12
          refine (spec_meet ⟨a1, a2, a3, a4, a5⟩ ⟨b1, b2, b3, b4, b5⟩ _).mono ?_
          rintro e x6 ⟨rfl, y6⟩
          simp only [hM, hT]
          replace G := G.kept y6
          replace yl := yl.trans (y6.mono zl)
          replace zl := Nat.le_trans zl y6.size
          refine hK _ _ (fun _ => inW _ yl) ?_
          clear hK K
          iterate 3 (refine by_read rfl (fun K hK => ?_); go_simp; refine hK _ ?_; clear hK K)
          have kG := G.k
          have fG := G.f
          refine by_move rfl (fun K hK => ?_)
          go_simp
          have G2 := ((((G.put 0 (by simp) (.int .i64 M.mode)).put 1 (by simp) (.int .i64 M.win)).put 2 (by simp) (.int .i64 M.mps)).put 3 (by simp) (.int .i64 M.mtu)).put 4 (by simp) (.int .i64 M.tri)
          replace yl := ((((yl.setCell (p := ⟨x2.heap.size, 0, none⟩) gl (.int .i64 M.mode)).setCell (p := ⟨x2.heap.size, 1, none⟩) gl (.int .i64 M.win)).setCell (p := ⟨x2.heap.size, 2, none⟩) gl (.int .i64 M.mps)).setCell (p := ⟨x2.heap.size, 3, none⟩) gl (.int .i64 M.mtu)).setCell (p := ⟨x2.heap.size, 4, none⟩) gl (.int .i64 M.tri)
          refine hK _ _ (fun _ => inW _ yl) ?_
          clear hK K
          refine by_move rfl (fun K hK => ?_)
          go_simp
          refine hK _ _ (fun h => absurd h (by decide)) ?_
          clear hK K
          refine by_nil ?_
          go_wp2
          go_meet
          exact ⟨_, rfl, rfl, G2, dl.trans yl⟩
      · simp only [arrange, List.map_cons, List.map_nil, List.getD_cons_zero, List.getD_cons_succ]
        refine by_move rfl (fun K hK => ?_)
        go_simp
        obtain ⟨x7, ew, G, y7, _⟩ := bo1 x1 #[.int .i64 0, .int .i64 0, .int .i64 0, .int .i64 0, .int .i64 0] 25
        rw [ew]
        clear ew
        have gl := zl
        replace yl := yl.trans (y7.mono zl)
        replace zl := Nat.le_trans zl y7.size
        refine hK _ _ (fun _ => inW _ yl) ?_
        clear hK K
        refine by_nil ?_
        refine rest_by [(3, false), (4, false), (5, true), (6, true), (7, true), (9, false), (10, false)] ⟨none, .assign (.tmp 0), 0, "", #[], none⟩ (by kernel_rfl) (inW _ yl) (fun x _ _ _ _ h => by cases x <;> exact h) ?_
        simp only [arrange, List.map_cons, List.map_nil, List.getD_cons_zero, List.getD_cons_succ]
        refine by_move rfl (fun K hK => ?_)
        go_simp
        go_at_call 10
        refine (toCfg_v _ _ _ _ _ _).mono ?_
        rintro e x8 ⟨rfl, y8⟩
        replace G := G.kept y8
        replace yl := yl.trans (y8.mono zl)
        replace zl := Nat.le_trans zl y8.size
        refine hK _ _ (fun _ => inW _ yl) ?_
        clear hK K
        refine by_move rfl (fun K hK => ?_)
        go_simp
        go_at_call 12
        refine (spec_meet ⟨a1, a2, a3, a4, a5⟩ ⟨b1, b2, b3, b4, b5⟩ _).mono ?_
        rintro e x9 ⟨rfl, y9⟩
        simp only [hM, hT]
        replace G := G.kept y9
        replace yl := yl.trans (y9.mono zl)
        replace zl := Nat.le_trans zl y9.size
        refine hK _ _ (fun _ => inW _ yl) ?_
        clear hK K
        iterate 3 (refine by_read rfl (fun K hK => ?_); go_simp; refine hK _ ?_; clear hK K)
        have kG := G.k
        have fG := G.f
        refine by_move rfl (fun K hK => ?_)
        go_simp
        have G2 := ((((G.put 0 (by simp) (.int .i64 M.mode)).put 1 (by simp) (.int .i64 M.win)).put 2 (by simp) (.int .i64 M.mps)).put 3 (by simp) (.int .i64 M.mtu)).put 4 (by simp) (.int .i64 M.tri)
        replace yl := ((((yl.setCell (p := ⟨x1.heap.size, 0, none⟩) gl (.int .i64 M.mode)).setCell (p := ⟨x1.heap.size, 1, none⟩) gl (.int .i64 M.win)).setCell (p := ⟨x1.heap.size, 2, none⟩) gl (.int .i64 M.mps)).setCell (p := ⟨x1.heap.size, 3, none⟩) gl (.int .i64 M.mtu)).setCell (p := ⟨x1.heap.size, 4, none⟩) gl (.int .i64 M.tri)
        refine hK _ _ (fun _ => inW _ yl) ?_
        clear hK K
        refine by_move rfl (fun K hK => ?_)
        go_simp
        refine hK _ _ (fun h => absurd h (by decide)) ?_
        clear hK K
        refine by_nil ?_
        go_wp2
        go_meet
        exact ⟨_, rfl, rfl, G2, dl.trans yl⟩
    · simp only [arrange, List.map_cons, List.map_nil, List.getD_cons_zero, List.getD_cons_succ]
      refine by_move rfl (fun K hK => ?_)
      go_simp
      obtain ⟨x10, ew, G, y10, _⟩ := bo1 dw #[.int .i64 0, .int .i64 0, .int .i64 0, .int .i64 0, .int .i64 0] 25
      rw [ew]
      clear ew
      have gl := zl
      replace yl := yl.trans (y10.mono zl)
      replace zl := Nat.le_trans zl y10.size
      refine hK _ _ (fun _ => inW _ yl) ?_
      clear hK K
      refine by_nil ?_
      refine rest_by [(1, false), (3, false), (4, false), (5, true), (6, true), (7, true), (9, false), (10, false)] ⟨none, .assign (.tmp 0), 0, "", #[], none⟩ (by kernel_rfl) (inW _ yl) (fun x _ _ _ _ h => by cases x <;> exact h) ?_
      simp only [arrange, List.map_cons, List.map_nil, List.getD_cons_zero, List.getD_cons_succ]
      refine by_move rfl (fun K hK => ?_)
      go_simp
      go_at_call 10
      refine (toCfg_v _ _ _ _ _ _).mono ?_
      rintro e x11 ⟨rfl, y11⟩
      replace G := G.kept y11
      replace yl := yl.trans (y11.mono zl)
      replace zl := Nat.le_trans zl y11.size
      refine hK _ _ (fun _ => inW _ yl) ?_
      clear hK K
      refine by_move rfl (fun K hK => ?_)
      go_simp
      go_at_call 10
      refine (toCfg_v _ _ _ _ _ _).mono ?_
      rintro e x12 ⟨rfl, y12⟩
      replace G := G.kept y12
      replace yl := yl.trans (y12.mono zl)
      replace zl := Nat.le_trans zl y12.size
      refine hK _ _ (fun _ => inW _ yl) ?_
      clear hK K
      refine by_move rfl (fun K hK => ?_)
      go_simp
      go_at_call 12
      refine (spec_meet ⟨a1, a2, a3, a4, a5⟩ ⟨b1, b2, b3, b4, b5⟩ _).mono ?_
      rintro e x13 ⟨rfl, y13⟩
      simp only [hM, hT]
      replace G := G.kept y13
      replace yl := yl.trans (y13.mono zl)
      replace zl := Nat.le_trans zl y13.size
      refine hK _ _ (fun _ => inW _ yl) ?_
      clear hK K
      iterate 3 (refine by_read rfl (fun K hK => ?_); go_simp; refine hK _ ?_; clear hK K)
      have kG := G.k
      have fG := G.f
      refine by_move rfl (fun K hK => ?_)
      go_simp
      have G2 := ((((G.put 0 (by simp) (.int .i64 M.mode)).put 1 (by simp) (.int .i64 M.win)).put 2 (by simp) (.int .i64 M.mps)).put 3 (by simp) (.int .i64 M.mtu)).put 4 (by simp) (.int .i64 M.tri)
      replace yl := ((((yl.setCell (p := ⟨dw.heap.size, 0, none⟩) gl (.int .i64 M.mode)).setCell (p := ⟨dw.heap.size, 1, none⟩) gl (.int .i64 M.win)).setCell (p := ⟨dw.heap.size, 2, none⟩) gl (.int .i64 M.mps)).setCell (p := ⟨dw.heap.size, 3, none⟩) gl (.int .i64 M.mtu)).setCell (p := ⟨dw.heap.size, 4, none⟩) gl (.int .i64 M.tri)
      refine hK _ _ (fun _ => inW _ yl) ?_
      clear hK K
      refine by_move rfl (fun K hK => ?_)
      go_simp
      refine hK _ _ (fun h => absurd h (by decide)) ?_
      clear hK K
      refine by_nil ?_
      go_wp2
      go_meet
      exact ⟨_, rfl, rfl, G2, dl.trans yl⟩
  obtain ⟨g3, rfl, rfl, B3, bb⟩ := hcut
  obtain ⟨w3, ew⟩ : ∃ y, y = wc := ⟨_, rfl⟩
  subst ew
  clear k1 k2
  replace B1 := B1.kept bb
  replace B2 := B2.kept bb
  replace b0 := bchain b0 bb
  clear bb
  have k1 := B1.k
  have k2 := B2.k
  have k3 := B3.k
  clear e0
  go_wp2_with fail
  go_cut [7, 8] from 9 (fun s0 s1 wx => ∃ g, s0 = .pointer (some ⟨g, 0, none⟩) ∧ s1 = .bool T ∧ Bo wx g #[.int .i64 M.mode, .int .i64 M.win, .int .i64 M.mps, .int .i64 M.mtu, .int .i64 M.tri] ∧ Below w3.heap.size w3 wx)
  case first =>
    clear k1 k2 k3
    obtain ⟨ι, W, inW, ofW⟩ := cls (fun w' => Below w3.heap.size w3.drew w')
    have ne : Nonempty ι := ⟨(inW _ (Below.refl _ _)).choose⟩
    have q1 : ∀ x k, (W x).cell? ⟨w.heap.size, k, none⟩ = (#[.int .i64 a1, .int .i64 a2, .int .i64 a3, .int .i64 a4, .int .i64 a5] : Array Value)[k]? := fun x k => ((ofW x).cell (p := ⟨w.heap.size, k, none⟩) B1.1).trans (B1.k k)
    have q2 : ∀ x k, (W x).cell? ⟨w.heap.size + 1, k, none⟩ = (#[.int .i64 b1, .int .i64 b2, .int .i64 b3, .int .i64 b4, .int .i64 b5] : Array Value)[k]? := fun x k => ((ofW x).cell (p := ⟨w.heap.size + 1, k, none⟩) B2.1).trans (B2.k k)
    have yl : Below w3.heap.size w3.drew w3.drew := Below.refl _ _
    have zl : w3.heap.size ≤ w3.drew.heap.size := Nat.le_refl _
    have dl : Below w3.heap.size w3 w3.drew := (Below.refl _ _).drew
    refine region_part (fun w' => ∃ x, w' = W x) 10 [(0, true), (2, true)] 9 ⟨none, .assign (.tmp 0), 0, "", #[], none⟩ (by kernel_rfl) (by kernel_rfl) (inW _ yl) (fun x _ _ _ _ h => by cases x <;> exact h) ?_
    generalize ed : w3.drew = dw at yl zl dl inW ofW ⊢
    simp only [arrange, List.map_cons, List.map_nil, List.getD_cons_zero, List.getD_cons_succ]
    iterate 2 (refine by_read rfl (fun K hK => ?_); go_simp; refine hK _ ?_; clear hK K)
    refine by_nil ?_
    refine rest_two 1 8 ⟨none, .assign (.tmp 0), 0, "", #[], none⟩ (by kernel_rfl) ?_ ?_
    · simp only [arrange, List.map_cons, List.map_nil, List.getD_cons_zero, List.getD_cons_succ]
      refine by_move rfl (fun K hK => ?_)
      go_simp
      go_at_call 10
      refine (toCfg_v _ _ _ _ _ _).mono ?_
      rintro e x1 ⟨rfl, y1⟩
      replace yl := yl.trans (y1.mono zl)
      replace zl := Nat.le_trans zl y1.size
      refine hK _ _ (fun _ => inW _ yl) ?_
      clear hK K
      refine by_nil ?_
      refine rest_two 3 8 ⟨none, .assign (.tmp 0), 0, "", #[], none⟩ (by kernel_rfl) ?_ ?_
      · simp only [arrange, List.map_cons, List.map_nil, List.getD_cons_zero, List.getD_cons_succ]
        refine by_move rfl (fun K hK => ?_)
        go_simp
        go_at_call 10
        refine (toCfg_v _ _ _ _ _ _).mono ?_
        rintro e x2 ⟨rfl, y2⟩
        replace yl := yl.trans (y2.mono zl)
        replace zl := Nat.le_trans zl y2.size
        refine hK _ _ (fun _ => inW _ yl) ?_
        clear hK K
        refine by_nil ?_
        refine rest_two 4 8 ⟨none, .assign (.tmp 0), 0, "", #[], none⟩ (by kernel_rfl) ?_ ?_
        · simp only [arrange, List.map_cons, List.map_nil, List.getD_cons_zero, List.getD_cons_succ]
          refine by_move rfl (fun K hK => ?_)
          go_simp
          go_at_call 13
          refine (impl_meet ⟨a1, a2, a3, a4, a5⟩ ⟨b1, b2, b3, b4, b5⟩ _).mono ?_
          rintro e x3 ⟨rfl, y3⟩
          simp only [hM, hT]
          replace yl := yl.trans (y3.mono zl)
          replace zl := Nat.le_trans zl y3.size
          refine hK _ _ (fun _ => inW _ yl) ?_
          clear hK K
          refine by_nil ?_
          refine rest_by [(5, true), (6, true), (7, true), (8, false), (9, false), (10, false)] ⟨none, .assign (.tmp 0), 0, "", #[], none⟩ (by kernel_rfl) (inW _ yl) (fun x _ _ _ _ h => by cases x <;> exact h) ?_
          simp only [arrange, List.map_cons, List.map_nil, List.getD_cons_zero, List.getD_cons_succ]
          iterate 3 (refine by_read rfl (fun K hK => ?_); go_simp; refine hK _ ?_; clear hK K)
          refine by_move rfl (fun K hK => ?_)
          go_simp
          obtain ⟨x4, ew, G, y4, _⟩ := bo1 x3 #[.int .i64 0, .int .i64 0, .int .i64 0, .int .i64 0, .int .i64 0] 25
          rw [ew]
          clear ew
          have gl := zl
          replace yl := yl.trans (y4.mono zl)
          replace zl := Nat.le_trans zl y4.size
          refine hK _ _ (fun _ => inW _ yl) ?_
          clear hK K
          have kG := G.k
          have fG := G.f
          refine by_move rfl (fun K hK => ?_)
          go_simp
          have G2 := ((((G.put 0 (by simp) (.int .i64 M.mode)).put 1 (by simp) (.int .i64 M.win)).put 2 (by simp) (.int .i64 M.mps)).put 3 (by simp) (.int .i64 M.mtu)).put 4 (by simp) (.int .i64 M.tri)
          replace yl := ((((yl.setCell (p := ⟨x3.heap.size, 0, none⟩) gl (.int .i64 M.mode)).setCell (p := ⟨x3.heap.size, 1, none⟩) gl (.int .i64 M.win)).setCell (p := ⟨x3.heap.size, 2, none⟩) gl (.int .i64 M.mps)).setCell (p := ⟨x3.heap.size, 3, none⟩) gl (.int .i64 M.mtu)).setCell (p := ⟨x3.heap.size, 4, none⟩) gl (.int .i64 M.tri)
          refine hK _ _ (fun _ => inW _ yl) ?_
          clear hK K
          refine by_move rfl (fun K hK => ?_)
          go_simp
          refine hK _ _ (fun h => absurd h (by decide)) ?_
          clear hK K
          refine by_nil ?_
          go_wp2
          go_meet
          exact ⟨_, rfl, rfl, G2, dl.trans yl⟩
        · simp only [arrange, List.map_cons, List.map_nil, List.getD_cons_zero, List.getD_cons_succ]
          refine by_move rfl (fun K hK => ?_)
          go_simp
          obtain ⟨x5, ew, G, y5, _⟩ := bo1 x2 #[.int .i64 0, .int .i64 0, .int .i64 0, .int .i64 0, .int .i64 0] 25
          rw [ew]
          clear ew
          have gl := zl
          replace yl := yl.trans (y5.mono zl)
          replace zl := Nat.le_trans zl y5.size
          refine hK _ _ (fun _ => inW _ yl) ?_
          clear hK K
          refine by_nil ?_
          refine rest_by [(4, false), (5, true), (6, true), (7, true), (9, false), (10, false)] ⟨none, .assign (.tmp 0), 0, "", #[], none⟩ (by kernel_rfl) (inW _ yl) (fun x _ _ _ _ h => by cases x <;> exact h) ?_
          simp only [arrange, List.map_cons, List.map_nil, List.getD_cons_zero, List.getD_cons_succ]
          refine by_move rfl (fun K hK => ?_)
          go_simp
          go_at_call 13
          refine (impl_meet ⟨a1, a2, a3, a4, a5⟩ ⟨b1, b2, b3, b4, b5⟩ _).mono ?_
          rintro e x6 ⟨rfl, y6⟩
          simp only [hM, hT]
          replace G := G.kept y6
          replace yl := yl.trans (y6.mono zl)
          replace zl := Nat.le_trans zl y6.size
          refine hK _ _ (fun _ => inW _ yl) ?_
          clear hK K
          iterate 3 (refine by_read rfl (fun K hK => ?_); go_simp; refine hK _ ?_; clear hK K)
          have kG := G.k
          have fG := G.f
          refine by_move rfl (fun K hK => ?_)
          go_simp
          have G2 := ((((G.put 0 (by simp) (.int .i64 M.mode)).put 1 (by simp) (.int .i64 M.win)).put 2 (by simp) (.int .i64 M.mps)).put 3 (by simp) (.int .i64 M.mtu)).put 4 (by simp) (.int .i64 M.tri)
          replace yl := ((((yl.setCell (p := ⟨x2.heap.size, 0, none⟩) gl (.int .i64 M.mode)).setCell (p := ⟨x2.heap.size, 1, none⟩) gl (.int .i64 M.win)).setCell (p := ⟨x2.heap.size, 2, none⟩) gl (.int .i64 M.mps)).setCell (p := ⟨x2.heap.size, 3, none⟩) gl (.int .i64 M.mtu)).setCell (p := ⟨x2.heap.size, 4, none⟩) gl (.int .i64 M.tri)
          refine hK _ _ (fun _ => inW _ yl) ?_
          clear hK K
          refine by_move rfl (fun K hK => ?_)
          go_simp
          refine hK _ _ (fun h => absurd h (by decide)) ?_
          clear hK K
          refine by_nil ?_
          go_wp2
          go_meet
          exact ⟨_, rfl, rfl, G2, dl.trans yl⟩
      · simp only [arrange, List.map_cons, List.map_nil, List.getD_cons_zero, List.getD_cons_succ]
        refine by_move rfl (fun K hK => ?_)
        go_simp
        obtain ⟨x7, ew, G, y7, _⟩ := bo1 x1 #[.int .i64 0, .int .i64 0, .int .i64 0, .int .i64 0, .int .i64 0] 25
        rw [ew]
        clear ew
        have gl := zl
        replace yl := yl.trans (y7.mono zl)
        replace zl := Nat.le_trans zl y7.size
        refine hK _ _ (fun _ => inW _ yl) ?_
        clear hK K
        refine by_nil ?_
        refine rest_by [(3, false), (4, false), (5, true), (6, true), (7, true), (9, false), (10, false)] ⟨none, .assign (.tmp 0), 0, "", #[], none⟩ (by kernel_rfl) (inW _ yl) (fun x _ _ _ _ h => by cases x <;> exact h) ?_
        simp only [arrange, List.map_cons, List.map_nil, List.getD_cons_zero, List.getD_cons_succ]
        refine by_move rfl (fun K hK => ?_)
        go_simp
        go_at_call 10
        refine (toCfg_v _ _ _ _ _ _).mono ?_
        rintro e x8 ⟨rfl, y8⟩
        replace G := G.kept y8
        replace yl := yl.trans (y8.mono zl)
        replace zl := Nat.le_trans zl y8.size
        refine hK _ _ (fun _ => inW _ yl) ?_
        clear hK K
        refine by_move rfl (fun K hK => ?_)
        go_simp
        go_at_call 13
        refine (impl_meet ⟨a1, a2, a3, a4, a5⟩ ⟨b1, b2, b3, b4, b5⟩ _).mono ?_
        rintro e x9 ⟨rfl, y9⟩
        simp only [hM, hT]
        replace G := G.kept y9
        replace yl := yl.trans (y9.mono zl)
        replace zl := Nat.le_trans zl y9.size
        refine hK _ _ (fun _ => inW _ yl) ?_
        clear hK K
        iterate 3 (refine by_read rfl (fun K hK => ?_); go_simp; refine hK _ ?_; clear hK K)
        have kG := G.k
        have fG := G.f
        refine by_move rfl (fun K hK => ?_)
        go_simp
        have G2 := ((((G.put 0 (by simp) (.int .i64 M.mode)).put 1 (by simp) (.int .i64 M.win)).put 2 (by simp) (.int .i64 M.mps)).put 3 (by simp) (.int .i64 M.mtu)).put 4 (by simp) (.int .i64 M.tri)
        replace yl := ((((yl.setCell (p := ⟨x1.heap.size, 0, none⟩) gl (.int .i64 M.mode)).setCell (p := ⟨x1.heap.size, 1, none⟩) gl (.int .i64 M.win)).setCell (p := ⟨x1.heap.size, 2, none⟩) gl (.int .i64 M.mps)).setCell (p := ⟨x1.heap.size, 3, none⟩) gl (.int .i64 M.mtu)).setCell (p := ⟨x1.heap.size, 4, none⟩) gl (.int .i64 M.tri)
        refine hK _ _ (fun _ => inW _ yl) ?_
        clear hK K
        refine by_move rfl (fun K hK => ?_)
        go_simp
        refine hK _ _ (fun h => absurd h (by decide)) ?_
        clear hK K
        refine by_nil ?_
        go_wp2
        go_meet
        exact ⟨_, rfl, rfl, G2, dl.trans yl⟩
    · simp only [arrange, List.map_cons, List.map_nil, List.getD_cons_zero, List.getD_cons_succ]
      refine by_move rfl (fun K hK => ?_)
      go_simp
      obtain ⟨x10, ew, G, y10, _⟩ := bo1 dw #[.int .i64 0, .int .i64 0, .int .i64 0, .int .i64 0, .int .i64 0] 25
      rw [ew]
      clear ew
      have gl := zl
      replace yl := yl.trans (y10.mono zl)
      replace zl := Nat.le_trans zl y10.size
      refine hK _ _ (fun _ => inW _ yl) ?_
      clear hK K
      refine by_nil ?_
      refine rest_by [(1, false), (3, false), (4, false), (5, true), (6, true), (7, true), (9, false), (10, false)] ⟨none, .assign (.tmp 0), 0, "", #[], none⟩ (by kernel_rfl) (inW _ yl) (fun x _ _ _ _ h => by cases x <;> exact h) ?_
      simp only [arrange, List.map_cons, List.map_nil, List.getD_cons_zero, List.getD_cons_succ]
      refine by_move rfl (fun K hK => ?_)
      go_simp
      go_at_call 10
      refine (toCfg_v _ _ _ _ _ _).mono ?_
      rintro e x11 ⟨rfl, y11⟩
      replace G := G.kept y11
      replace yl := yl.trans (y11.mono zl)
      replace zl := Nat.le_trans zl y11.size
      refine hK _ _ (fun _ => inW _ yl) ?_
      clear hK K
      refine by_move rfl (fun K hK => ?_)
      go_simp
      go_at_call 10
      refine (toCfg_v _ _ _ _ _ _).mono ?_
      rintro e x12 ⟨rfl, y12⟩
      replace G := G.kept y12
      replace yl := yl.trans (y12.mono zl)
      replace zl := Nat.le_trans zl y12.size
      refine hK _ _ (fun _ => inW _ yl) ?_
      clear hK K
      refine by_move rfl (fun K hK => ?_)
      go_simp
      go_at_call 13
      refine (impl_meet ⟨a1, a2, a3, a4, a5⟩ ⟨b1, b2, b3, b4, b5⟩ _).mono ?_
      rintro e x13 ⟨rfl, y13⟩
      simp only [hM, hT]
      replace G := G.kept y13
      replace yl := yl.trans (y13.mono zl)
      replace zl := Nat.le_trans zl y13.size
      refine hK _ _ (fun _ => inW _ yl) ?_
      clear hK K
      iterate 3 (refine by_read rfl (fun K hK => ?_); go_simp; refine hK _ ?_; clear hK K)
      have kG := G.k
      have fG := G.f
      refine by_move rfl (fun K hK => ?_)
      go_simp
      have G2 := ((((G.put 0 (by simp) (.int .i64 M.mode)).put 1 (by simp) (.int .i64 M.win)).put 2 (by simp) (.int .i64 M.mps)).put 3 (by simp) (.int .i64 M.mtu)).put 4 (by simp) (.int .i64 M.tri)
      replace yl := ((((yl.setCell (p := ⟨dw.heap.size, 0, none⟩) gl (.int .i64 M.mode)).setCell (p := ⟨dw.heap.size, 1, none⟩) gl (.int .i64 M.win)).setCell (p := ⟨dw.heap.size, 2, none⟩) gl (.int .i64 M.mps)).setCell (p := ⟨dw.heap.size, 3, none⟩) gl (.int .i64 M.mtu)).setCell (p := ⟨dw.heap.size, 4, none⟩) gl (.int .i64 M.tri)
      refine hK _ _ (fun _ => inW _ yl) ?_
      clear hK K
      refine by_move rfl (fun K hK => ?_)
      go_simp
      refine hK _ _ (fun h => absurd h (by decide)) ?_
      clear hK K
      refine by_nil ?_
      go_wp2
      go_meet
      exact ⟨_, rfl, rfl, G2, dl.trans yl⟩
  obtain ⟨g4, rfl, rfl, B4, bb⟩ := hcut
  obtain ⟨w4, ew⟩ : ∃ y, y = wc := ⟨_, rfl⟩
  subst ew
  clear k1 k2 k3
  replace B1 := B1.kept bb
  replace B2 := B2.kept bb
  replace B3 := B3.kept bb
  replace b0 := bchain b0 bb
  clear bb
  have k1 := B1.k
  have k2 := B2.k
  have k3 := B3.k
  have k4 := B4.k
  go_wp2_with (first
    | (go_at_call 14; refine (eqCfg_v _ _ _ _ _ _).mono ?_; rintro e w' ⟨rfl, bb⟩; replace b0 := bchain b0 bb))
  go_ret
  exact ⟨rfl, b0⟩
end Go.Proofs.Ytgoebhbbgmjodaa.fnExactCfgMeet
