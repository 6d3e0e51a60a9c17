/- The law of SegPut returns true at every argument. -/
import Derived.Test.YtaljdhcmikpmhaaSpecSegPut
import Derived.Test.YtaljdhcmikpmhaaXPart
import Derived.Deep.Cut
namespace Go.Proofs.Ytaljdhcmikpmhaa
open Go.RowKit
theorem putG_byt {len : Int} {zs : List Nat} {seg le : Int} {ys : List Nat} (h : Byt zs) (h' : Byt ys) : Byt (putG len zs seg le ys) := by
  unfold putG
  split
  · intro z hz
    rcases List.mem_append.1 hz with hz | hz
    · exact h z hz
    · exact h' z hz
  · intro z hz; simp at hz
theorem putM_byt {len : Int} {zs : List Nat} {seg le : Int} {ys : List Nat} (h : Byt zs) (h' : Byt ys) : Byt (putM len zs seg le ys) := by
  unfold putM
  split
  · intro z hz
    rcases List.mem_append.1 hz with hz | hz
    · exact h z hz
    · exact h' z hz
  · intro z hz; simp at hz
theorem putG_length (len : Int) (zs : List Nat) (seg le : Int) (ys : List Nat) : (putG len zs seg le ys).length ≤ zs.length + ys.length := by
  unfold putG
  split <;> simp
theorem putM_length (len : Int) (zs : List Nat) (seg le : Int) (ys : List Nat) : (putM len zs seg le ys).length ≤ zs.length + ys.length := by
  unfold putM
  split <;> simp
theorem heldBytes_b (v : Value) (k n : Nat) (w : World) (hv : Rd w v (marks k n)) (hn : n ≤ 2000000) (hk : k ≤ 2000000) :
    Calls Try.prog 30 #[v, .int .i64 k] w fun e w' => e = .returned (.int .i64 ((k + n : Nat) : Int)) ∧ Below w.heap.size w w' := by
  refine (held_any v k n w hv hn hk).mono ?_
  rintro e w1 ⟨rfl, h⟩
  subst h
  exact ⟨rfl, Below.refl _ _⟩
theorem IsRow.most {k : IntKind} {w : World} {a : Option Addr} {len cap : Nat} {zs : List Int} (h : IsRow k w a len cap zs) : len ≤ maxLen := by
  rcases h with ⟨_, rfl, _⟩ | ⟨x, _, h1, h2, _⟩
  · simp [maxLen]
  · omega
namespace fnExactSegPut
set_option maxRecDepth 100000 in
set_option maxHeartbeats 8000000 in
theorem small (len : Int) (aJ : Option Addr) (kJ : Nat) (zs : List Nat) (seg le : Int) (aP : Option Addr) (kP : Nat) (ys : List Nat) (w : World) (hz : zs.length ≤ 1048576) (hl : zs.length + ys.length ≤ 1048576) (hJ : Rd w (.slice aJ zs.length kJ) zs) (hP : Rd w (.slice aP ys.length kP) ys) :
    Calls Try.prog 6 #[.agg #[.int .i64 len, .slice aJ zs.length kJ], .agg #[.int .i64 seg, .int .i64 le, .slice aP ys.length kP]] w fun e w' => e = .returned (.bool true) ∧ Below w.heap.size w w' := by
  have hbz := hJ.1
  have hby := hP.1
  have hbG : Byt (putG len zs seg le ys) := putG_byt hbz hby
  have hbM : Byt (putM len zs seg le ys) := putM_byt hbz hby
  have lG := putG_length len zs seg le ys
  have lM := putM_length len zs seg le ys
  have hneg1 : ¬ (1048576 : Int) - (zs.length : Int) < 0 := by omega
  have hneg2 : ¬ (1048576 : Int) - (zs.length : Int) - (ys.length : Int) < 0 := by omega
  go_enter Try.func6, Try.ntmps6
  go_wp2_with fail
  obtain ⟨w0, ew, cJ, cP, bl, z0⟩ := two_boxes w #[.int .i64 len, .slice aJ zs.length kJ] 40 #[.int .i64 seg, .int .i64 le, .slice aP ys.length kP] 32
  rw [ew]
  clear ew
  have kcJ := cJ.k
  have kcP := cP.k
  refine (szJoin_small _ _ _ _ 1048576 _ hz (by omega)).mono ?_
  rintro e w1 ⟨rfl, b1⟩
  clear kcJ kcP
  replace cJ := cJ.kept b1
  replace cP := cP.kept b1
  replace bl := bchain bl b1
  have z1 := bl.size
  have kcJ := cJ.k
  have kcP := cP.k
  go_wp2_with fail
  have hm : (1048576 : Int) - (zs.length : Int) = ((1048576 - zs.length : Nat) : Int) := by omega
  rw [hm]
  refine (szPart_small _ _ _ _ _ (1048576 - zs.length) _ (by omega) (by omega)).mono ?_
  rw [← hm]
  rintro e w2 ⟨rfl, b2⟩
  clear kcJ kcP
  replace cJ := cJ.kept b2
  replace cP := cP.kept b2
  replace bl := bchain bl b2
  have z2 := bl.size
  have kcJ := cJ.k
  have kcP := cP.k
  -- the specification
  go_wp2_with fail
  go_cut [6, 7, 8] from 20 (fun s0 s1 s2 wx => ∃ g a1 c1 v2, s0 = .pointer (some ⟨g, 0, none⟩) ∧ s1 = v2 ∧ s2 = .int .i64 (putA len zs seg le ys) ∧ Bx wx g #[.int .i64 (putN len zs seg le ys), .slice a1 (putG len zs seg le ys).length c1] 43 ∧ Own wx w2.heap.size (.slice a1 (putG len zs seg le ys).length c1) (putG len zs seg le ys) ∧ Own wx w2.heap.size v2 (putM len zs seg le ys) ∧ (∀ k, (Value.slice a1 (putG len zs seg le ys).length c1).ownBlock = some k → v2.ownBlock ≠ some k) ∧ Below w2.heap.size w2 wx)
  case first =>
    clear kcJ kcP
    obtain ⟨ι, W, inW, ofW⟩ := cls (fun w' => Below w2.heap.size w2.drew w')
    have ne : Nonempty ι := ⟨(inW _ (Below.refl _ _)).choose⟩
    have qcJ : ∀ x k, (W x).cell? ⟨w.heap.size, k, none⟩ = (#[.int .i64 len, .slice aJ zs.length kJ] : Array Value)[k]? := fun x k => ((ofW x).cell (p := ⟨w.heap.size, k, none⟩) cJ.lt).trans (cJ.k k)
    have qcP : ∀ x k, (W x).cell? ⟨(w.heap.size + 1), k, none⟩ = (#[.int .i64 seg, .int .i64 le, .slice aP ys.length kP] : Array Value)[k]? := fun x k => ((ofW x).cell (p := ⟨(w.heap.size + 1), k, none⟩) cP.lt).trans (cP.k k)
    have RJ := hJ.kept bl.drew
    have RP := hP.kept bl.drew
    have yl : Below w2.heap.size w2.drew w2.drew := Below.refl _ _
    have zl : w2.heap.size ≤ w2.drew.heap.size := Nat.le_refl _
    have dl : Below w2.heap.size w2 w2.drew := (Below.refl _ _).drew
    clear bl
    refine region_part (fun w' => ∃ x, w' = W x) 12 [(0, true), (2, true)] 11 ⟨none, .assign (.tmp 0), 0, "", #[], none⟩ (by kernel_rfl) (by kernel_rfl) (inW _ yl) (fun x _ _ _ _ h => by cases x <;> exact h) ?_
    generalize ed : w2.drew = dw at RJ RP yl zl dl inW ofW ⊢
    simp only [arrange, List.map_cons, List.map_nil, List.getD_cons_zero, List.getD_cons_succ]
    iterate 2 (refine by_read rfl (fun K hK => ?_); go_simp; refine hK _ ?_; clear hK K)
    refine by_nil ?_
    refine rest_two 1 9 ⟨none, .assign (.tmp 0), 0, "", #[], none⟩ (by kernel_rfl) ?_ ?_
    · simp only [arrange, List.map_cons, List.map_nil, List.getD_cons_zero, List.getD_cons_succ]
      refine by_move rfl (fun K hK => ?_)
      go_simp
      go_at_call 22
      refine (toJoin_any _ _ zs _ RJ).mono ?_
      rintro e x1 ⟨vJ, rfl, oJ, y1⟩
      replace RJ := RJ.kept y1
      replace RP := RP.kept y1
      replace yl := yl.trans (y1.mono zl)
      replace zl := Nat.le_trans zl y1.size
      refine hK _ _ (fun _ => inW _ yl) ?_
      clear hK K
      refine by_nil ?_
      refine rest_two 3 9 ⟨none, .assign (.tmp 0), 0, "", #[], none⟩ (by kernel_rfl) ?_ ?_
      · simp only [arrange, List.map_cons, List.map_nil, List.getD_cons_zero, List.getD_cons_succ]
        refine by_move rfl (fun K hK => ?_)
        go_simp
        go_at_call 17
        refine (toPart_any _ _ _ ys _ RP).mono ?_
        rintro e x2 ⟨vP, rfl, oP, y2⟩
        replace RJ := RJ.kept y2
        replace RP := RP.kept y2
        replace oJ := oJ.kept y2
        replace yl := yl.trans (y2.mono zl)
        replace zl := Nat.le_trans zl y2.size
        refine hK _ _ (fun _ => inW _ yl) ?_
        clear hK K
        refine by_nil ?_
        refine rest_two 4 9 ⟨none, .assign (.tmp 0), 0, "", #[], none⟩ (by kernel_rfl) ?_ ?_
        · simp only [arrange, List.map_cons, List.map_nil, List.getD_cons_zero, List.getD_cons_succ]
          refine by_move rfl (fun K hK => ?_)
          go_simp
          go_at_call 25
          refine (spec_put _ _ zs _ _ _ ys _ (oJ.rd hbz (by omega)) (oP.rd hby (by omega))).mono ?_
          rintro e x3 ⟨⟨v1, v2, rfl, o1, o2, ap⟩, y3⟩
          replace o1 := o1.base zl
          replace o2 := o2.base zl
          replace yl := yl.trans (y3.mono zl)
          replace zl := Nat.le_trans zl y3.size
          obtain ⟨a1, c1, rfl⟩ := o1.form
          refine hK _ _ (fun _ => inW _ yl) ?_
          clear hK K
          refine by_nil ?_
          refine rest_by [(5, true), (6, true), (7, true), (8, true), (9, false), (10, false), (11, false), (12, false)] ⟨none, .assign (.tmp 0), 0, "", #[], none⟩ (by kernel_rfl) (inW _ yl) (fun x _ _ _ _ h => by cases x <;> exact h) ?_
          simp only [arrange, List.map_cons, List.map_nil, List.getD_cons_zero, List.getD_cons_succ]
          iterate 4 (refine by_read rfl (fun K hK => ?_); go_simp; refine hK _ ?_; clear hK K)
          refine by_move rfl (fun K hK => ?_)
          go_simp
          obtain ⟨x4, ew, G, y4⟩ := bx_made x3 #[.int .i64 0, .slice none 0 0] 43
          rw [ew]
          clear ew
          have gl := zl
          replace o1 := o1.kept y4
          replace o2 := o2.kept y4
          replace yl := yl.trans (y4.mono zl)
          replace zl := Nat.le_trans zl y4.size
          refine hK _ _ (fun _ => inW _ yl) ?_
          clear hK K
          have kG := G.k
          have fG := G.f
          have lG := G.lt
          refine by_move rfl (fun K hK => ?_)
          go_simp
          have G2 := (G.put 0 (by simp) (.int .i64 (putN len zs seg le ys))).put 1 (by simp) (.slice a1 (putG len zs seg le ys).length c1)
          have p1 := (o1.box G (by decide) 0 (.int .i64 (putN len zs seg le ys))).box (G.put 0 (by simp) _) (by decide) 1 (.slice a1 (putG len zs seg le ys).length c1)
          have p2 := (o2.box G (by decide) 0 (.int .i64 (putN len zs seg le ys))).box (G.put 0 (by simp) _) (by decide) 1 (.slice a1 (putG len zs seg le ys).length c1)
          replace yl := (yl.setCell (p := ⟨x3.heap.size, 0, none⟩) gl (.int .i64 (putN len zs seg le ys))).setCell (p := ⟨x3.heap.size, 1, none⟩) gl (.slice a1 (putG len zs seg le ys).length c1)
          refine hK _ _ (fun _ => inW _ yl) ?_
          clear hK K
          refine by_move rfl (fun K hK => ?_)
          go_simp
          refine hK _ _ (fun _ => inW _ yl) ?_
          clear hK K
          refine by_move rfl (fun K hK => ?_)
          go_simp
          refine hK _ _ (fun h => absurd h (by decide)) ?_
          clear hK K
          refine by_nil ?_
          go_wp2
          go_meet
          exact ⟨_, a1, c1, v2, rfl, rfl, rfl, G2, p1, p2, ap, dl.trans yl⟩
        · simp only [arrange, List.map_cons, List.map_nil, List.getD_cons_zero, List.getD_cons_succ]
          refine by_move rfl (fun K hK => ?_)
          go_simp
          obtain ⟨x5, ew, G, y5⟩ := bx_made x2 #[.int .i64 0, .slice none 0 0] 43
          rw [ew]
          clear ew
          have gl := zl
          replace RJ := RJ.kept y5
          replace RP := RP.kept y5
          replace oJ := oJ.kept y5
          replace oP := oP.kept y5
          replace yl := yl.trans (y5.mono zl)
          replace zl := Nat.le_trans zl y5.size
          refine hK _ _ (fun _ => inW _ yl) ?_
          clear hK K
          refine by_nil ?_
          refine rest_by [(4, false), (5, true), (6, true), (7, true), (8, true), (10, false), (11, false), (12, false)] ⟨none, .assign (.tmp 0), 0, "", #[], none⟩ (by kernel_rfl) (inW _ yl) (fun x _ _ _ _ h => by cases x <;> exact h) ?_
          simp only [arrange, List.map_cons, List.map_nil, List.getD_cons_zero, List.getD_cons_succ]
          refine by_move rfl (fun K hK => ?_)
          go_simp
          go_at_call 25
          refine (spec_put _ _ zs _ _ _ ys _ (oJ.rd hbz (by omega)) (oP.rd hby (by omega))).mono ?_
          rintro e x6 ⟨⟨v1, v2, rfl, o1, o2, ap⟩, y6⟩
          replace o1 := o1.base zl
          replace o2 := o2.base zl
          replace G := G.kept y6
          replace yl := yl.trans (y6.mono zl)
          replace zl := Nat.le_trans zl y6.size
          obtain ⟨a1, c1, rfl⟩ := o1.form
          refine hK _ _ (fun _ => inW _ yl) ?_
          clear hK K
          iterate 4 (refine by_read rfl (fun K hK => ?_); go_simp; refine hK _ ?_; clear hK K)
          have kG := G.k
          have fG := G.f
          have lG := G.lt
          refine by_move rfl (fun K hK => ?_)
          go_simp
          have G2 := (G.put 0 (by simp) (.int .i64 (putN len zs seg le ys))).put 1 (by simp) (.slice a1 (putG len zs seg le ys).length c1)
          have p1 := (o1.box G (by decide) 0 (.int .i64 (putN len zs seg le ys))).box (G.put 0 (by simp) _) (by decide) 1 (.slice a1 (putG len zs seg le ys).length c1)
          have p2 := (o2.box G (by decide) 0 (.int .i64 (putN len zs seg le ys))).box (G.put 0 (by simp) _) (by decide) 1 (.slice a1 (putG len zs seg le ys).length c1)
          replace yl := (yl.setCell (p := ⟨x2.heap.size, 0, none⟩) gl (.int .i64 (putN len zs seg le ys))).setCell (p := ⟨x2.heap.size, 1, none⟩) gl (.slice a1 (putG len zs seg le ys).length c1)
          refine hK _ _ (fun _ => inW _ yl) ?_
          clear hK K
          refine by_move rfl (fun K hK => ?_)
          go_simp
          refine hK _ _ (fun _ => inW _ yl) ?_
          clear hK K
          refine by_move rfl (fun K hK => ?_)
          go_simp
          refine hK _ _ (fun h => absurd h (by decide)) ?_
          clear hK K
          refine by_nil ?_
          go_wp2
          go_meet
          exact ⟨_, a1, c1, v2, rfl, rfl, rfl, G2, p1, p2, ap, dl.trans yl⟩
      · simp only [arrange, List.map_cons, List.map_nil, List.getD_cons_zero, List.getD_cons_succ]
        refine by_move rfl (fun K hK => ?_)
        go_simp
        obtain ⟨x7, ew, G, y7⟩ := bx_made x1 #[.int .i64 0, .slice none 0 0] 43
        rw [ew]
        clear ew
        have gl := zl
        replace RJ := RJ.kept y7
        replace RP := RP.kept y7
        replace oJ := oJ.kept y7
        replace yl := yl.trans (y7.mono zl)
        replace zl := Nat.le_trans zl y7.size
        refine hK _ _ (fun _ => inW _ yl) ?_
        clear hK K
        refine by_nil ?_
        refine rest_by [(3, false), (4, false), (5, true), (6, true), (7, true), (8, true), (10, false), (11, false), (12, false)] ⟨none, .assign (.tmp 0), 0, "", #[], none⟩ (by kernel_rfl) (inW _ yl) (fun x _ _ _ _ h => by cases x <;> exact h) ?_
        simp only [arrange, List.map_cons, List.map_nil, List.getD_cons_zero, List.getD_cons_succ]
        refine by_move rfl (fun K hK => ?_)
        go_simp
        go_at_call 17
        refine (toPart_any _ _ _ ys _ RP).mono ?_
        rintro e x8 ⟨vP, rfl, oP, y8⟩
        replace RJ := RJ.kept y8
        replace RP := RP.kept y8
        replace oJ := oJ.kept y8
        replace G := G.kept y8
        replace yl := yl.trans (y8.mono zl)
        replace zl := Nat.le_trans zl y8.size
        refine hK _ _ (fun _ => inW _ yl) ?_
        clear hK K
        refine by_move rfl (fun K hK => ?_)
        go_simp
        go_at_call 25
        refine (spec_put _ _ zs _ _ _ ys _ (oJ.rd hbz (by omega)) (oP.rd hby (by omega))).mono ?_
        rintro e x9 ⟨⟨v1, v2, rfl, o1, o2, ap⟩, y9⟩
        replace o1 := o1.base zl
        replace o2 := o2.base zl
        replace G := G.kept y9
        replace yl := yl.trans (y9.mono zl)
        replace zl := Nat.le_trans zl y9.size
        obtain ⟨a1, c1, rfl⟩ := o1.form
        refine hK _ _ (fun _ => inW _ yl) ?_
        clear hK K
        iterate 4 (refine by_read rfl (fun K hK => ?_); go_simp; refine hK _ ?_; clear hK K)
        have kG := G.k
        have fG := G.f
        have lG := G.lt
        refine by_move rfl (fun K hK => ?_)
        go_simp
        have G2 := (G.put 0 (by simp) (.int .i64 (putN len zs seg le ys))).put 1 (by simp) (.slice a1 (putG len zs seg le ys).length c1)
        have p1 := (o1.box G (by decide) 0 (.int .i64 (putN len zs seg le ys))).box (G.put 0 (by simp) _) (by decide) 1 (.slice a1 (putG len zs seg le ys).length c1)
        have p2 := (o2.box G (by decide) 0 (.int .i64 (putN len zs seg le ys))).box (G.put 0 (by simp) _) (by decide) 1 (.slice a1 (putG len zs seg le ys).length c1)
        replace yl := (yl.setCell (p := ⟨x1.heap.size, 0, none⟩) gl (.int .i64 (putN len zs seg le ys))).setCell (p := ⟨x1.heap.size, 1, none⟩) gl (.slice a1 (putG len zs seg le ys).length c1)
        refine hK _ _ (fun _ => inW _ yl) ?_
        clear hK K
        refine by_move rfl (fun K hK => ?_)
        go_simp
        refine hK _ _ (fun _ => inW _ yl) ?_
        clear hK K
        refine by_move rfl (fun K hK => ?_)
        go_simp
        refine hK _ _ (fun h => absurd h (by decide)) ?_
        clear hK K
        refine by_nil ?_
        go_wp2
        go_meet
        exact ⟨_, a1, c1, v2, rfl, rfl, rfl, G2, p1, p2, ap, dl.trans yl⟩
    · simp only [arrange, List.map_cons, List.map_nil, List.getD_cons_zero, List.getD_cons_succ]
      refine by_move rfl (fun K hK => ?_)
      go_simp
      obtain ⟨x10, ew, G, y10⟩ := bx_made dw #[.int .i64 0, .slice none 0 0] 43
      rw [ew]
      clear ew
      have gl := zl
      replace RJ := RJ.kept y10
      replace RP := RP.kept y10
      replace yl := yl.trans (y10.mono zl)
      replace zl := Nat.le_trans zl y10.size
      refine hK _ _ (fun _ => inW _ yl) ?_
      clear hK K
      refine by_nil ?_
      refine rest_by [(1, false), (3, false), (4, false), (5, true), (6, true), (7, true), (8, true), (10, false), (11, false), (12, false)] ⟨none, .assign (.tmp 0), 0, "", #[], none⟩ (by kernel_rfl) (inW _ yl) (fun x _ _ _ _ h => by cases x <;> exact h) ?_
      simp only [arrange, List.map_cons, List.map_nil, List.getD_cons_zero, List.getD_cons_succ]
      refine by_move rfl (fun K hK => ?_)
      go_simp
      go_at_call 22
      refine (toJoin_any _ _ zs _ RJ).mono ?_
      rintro e x11 ⟨vJ, rfl, oJ, y11⟩
      replace RJ := RJ.kept y11
      replace RP := RP.kept y11
      replace G := G.kept y11
      replace yl := yl.trans (y11.mono zl)
      replace zl := Nat.le_trans zl y11.size
      refine hK _ _ (fun _ => inW _ yl) ?_
      clear hK K
      refine by_move rfl (fun K hK => ?_)
      go_simp
      go_at_call 17
      refine (toPart_any _ _ _ ys _ RP).mono ?_
      rintro e x12 ⟨vP, rfl, oP, y12⟩
      replace RJ := RJ.kept y12
      replace RP := RP.kept y12
      replace G := G.kept y12
      replace oJ := oJ.kept y12
      replace yl := yl.trans (y12.mono zl)
      replace zl := Nat.le_trans zl y12.size
      refine hK _ _ (fun _ => inW _ yl) ?_
      clear hK K
      refine by_move rfl (fun K hK => ?_)
      go_simp
      go_at_call 25
      refine (spec_put _ _ zs _ _ _ ys _ (oJ.rd hbz (by omega)) (oP.rd hby (by omega))).mono ?_
      rintro e x13 ⟨⟨v1, v2, rfl, o1, o2, ap⟩, y13⟩
      replace o1 := o1.base zl
      replace o2 := o2.base zl
      replace G := G.kept y13
      replace yl := yl.trans (y13.mono zl)
      replace zl := Nat.le_trans zl y13.size
      obtain ⟨a1, c1, rfl⟩ := o1.form
      refine hK _ _ (fun _ => inW _ yl) ?_
      clear hK K
      iterate 4 (refine by_read rfl (fun K hK => ?_); go_simp; refine hK _ ?_; clear hK K)
      have kG := G.k
      have fG := G.f
      have lG := G.lt
      refine by_move rfl (fun K hK => ?_)
      go_simp
      have G2 := (G.put 0 (by simp) (.int .i64 (putN len zs seg le ys))).put 1 (by simp) (.slice a1 (putG len zs seg le ys).length c1)
      have p1 := (o1.box G (by decide) 0 (.int .i64 (putN len zs seg le ys))).box (G.put 0 (by simp) _) (by decide) 1 (.slice a1 (putG len zs seg le ys).length c1)
      have p2 := (o2.box G (by decide) 0 (.int .i64 (putN len zs seg le ys))).box (G.put 0 (by simp) _) (by decide) 1 (.slice a1 (putG len zs seg le ys).length c1)
      replace yl := (yl.setCell (p := ⟨dw.heap.size, 0, none⟩) gl (.int .i64 (putN len zs seg le ys))).setCell (p := ⟨dw.heap.size, 1, none⟩) gl (.slice a1 (putG len zs seg le ys).length c1)
      refine hK _ _ (fun _ => inW _ yl) ?_
      clear hK K
      refine by_move rfl (fun K hK => ?_)
      go_simp
      refine hK _ _ (fun _ => inW _ yl) ?_
      clear hK K
      refine by_move rfl (fun K hK => ?_)
      go_simp
      refine hK _ _ (fun h => absurd h (by decide)) ?_
      clear hK K
      refine by_nil ?_
      go_wp2
      go_meet
      exact ⟨_, a1, c1, v2, rfl, rfl, rfl, G2, p1, p2, ap, dl.trans yl⟩
  obtain ⟨gW, aW1, cW1, vW2, rfl, rfl, rfl, cW, oW1, oW2, apW, b3⟩ := hcut
  obtain ⟨w3, ew⟩ : ∃ x, x = wc := ⟨_, rfl⟩
  subst ew
  clear kcJ kcP
  replace cJ := cJ.kept b3
  replace cP := cP.kept b3
  replace bl := bchain bl b3
  have z3 := bl.size
  have kcJ := cJ.k
  have kcP := cP.k
  have aoW1oW2 := hide apW
  clear apW
  have kcW := cW.k
  -- the program
  go_wp2_with fail
  refine (toJoin_any _ _ zs _ (hJ.kept bl)).mono ?_
  rintro e w4 ⟨vX, rfl, oX, b4⟩
  clear kcJ kcP kcW
  have aoW1oX := hide (own_apart oW1 (Nat.le_refl _) oX)
  have aoW2oX := hide (own_apart oW2 (Nat.le_refl _) oX)
  replace oW1 := oW1.kept b4
  replace oW2 := oW2.kept b4
  replace cJ := cJ.kept b4
  replace cP := cP.kept b4
  replace cW := cW.kept b4
  replace bl := bchain bl b4
  have z4 := bl.size
  have kcJ := cJ.k
  have kcP := cP.k
  have kcW := cW.k
  obtain ⟨aX, kX, rfl⟩ := oX.form
  have cX := bx_new w4 #[.int .i64 len, .slice aX zs.length kX] 43
  have e5 := below_alloc w4 (.cells #[.int .i64 len, .slice aX zs.length kX] 43)
  clear kcJ kcP kcW
  replace oW1 := oW1.kept e5
  replace oW2 := oW2.kept e5
  replace oX := oX.kept e5
  replace cJ := cJ.kept e5
  replace cP := cP.kept e5
  replace cW := cW.kept e5
  replace bl := bchain bl e5
  have z5 := bl.size
  have kcJ := cJ.k
  have kcP := cP.k
  have kcW := cW.k
  have kcX := cX.k
  go_wp2_with fail
  refine (toPart_any _ _ _ ys _ (hP.kept bl)).mono ?_
  rintro e w6 ⟨vY, rfl, oY, b6⟩
  clear kcJ kcP kcW kcX
  have aoW1oY := hide (own_apart oW1 (Nat.le_refl _) oY)
  have aoW2oY := hide (own_apart oW2 (Nat.le_refl _) oY)
  have aoXoY := hide (own_apart oX (Nat.le_refl _) oY)
  replace oW1 := oW1.kept b6
  replace oW2 := oW2.kept b6
  replace oX := oX.kept b6
  replace cJ := cJ.kept b6
  replace cP := cP.kept b6
  replace cW := cW.kept b6
  replace cX := cX.kept b6
  replace bl := bchain bl b6
  have z6 := bl.size
  have kcJ := cJ.k
  have kcP := cP.k
  have kcW := cW.k
  have kcX := cX.k
  obtain ⟨aY, kY, rfl⟩ := oY.form
  have cY := bx_new w6 #[.int .i64 seg, .int .i64 le, .slice aY ys.length kY] 35
  have e7 := below_alloc w6 (.cells #[.int .i64 seg, .int .i64 le, .slice aY ys.length kY] 35)
  clear kcJ kcP kcW kcX
  replace oW1 := oW1.kept e7
  replace oW2 := oW2.kept e7
  replace oX := oX.kept e7
  replace oY := oY.kept e7
  replace cJ := cJ.kept e7
  replace cP := cP.kept e7
  replace cW := cW.kept e7
  replace cX := cX.kept e7
  replace bl := bchain bl e7
  have z7 := bl.size
  have kcJ := cJ.k
  have kcP := cP.k
  have kcW := cW.k
  have kcX := cX.k
  have kcY := cY.k
  go_wp2_with fail
  refine (impl_put _ _ zs _ _ _ ys _ (oX.rd hbz (by omega)) (oY.rd hby (by omega))).mono ?_
  rintro e w8 ⟨⟨vG1, vG2, rfl, oG1, oG2, apG⟩, b8⟩
  clear kcJ kcP kcW kcX kcY
  have aoW1oG1 := hide (own_apart oW1 (Nat.le_refl _) oG1)
  have aoW2oG1 := hide (own_apart oW2 (Nat.le_refl _) oG1)
  have aoXoG1 := hide (own_apart oX (Nat.le_refl _) oG1)
  have aoYoG1 := hide (own_apart oY (Nat.le_refl _) oG1)
  have aoW1oG2 := hide (own_apart oW1 (Nat.le_refl _) oG2)
  have aoW2oG2 := hide (own_apart oW2 (Nat.le_refl _) oG2)
  have aoXoG2 := hide (own_apart oX (Nat.le_refl _) oG2)
  have aoYoG2 := hide (own_apart oY (Nat.le_refl _) oG2)
  replace oW1 := oW1.kept b8
  replace oW2 := oW2.kept b8
  replace oX := oX.kept b8
  replace oY := oY.kept b8
  replace cJ := cJ.kept b8
  replace cP := cP.kept b8
  replace cW := cW.kept b8
  replace cX := cX.kept b8
  replace cY := cY.kept b8
  replace bl := bchain bl b8
  have z8 := bl.size
  have kcJ := cJ.k
  have kcP := cP.k
  have kcW := cW.k
  have kcX := cX.k
  have kcY := cY.k
  have aoG1oG2 := hide apG
  clear apG
  obtain ⟨aG1, cG1, rfl⟩ := oG1.form
  have cG := bx_new w8 #[.int .i64 (putN len zs seg le ys), .slice aG1 (putG len zs seg le ys).length cG1] 43
  have e9 := below_alloc w8 (.cells #[.int .i64 (putN len zs seg le ys), .slice aG1 (putG len zs seg le ys).length cG1] 43)
  clear kcJ kcP kcW kcX kcY
  replace oW1 := oW1.kept e9
  replace oW2 := oW2.kept e9
  replace oX := oX.kept e9
  replace oY := oY.kept e9
  replace oG1 := oG1.kept e9
  replace oG2 := oG2.kept e9
  replace cJ := cJ.kept e9
  replace cP := cP.kept e9
  replace cW := cW.kept e9
  replace cX := cX.kept e9
  replace cY := cY.kept e9
  replace bl := bchain bl e9
  have z9 := bl.size
  have kcJ := cJ.k
  have kcP := cP.k
  have kcW := cW.k
  have kcX := cX.k
  have kcY := cY.k
  have kcG := cG.k
  -- both alike
  go_wp2_with fail
  refine (eqJoin_same _ _ _ (putG len zs seg le ys) _ (oG1.rd hbG (by omega)) (oW1.rd hbG (by omega))).mono ?_
  rintro e w10 ⟨rfl, b10⟩
  clear kcJ kcP kcW kcX kcY kcG
  replace oW1 := oW1.kept b10
  replace oW2 := oW2.kept b10
  replace oX := oX.kept b10
  replace oY := oY.kept b10
  replace oG1 := oG1.kept b10
  replace oG2 := oG2.kept b10
  replace cJ := cJ.kept b10
  replace cP := cP.kept b10
  replace cW := cW.kept b10
  replace cX := cX.kept b10
  replace cY := cY.kept b10
  replace cG := cG.kept b10
  replace bl := bchain bl b10
  have z10 := bl.size
  have kcJ := cJ.k
  have kcP := cP.k
  have kcW := cW.k
  have kcX := cX.k
  have kcY := cY.k
  have kcG := cG.k
  go_wp2_with fail
  refine (eqBytes_b _ _ (putM len zs seg le ys) _ (oG2.rd hbM (by omega)) (oW2.rd hbM (by omega))).mono ?_
  rintro e w11 ⟨rfl, b11⟩
  clear kcJ kcP kcW kcX kcY kcG
  replace oW1 := oW1.kept b11
  replace oW2 := oW2.kept b11
  replace oX := oX.kept b11
  replace oY := oY.kept b11
  replace oG1 := oG1.kept b11
  replace oG2 := oG2.kept b11
  replace cJ := cJ.kept b11
  replace cP := cP.kept b11
  replace cW := cW.kept b11
  replace cX := cX.kept b11
  replace cY := cY.kept b11
  replace cG := cG.kept b11
  replace bl := bchain bl b11
  have z11 := bl.size
  have kcJ := cJ.k
  have kcP := cP.k
  have kcW := cW.k
  have kcX := cX.k
  have kcY := cY.k
  have kcG := cG.k
  -- the arguments as they were
  go_wp2_with fail
  obtain ⟨ι, W, inW, ofW⟩ := cls (fun w' => Below w11.heap.size w11.drew w')
  have ne : Nonempty ι := ⟨(inW _ (Below.refl _ _)).choose⟩
  have qcJ : ∀ x k, (W x).cell? ⟨w.heap.size, k, none⟩ = (#[.int .i64 len, .slice aJ zs.length kJ] : Array Value)[k]? := fun x k => ((ofW x).cell (p := ⟨w.heap.size, k, none⟩) cJ.lt).trans (cJ.k k)
  have qcX : ∀ x k, (W x).cell? ⟨w4.heap.size, k, none⟩ = (#[.int .i64 len, .slice aX zs.length kX] : Array Value)[k]? := fun x k => ((ofW x).cell (p := ⟨w4.heap.size, k, none⟩) cX.lt).trans (cX.k k)
  refine region_by (fun w' => ∃ x, w' = W x) 5 [(0, true), (1, true), (2, false), (3, false), (4, true)] ⟨none, .assign (.tmp 0), 0, "", #[], none⟩ (by kernel_rfl) (by kernel_rfl) (inW _ (Below.refl _ _)) (fun x _ _ _ _ h => by cases x <;> exact h) ?_
  simp only [arrange, List.map_cons, List.map_nil, List.getD_cons_zero, List.getD_cons_succ]
  iterate 2 (refine by_read rfl (fun K hK => ?_); go_simp; refine hK _ ?_; clear hK K)
  clear kcJ kcP kcW kcX kcY kcG
  refine by_move rfl (fun K hK => ?_)
  go_simp
  go_at_call 22
  refine (toJoin_any _ _ zs _ (hJ.kept bl.drew)).mono ?_
  rintro e w12 ⟨vU, rfl, oU, b12⟩
  have B12 : Below w11.heap.size w11 w12 := bchain (Below.refl _ _).drew b12
  refine hK _ _ (fun _ => inW _ b12) ?_
  clear hK K
  have aoW1oU := hide (own_apart oW1 (Nat.le_refl _) oU)
  have aoW2oU := hide (own_apart oW2 (Nat.le_refl _) oU)
  have aoXoU := hide (own_apart oX (Nat.le_refl _) oU)
  have aoYoU := hide (own_apart oY (Nat.le_refl _) oU)
  have aoG1oU := hide (own_apart oG1 (Nat.le_refl _) oU)
  have aoG2oU := hide (own_apart oG2 (Nat.le_refl _) oU)
  replace oW1 := oW1.kept B12
  replace oW2 := oW2.kept B12
  replace oX := oX.kept B12
  replace oY := oY.kept B12
  replace oG1 := oG1.kept B12
  replace oG2 := oG2.kept B12
  replace cJ := cJ.kept B12
  replace cP := cP.kept B12
  replace cW := cW.kept B12
  replace cX := cX.kept B12
  replace cY := cY.kept B12
  replace cG := cG.kept B12
  replace bl := bchain bl B12
  have z12 := bl.size
  refine by_move rfl (fun K hK => ?_)
  go_simp
  go_at_call 24
  refine (eqJoin_same _ _ _ zs _ (oX.rd hbz (by omega)) (oU.rd hbz (by omega))).mono ?_
  rintro e w13 ⟨rfl, b13⟩
  have B13 := b13
  refine hK _ _ (fun _ => inW _ (bchain b12 b13)) ?_
  clear hK K
  replace oW1 := oW1.kept B13
  replace oW2 := oW2.kept B13
  replace oX := oX.kept B13
  replace oY := oY.kept B13
  replace oG1 := oG1.kept B13
  replace oG2 := oG2.kept B13
  replace oU := oU.kept B13
  replace cJ := cJ.kept B13
  replace cP := cP.kept B13
  replace cW := cW.kept B13
  replace cX := cX.kept B13
  replace cY := cY.kept B13
  replace cG := cG.kept B13
  replace bl := bchain bl B13
  have z13 := bl.size
  refine by_read rfl (fun K hK => ?_)
  go_simp
  refine hK _ ?_
  clear hK K
  refine by_nil ?_
  clear qcJ qcX ofW inW ne W ι
  have kcJ := cJ.k
  have kcP := cP.k
  have kcW := cW.k
  have kcX := cX.k
  have kcY := cY.k
  have kcG := cG.k
  clear oU
  clear aoW1oU aoW2oU aoXoU aoYoU aoG1oU aoG2oU
  -- and the second
  go_wp2_with fail
  obtain ⟨ι, W, inW, ofW⟩ := cls (fun w' => Below w13.heap.size w13.drew w')
  have ne : Nonempty ι := ⟨(inW _ (Below.refl _ _)).choose⟩
  have qcP : ∀ x k, (W x).cell? ⟨(w.heap.size + 1), k, none⟩ = (#[.int .i64 seg, .int .i64 le, .slice aP ys.length kP] : Array Value)[k]? := fun x k => ((ofW x).cell (p := ⟨(w.heap.size + 1), k, none⟩) cP.lt).trans (cP.k k)
  have qcY : ∀ x k, (W x).cell? ⟨w6.heap.size, k, none⟩ = (#[.int .i64 seg, .int .i64 le, .slice aY ys.length kY] : Array Value)[k]? := fun x k => ((ofW x).cell (p := ⟨w6.heap.size, k, none⟩) cY.lt).trans (cY.k k)
  refine region_by (fun w' => ∃ x, w' = W x) 5 [(0, true), (1, true), (2, false), (3, false), (4, true)] ⟨none, .assign (.tmp 0), 0, "", #[], none⟩ (by kernel_rfl) (by kernel_rfl) (inW _ (Below.refl _ _)) (fun x _ _ _ _ h => by cases x <;> exact h) ?_
  simp only [arrange, List.map_cons, List.map_nil, List.getD_cons_zero, List.getD_cons_succ]
  iterate 2 (refine by_read rfl (fun K hK => ?_); go_simp; refine hK _ ?_; clear hK K)
  clear kcJ kcP kcW kcX kcY kcG
  refine by_move rfl (fun K hK => ?_)
  go_simp
  go_at_call 17
  refine (toPart_any _ _ _ ys _ (hP.kept bl.drew)).mono ?_
  rintro e w14 ⟨vU, rfl, oU, b14⟩
  have B14 : Below w13.heap.size w13 w14 := bchain (Below.refl _ _).drew b14
  refine hK _ _ (fun _ => inW _ b14) ?_
  clear hK K
  have aoW1oU := hide (own_apart oW1 (Nat.le_refl _) oU)
  have aoW2oU := hide (own_apart oW2 (Nat.le_refl _) oU)
  have aoXoU := hide (own_apart oX (Nat.le_refl _) oU)
  have aoYoU := hide (own_apart oY (Nat.le_refl _) oU)
  have aoG1oU := hide (own_apart oG1 (Nat.le_refl _) oU)
  have aoG2oU := hide (own_apart oG2 (Nat.le_refl _) oU)
  replace oW1 := oW1.kept B14
  replace oW2 := oW2.kept B14
  replace oX := oX.kept B14
  replace oY := oY.kept B14
  replace oG1 := oG1.kept B14
  replace oG2 := oG2.kept B14
  replace cJ := cJ.kept B14
  replace cP := cP.kept B14
  replace cW := cW.kept B14
  replace cX := cX.kept B14
  replace cY := cY.kept B14
  replace cG := cG.kept B14
  replace bl := bchain bl B14
  have z14 := bl.size
  refine by_move rfl (fun K hK => ?_)
  go_simp
  go_at_call 19
  refine (eqPart_same _ _ _ _ ys _ (oY.rd hby (by omega)) (oU.rd hby (by omega))).mono ?_
  rintro e w15 ⟨rfl, b15⟩
  have B15 := b15
  refine hK _ _ (fun _ => inW _ (bchain b14 b15)) ?_
  clear hK K
  replace oW1 := oW1.kept B15
  replace oW2 := oW2.kept B15
  replace oX := oX.kept B15
  replace oY := oY.kept B15
  replace oG1 := oG1.kept B15
  replace oG2 := oG2.kept B15
  replace oU := oU.kept B15
  replace cJ := cJ.kept B15
  replace cP := cP.kept B15
  replace cW := cW.kept B15
  replace cX := cX.kept B15
  replace cY := cY.kept B15
  replace cG := cG.kept B15
  replace bl := bchain bl B15
  have z15 := bl.size
  refine by_read rfl (fun K hK => ?_)
  go_simp
  refine hK _ ?_
  clear hK K
  refine by_nil ?_
  clear qcP qcY ofW inW ne W ι
  have kcJ := cJ.k
  have kcP := cP.k
  have kcW := cW.k
  have kcX := cX.k
  have kcY := cY.k
  have kcG := cG.k
  clear oU
  clear aoW1oU aoW2oU aoXoU aoYoU aoG1oU aoG2oU
  -- the arguments are marked, the answer stays
  go_wp2_with fail
  refine (markJoin_any _ _ _ zs 1 _ oX (by omega) (by omega)).mono ?_
  rintro e w16 ⟨rfl, moX, g16⟩
  clear kcJ kcP kcW kcX kcY kcG
  replace cJ := cJ.mark oX g16 (by decide)
  replace cP := cP.mark oX g16 (by decide)
  replace cW := cW.mark oX g16 (by decide)
  replace cX := cX.mark oX g16 (by decide)
  replace cY := cY.mark oX g16 (by decide)
  replace cG := cG.mark oX g16 (by decide)
  replace bl := bl.grown g16 bl.size (fun k e => Nat.le_trans (by first | exact Nat.le_refl _ | omega | (simp; omega)) (World.ownsRow.lt oX k e).1)
  replace oW1 := oW1.other g16 (unhide aoW1oX)
  replace oW2 := oW2.other g16 (unhide aoW2oX)
  replace oY := oY.other g16 (apart_symm (unhide aoXoY))
  replace oG1 := oG1.other g16 (apart_symm (unhide aoXoG1))
  replace oG2 := oG2.other g16 (apart_symm (unhide aoXoG2))
  replace oX := moX
  have z16 := bl.size
  clear moX g16
  have kcJ := cJ.k
  have kcP := cP.k
  have kcW := cW.k
  have kcX := cX.k
  have kcY := cY.k
  have kcG := cG.k
  go_wp2_with fail
  refine (markPart_any _ _ _ _ ys (1 + zs.length) _ oY (by omega) (by omega)).mono ?_
  rintro e w17 ⟨rfl, moY, g17⟩
  clear kcJ kcP kcW kcX kcY kcG
  replace cJ := cJ.mark oY g17 (by decide)
  replace cP := cP.mark oY g17 (by decide)
  replace cW := cW.mark oY g17 (by decide)
  replace cX := cX.mark oY g17 (by decide)
  replace cY := cY.mark oY g17 (by decide)
  replace cG := cG.mark oY g17 (by decide)
  replace bl := bl.grown g17 bl.size (fun k e => Nat.le_trans (by first | exact Nat.le_refl _ | omega | (simp; omega)) (World.ownsRow.lt oY k e).1)
  replace oW1 := oW1.other g17 (unhide aoW1oY)
  replace oW2 := oW2.other g17 (unhide aoW2oY)
  replace oX := oX.other g17 (unhide aoXoY)
  replace oG1 := oG1.other g17 (apart_symm (unhide aoYoG1))
  replace oG2 := oG2.other g17 (apart_symm (unhide aoYoG2))
  replace oY := moY
  have z17 := bl.size
  clear moY g17
  have kcJ := cJ.k
  have kcP := cP.k
  have kcW := cW.k
  have kcX := cX.k
  have kcY := cY.k
  have kcG := cG.k
  clear oX oY
  clear aoW1oX aoW2oX aoXoY aoXoG1 aoXoG2
  clear aoW1oY aoW2oY aoYoG1 aoYoG2
  have hp1 : ¬ ((1 + zs.length + ys.length : Nat) : Int) < 0 := by omega
  -- both alike
  go_wp2_with fail
  refine (eqJoin_same _ _ _ (putG len zs seg le ys) _ (oG1.rd hbG (by omega)) (oW1.rd hbG (by omega))).mono ?_
  rintro e w18 ⟨rfl, b18⟩
  clear kcJ kcP kcW kcX kcY kcG
  replace oW1 := oW1.kept b18
  replace oW2 := oW2.kept b18
  replace oG1 := oG1.kept b18
  replace oG2 := oG2.kept b18
  replace cJ := cJ.kept b18
  replace cP := cP.kept b18
  replace cW := cW.kept b18
  replace cX := cX.kept b18
  replace cY := cY.kept b18
  replace cG := cG.kept b18
  replace bl := bchain bl b18
  have z18 := bl.size
  have kcJ := cJ.k
  have kcP := cP.k
  have kcW := cW.k
  have kcX := cX.k
  have kcY := cY.k
  have kcG := cG.k
  go_wp2_with fail
  refine (eqBytes_b _ _ (putM len zs seg le ys) _ (oG2.rd hbM (by omega)) (oW2.rd hbM (by omega))).mono ?_
  rintro e w19 ⟨rfl, b19⟩
  clear kcJ kcP kcW kcX kcY kcG
  replace oW1 := oW1.kept b19
  replace oW2 := oW2.kept b19
  replace oG1 := oG1.kept b19
  replace oG2 := oG2.kept b19
  replace cJ := cJ.kept b19
  replace cP := cP.kept b19
  replace cW := cW.kept b19
  replace cX := cX.kept b19
  replace cY := cY.kept b19
  replace cG := cG.kept b19
  replace bl := bchain bl b19
  have z19 := bl.size
  have kcJ := cJ.k
  have kcP := cP.k
  have kcW := cW.k
  have kcX := cX.k
  have kcY := cY.k
  have kcG := cG.k
  -- the answer is marked
  go_wp2_with fail
  refine (markJoin_any _ _ _ (putG len zs seg le ys) 1 _ oG1 (by omega) (by omega)).mono ?_
  rintro e w20 ⟨rfl, moG1, g20⟩
  clear kcJ kcP kcW kcX kcY kcG
  replace cJ := cJ.mark oG1 g20 (by decide)
  replace cP := cP.mark oG1 g20 (by decide)
  replace cW := cW.mark oG1 g20 (by decide)
  replace cX := cX.mark oG1 g20 (by decide)
  replace cY := cY.mark oG1 g20 (by decide)
  replace cG := cG.mark oG1 g20 (by decide)
  replace bl := bl.grown g20 bl.size (fun k e => Nat.le_trans (by first | exact Nat.le_refl _ | omega | (simp; omega)) (World.ownsRow.lt oG1 k e).1)
  replace oW1 := oW1.other g20 (unhide aoW1oG1)
  replace oW2 := oW2.other g20 (unhide aoW2oG1)
  replace oG2 := oG2.other g20 (apart_symm (unhide aoG1oG2))
  replace oG1 := moG1
  have z20 := bl.size
  clear moG1 g20
  have kcJ := cJ.k
  have kcP := cP.k
  have kcW := cW.k
  have kcX := cX.k
  have kcY := cY.k
  have kcG := cG.k
  go_wp2_with fail
  refine (mark_any _ _ (putM len zs seg le ys) (1 + (putG len zs seg le ys).length) _ oG2 (by omega) (by omega)).mono ?_
  rintro e w21 ⟨rfl, moG2, g21⟩
  clear kcJ kcP kcW kcX kcY kcG
  replace cJ := cJ.mark oG2 g21 (by decide)
  replace cP := cP.mark oG2 g21 (by decide)
  replace cW := cW.mark oG2 g21 (by decide)
  replace cX := cX.mark oG2 g21 (by decide)
  replace cY := cY.mark oG2 g21 (by decide)
  replace cG := cG.mark oG2 g21 (by decide)
  replace bl := bl.grown g21 bl.size (fun k e => Nat.le_trans (by first | exact Nat.le_refl _ | omega | (simp; omega)) (World.ownsRow.lt oG2 k e).1)
  replace oW1 := oW1.other g21 (unhide aoW1oG2)
  replace oW2 := oW2.other g21 (unhide aoW2oG2)
  replace oG1 := oG1.other g21 (unhide aoG1oG2)
  replace oG2 := moG2
  have z21 := bl.size
  clear moG2 g21
  have kcJ := cJ.k
  have kcP := cP.k
  have kcW := cW.k
  have kcX := cX.k
  have kcY := cY.k
  have kcG := cG.k
  go_wp2_with fail
  refine (heldJoin_any _ _ 1 (putG len zs seg le ys).length _ (oG1.rd (marks_byt _ _) (by rw [marks_length]; omega)) (by omega) (by omega)).mono ?_
  rintro e w22 ⟨rfl, b22⟩
  clear kcJ kcP kcW kcX kcY kcG
  replace oW1 := oW1.kept b22
  replace oW2 := oW2.kept b22
  replace oG1 := oG1.kept b22
  replace oG2 := oG2.kept b22
  replace cJ := cJ.kept b22
  replace cP := cP.kept b22
  replace cW := cW.kept b22
  replace cX := cX.kept b22
  replace cY := cY.kept b22
  replace cG := cG.kept b22
  replace bl := bchain bl b22
  have z22 := bl.size
  have kcJ := cJ.k
  have kcP := cP.k
  have kcW := cW.k
  have kcX := cX.k
  have kcY := cY.k
  have kcG := cG.k
  go_wp2_with fail
  refine (heldBytes_b _ (1 + (putG len zs seg le ys).length) (putM len zs seg le ys).length _ (oG2.rd (marks_byt _ _) (by rw [marks_length]; omega)) (by omega) (by omega)).mono ?_
  rintro e w23 ⟨rfl, b23⟩
  clear kcJ kcP kcW kcX kcY kcG
  replace oW1 := oW1.kept b23
  replace oW2 := oW2.kept b23
  replace oG1 := oG1.kept b23
  replace oG2 := oG2.kept b23
  replace cJ := cJ.kept b23
  replace cP := cP.kept b23
  replace cW := cW.kept b23
  replace cX := cX.kept b23
  replace cY := cY.kept b23
  replace cG := cG.kept b23
  replace bl := bchain bl b23
  have z23 := bl.size
  have kcJ := cJ.k
  have kcP := cP.k
  have kcW := cW.k
  have kcX := cX.k
  have kcY := cY.k
  have kcG := cG.k
  -- once more
  go_wp2_with fail
  go_cut [17, 18, 19] from 20 (fun s0 s1 s2 wx => ∃ g a1 c1 v2, s0 = .pointer (some ⟨g, 0, none⟩) ∧ s1 = v2 ∧ s2 = .int .i64 (putA len zs seg le ys) ∧ Bx wx g #[.int .i64 (putN len zs seg le ys), .slice a1 (putG len zs seg le ys).length c1] 43 ∧ Own wx w23.heap.size (.slice a1 (putG len zs seg le ys).length c1) (putG len zs seg le ys) ∧ Own wx w23.heap.size v2 (putM len zs seg le ys) ∧ (∀ k, (Value.slice a1 (putG len zs seg le ys).length c1).ownBlock = some k → v2.ownBlock ≠ some k) ∧ Below w23.heap.size w23 wx)
  case first =>
    clear kcJ kcP kcW kcX kcY kcG
    obtain ⟨ι, W, inW, ofW⟩ := cls (fun w' => Below w23.heap.size w23.drew w')
    have ne : Nonempty ι := ⟨(inW _ (Below.refl _ _)).choose⟩
    have qcJ : ∀ x k, (W x).cell? ⟨w.heap.size, k, none⟩ = (#[.int .i64 len, .slice aJ zs.length kJ] : Array Value)[k]? := fun x k => ((ofW x).cell (p := ⟨w.heap.size, k, none⟩) cJ.lt).trans (cJ.k k)
    have qcP : ∀ x k, (W x).cell? ⟨(w.heap.size + 1), k, none⟩ = (#[.int .i64 seg, .int .i64 le, .slice aP ys.length kP] : Array Value)[k]? := fun x k => ((ofW x).cell (p := ⟨(w.heap.size + 1), k, none⟩) cP.lt).trans (cP.k k)
    have RJ := hJ.kept bl.drew
    have RP := hP.kept bl.drew
    have yl : Below w23.heap.size w23.drew w23.drew := Below.refl _ _
    have zl : w23.heap.size ≤ w23.drew.heap.size := Nat.le_refl _
    have dl : Below w23.heap.size w23 w23.drew := (Below.refl _ _).drew
    clear bl oW1 oW2 oG1 oG2 aoW1oW2 aoW1oG1 aoW2oG1 aoW1oG2 aoW2oG2 aoG1oG2
    refine region_part (fun w' => ∃ x, w' = W x) 12 [(0, true), (2, true)] 11 ⟨none, .assign (.tmp 0), 0, "", #[], none⟩ (by kernel_rfl) (by kernel_rfl) (inW _ yl) (fun x _ _ _ _ h => by cases x <;> exact h) ?_
    generalize ed : w23.drew = dw at RJ RP yl zl dl inW ofW ⊢
    simp only [arrange, List.map_cons, List.map_nil, List.getD_cons_zero, List.getD_cons_succ]
    iterate 2 (refine by_read rfl (fun K hK => ?_); go_simp; refine hK _ ?_; clear hK K)
    refine by_nil ?_
    refine rest_two 1 9 ⟨none, .assign (.tmp 0), 0, "", #[], none⟩ (by kernel_rfl) ?_ ?_
    · simp only [arrange, List.map_cons, List.map_nil, List.getD_cons_zero, List.getD_cons_succ]
      refine by_move rfl (fun K hK => ?_)
      go_simp
      go_at_call 22
      refine (toJoin_any _ _ zs _ RJ).mono ?_
      rintro e x1 ⟨vJ, rfl, oJ, y1⟩
      replace RJ := RJ.kept y1
      replace RP := RP.kept y1
      replace yl := yl.trans (y1.mono zl)
      replace zl := Nat.le_trans zl y1.size
      refine hK _ _ (fun _ => inW _ yl) ?_
      clear hK K
      refine by_nil ?_
      refine rest_two 3 9 ⟨none, .assign (.tmp 0), 0, "", #[], none⟩ (by kernel_rfl) ?_ ?_
      · simp only [arrange, List.map_cons, List.map_nil, List.getD_cons_zero, List.getD_cons_succ]
        refine by_move rfl (fun K hK => ?_)
        go_simp
        go_at_call 17
        refine (toPart_any _ _ _ ys _ RP).mono ?_
        rintro e x2 ⟨vP, rfl, oP, y2⟩
        replace RJ := RJ.kept y2
        replace RP := RP.kept y2
        replace oJ := oJ.kept y2
        replace yl := yl.trans (y2.mono zl)
        replace zl := Nat.le_trans zl y2.size
        refine hK _ _ (fun _ => inW _ yl) ?_
        clear hK K
        refine by_nil ?_
        refine rest_two 4 9 ⟨none, .assign (.tmp 0), 0, "", #[], none⟩ (by kernel_rfl) ?_ ?_
        · simp only [arrange, List.map_cons, List.map_nil, List.getD_cons_zero, List.getD_cons_succ]
          refine by_move rfl (fun K hK => ?_)
          go_simp
          go_at_call 26
          refine (impl_put _ _ zs _ _ _ ys _ (oJ.rd hbz (by omega)) (oP.rd hby (by omega))).mono ?_
          rintro e x3 ⟨⟨v1, v2, rfl, o1, o2, ap⟩, y3⟩
          replace o1 := o1.base zl
          replace o2 := o2.base zl
          replace yl := yl.trans (y3.mono zl)
          replace zl := Nat.le_trans zl y3.size
          obtain ⟨a1, c1, rfl⟩ := o1.form
          refine hK _ _ (fun _ => inW _ yl) ?_
          clear hK K
          refine by_nil ?_
          refine rest_by [(5, true), (6, true), (7, true), (8, true), (9, false), (10, false), (11, false), (12, false)] ⟨none, .assign (.tmp 0), 0, "", #[], none⟩ (by kernel_rfl) (inW _ yl) (fun x _ _ _ _ h => by cases x <;> exact h) ?_
          simp only [arrange, List.map_cons, List.map_nil, List.getD_cons_zero, List.getD_cons_succ]
          iterate 4 (refine by_read rfl (fun K hK => ?_); go_simp; refine hK _ ?_; clear hK K)
          refine by_move rfl (fun K hK => ?_)
          go_simp
          obtain ⟨x4, ew, G, y4⟩ := bx_made x3 #[.int .i64 0, .slice none 0 0] 43
          rw [ew]
          clear ew
          have gl := zl
          replace o1 := o1.kept y4
          replace o2 := o2.kept y4
          replace yl := yl.trans (y4.mono zl)
          replace zl := Nat.le_trans zl y4.size
          refine hK _ _ (fun _ => inW _ yl) ?_
          clear hK K
          have kG := G.k
          have fG := G.f
          have lG := G.lt
          refine by_move rfl (fun K hK => ?_)
          go_simp
          have G2 := (G.put 0 (by simp) (.int .i64 (putN len zs seg le ys))).put 1 (by simp) (.slice a1 (putG len zs seg le ys).length c1)
          have p1 := (o1.box G (by decide) 0 (.int .i64 (putN len zs seg le ys))).box (G.put 0 (by simp) _) (by decide) 1 (.slice a1 (putG len zs seg le ys).length c1)
          have p2 := (o2.box G (by decide) 0 (.int .i64 (putN len zs seg le ys))).box (G.put 0 (by simp) _) (by decide) 1 (.slice a1 (putG len zs seg le ys).length c1)
          replace yl := (yl.setCell (p := ⟨x3.heap.size, 0, none⟩) gl (.int .i64 (putN len zs seg le ys))).setCell (p := ⟨x3.heap.size, 1, none⟩) gl (.slice a1 (putG len zs seg le ys).length c1)
          refine hK _ _ (fun _ => inW _ yl) ?_
          clear hK K
          refine by_move rfl (fun K hK => ?_)
          go_simp
          refine hK _ _ (fun _ => inW _ yl) ?_
          clear hK K
          refine by_move rfl (fun K hK => ?_)
          go_simp
          refine hK _ _ (fun h => absurd h (by decide)) ?_
          clear hK K
          refine by_nil ?_
          go_wp2
          go_meet
          exact ⟨_, a1, c1, v2, rfl, rfl, rfl, G2, p1, p2, ap, dl.trans yl⟩
        · simp only [arrange, List.map_cons, List.map_nil, List.getD_cons_zero, List.getD_cons_succ]
          refine by_move rfl (fun K hK => ?_)
          go_simp
          obtain ⟨x5, ew, G, y5⟩ := bx_made x2 #[.int .i64 0, .slice none 0 0] 43
          rw [ew]
          clear ew
          have gl := zl
          replace RJ := RJ.kept y5
          replace RP := RP.kept y5
          replace oJ := oJ.kept y5
          replace oP := oP.kept y5
          replace yl := yl.trans (y5.mono zl)
          replace zl := Nat.le_trans zl y5.size
          refine hK _ _ (fun _ => inW _ yl) ?_
          clear hK K
          refine by_nil ?_
          refine rest_by [(4, false), (5, true), (6, true), (7, true), (8, true), (10, false), (11, false), (12, false)] ⟨none, .assign (.tmp 0), 0, "", #[], none⟩ (by kernel_rfl) (inW _ yl) (fun x _ _ _ _ h => by cases x <;> exact h) ?_
          simp only [arrange, List.map_cons, List.map_nil, List.getD_cons_zero, List.getD_cons_succ]
          refine by_move rfl (fun K hK => ?_)
          go_simp
          go_at_call 26
          refine (impl_put _ _ zs _ _ _ ys _ (oJ.rd hbz (by omega)) (oP.rd hby (by omega))).mono ?_
          rintro e x6 ⟨⟨v1, v2, rfl, o1, o2, ap⟩, y6⟩
          replace o1 := o1.base zl
          replace o2 := o2.base zl
          replace G := G.kept y6
          replace yl := yl.trans (y6.mono zl)
          replace zl := Nat.le_trans zl y6.size
          obtain ⟨a1, c1, rfl⟩ := o1.form
          refine hK _ _ (fun _ => inW _ yl) ?_
          clear hK K
          iterate 4 (refine by_read rfl (fun K hK => ?_); go_simp; refine hK _ ?_; clear hK K)
          have kG := G.k
          have fG := G.f
          have lG := G.lt
          refine by_move rfl (fun K hK => ?_)
          go_simp
          have G2 := (G.put 0 (by simp) (.int .i64 (putN len zs seg le ys))).put 1 (by simp) (.slice a1 (putG len zs seg le ys).length c1)
          have p1 := (o1.box G (by decide) 0 (.int .i64 (putN len zs seg le ys))).box (G.put 0 (by simp) _) (by decide) 1 (.slice a1 (putG len zs seg le ys).length c1)
          have p2 := (o2.box G (by decide) 0 (.int .i64 (putN len zs seg le ys))).box (G.put 0 (by simp) _) (by decide) 1 (.slice a1 (putG len zs seg le ys).length c1)
          replace yl := (yl.setCell (p := ⟨x2.heap.size, 0, none⟩) gl (.int .i64 (putN len zs seg le ys))).setCell (p := ⟨x2.heap.size, 1, none⟩) gl (.slice a1 (putG len zs seg le ys).length c1)
          refine hK _ _ (fun _ => inW _ yl) ?_
          clear hK K
          refine by_move rfl (fun K hK => ?_)
          go_simp
          refine hK _ _ (fun _ => inW _ yl) ?_
          clear hK K
          refine by_move rfl (fun K hK => ?_)
          go_simp
          refine hK _ _ (fun h => absurd h (by decide)) ?_
          clear hK K
          refine by_nil ?_
          go_wp2
          go_meet
          exact ⟨_, a1, c1, v2, rfl, rfl, rfl, G2, p1, p2, ap, dl.trans yl⟩
      · simp only [arrange, List.map_cons, List.map_nil, List.getD_cons_zero, List.getD_cons_succ]
        refine by_move rfl (fun K hK => ?_)
        go_simp
        obtain ⟨x7, ew, G, y7⟩ := bx_made x1 #[.int .i64 0, .slice none 0 0] 43
        rw [ew]
        clear ew
        have gl := zl
        replace RJ := RJ.kept y7
        replace RP := RP.kept y7
        replace oJ := oJ.kept y7
        replace yl := yl.trans (y7.mono zl)
        replace zl := Nat.le_trans zl y7.size
        refine hK _ _ (fun _ => inW _ yl) ?_
        clear hK K
        refine by_nil ?_
        refine rest_by [(3, false), (4, false), (5, true), (6, true), (7, true), (8, true), (10, false), (11, false), (12, false)] ⟨none, .assign (.tmp 0), 0, "", #[], none⟩ (by kernel_rfl) (inW _ yl) (fun x _ _ _ _ h => by cases x <;> exact h) ?_
        simp only [arrange, List.map_cons, List.map_nil, List.getD_cons_zero, List.getD_cons_succ]
        refine by_move rfl (fun K hK => ?_)
        go_simp
        go_at_call 17
        refine (toPart_any _ _ _ ys _ RP).mono ?_
        rintro e x8 ⟨vP, rfl, oP, y8⟩
        replace RJ := RJ.kept y8
        replace RP := RP.kept y8
        replace oJ := oJ.kept y8
        replace G := G.kept y8
        replace yl := yl.trans (y8.mono zl)
        replace zl := Nat.le_trans zl y8.size
        refine hK _ _ (fun _ => inW _ yl) ?_
        clear hK K
        refine by_move rfl (fun K hK => ?_)
        go_simp
        go_at_call 26
        refine (impl_put _ _ zs _ _ _ ys _ (oJ.rd hbz (by omega)) (oP.rd hby (by omega))).mono ?_
        rintro e x9 ⟨⟨v1, v2, rfl, o1, o2, ap⟩, y9⟩
        replace o1 := o1.base zl
        replace o2 := o2.base zl
        replace G := G.kept y9
        replace yl := yl.trans (y9.mono zl)
        replace zl := Nat.le_trans zl y9.size
        obtain ⟨a1, c1, rfl⟩ := o1.form
        refine hK _ _ (fun _ => inW _ yl) ?_
        clear hK K
        iterate 4 (refine by_read rfl (fun K hK => ?_); go_simp; refine hK _ ?_; clear hK K)
        have kG := G.k
        have fG := G.f
        have lG := G.lt
        refine by_move rfl (fun K hK => ?_)
        go_simp
        have G2 := (G.put 0 (by simp) (.int .i64 (putN len zs seg le ys))).put 1 (by simp) (.slice a1 (putG len zs seg le ys).length c1)
        have p1 := (o1.box G (by decide) 0 (.int .i64 (putN len zs seg le ys))).box (G.put 0 (by simp) _) (by decide) 1 (.slice a1 (putG len zs seg le ys).length c1)
        have p2 := (o2.box G (by decide) 0 (.int .i64 (putN len zs seg le ys))).box (G.put 0 (by simp) _) (by decide) 1 (.slice a1 (putG len zs seg le ys).length c1)
        replace yl := (yl.setCell (p := ⟨x1.heap.size, 0, none⟩) gl (.int .i64 (putN len zs seg le ys))).setCell (p := ⟨x1.heap.size, 1, none⟩) gl (.slice a1 (putG len zs seg le ys).length c1)
        refine hK _ _ (fun _ => inW _ yl) ?_
        clear hK K
        refine by_move rfl (fun K hK => ?_)
        go_simp
        refine hK _ _ (fun _ => inW _ yl) ?_
        clear hK K
        refine by_move rfl (fun K hK => ?_)
        go_simp
        refine hK _ _ (fun h => absurd h (by decide)) ?_
        clear hK K
        refine by_nil ?_
        go_wp2
        go_meet
        exact ⟨_, a1, c1, v2, rfl, rfl, rfl, G2, p1, p2, ap, dl.trans yl⟩
    · simp only [arrange, List.map_cons, List.map_nil, List.getD_cons_zero, List.getD_cons_succ]
      refine by_move rfl (fun K hK => ?_)
      go_simp
      obtain ⟨x10, ew, G, y10⟩ := bx_made dw #[.int .i64 0, .slice none 0 0] 43
      rw [ew]
      clear ew
      have gl := zl
      replace RJ := RJ.kept y10
      replace RP := RP.kept y10
      replace yl := yl.trans (y10.mono zl)
      replace zl := Nat.le_trans zl y10.size
      refine hK _ _ (fun _ => inW _ yl) ?_
      clear hK K
      refine by_nil ?_
      refine rest_by [(1, false), (3, false), (4, false), (5, true), (6, true), (7, true), (8, true), (10, false), (11, false), (12, false)] ⟨none, .assign (.tmp 0), 0, "", #[], none⟩ (by kernel_rfl) (inW _ yl) (fun x _ _ _ _ h => by cases x <;> exact h) ?_
      simp only [arrange, List.map_cons, List.map_nil, List.getD_cons_zero, List.getD_cons_succ]
      refine by_move rfl (fun K hK => ?_)
      go_simp
      go_at_call 22
      refine (toJoin_any _ _ zs _ RJ).mono ?_
      rintro e x11 ⟨vJ, rfl, oJ, y11⟩
      replace RJ := RJ.kept y11
      replace RP := RP.kept y11
      replace G := G.kept y11
      replace yl := yl.trans (y11.mono zl)
      replace zl := Nat.le_trans zl y11.size
      refine hK _ _ (fun _ => inW _ yl) ?_
      clear hK K
      refine by_move rfl (fun K hK => ?_)
      go_simp
      go_at_call 17
      refine (toPart_any _ _ _ ys _ RP).mono ?_
      rintro e x12 ⟨vP, rfl, oP, y12⟩
      replace RJ := RJ.kept y12
      replace RP := RP.kept y12
      replace G := G.kept y12
      replace oJ := oJ.kept y12
      replace yl := yl.trans (y12.mono zl)
      replace zl := Nat.le_trans zl y12.size
      refine hK _ _ (fun _ => inW _ yl) ?_
      clear hK K
      refine by_move rfl (fun K hK => ?_)
      go_simp
      go_at_call 26
      refine (impl_put _ _ zs _ _ _ ys _ (oJ.rd hbz (by omega)) (oP.rd hby (by omega))).mono ?_
      rintro e x13 ⟨⟨v1, v2, rfl, o1, o2, ap⟩, y13⟩
      replace o1 := o1.base zl
      replace o2 := o2.base zl
      replace G := G.kept y13
      replace yl := yl.trans (y13.mono zl)
      replace zl := Nat.le_trans zl y13.size
      obtain ⟨a1, c1, rfl⟩ := o1.form
      refine hK _ _ (fun _ => inW _ yl) ?_
      clear hK K
      iterate 4 (refine by_read rfl (fun K hK => ?_); go_simp; refine hK _ ?_; clear hK K)
      have kG := G.k
      have fG := G.f
      have lG := G.lt
      refine by_move rfl (fun K hK => ?_)
      go_simp
      have G2 := (G.put 0 (by simp) (.int .i64 (putN len zs seg le ys))).put 1 (by simp) (.slice a1 (putG len zs seg le ys).length c1)
      have p1 := (o1.box G (by decide) 0 (.int .i64 (putN len zs seg le ys))).box (G.put 0 (by simp) _) (by decide) 1 (.slice a1 (putG len zs seg le ys).length c1)
      have p2 := (o2.box G (by decide) 0 (.int .i64 (putN len zs seg le ys))).box (G.put 0 (by simp) _) (by decide) 1 (.slice a1 (putG len zs seg le ys).length c1)
      replace yl := (yl.setCell (p := ⟨dw.heap.size, 0, none⟩) gl (.int .i64 (putN len zs seg le ys))).setCell (p := ⟨dw.heap.size, 1, none⟩) gl (.slice a1 (putG len zs seg le ys).length c1)
      refine hK _ _ (fun _ => inW _ yl) ?_
      clear hK K
      refine by_move rfl (fun K hK => ?_)
      go_simp
      refine hK _ _ (fun _ => inW _ yl) ?_
      clear hK K
      refine by_move rfl (fun K hK => ?_)
      go_simp
      refine hK _ _ (fun h => absurd h (by decide)) ?_
      clear hK K
      refine by_nil ?_
      go_wp2
      go_meet
      exact ⟨_, a1, c1, v2, rfl, rfl, rfl, G2, p1, p2, ap, dl.trans yl⟩
  obtain ⟨gH, aH1, cH1, vH2, rfl, rfl, rfl, cH, oH1, oH2, apH, b24⟩ := hcut
  obtain ⟨w24, ew⟩ : ∃ x, x = wc := ⟨_, rfl⟩
  subst ew
  clear kcJ kcP kcW kcX kcY kcG
  have aoW1oH1 := hide (own_apart oW1 (Nat.le_refl _) oH1)
  have aoW2oH1 := hide (own_apart oW2 (Nat.le_refl _) oH1)
  have aoG1oH1 := hide (own_apart oG1 (Nat.le_refl _) oH1)
  have aoG2oH1 := hide (own_apart oG2 (Nat.le_refl _) oH1)
  have aoW1oH2 := hide (own_apart oW1 (Nat.le_refl _) oH2)
  have aoW2oH2 := hide (own_apart oW2 (Nat.le_refl _) oH2)
  have aoG1oH2 := hide (own_apart oG1 (Nat.le_refl _) oH2)
  have aoG2oH2 := hide (own_apart oG2 (Nat.le_refl _) oH2)
  replace oW1 := oW1.kept b24
  replace oW2 := oW2.kept b24
  replace oG1 := oG1.kept b24
  replace oG2 := oG2.kept b24
  replace cJ := cJ.kept b24
  replace cP := cP.kept b24
  replace cW := cW.kept b24
  replace cX := cX.kept b24
  replace cY := cY.kept b24
  replace cG := cG.kept b24
  replace bl := bchain bl b24
  have z24 := bl.size
  have kcJ := cJ.k
  have kcP := cP.k
  have kcW := cW.k
  have kcX := cX.k
  have kcY := cY.k
  have kcG := cG.k
  have aoH1oH2 := hide apH
  clear apH
  have kcH := cH.k
  -- both alike
  go_wp2_with fail
  refine (eqJoin_same _ _ _ (putG len zs seg le ys) _ (oH1.rd hbG (by omega)) (oW1.rd hbG (by omega))).mono ?_
  rintro e w25 ⟨rfl, b25⟩
  clear kcJ kcP kcW kcX kcY kcG kcH
  replace oW1 := oW1.kept b25
  replace oW2 := oW2.kept b25
  replace oG1 := oG1.kept b25
  replace oG2 := oG2.kept b25
  replace oH1 := oH1.kept b25
  replace oH2 := oH2.kept b25
  replace cJ := cJ.kept b25
  replace cP := cP.kept b25
  replace cW := cW.kept b25
  replace cX := cX.kept b25
  replace cY := cY.kept b25
  replace cG := cG.kept b25
  replace cH := cH.kept b25
  replace bl := bchain bl b25
  have z25 := bl.size
  have kcJ := cJ.k
  have kcP := cP.k
  have kcW := cW.k
  have kcX := cX.k
  have kcY := cY.k
  have kcG := cG.k
  have kcH := cH.k
  go_wp2_with fail
  refine (eqBytes_b _ _ (putM len zs seg le ys) _ (oH2.rd hbM (by omega)) (oW2.rd hbM (by omega))).mono ?_
  rintro e w26 ⟨rfl, b26⟩
  clear kcJ kcP kcW kcX kcY kcG kcH
  replace oW1 := oW1.kept b26
  replace oW2 := oW2.kept b26
  replace oG1 := oG1.kept b26
  replace oG2 := oG2.kept b26
  replace oH1 := oH1.kept b26
  replace oH2 := oH2.kept b26
  replace cJ := cJ.kept b26
  replace cP := cP.kept b26
  replace cW := cW.kept b26
  replace cX := cX.kept b26
  replace cY := cY.kept b26
  replace cG := cG.kept b26
  replace cH := cH.kept b26
  replace bl := bchain bl b26
  have z26 := bl.size
  have kcJ := cJ.k
  have kcP := cP.k
  have kcW := cW.k
  have kcX := cX.k
  have kcY := cY.k
  have kcG := cG.k
  have kcH := cH.k
  go_wp2_with fail
  refine (heldJoin_any _ _ 1 (putG len zs seg le ys).length _ (oG1.rd (marks_byt _ _) (by rw [marks_length]; omega)) (by omega) (by omega)).mono ?_
  rintro e w27 ⟨rfl, b27⟩
  clear kcJ kcP kcW kcX kcY kcG kcH
  replace oW1 := oW1.kept b27
  replace oW2 := oW2.kept b27
  replace oG1 := oG1.kept b27
  replace oG2 := oG2.kept b27
  replace oH1 := oH1.kept b27
  replace oH2 := oH2.kept b27
  replace cJ := cJ.kept b27
  replace cP := cP.kept b27
  replace cW := cW.kept b27
  replace cX := cX.kept b27
  replace cY := cY.kept b27
  replace cG := cG.kept b27
  replace cH := cH.kept b27
  replace bl := bchain bl b27
  have z27 := bl.size
  have kcJ := cJ.k
  have kcP := cP.k
  have kcW := cW.k
  have kcX := cX.k
  have kcY := cY.k
  have kcG := cG.k
  have kcH := cH.k
  go_wp2_with fail
  refine (heldBytes_b _ (1 + (putG len zs seg le ys).length) (putM len zs seg le ys).length _ (oG2.rd (marks_byt _ _) (by rw [marks_length]; omega)) (by omega) (by omega)).mono ?_
  rintro e w28 ⟨rfl, b28⟩
  clear kcJ kcP kcW kcX kcY kcG kcH
  replace oW1 := oW1.kept b28
  replace oW2 := oW2.kept b28
  replace oG1 := oG1.kept b28
  replace oG2 := oG2.kept b28
  replace oH1 := oH1.kept b28
  replace oH2 := oH2.kept b28
  replace cJ := cJ.kept b28
  replace cP := cP.kept b28
  replace cW := cW.kept b28
  replace cX := cX.kept b28
  replace cY := cY.kept b28
  replace cG := cG.kept b28
  replace cH := cH.kept b28
  replace bl := bchain bl b28
  have z28 := bl.size
  have kcJ := cJ.k
  have kcP := cP.k
  have kcW := cW.k
  have kcX := cX.k
  have kcY := cY.k
  have kcG := cG.k
  have kcH := cH.k
  go_wp2
  go_ret
  exact ⟨rfl, bl⟩
set_option maxHeartbeats 2000000 in
theorem great1 (len : Int) (aJ : Option Addr) (n kJ : Nat) (seg le : Int) (aP : Option Addr) (m kP : Nat) (w : World) (h : ¬ n ≤ 1048576) (hn : n ≤ maxLen) :
    Calls Try.prog 6 #[.agg #[.int .i64 len, .slice aJ n kJ], .agg #[.int .i64 seg, .int .i64 le, .slice aP m kP]] w fun e w' => e = .returned (.bool true) ∧ Below w.heap.size w w' := by
  go_enter Try.func6, Try.ntmps6
  go_wp2_with fail
  refine (szJoin_great _ _ _ _ 1048576 _ h (by omega) hn).mono ?_
  rintro e w1 ⟨rfl, b1⟩
  go_wp2
  go_ret
  exact ⟨rfl, bchain (below_alloc _ _) (bchain (below_alloc _ _) b1)⟩
set_option maxHeartbeats 2000000 in
theorem great2 (len : Int) (aJ : Option Addr) (n kJ : Nat) (seg le : Int) (aP : Option Addr) (m kP : Nat) (w : World) (h : n ≤ 1048576) (h2 : ¬ n + m ≤ 1048576) (hm : m ≤ maxLen) :
    Calls Try.prog 6 #[.agg #[.int .i64 len, .slice aJ n kJ], .agg #[.int .i64 seg, .int .i64 le, .slice aP m kP]] w fun e w' => e = .returned (.bool true) ∧ Below w.heap.size w w' := by
  have hneg1 : ¬ (1048576 : Int) - (n : Int) < 0 := by omega
  go_enter Try.func6, Try.ntmps6
  go_wp2_with fail
  obtain ⟨w0, ew, cJ, cP, bl, z0⟩ := two_boxes w #[.int .i64 len, .slice aJ n kJ] 40 #[.int .i64 seg, .int .i64 le, .slice aP m kP] 32
  rw [ew]
  clear ew
  refine (szJoin_small _ _ _ _ 1048576 _ h (by omega)).mono ?_
  rintro e w1 ⟨rfl, b1⟩
  have kcP := (cP.kept b1).k
  go_wp2_with fail
  have hm' : (1048576 : Int) - (n : Int) = ((1048576 - n : Nat) : Int) := by omega
  rw [hm']
  refine (szPart_great _ _ _ _ _ (1048576 - n) _ (by omega) (by omega) hm).mono ?_
  rintro e w2 ⟨rfl, b2⟩
  go_wp2
  go_ret
  exact ⟨rfl, bchain bl (bchain b1 b2)⟩
theorem walk (len : Int) (aJ : Option Addr) (n kJ : Nat) (zJ : List Int) (seg le : Int) (aP : Option Addr) (m kP : Nat) (zP : List Int) (w : World) (hJ : IsRow .u8 w aJ n kJ zJ) (hP : IsRow .u8 w aP m kP zP) :
    Calls Try.prog 6 #[.agg #[.int .i64 len, .slice aJ n kJ], .agg #[.int .i64 seg, .int .i64 le, .slice aP m kP]] w fun e w' => e = .returned (.bool true) ∧ Below w.heap.size w w' := by
  by_cases h1 : n ≤ 1048576
  · by_cases h2 : n + m ≤ 1048576
    · obtain ⟨zs, RJ, lJ⟩ := hJ.rd (by omega)
      obtain ⟨ys, RP, lP⟩ := hP.rd (by omega)
      subst lJ lP
      exact small _ _ _ zs _ _ _ _ ys w h1 h2 RJ RP
    · exact great2 _ _ _ _ _ _ _ _ _ w h1 h2 hP.most
  · exact great1 _ _ _ _ _ _ _ _ _ w h1 hJ.most
end fnExactSegPut
end Go.Proofs.Ytaljdhcmikpmhaa
