/- Two who agree behind one thing heard, in memory. -/
import Derived.Test.YtaoafikkamnjlaaNegDo
namespace Go.Proofs.Ytaoafikkamnjlaa
open Go.RowKit
set_option maxRecDepth 100000 in
set_option maxHeartbeats 8000000 in
theorem do_hear_0 {B gs gn : Nat} {v0 v1 : Value} {s0 s1 : Neg} {n1 : List Msg} {m : Msg} {rest : List Msg} {what : Int} {x : Neg} {back : Msg} {sy : Bool} (hw : ¬ what < 2) (h4 : ¬ what = 4) (h5 : ¬ what = 5) (hH : iHear s0 m = (x, back, sy)) (w : World) (H : At w B gs gn v0 v1 ⟨s0, s1, m :: rest, n1⟩) (hB : B ≤ w.heap.size) (hl : rest.length + n1.length ≤ 100000) :
    Calls Try.prog 25 #[.slice (some ⟨gs, 0, none⟩) 2 2, .slice (some ⟨gn, 0, none⟩) 2 2, .int .i64 0, .int .i64 what] w fun e w' => e = .returned (.tuple #[.slice (some ⟨gs, 0, none⟩) 2 2, .slice (some ⟨gn, 0, none⟩) 2 2]) ∧ (∃ v0' v1', At w' B gs gn v0' v1' (if sy = true then ⟨x, s1, rest, n1 ++ [back]⟩ else ⟨x, s1, rest, n1⟩)) ∧ Below B w w' := by
  cases sy
  · simp only [Bool.false_eq_true, if_false]
    obtain ⟨g, c, e0, hBg, hgw, hcc, hcm, R1, R2⟩ := H.o0.range
    obtain ⟨a1, c1, e1⟩ := H.o1.form
    subst e0 e1
    have b0 : Below w.heap.size w w := Below.refl _ _
    have kn := H.n.k
    go_enter Try.func25, Try.ntmps25
    have RS : w.rangeAt gs (0 * 21) s0.cs.toList := range_fst H.s
    have hC : ∀ w : World, Calls Try.prog 15 #[.agg s0.cs, .agg m.cs] w fun e w' => e = .returned (.tuple #[.agg x.cs, .agg back.cs, .bool false]) ∧ Below w.heap.size w w' := fun w => by
      have := impl_hear s0 m w
      rw [hH] at this
      exact this
    go_wp2_with fail
    refine region_lates 14 [21, 22, 23, 24, 25, 26, 27, 28, 20, 29, 30, 31, 13, 14] [14, 15, 16] (fun i v wx => match i with | 0 => v = .slice (some ⟨gs, 0, none⟩) 2 2 | 1 => v = .int .i64 0 | 2 => v = .pointer (some ⟨gs, 0 * 21, none⟩) | 3 => v = .agg s0.cs | 4 => v = .slice (some ⟨g, 0, none⟩) (rest.length + 1) c | 5 => v = .pointer (some ⟨g, 0 * 6, none⟩) | 6 => v = .agg m.cs | 7 => v = .tuple #[.agg x.cs, .agg back.cs, .bool false] | 8 => v = .tuple #[.agg x.cs, .agg back.cs, .bool false] | 9 => v = .agg x.cs | 10 => v = .agg back.cs | 11 => v = .bool false | 12 => KBox w.drew.heap.size #[.int .i64 0, .int .i64 0, .int .i64 0, .int .i64 0, .int .i64 0, .int .i64 0, .int .i64 0, .int .i64 0, .int .i64 0, .int .i64 0, .int .i64 0, .int .i64 0, .int .i64 0, .int .i64 0, .int .i64 0, .int .i64 0, .int .i64 0, .int .i64 0, .int .i64 0, .int .i64 0, .bool false] 26 v wx | 13 => KBox w.drew.heap.size #[.int .i64 0, .int .i64 0, .int .i64 0, .int .i64 0, .int .i64 0, .int .i64 0] 28 v wx | _ => True) (Gk w.drew) (fun w1 w2 => Below w1.heap.size w1 w2) (by kernel_rfl) [10, 11] (by kernel_rfl) (fun x _ _ _ _ h => by cases x <;> exact h) (dsts_in (by kernel_rfl)) (Below.refl _ _) ?hT2 ?step2 ?lst2 ?fin2
    case hT2 =>
      intro j v w1 w2 h k
      match j, h with
      | 0, h => exact h
      | 1, h => exact h
      | 2, h => exact h
      | 3, h => exact h
      | 4, h => exact h
      | 5, h => exact h
      | 6, h => exact h
      | 7, h => exact h
      | 8, h => exact h
      | 9, h => exact h
      | 10, h => exact h
      | 11, h => exact h
      | 12, h => exact KBox.mono h k
      | 13, h => exact KBox.mono h k
      | _ + 14, _ => exact trivial
    case step2 =>
      intro i o hi ho a wx cN hc hG hk
      match i, hi with
      | 0, _ =>
        cases ho
        have e0 : a.eval (.tmp 0) = .slice (some ⟨gs, 0, none⟩) 2 2 := hk.was 0 (by kernel_rfl)
        exact kt_val (PR := fun v _ => v = .slice (some ⟨gs, 0, none⟩) 2 2) (run_move e0) hG rfl
      | 1, _ =>
        cases ho
        have e2 : a.eval (.tmp 2) = .int .i64 0 := hk.was 2 (by kernel_rfl)
        exact kt_val (PR := fun v _ => v = .int .i64 0) (run_move e2) hG rfl
      | 2, _ =>
        cases ho
        have e21 : a.eval (.tmp 21) = .slice (some ⟨gs, 0, none⟩) 2 2 := hk.has 0 21 (by kernel_rfl) (by simp)
        have e22 : a.eval (.tmp 22) = .int .i64 0 := hk.has 1 22 (by kernel_rfl) (by simp)
        exact kt_val (PR := fun v _ => v = .pointer (some ⟨gs, 0 * 21, none⟩)) (run_idx_s (k := 0) e21 e22 (by omega)) hG rfl
      | 3, _ =>
        cases ho
        have e23 : a.eval (.tmp 23) = .pointer (some ⟨gs, 0 * 21, none⟩) := hk.has 2 23 (by kernel_rfl) (by simp)
        exact kt_val (PR := fun v _ => v = .agg s0.cs) (run_ldr e23 (range_kept (w := w.drew) RS hG H.s.lt) Try.underlying26 rfl (by kernel_rfl)) hG rfl
      | 4, _ =>
        cases ho
        have e10 : a.eval (.tmp 10) = .slice (some ⟨g, 0, none⟩) (rest.length + 1) c := hk.was 10 (by kernel_rfl)
        exact kt_val (PR := fun v _ => v = .slice (some ⟨g, 0, none⟩) (rest.length + 1) c) (run_move e10) hG rfl
      | 5, _ =>
        cases ho
        have e25 : a.eval (.tmp 25) = .slice (some ⟨g, 0, none⟩) (rest.length + 1) c := hk.has 4 25 (by kernel_rfl) (by simp)
        exact kt_val (PR := fun v _ => v = .pointer (some ⟨g, 0 * 6, none⟩)) (run_idx_m (k := 0) e25 rfl (by omega)) hG rfl
      | 6, _ =>
        cases ho
        have e26 : a.eval (.tmp 26) = .pointer (some ⟨g, 0 * 6, none⟩) := hk.has 5 26 (by kernel_rfl) (by simp)
        exact kt_val (PR := fun v _ => v = .agg m.cs) (run_ldr e26 (range_kept (w := w.drew) R1 hG hgw) Try.underlying28 rfl (by kernel_rfl)) hG rfl
      | 7, _ =>
        cases ho
        have e24 : a.eval (.tmp 24) = .agg s0.cs := hk.has 3 24 (by kernel_rfl) (by simp)
        have e27 : a.eval (.tmp 27) = .agg m.cs := hk.has 6 27 (by kernel_rfl) (by simp)
        exact kt_call (PR := fun v _ => v = .tuple #[.agg x.cs, .agg back.cs, .bool false]) (run_call2 rfl e24 e27 (fun _ _ => by kernel_rfl)) hG ((hC _).mono (fun _ _ hh => ⟨_, hh.1, rfl, hh.2⟩))
      | 8, _ =>
        cases ho
        have e28 : a.eval (.tmp 28) = .tuple #[.agg x.cs, .agg back.cs, .bool false] := hk.has 7 28 (by kernel_rfl) (by simp)
        exact kt_val (PR := fun v _ => v = .tuple #[.agg x.cs, .agg back.cs, .bool false]) (run_move e28) hG rfl
      | 9, _ =>
        cases ho
        have e20 : a.eval (.tmp 20) = .tuple #[.agg x.cs, .agg back.cs, .bool false] := hk.has 8 20 (by kernel_rfl) (by simp)
        exact kt_val (PR := fun v _ => v = .agg x.cs) (run_extract e20 rfl) hG rfl
      | 10, _ =>
        cases ho
        have e20 : a.eval (.tmp 20) = .tuple #[.agg x.cs, .agg back.cs, .bool false] := hk.has 8 20 (by kernel_rfl) (by simp)
        exact kt_val (PR := fun v _ => v = .agg back.cs) (run_extract e20 rfl) hG rfl
      | 11, _ =>
        cases ho
        have e20 : a.eval (.tmp 20) = .tuple #[.agg x.cs, .agg back.cs, .bool false] := hk.has 8 20 (by kernel_rfl) (by simp)
        exact kt_val (PR := fun v _ => v = .bool false) (run_extract e20 rfl) hG rfl
      | 12, _ =>
        cases ho
        exact kt_new rfl zero_neg hG
      | 13, _ =>
        cases ho
        exact kt_new rfl zero_msg hG
      | k + 14, hi => omega
    case lst2 =>
      intro i o hi ho a wx cN hG hk
      simp only [List.mem_cons, List.not_mem_nil, or_false] at hi
      rcases hi with rfl | rfl
      · cases ho
        have e20 : a.eval (.tmp 20) = .tuple #[.agg x.cs, .agg back.cs, .bool false] := hk.has 8 20 (by kernel_rfl) (by simp)
        exact ⟨_, fun _ => run_extract e20 rfl, rfl, hG⟩
      · cases ho
        have e20 : a.eval (.tmp 20) = .tuple #[.agg x.cs, .agg back.cs, .bool false] := hk.has 8 20 (by kernel_rfl) (by simp)
        exact ⟨_, fun _ => run_extract e20 rfl, rfl, hG⟩
    intro vals wx hG hv
    have v0 : vals 0 = .slice (some ⟨gs, 0, none⟩) 2 2 := hv 0 (by omega)
    have v1 : vals 1 = .int .i64 0 := hv 1 (by omega)
    have v2 : vals 2 = .pointer (some ⟨gs, 0 * 21, none⟩) := hv 2 (by omega)
    have v3 : vals 3 = .agg s0.cs := hv 3 (by omega)
    have v4 : vals 4 = .slice (some ⟨g, 0, none⟩) (rest.length + 1) c := hv 4 (by omega)
    have v5 : vals 5 = .pointer (some ⟨g, 0 * 6, none⟩) := hv 5 (by omega)
    have v6 : vals 6 = .agg m.cs := hv 6 (by omega)
    have v7 : vals 7 = .tuple #[.agg x.cs, .agg back.cs, .bool false] := hv 7 (by omega)
    have v8 : vals 8 = .tuple #[.agg x.cs, .agg back.cs, .bool false] := hv 8 (by omega)
    have v9 : vals 9 = .agg x.cs := hv 9 (by omega)
    have v10 : vals 10 = .agg back.cs := hv 10 (by omega)
    have v11 : vals 11 = .bool false := hv 11 (by omega)
    obtain ⟨g13, v12, m13, B13⟩ := hv 12 (by omega)
    obtain ⟨g14, v13, m14, B14⟩ := hv 13 (by omega)
    clear hv
    simp only [putsL, Act.put, v0, v1, v2, v3, v4, v5, v6, v7, v8, v9, v10, v11, v12, v13, List.setIfInBounds_toArray, List.set_cons_zero, List.set_cons_succ]
    clear v0 v1 v2 v3 v4 v5 v6 v7 v8 v9 v10 v11 v12 v13
    have n13 : w.heap.size ≤ g13 := Nat.le_trans b0.size m13
    have n14 : w.heap.size ≤ g14 := Nat.le_trans b0.size m14
    have ne_13_14 : g13 ≠ g14 := B13.ne B14 (by decide)
    replace b0 := bchain b0.drew hG
    clear hG
    refine tail_cons rfl rfl ?_
    refine wp_box_store 26 _ _ rfl _ _ rfl rfl B13 (by kernel_rfl) rfl (neg_one x) ?_
    clear B13
    intro w' B13 gg
    replace b0 := below_at b0 gg b0.size n13
    replace B14 := B14.grown gg (Ne.symm ne_13_14)
    clear gg
    refine tail_cons rfl rfl ?_
    refine wp_box_store 28 _ _ rfl _ _ rfl rfl B14 (by kernel_rfl) rfl (msg_one back) ?_
    clear B14
    intro w' B14 gg
    replace b0 := below_at b0 gg b0.size n14
    replace B13 := B13.grown gg ne_13_14
    clear gg
    refine tail_one rfl rfl ?_
    go_simp
    clear RS hC
    have H1 := H.kept b0
    have hns : g ≠ gs := fun e => (H.o0.ne H.s (by decide)) (by rw [← e]; rfl)
    have hsn : gs ≠ gn := H.s.ne H.n (by decide)
    go_wp2_with (first
      | ((with_reducible refine at_load 26 ?_); refine box_load rfl 26 _ rfl _ rfl (by with_reducible assumption) Try.underlying26 rfl (by kernel_rfl) ?_)
      | ((with_reducible refine at_store 26 ?_); refine box_part rfl 26 _ _ rfl gs 0 x.cs rfl rfl H1.s (by kernel_rfl) (by simp [Neg.cs]) (neg_one x) ?_; intro w3 S3 gg; rw [put_fst] at S3; refine Hid.out ?_))
    unfold Hid
    have H3 : At w3 B gs gn (.slice (some ⟨g, 0, none⟩) (rest.length + 1) c) (.slice a1 n1.length c1) ⟨x, s1, m :: rest, n1⟩ := ⟨S3, H1.n.grown gg (Ne.symm hsn), H1.o0.grown gg H1.s (by decide), H1.o1.grown gg H1.s (by decide), H.ap, H.bs, H.bn⟩
    have bB0 : Below B w w3 := below_at (below_le b0 hB) gg (Nat.le_trans hB b0.size) H.bs
    have B14 := B14.grown gg (fun e => by have := H.s.lt; omega)
    replace R2 := range_by (range_kept R2 b0 hgw) gg (Nat.lt_of_lt_of_le hgw b0.size) (fun e => hns (Option.some.inj e))
    have hgw : g < w3.heap.size := Nat.lt_of_lt_of_le hgw bB0.size
    clear gg S3 R1 H1 B13
    obtain ⟨i, ei, Ri⟩ := first_cut (w := w3) hcc R2
    clear R2
    go_wp2_with (at_builtin; refine Hid.out ?_)
    unfold Hid
    refine wpList_appM rfl _ _ rfl w3.heap.size _ [] rfl (ownM_empty w3 w3.heap.size (Nat.le_refl _)) g i rest.length (c - 1) rest rfl rfl (range_kept Ri (bo_alloc _ _) hgw) (by simp; omega) (by simp) ?_
    intro v' w2 o2 g2 at2
    have bc : Below w3.heap.size w3 w2 := (bo_alloc w3 (.cells #[] 28)).grown g2 (by simp) (fun q e => by cases e; exact Nat.le_refl _)
    have H2 := H3.kept bc
    clear g2
    obtain ⟨ar, cr, er⟩ := o2.form
    subst er
    have av : ∀ k, (Value.slice a1 n1.length c1).ownBlock = some k → (Value.slice ar ([] ++ rest).length cr).ownBlock ≠ some k := by
      intro k e1 e2
      have := (World.ownsRow.lt H3.o1 k e1).2
      rcases at2 with h | h
      · rw [e2] at h
        have h9 : k = w3.heap.size := Option.some.inj h
        omega
      · rw [e2] at h
        have h9 := Option.some.inj h
        simp at h9
        omega
    clear at2
    go_wp2_with ((with_reducible refine at_store 49 ?_); refine box_sl rfl _ _ rfl gn 0 _ _ _ rfl rfl H2.n (by simp) ?_; intro w5 h7 g3)
    simp only [List.setIfInBounds_toArray, List.set] at h7
    skip
    have h1 := H2.s.grown g3 hsn
    replace o2 := (o2.grown g3 H2.n (by decide)).base (C := B) (Nat.le_trans hB bB0.size)
    have h3 := H2.o1.grown g3 H2.n (by decide)
    have b5 := below_at (below_le bc (Nat.le_trans hB bB0.size)) g3 (Nat.le_trans hB (Nat.le_trans bB0.size bc.size)) H2.bn
    simp only [List.nil_append] at o2 av
    have H4 : At w5 B gs gn (.slice ar rest.length cr) (.slice a1 n1.length c1) ⟨x, s1, rest, n1⟩ := ⟨h1, h7, o2, h3, fun k e1 e2 => av k e2 e1, H2.bs, H2.bn⟩
    have B14 := (B14.kept bc).grown g3 (fun e => by have := H.n.lt; omega)
    replace b5 := below_trans bB0 b5
    clear bc g3 h1 h7 h3 o2 av H2 H3 bB0
    refine bodyPost_ret (v := .tuple #[.slice (some ⟨gs, 0, none⟩) 2 2, .slice (some ⟨gn, 0, none⟩) 2 2]) (by simp [results, Try.results25, go_sem]) rfl ?_
    exact ⟨rfl, ⟨_, _, H4⟩, b5⟩
  · simp only [if_true]
    obtain ⟨g, c, e0, hBg, hgw, hcc, hcm, R1, R2⟩ := H.o0.range
    obtain ⟨a1, c1, e1⟩ := H.o1.form
    subst e0 e1
    have b0 : Below w.heap.size w w := Below.refl _ _
    have kn := H.n.k
    go_enter Try.func25, Try.ntmps25
    have RS : w.rangeAt gs (0 * 21) s0.cs.toList := range_fst H.s
    have hC : ∀ w : World, Calls Try.prog 15 #[.agg s0.cs, .agg m.cs] w fun e w' => e = .returned (.tuple #[.agg x.cs, .agg back.cs, .bool true]) ∧ Below w.heap.size w w' := fun w => by
      have := impl_hear s0 m w
      rw [hH] at this
      exact this
    go_wp2_with fail
    refine region_lates 14 [21, 22, 23, 24, 25, 26, 27, 28, 20, 29, 30, 31, 13, 14] [14, 15, 16] (fun i v wx => match i with | 0 => v = .slice (some ⟨gs, 0, none⟩) 2 2 | 1 => v = .int .i64 0 | 2 => v = .pointer (some ⟨gs, 0 * 21, none⟩) | 3 => v = .agg s0.cs | 4 => v = .slice (some ⟨g, 0, none⟩) (rest.length + 1) c | 5 => v = .pointer (some ⟨g, 0 * 6, none⟩) | 6 => v = .agg m.cs | 7 => v = .tuple #[.agg x.cs, .agg back.cs, .bool true] | 8 => v = .tuple #[.agg x.cs, .agg back.cs, .bool true] | 9 => v = .agg x.cs | 10 => v = .agg back.cs | 11 => v = .bool true | 12 => KBox w.drew.heap.size #[.int .i64 0, .int .i64 0, .int .i64 0, .int .i64 0, .int .i64 0, .int .i64 0, .int .i64 0, .int .i64 0, .int .i64 0, .int .i64 0, .int .i64 0, .int .i64 0, .int .i64 0, .int .i64 0, .int .i64 0, .int .i64 0, .int .i64 0, .int .i64 0, .int .i64 0, .int .i64 0, .bool false] 26 v wx | 13 => KBox w.drew.heap.size #[.int .i64 0, .int .i64 0, .int .i64 0, .int .i64 0, .int .i64 0, .int .i64 0] 28 v wx | _ => True) (Gk w.drew) (fun w1 w2 => Below w1.heap.size w1 w2) (by kernel_rfl) [10, 11] (by kernel_rfl) (fun x _ _ _ _ h => by cases x <;> exact h) (dsts_in (by kernel_rfl)) (Below.refl _ _) ?hT102 ?step102 ?lst102 ?fin102
    case hT102 =>
      intro j v w1 w2 h k
      match j, h with
      | 0, h => exact h
      | 1, h => exact h
      | 2, h => exact h
      | 3, h => exact h
      | 4, h => exact h
      | 5, h => exact h
      | 6, h => exact h
      | 7, h => exact h
      | 8, h => exact h
      | 9, h => exact h
      | 10, h => exact h
      | 11, h => exact h
      | 12, h => exact KBox.mono h k
      | 13, h => exact KBox.mono h k
      | _ + 14, _ => exact trivial
    case step102 =>
      intro i o hi ho a wx cN hc hG hk
      match i, hi with
      | 0, _ =>
        cases ho
        have e0 : a.eval (.tmp 0) = .slice (some ⟨gs, 0, none⟩) 2 2 := hk.was 0 (by kernel_rfl)
        exact kt_val (PR := fun v _ => v = .slice (some ⟨gs, 0, none⟩) 2 2) (run_move e0) hG rfl
      | 1, _ =>
        cases ho
        have e2 : a.eval (.tmp 2) = .int .i64 0 := hk.was 2 (by kernel_rfl)
        exact kt_val (PR := fun v _ => v = .int .i64 0) (run_move e2) hG rfl
      | 2, _ =>
        cases ho
        have e21 : a.eval (.tmp 21) = .slice (some ⟨gs, 0, none⟩) 2 2 := hk.has 0 21 (by kernel_rfl) (by simp)
        have e22 : a.eval (.tmp 22) = .int .i64 0 := hk.has 1 22 (by kernel_rfl) (by simp)
        exact kt_val (PR := fun v _ => v = .pointer (some ⟨gs, 0 * 21, none⟩)) (run_idx_s (k := 0) e21 e22 (by omega)) hG rfl
      | 3, _ =>
        cases ho
        have e23 : a.eval (.tmp 23) = .pointer (some ⟨gs, 0 * 21, none⟩) := hk.has 2 23 (by kernel_rfl) (by simp)
        exact kt_val (PR := fun v _ => v = .agg s0.cs) (run_ldr e23 (range_kept (w := w.drew) RS hG H.s.lt) Try.underlying26 rfl (by kernel_rfl)) hG rfl
      | 4, _ =>
        cases ho
        have e10 : a.eval (.tmp 10) = .slice (some ⟨g, 0, none⟩) (rest.length + 1) c := hk.was 10 (by kernel_rfl)
        exact kt_val (PR := fun v _ => v = .slice (some ⟨g, 0, none⟩) (rest.length + 1) c) (run_move e10) hG rfl
      | 5, _ =>
        cases ho
        have e25 : a.eval (.tmp 25) = .slice (some ⟨g, 0, none⟩) (rest.length + 1) c := hk.has 4 25 (by kernel_rfl) (by simp)
        exact kt_val (PR := fun v _ => v = .pointer (some ⟨g, 0 * 6, none⟩)) (run_idx_m (k := 0) e25 rfl (by omega)) hG rfl
      | 6, _ =>
        cases ho
        have e26 : a.eval (.tmp 26) = .pointer (some ⟨g, 0 * 6, none⟩) := hk.has 5 26 (by kernel_rfl) (by simp)
        exact kt_val (PR := fun v _ => v = .agg m.cs) (run_ldr e26 (range_kept (w := w.drew) R1 hG hgw) Try.underlying28 rfl (by kernel_rfl)) hG rfl
      | 7, _ =>
        cases ho
        have e24 : a.eval (.tmp 24) = .agg s0.cs := hk.has 3 24 (by kernel_rfl) (by simp)
        have e27 : a.eval (.tmp 27) = .agg m.cs := hk.has 6 27 (by kernel_rfl) (by simp)
        exact kt_call (PR := fun v _ => v = .tuple #[.agg x.cs, .agg back.cs, .bool true]) (run_call2 rfl e24 e27 (fun _ _ => by kernel_rfl)) hG ((hC _).mono (fun _ _ hh => ⟨_, hh.1, rfl, hh.2⟩))
      | 8, _ =>
        cases ho
        have e28 : a.eval (.tmp 28) = .tuple #[.agg x.cs, .agg back.cs, .bool true] := hk.has 7 28 (by kernel_rfl) (by simp)
        exact kt_val (PR := fun v _ => v = .tuple #[.agg x.cs, .agg back.cs, .bool true]) (run_move e28) hG rfl
      | 9, _ =>
        cases ho
        have e20 : a.eval (.tmp 20) = .tuple #[.agg x.cs, .agg back.cs, .bool true] := hk.has 8 20 (by kernel_rfl) (by simp)
        exact kt_val (PR := fun v _ => v = .agg x.cs) (run_extract e20 rfl) hG rfl
      | 10, _ =>
        cases ho
        have e20 : a.eval (.tmp 20) = .tuple #[.agg x.cs, .agg back.cs, .bool true] := hk.has 8 20 (by kernel_rfl) (by simp)
        exact kt_val (PR := fun v _ => v = .agg back.cs) (run_extract e20 rfl) hG rfl
      | 11, _ =>
        cases ho
        have e20 : a.eval (.tmp 20) = .tuple #[.agg x.cs, .agg back.cs, .bool true] := hk.has 8 20 (by kernel_rfl) (by simp)
        exact kt_val (PR := fun v _ => v = .bool true) (run_extract e20 rfl) hG rfl
      | 12, _ =>
        cases ho
        exact kt_new rfl zero_neg hG
      | 13, _ =>
        cases ho
        exact kt_new rfl zero_msg hG
      | k + 14, hi => omega
    case lst102 =>
      intro i o hi ho a wx cN hG hk
      simp only [List.mem_cons, List.not_mem_nil, or_false] at hi
      rcases hi with rfl | rfl
      · cases ho
        have e20 : a.eval (.tmp 20) = .tuple #[.agg x.cs, .agg back.cs, .bool true] := hk.has 8 20 (by kernel_rfl) (by simp)
        exact ⟨_, fun _ => run_extract e20 rfl, rfl, hG⟩
      · cases ho
        have e20 : a.eval (.tmp 20) = .tuple #[.agg x.cs, .agg back.cs, .bool true] := hk.has 8 20 (by kernel_rfl) (by simp)
        exact ⟨_, fun _ => run_extract e20 rfl, rfl, hG⟩
    intro vals wx hG hv
    have v0 : vals 0 = .slice (some ⟨gs, 0, none⟩) 2 2 := hv 0 (by omega)
    have v1 : vals 1 = .int .i64 0 := hv 1 (by omega)
    have v2 : vals 2 = .pointer (some ⟨gs, 0 * 21, none⟩) := hv 2 (by omega)
    have v3 : vals 3 = .agg s0.cs := hv 3 (by omega)
    have v4 : vals 4 = .slice (some ⟨g, 0, none⟩) (rest.length + 1) c := hv 4 (by omega)
    have v5 : vals 5 = .pointer (some ⟨g, 0 * 6, none⟩) := hv 5 (by omega)
    have v6 : vals 6 = .agg m.cs := hv 6 (by omega)
    have v7 : vals 7 = .tuple #[.agg x.cs, .agg back.cs, .bool true] := hv 7 (by omega)
    have v8 : vals 8 = .tuple #[.agg x.cs, .agg back.cs, .bool true] := hv 8 (by omega)
    have v9 : vals 9 = .agg x.cs := hv 9 (by omega)
    have v10 : vals 10 = .agg back.cs := hv 10 (by omega)
    have v11 : vals 11 = .bool true := hv 11 (by omega)
    obtain ⟨g13, v12, m13, B13⟩ := hv 12 (by omega)
    obtain ⟨g14, v13, m14, B14⟩ := hv 13 (by omega)
    clear hv
    simp only [putsL, Act.put, v0, v1, v2, v3, v4, v5, v6, v7, v8, v9, v10, v11, v12, v13, List.setIfInBounds_toArray, List.set_cons_zero, List.set_cons_succ]
    clear v0 v1 v2 v3 v4 v5 v6 v7 v8 v9 v10 v11 v12 v13
    have n13 : w.heap.size ≤ g13 := Nat.le_trans b0.size m13
    have n14 : w.heap.size ≤ g14 := Nat.le_trans b0.size m14
    have ne_13_14 : g13 ≠ g14 := B13.ne B14 (by decide)
    replace b0 := bchain b0.drew hG
    clear hG
    refine tail_cons rfl rfl ?_
    refine wp_box_store 26 _ _ rfl _ _ rfl rfl B13 (by kernel_rfl) rfl (neg_one x) ?_
    clear B13
    intro w' B13 gg
    replace b0 := below_at b0 gg b0.size n13
    replace B14 := B14.grown gg (Ne.symm ne_13_14)
    clear gg
    refine tail_cons rfl rfl ?_
    refine wp_box_store 28 _ _ rfl _ _ rfl rfl B14 (by kernel_rfl) rfl (msg_one back) ?_
    clear B14
    intro w' B14 gg
    replace b0 := below_at b0 gg b0.size n14
    replace B13 := B13.grown gg ne_13_14
    clear gg
    refine tail_one rfl rfl ?_
    go_simp
    clear RS hC
    have H1 := H.kept b0
    have hns : g ≠ gs := fun e => (H.o0.ne H.s (by decide)) (by rw [← e]; rfl)
    have hsn : gs ≠ gn := H.s.ne H.n (by decide)
    go_wp2_with (first
      | ((with_reducible refine at_load 26 ?_); refine box_load rfl 26 _ rfl _ rfl (by with_reducible assumption) Try.underlying26 rfl (by kernel_rfl) ?_)
      | ((with_reducible refine at_store 26 ?_); refine box_part rfl 26 _ _ rfl gs 0 x.cs rfl rfl H1.s (by kernel_rfl) (by simp [Neg.cs]) (neg_one x) ?_; intro w3 S3 gg; rw [put_fst] at S3; refine Hid.out ?_))
    unfold Hid
    have H3 : At w3 B gs gn (.slice (some ⟨g, 0, none⟩) (rest.length + 1) c) (.slice a1 n1.length c1) ⟨x, s1, m :: rest, n1⟩ := ⟨S3, H1.n.grown gg (Ne.symm hsn), H1.o0.grown gg H1.s (by decide), H1.o1.grown gg H1.s (by decide), H.ap, H.bs, H.bn⟩
    have bB0 : Below B w w3 := below_at (below_le b0 hB) gg (Nat.le_trans hB b0.size) H.bs
    have B14 := B14.grown gg (fun e => by have := H.s.lt; omega)
    replace R2 := range_by (range_kept R2 b0 hgw) gg (Nat.lt_of_lt_of_le hgw b0.size) (fun e => hns (Option.some.inj e))
    have hgw : g < w3.heap.size := Nat.lt_of_lt_of_le hgw bB0.size
    clear gg S3 R1 H1 B13
    obtain ⟨i, ei, Ri⟩ := first_cut (w := w3) hcc R2
    clear R2
    go_wp2_with (at_builtin; refine Hid.out ?_)
    unfold Hid
    refine wpList_appM rfl _ _ rfl w3.heap.size _ [] rfl (ownM_empty w3 w3.heap.size (Nat.le_refl _)) g i rest.length (c - 1) rest rfl rfl (range_kept Ri (bo_alloc _ _) hgw) (by simp; omega) (by simp) ?_
    intro v' w2 o2 g2 at2
    have bc : Below w3.heap.size w3 w2 := (bo_alloc w3 (.cells #[] 28)).grown g2 (by simp) (fun q e => by cases e; exact Nat.le_refl _)
    have H2 := H3.kept bc
    clear g2
    obtain ⟨ar, cr, er⟩ := o2.form
    subst er
    have av : ∀ k, (Value.slice a1 n1.length c1).ownBlock = some k → (Value.slice ar ([] ++ rest).length cr).ownBlock ≠ some k := by
      intro k e1 e2
      have := (World.ownsRow.lt H3.o1 k e1).2
      rcases at2 with h | h
      · rw [e2] at h
        have h9 : k = w3.heap.size := Option.some.inj h
        omega
      · rw [e2] at h
        have h9 := Option.some.inj h
        simp at h9
        omega
    clear at2
    go_wp2_with ((with_reducible refine at_store 49 ?_); refine box_sl rfl _ _ rfl gn 0 _ _ _ rfl rfl H2.n (by simp) ?_; intro w5 h7 g3)
    simp only [List.setIfInBounds_toArray, List.set] at h7
    skip
    have h1 := H2.s.grown g3 hsn
    replace o2 := (o2.grown g3 H2.n (by decide)).base (C := B) (Nat.le_trans hB bB0.size)
    have h3 := H2.o1.grown g3 H2.n (by decide)
    have b5 := below_at (below_le bc (Nat.le_trans hB bB0.size)) g3 (Nat.le_trans hB (Nat.le_trans bB0.size bc.size)) H2.bn
    simp only [List.nil_append] at o2 av
    have H4 : At w5 B gs gn (.slice ar rest.length cr) (.slice a1 n1.length c1) ⟨x, s1, rest, n1⟩ := ⟨h1, h7, o2, h3, fun k e1 e2 => av k e2 e1, H2.bs, H2.bn⟩
    have B14 := (B14.kept bc).grown g3 (fun e => by have := H.n.lt; omega)
    replace b5 := below_trans bB0 b5
    clear bc g3 h1 h7 h3 o2 av H2 H3 bB0
    have hB5 : B ≤ w5.heap.size := Nat.le_trans hB b5.size
    have b0 : Below w5.heap.size w5 w5 := Below.refl _ _
    replace b0 := b0.drew
    replace B14 := B14.drew
    have H1 := H4.kept b0
    refine region_by (fun w' => Bl w' gn #[(.slice ar rest.length cr), (.slice a1 n1.length c1)] 49 ∧ Bl w' _ back.cs 28) 12 [(0, true), (1, true), (2, true), (3, true), (4, true), (5, true), (6, true), (7, true), (8, true), (9, false), (10, false), (11, true), (12, false)] ⟨none, .assign (.tmp 0), 0, "", #[], none⟩ (by kernel_rfl) (by kernel_rfl) ⟨H1.n, B14⟩ (fun x _ _ _ _ h => by cases x <;> exact h) ?_
    simp only [arrange, List.map_cons, List.map_nil, List.getD_cons_zero, List.getD_cons_succ]
    generalize World.drew _ = dw at b0 B14 H1 ⊢
    refine by_run rfl (.slice (some ⟨gn, 0, none⟩) 2 2) (fun _ _ => run_move rfl) ?_
    simp only [Act.put, List.setIfInBounds_toArray, List.set]
    refine by_run rfl (.int .i64 0) (fun _ _ => run_move rfl) ?_
    simp only [Act.put, List.setIfInBounds_toArray, List.set]
    refine by_run rfl (.int .i64 1) (fun _ _ => by simp [execOp, go_sem]; try rfl) ?_
    simp only [Act.put, List.setIfInBounds_toArray, List.set]
    refine by_run rfl (.slice (some ⟨gn, 0, none⟩) 2 2) (fun _ _ => run_move rfl) ?_
    simp only [Act.put, List.setIfInBounds_toArray, List.set]
    refine by_run rfl (.int .i64 0) (fun _ _ => run_move rfl) ?_
    simp only [Act.put, List.setIfInBounds_toArray, List.set]
    refine by_run rfl (.int .i64 1) (fun _ _ => by simp [execOp, go_sem]; try rfl) ?_
    simp only [Act.put, List.setIfInBounds_toArray, List.set]
    refine by_run rfl (.pointer (some ⟨gn, 1, none⟩)) (fun _ _ => run_idx_n (k := 1) rfl rfl (by omega)) ?_
    simp only [Act.put, List.setIfInBounds_toArray, List.set]
    refine by_run rfl (.slice a1 n1.length c1) (fun _ h => run_lds rfl ((h.1.k 1).trans rfl)) ?_
    simp only [Act.put, List.setIfInBounds_toArray, List.set]
    refine by_load rfl 28 _ rfl _ rfl (fun _ h => h.2) Try.underlying28 rfl (by kernel_rfl) ?_
    simp only [Act.put, List.setIfInBounds_toArray, List.set]
    refine by_wp rfl rfl ?_
    unfold Oper.wp
    rw [run_lit rfl]
    have BL := bl_new dw back.cs 28
    have bb := bo_alloc dw (.cells back.cs 28)
    replace b0 := bchain b0 bb
    replace H1 := H1.kept bb
    replace B14 := B14.kept bb
    refine ⟨fun _ => ⟨H1.n, B14⟩, ?_⟩
    simp only [Act.put, List.setIfInBounds_toArray, List.set]
    clear bb
    refine by_wp rfl rfl ?_
    refine wp_appM _ _ rfl B _ n1 rfl H1.o1 _ 0 1 1 [back] rfl rfl (range_one BL) (by simp; omega) (Nat.le_trans hB5 b0.size) ?_
    intro v' w2 o2 g2 at2
    obtain ⟨h1, h2, h3, h4⟩ := H1.grow1 g2 at2
    have B142 : Bl w2 _ back.cs 28 := (g2.block _ B14.lt (fun e => by have := (World.ownsRow.lt H.o1 _ e.symm).2; have := n14; omega)).trans B14
    have b2 := below_own (below_le b0 hB5) g2 H1.o1 (Nat.le_trans hB5 b0.size) (Nat.le_refl B)
    refine ⟨fun _ => ⟨h2, B142⟩, ?_⟩
    simp only [Act.put, List.setIfInBounds_toArray, List.set]
    refine by_run rfl (.pointer (some ⟨gn, 1, none⟩)) (fun _ _ => run_idx_n (k := 1) rfl rfl (by omega)) ?_
    simp only [Act.put, List.setIfInBounds_toArray, List.set]
    obtain ⟨ar, cr, er⟩ := o2.form
    subst er
    refine by_wp rfl rfl ?_
    refine wp_box_sl _ _ rfl gn 1 _ _ _ rfl rfl h2 (by simp) ?_
    intro w3 h5 g3
    simp only [List.setIfInBounds_toArray, List.set] at h5
    have hsn : gs ≠ gn := H.s.ne H.n (by decide)
    replace h1 := h1.grown g3 hsn
    replace o2 := o2.grown g3 h2 (by decide)
    replace h3 := h3.grown g3 h2 (by decide)
    have b3 := below_at b2 g3 (Nat.le_trans hB5 (Nat.le_trans b0.size g2.size)) H.bn
    refine ⟨fun h => absurd h (by omega), ?_⟩
    refine by_nil ?_
    go_wp2
    refine bodyPost_ret (v := .tuple #[.slice (some ⟨gs, 0, none⟩) 2 2, .slice (some ⟨gn, 0, none⟩) 2 2]) (by simp [results, Try.results25, go_sem]) rfl ?_
    exact ⟨rfl, ⟨_, _, ⟨h1, h5, h3, o2, h4, H.bs, H.bn⟩⟩, below_trans b5 b3⟩
set_option maxRecDepth 100000 in
set_option maxHeartbeats 8000000 in
theorem do_hear_1 {B gs gn : Nat} {v0 v1 : Value} {s0 s1 : Neg} {n0 : List Msg} {m : Msg} {rest : List Msg} {what : Int} {x : Neg} {back : Msg} {sy : Bool} (hw : ¬ what < 2) (h4 : ¬ what = 4) (h5 : ¬ what = 5) (hH : iHear s1 m = (x, back, sy)) (w : World) (H : At w B gs gn v0 v1 ⟨s0, s1, n0, m :: rest⟩) (hB : B ≤ w.heap.size) (hl : rest.length + n0.length ≤ 100000) :
    Calls Try.prog 25 #[.slice (some ⟨gs, 0, none⟩) 2 2, .slice (some ⟨gn, 0, none⟩) 2 2, .int .i64 1, .int .i64 what] w fun e w' => e = .returned (.tuple #[.slice (some ⟨gs, 0, none⟩) 2 2, .slice (some ⟨gn, 0, none⟩) 2 2]) ∧ (∃ v0' v1', At w' B gs gn v0' v1' (if sy = true then ⟨s0, x, n0 ++ [back], rest⟩ else ⟨s0, x, n0, rest⟩)) ∧ Below B w w' := by
  cases sy
  · simp only [Bool.false_eq_true, if_false]
    obtain ⟨a0, c0, e0⟩ := H.o0.form
    obtain ⟨g, c, e1, hBg, hgw, hcc, hcm, R1, R2⟩ := H.o1.range
    subst e0 e1
    have b0 : Below w.heap.size w w := Below.refl _ _
    have kn := H.n.k
    go_enter Try.func25, Try.ntmps25
    have RS : w.rangeAt gs (1 * 21) s1.cs.toList := range_snd H.s
    have hC : ∀ w : World, Calls Try.prog 15 #[.agg s1.cs, .agg m.cs] w fun e w' => e = .returned (.tuple #[.agg x.cs, .agg back.cs, .bool false]) ∧ Below w.heap.size w w' := fun w => by
      have := impl_hear s1 m w
      rw [hH] at this
      exact this
    go_wp2_with fail
    refine region_lates 14 [21, 22, 23, 24, 25, 26, 27, 28, 20, 29, 30, 31, 13, 14] [14, 15, 16] (fun i v wx => match i with | 0 => v = .slice (some ⟨gs, 0, none⟩) 2 2 | 1 => v = .int .i64 1 | 2 => v = .pointer (some ⟨gs, 1 * 21, none⟩) | 3 => v = .agg s1.cs | 4 => v = .slice (some ⟨g, 0, none⟩) (rest.length + 1) c | 5 => v = .pointer (some ⟨g, 0 * 6, none⟩) | 6 => v = .agg m.cs | 7 => v = .tuple #[.agg x.cs, .agg back.cs, .bool false] | 8 => v = .tuple #[.agg x.cs, .agg back.cs, .bool false] | 9 => v = .agg x.cs | 10 => v = .agg back.cs | 11 => v = .bool false | 12 => KBox w.drew.heap.size #[.int .i64 0, .int .i64 0, .int .i64 0, .int .i64 0, .int .i64 0, .int .i64 0, .int .i64 0, .int .i64 0, .int .i64 0, .int .i64 0, .int .i64 0, .int .i64 0, .int .i64 0, .int .i64 0, .int .i64 0, .int .i64 0, .int .i64 0, .int .i64 0, .int .i64 0, .int .i64 0, .bool false] 26 v wx | 13 => KBox w.drew.heap.size #[.int .i64 0, .int .i64 0, .int .i64 0, .int .i64 0, .int .i64 0, .int .i64 0] 28 v wx | _ => True) (Gk w.drew) (fun w1 w2 => Below w1.heap.size w1 w2) (by kernel_rfl) [10, 11] (by kernel_rfl) (fun x _ _ _ _ h => by cases x <;> exact h) (dsts_in (by kernel_rfl)) (Below.refl _ _) ?hT2 ?step2 ?lst2 ?fin2
    case hT2 =>
      intro j v w1 w2 h k
      match j, h with
      | 0, h => exact h
      | 1, h => exact h
      | 2, h => exact h
      | 3, h => exact h
      | 4, h => exact h
      | 5, h => exact h
      | 6, h => exact h
      | 7, h => exact h
      | 8, h => exact h
      | 9, h => exact h
      | 10, h => exact h
      | 11, h => exact h
      | 12, h => exact KBox.mono h k
      | 13, h => exact KBox.mono h k
      | _ + 14, _ => exact trivial
    case step2 =>
      intro i o hi ho a wx cN hc hG hk
      match i, hi with
      | 0, _ =>
        cases ho
        have e0 : a.eval (.tmp 0) = .slice (some ⟨gs, 0, none⟩) 2 2 := hk.was 0 (by kernel_rfl)
        exact kt_val (PR := fun v _ => v = .slice (some ⟨gs, 0, none⟩) 2 2) (run_move e0) hG rfl
      | 1, _ =>
        cases ho
        have e2 : a.eval (.tmp 2) = .int .i64 1 := hk.was 2 (by kernel_rfl)
        exact kt_val (PR := fun v _ => v = .int .i64 1) (run_move e2) hG rfl
      | 2, _ =>
        cases ho
        have e21 : a.eval (.tmp 21) = .slice (some ⟨gs, 0, none⟩) 2 2 := hk.has 0 21 (by kernel_rfl) (by simp)
        have e22 : a.eval (.tmp 22) = .int .i64 1 := hk.has 1 22 (by kernel_rfl) (by simp)
        exact kt_val (PR := fun v _ => v = .pointer (some ⟨gs, 1 * 21, none⟩)) (run_idx_s (k := 1) e21 e22 (by omega)) hG rfl
      | 3, _ =>
        cases ho
        have e23 : a.eval (.tmp 23) = .pointer (some ⟨gs, 1 * 21, none⟩) := hk.has 2 23 (by kernel_rfl) (by simp)
        exact kt_val (PR := fun v _ => v = .agg s1.cs) (run_ldr e23 (range_kept (w := w.drew) RS hG H.s.lt) Try.underlying26 rfl (by kernel_rfl)) hG rfl
      | 4, _ =>
        cases ho
        have e10 : a.eval (.tmp 10) = .slice (some ⟨g, 0, none⟩) (rest.length + 1) c := hk.was 10 (by kernel_rfl)
        exact kt_val (PR := fun v _ => v = .slice (some ⟨g, 0, none⟩) (rest.length + 1) c) (run_move e10) hG rfl
      | 5, _ =>
        cases ho
        have e25 : a.eval (.tmp 25) = .slice (some ⟨g, 0, none⟩) (rest.length + 1) c := hk.has 4 25 (by kernel_rfl) (by simp)
        exact kt_val (PR := fun v _ => v = .pointer (some ⟨g, 0 * 6, none⟩)) (run_idx_m (k := 0) e25 rfl (by omega)) hG rfl
      | 6, _ =>
        cases ho
        have e26 : a.eval (.tmp 26) = .pointer (some ⟨g, 0 * 6, none⟩) := hk.has 5 26 (by kernel_rfl) (by simp)
        exact kt_val (PR := fun v _ => v = .agg m.cs) (run_ldr e26 (range_kept (w := w.drew) R1 hG hgw) Try.underlying28 rfl (by kernel_rfl)) hG rfl
      | 7, _ =>
        cases ho
        have e24 : a.eval (.tmp 24) = .agg s1.cs := hk.has 3 24 (by kernel_rfl) (by simp)
        have e27 : a.eval (.tmp 27) = .agg m.cs := hk.has 6 27 (by kernel_rfl) (by simp)
        exact kt_call (PR := fun v _ => v = .tuple #[.agg x.cs, .agg back.cs, .bool false]) (run_call2 rfl e24 e27 (fun _ _ => by kernel_rfl)) hG ((hC _).mono (fun _ _ hh => ⟨_, hh.1, rfl, hh.2⟩))
      | 8, _ =>
        cases ho
        have e28 : a.eval (.tmp 28) = .tuple #[.agg x.cs, .agg back.cs, .bool false] := hk.has 7 28 (by kernel_rfl) (by simp)
        exact kt_val (PR := fun v _ => v = .tuple #[.agg x.cs, .agg back.cs, .bool false]) (run_move e28) hG rfl
      | 9, _ =>
        cases ho
        have e20 : a.eval (.tmp 20) = .tuple #[.agg x.cs, .agg back.cs, .bool false] := hk.has 8 20 (by kernel_rfl) (by simp)
        exact kt_val (PR := fun v _ => v = .agg x.cs) (run_extract e20 rfl) hG rfl
      | 10, _ =>
        cases ho
        have e20 : a.eval (.tmp 20) = .tuple #[.agg x.cs, .agg back.cs, .bool false] := hk.has 8 20 (by kernel_rfl) (by simp)
        exact kt_val (PR := fun v _ => v = .agg back.cs) (run_extract e20 rfl) hG rfl
      | 11, _ =>
        cases ho
        have e20 : a.eval (.tmp 20) = .tuple #[.agg x.cs, .agg back.cs, .bool false] := hk.has 8 20 (by kernel_rfl) (by simp)
        exact kt_val (PR := fun v _ => v = .bool false) (run_extract e20 rfl) hG rfl
      | 12, _ =>
        cases ho
        exact kt_new rfl zero_neg hG
      | 13, _ =>
        cases ho
        exact kt_new rfl zero_msg hG
      | k + 14, hi => omega
    case lst2 =>
      intro i o hi ho a wx cN hG hk
      simp only [List.mem_cons, List.not_mem_nil, or_false] at hi
      rcases hi with rfl | rfl
      · cases ho
        have e20 : a.eval (.tmp 20) = .tuple #[.agg x.cs, .agg back.cs, .bool false] := hk.has 8 20 (by kernel_rfl) (by simp)
        exact ⟨_, fun _ => run_extract e20 rfl, rfl, hG⟩
      · cases ho
        have e20 : a.eval (.tmp 20) = .tuple #[.agg x.cs, .agg back.cs, .bool false] := hk.has 8 20 (by kernel_rfl) (by simp)
        exact ⟨_, fun _ => run_extract e20 rfl, rfl, hG⟩
    intro vals wx hG hv
    have v0 : vals 0 = .slice (some ⟨gs, 0, none⟩) 2 2 := hv 0 (by omega)
    have v1 : vals 1 = .int .i64 1 := hv 1 (by omega)
    have v2 : vals 2 = .pointer (some ⟨gs, 1 * 21, none⟩) := hv 2 (by omega)
    have v3 : vals 3 = .agg s1.cs := hv 3 (by omega)
    have v4 : vals 4 = .slice (some ⟨g, 0, none⟩) (rest.length + 1) c := hv 4 (by omega)
    have v5 : vals 5 = .pointer (some ⟨g, 0 * 6, none⟩) := hv 5 (by omega)
    have v6 : vals 6 = .agg m.cs := hv 6 (by omega)
    have v7 : vals 7 = .tuple #[.agg x.cs, .agg back.cs, .bool false] := hv 7 (by omega)
    have v8 : vals 8 = .tuple #[.agg x.cs, .agg back.cs, .bool false] := hv 8 (by omega)
    have v9 : vals 9 = .agg x.cs := hv 9 (by omega)
    have v10 : vals 10 = .agg back.cs := hv 10 (by omega)
    have v11 : vals 11 = .bool false := hv 11 (by omega)
    obtain ⟨g13, v12, m13, B13⟩ := hv 12 (by omega)
    obtain ⟨g14, v13, m14, B14⟩ := hv 13 (by omega)
    clear hv
    simp only [putsL, Act.put, v0, v1, v2, v3, v4, v5, v6, v7, v8, v9, v10, v11, v12, v13, List.setIfInBounds_toArray, List.set_cons_zero, List.set_cons_succ]
    clear v0 v1 v2 v3 v4 v5 v6 v7 v8 v9 v10 v11 v12 v13
    have n13 : w.heap.size ≤ g13 := Nat.le_trans b0.size m13
    have n14 : w.heap.size ≤ g14 := Nat.le_trans b0.size m14
    have ne_13_14 : g13 ≠ g14 := B13.ne B14 (by decide)
    replace b0 := bchain b0.drew hG
    clear hG
    refine tail_cons rfl rfl ?_
    refine wp_box_store 26 _ _ rfl _ _ rfl rfl B13 (by kernel_rfl) rfl (neg_one x) ?_
    clear B13
    intro w' B13 gg
    replace b0 := below_at b0 gg b0.size n13
    replace B14 := B14.grown gg (Ne.symm ne_13_14)
    clear gg
    refine tail_cons rfl rfl ?_
    refine wp_box_store 28 _ _ rfl _ _ rfl rfl B14 (by kernel_rfl) rfl (msg_one back) ?_
    clear B14
    intro w' B14 gg
    replace b0 := below_at b0 gg b0.size n14
    replace B13 := B13.grown gg ne_13_14
    clear gg
    refine tail_one rfl rfl ?_
    go_simp
    clear RS hC
    have H1 := H.kept b0
    have hns : g ≠ gs := fun e => (H.o1.ne H.s (by decide)) (by rw [← e]; rfl)
    have hsn : gs ≠ gn := H.s.ne H.n (by decide)
    go_wp2_with (first
      | ((with_reducible refine at_load 26 ?_); refine box_load rfl 26 _ rfl _ rfl (by with_reducible assumption) Try.underlying26 rfl (by kernel_rfl) ?_)
      | ((with_reducible refine at_store 26 ?_); refine box_part rfl 26 _ _ rfl gs 21 x.cs rfl rfl H1.s (by kernel_rfl) (by simp [Neg.cs]) (neg_one x) ?_; intro w3 S3 gg; rw [put_snd] at S3; refine Hid.out ?_))
    unfold Hid
    have H3 : At w3 B gs gn (.slice a0 n0.length c0) (.slice (some ⟨g, 0, none⟩) (rest.length + 1) c) ⟨s0, x, n0, m :: rest⟩ := ⟨S3, H1.n.grown gg (Ne.symm hsn), H1.o0.grown gg H1.s (by decide), H1.o1.grown gg H1.s (by decide), H.ap, H.bs, H.bn⟩
    have bB0 : Below B w w3 := below_at (below_le b0 hB) gg (Nat.le_trans hB b0.size) H.bs
    have B14 := B14.grown gg (fun e => by have := H.s.lt; omega)
    replace R2 := range_by (range_kept R2 b0 hgw) gg (Nat.lt_of_lt_of_le hgw b0.size) (fun e => hns (Option.some.inj e))
    have hgw : g < w3.heap.size := Nat.lt_of_lt_of_le hgw bB0.size
    clear gg S3 R1 H1 B13
    obtain ⟨i, ei, Ri⟩ := first_cut (w := w3) hcc R2
    clear R2
    go_wp2_with (at_builtin; refine Hid.out ?_)
    unfold Hid
    refine wpList_appM rfl _ _ rfl w3.heap.size _ [] rfl (ownM_empty w3 w3.heap.size (Nat.le_refl _)) g i rest.length (c - 1) rest rfl rfl (range_kept Ri (bo_alloc _ _) hgw) (by simp; omega) (by simp) ?_
    intro v' w2 o2 g2 at2
    have bc : Below w3.heap.size w3 w2 := (bo_alloc w3 (.cells #[] 28)).grown g2 (by simp) (fun q e => by cases e; exact Nat.le_refl _)
    have H2 := H3.kept bc
    clear g2
    obtain ⟨ar, cr, er⟩ := o2.form
    subst er
    have av : ∀ k, (Value.slice a0 n0.length c0).ownBlock = some k → (Value.slice ar ([] ++ rest).length cr).ownBlock ≠ some k := by
      intro k e1 e2
      have := (World.ownsRow.lt H3.o0 k e1).2
      rcases at2 with h | h
      · rw [e2] at h
        have h9 : k = w3.heap.size := Option.some.inj h
        omega
      · rw [e2] at h
        have h9 := Option.some.inj h
        simp at h9
        omega
    clear at2
    go_wp2_with ((with_reducible refine at_store 49 ?_); refine box_sl rfl _ _ rfl gn 1 _ _ _ rfl rfl H2.n (by simp) ?_; intro w5 h7 g3)
    simp only [List.setIfInBounds_toArray, List.set] at h7
    skip
    have h1 := H2.s.grown g3 hsn
    replace o2 := (o2.grown g3 H2.n (by decide)).base (C := B) (Nat.le_trans hB bB0.size)
    have h3 := H2.o0.grown g3 H2.n (by decide)
    have b5 := below_at (below_le bc (Nat.le_trans hB bB0.size)) g3 (Nat.le_trans hB (Nat.le_trans bB0.size bc.size)) H2.bn
    simp only [List.nil_append] at o2 av
    have H4 : At w5 B gs gn (.slice a0 n0.length c0) (.slice ar rest.length cr) ⟨s0, x, n0, rest⟩ := ⟨h1, h7, h3, o2, av, H2.bs, H2.bn⟩
    have B14 := (B14.kept bc).grown g3 (fun e => by have := H.n.lt; omega)
    replace b5 := below_trans bB0 b5
    clear bc g3 h1 h7 h3 o2 av H2 H3 bB0
    refine bodyPost_ret (v := .tuple #[.slice (some ⟨gs, 0, none⟩) 2 2, .slice (some ⟨gn, 0, none⟩) 2 2]) (by simp [results, Try.results25, go_sem]) rfl ?_
    exact ⟨rfl, ⟨_, _, H4⟩, b5⟩
  · simp only [if_true]
    obtain ⟨a0, c0, e0⟩ := H.o0.form
    obtain ⟨g, c, e1, hBg, hgw, hcc, hcm, R1, R2⟩ := H.o1.range
    subst e0 e1
    have b0 : Below w.heap.size w w := Below.refl _ _
    have kn := H.n.k
    go_enter Try.func25, Try.ntmps25
    have RS : w.rangeAt gs (1 * 21) s1.cs.toList := range_snd H.s
    have hC : ∀ w : World, Calls Try.prog 15 #[.agg s1.cs, .agg m.cs] w fun e w' => e = .returned (.tuple #[.agg x.cs, .agg back.cs, .bool true]) ∧ Below w.heap.size w w' := fun w => by
      have := impl_hear s1 m w
      rw [hH] at this
      exact this
    go_wp2_with fail
    refine region_lates 14 [21, 22, 23, 24, 25, 26, 27, 28, 20, 29, 30, 31, 13, 14] [14, 15, 16] (fun i v wx => match i with | 0 => v = .slice (some ⟨gs, 0, none⟩) 2 2 | 1 => v = .int .i64 1 | 2 => v = .pointer (some ⟨gs, 1 * 21, none⟩) | 3 => v = .agg s1.cs | 4 => v = .slice (some ⟨g, 0, none⟩) (rest.length + 1) c | 5 => v = .pointer (some ⟨g, 0 * 6, none⟩) | 6 => v = .agg m.cs | 7 => v = .tuple #[.agg x.cs, .agg back.cs, .bool true] | 8 => v = .tuple #[.agg x.cs, .agg back.cs, .bool true] | 9 => v = .agg x.cs | 10 => v = .agg back.cs | 11 => v = .bool true | 12 => KBox w.drew.heap.size #[.int .i64 0, .int .i64 0, .int .i64 0, .int .i64 0, .int .i64 0, .int .i64 0, .int .i64 0, .int .i64 0, .int .i64 0, .int .i64 0, .int .i64 0, .int .i64 0, .int .i64 0, .int .i64 0, .int .i64 0, .int .i64 0, .int .i64 0, .int .i64 0, .int .i64 0, .int .i64 0, .bool false] 26 v wx | 13 => KBox w.drew.heap.size #[.int .i64 0, .int .i64 0, .int .i64 0, .int .i64 0, .int .i64 0, .int .i64 0] 28 v wx | _ => True) (Gk w.drew) (fun w1 w2 => Below w1.heap.size w1 w2) (by kernel_rfl) [10, 11] (by kernel_rfl) (fun x _ _ _ _ h => by cases x <;> exact h) (dsts_in (by kernel_rfl)) (Below.refl _ _) ?hT102 ?step102 ?lst102 ?fin102
    case hT102 =>
      intro j v w1 w2 h k
      match j, h with
      | 0, h => exact h
      | 1, h => exact h
      | 2, h => exact h
      | 3, h => exact h
      | 4, h => exact h
      | 5, h => exact h
      | 6, h => exact h
      | 7, h => exact h
      | 8, h => exact h
      | 9, h => exact h
      | 10, h => exact h
      | 11, h => exact h
      | 12, h => exact KBox.mono h k
      | 13, h => exact KBox.mono h k
      | _ + 14, _ => exact trivial
    case step102 =>
      intro i o hi ho a wx cN hc hG hk
      match i, hi with
      | 0, _ =>
        cases ho
        have e0 : a.eval (.tmp 0) = .slice (some ⟨gs, 0, none⟩) 2 2 := hk.was 0 (by kernel_rfl)
        exact kt_val (PR := fun v _ => v = .slice (some ⟨gs, 0, none⟩) 2 2) (run_move e0) hG rfl
      | 1, _ =>
        cases ho
        have e2 : a.eval (.tmp 2) = .int .i64 1 := hk.was 2 (by kernel_rfl)
        exact kt_val (PR := fun v _ => v = .int .i64 1) (run_move e2) hG rfl
      | 2, _ =>
        cases ho
        have e21 : a.eval (.tmp 21) = .slice (some ⟨gs, 0, none⟩) 2 2 := hk.has 0 21 (by kernel_rfl) (by simp)
        have e22 : a.eval (.tmp 22) = .int .i64 1 := hk.has 1 22 (by kernel_rfl) (by simp)
        exact kt_val (PR := fun v _ => v = .pointer (some ⟨gs, 1 * 21, none⟩)) (run_idx_s (k := 1) e21 e22 (by omega)) hG rfl
      | 3, _ =>
        cases ho
        have e23 : a.eval (.tmp 23) = .pointer (some ⟨gs, 1 * 21, none⟩) := hk.has 2 23 (by kernel_rfl) (by simp)
        exact kt_val (PR := fun v _ => v = .agg s1.cs) (run_ldr e23 (range_kept (w := w.drew) RS hG H.s.lt) Try.underlying26 rfl (by kernel_rfl)) hG rfl
      | 4, _ =>
        cases ho
        have e10 : a.eval (.tmp 10) = .slice (some ⟨g, 0, none⟩) (rest.length + 1) c := hk.was 10 (by kernel_rfl)
        exact kt_val (PR := fun v _ => v = .slice (some ⟨g, 0, none⟩) (rest.length + 1) c) (run_move e10) hG rfl
      | 5, _ =>
        cases ho
        have e25 : a.eval (.tmp 25) = .slice (some ⟨g, 0, none⟩) (rest.length + 1) c := hk.has 4 25 (by kernel_rfl) (by simp)
        exact kt_val (PR := fun v _ => v = .pointer (some ⟨g, 0 * 6, none⟩)) (run_idx_m (k := 0) e25 rfl (by omega)) hG rfl
      | 6, _ =>
        cases ho
        have e26 : a.eval (.tmp 26) = .pointer (some ⟨g, 0 * 6, none⟩) := hk.has 5 26 (by kernel_rfl) (by simp)
        exact kt_val (PR := fun v _ => v = .agg m.cs) (run_ldr e26 (range_kept (w := w.drew) R1 hG hgw) Try.underlying28 rfl (by kernel_rfl)) hG rfl
      | 7, _ =>
        cases ho
        have e24 : a.eval (.tmp 24) = .agg s1.cs := hk.has 3 24 (by kernel_rfl) (by simp)
        have e27 : a.eval (.tmp 27) = .agg m.cs := hk.has 6 27 (by kernel_rfl) (by simp)
        exact kt_call (PR := fun v _ => v = .tuple #[.agg x.cs, .agg back.cs, .bool true]) (run_call2 rfl e24 e27 (fun _ _ => by kernel_rfl)) hG ((hC _).mono (fun _ _ hh => ⟨_, hh.1, rfl, hh.2⟩))
      | 8, _ =>
        cases ho
        have e28 : a.eval (.tmp 28) = .tuple #[.agg x.cs, .agg back.cs, .bool true] := hk.has 7 28 (by kernel_rfl) (by simp)
        exact kt_val (PR := fun v _ => v = .tuple #[.agg x.cs, .agg back.cs, .bool true]) (run_move e28) hG rfl
      | 9, _ =>
        cases ho
        have e20 : a.eval (.tmp 20) = .tuple #[.agg x.cs, .agg back.cs, .bool true] := hk.has 8 20 (by kernel_rfl) (by simp)
        exact kt_val (PR := fun v _ => v = .agg x.cs) (run_extract e20 rfl) hG rfl
      | 10, _ =>
        cases ho
        have e20 : a.eval (.tmp 20) = .tuple #[.agg x.cs, .agg back.cs, .bool true] := hk.has 8 20 (by kernel_rfl) (by simp)
        exact kt_val (PR := fun v _ => v = .agg back.cs) (run_extract e20 rfl) hG rfl
      | 11, _ =>
        cases ho
        have e20 : a.eval (.tmp 20) = .tuple #[.agg x.cs, .agg back.cs, .bool true] := hk.has 8 20 (by kernel_rfl) (by simp)
        exact kt_val (PR := fun v _ => v = .bool true) (run_extract e20 rfl) hG rfl
      | 12, _ =>
        cases ho
        exact kt_new rfl zero_neg hG
      | 13, _ =>
        cases ho
        exact kt_new rfl zero_msg hG
      | k + 14, hi => omega
    case lst102 =>
      intro i o hi ho a wx cN hG hk
      simp only [List.mem_cons, List.not_mem_nil, or_false] at hi
      rcases hi with rfl | rfl
      · cases ho
        have e20 : a.eval (.tmp 20) = .tuple #[.agg x.cs, .agg back.cs, .bool true] := hk.has 8 20 (by kernel_rfl) (by simp)
        exact ⟨_, fun _ => run_extract e20 rfl, rfl, hG⟩
      · cases ho
        have e20 : a.eval (.tmp 20) = .tuple #[.agg x.cs, .agg back.cs, .bool true] := hk.has 8 20 (by kernel_rfl) (by simp)
        exact ⟨_, fun _ => run_extract e20 rfl, rfl, hG⟩
    intro vals wx hG hv
    have v0 : vals 0 = .slice (some ⟨gs, 0, none⟩) 2 2 := hv 0 (by omega)
    have v1 : vals 1 = .int .i64 1 := hv 1 (by omega)
    have v2 : vals 2 = .pointer (some ⟨gs, 1 * 21, none⟩) := hv 2 (by omega)
    have v3 : vals 3 = .agg s1.cs := hv 3 (by omega)
    have v4 : vals 4 = .slice (some ⟨g, 0, none⟩) (rest.length + 1) c := hv 4 (by omega)
    have v5 : vals 5 = .pointer (some ⟨g, 0 * 6, none⟩) := hv 5 (by omega)
    have v6 : vals 6 = .agg m.cs := hv 6 (by omega)
    have v7 : vals 7 = .tuple #[.agg x.cs, .agg back.cs, .bool true] := hv 7 (by omega)
    have v8 : vals 8 = .tuple #[.agg x.cs, .agg back.cs, .bool true] := hv 8 (by omega)
    have v9 : vals 9 = .agg x.cs := hv 9 (by omega)
    have v10 : vals 10 = .agg back.cs := hv 10 (by omega)
    have v11 : vals 11 = .bool true := hv 11 (by omega)
    obtain ⟨g13, v12, m13, B13⟩ := hv 12 (by omega)
    obtain ⟨g14, v13, m14, B14⟩ := hv 13 (by omega)
    clear hv
    simp only [putsL, Act.put, v0, v1, v2, v3, v4, v5, v6, v7, v8, v9, v10, v11, v12, v13, List.setIfInBounds_toArray, List.set_cons_zero, List.set_cons_succ]
    clear v0 v1 v2 v3 v4 v5 v6 v7 v8 v9 v10 v11 v12 v13
    have n13 : w.heap.size ≤ g13 := Nat.le_trans b0.size m13
    have n14 : w.heap.size ≤ g14 := Nat.le_trans b0.size m14
    have ne_13_14 : g13 ≠ g14 := B13.ne B14 (by decide)
    replace b0 := bchain b0.drew hG
    clear hG
    refine tail_cons rfl rfl ?_
    refine wp_box_store 26 _ _ rfl _ _ rfl rfl B13 (by kernel_rfl) rfl (neg_one x) ?_
    clear B13
    intro w' B13 gg
    replace b0 := below_at b0 gg b0.size n13
    replace B14 := B14.grown gg (Ne.symm ne_13_14)
    clear gg
    refine tail_cons rfl rfl ?_
    refine wp_box_store 28 _ _ rfl _ _ rfl rfl B14 (by kernel_rfl) rfl (msg_one back) ?_
    clear B14
    intro w' B14 gg
    replace b0 := below_at b0 gg b0.size n14
    replace B13 := B13.grown gg ne_13_14
    clear gg
    refine tail_one rfl rfl ?_
    go_simp
    clear RS hC
    have H1 := H.kept b0
    have hns : g ≠ gs := fun e => (H.o1.ne H.s (by decide)) (by rw [← e]; rfl)
    have hsn : gs ≠ gn := H.s.ne H.n (by decide)
    go_wp2_with (first
      | ((with_reducible refine at_load 26 ?_); refine box_load rfl 26 _ rfl _ rfl (by with_reducible assumption) Try.underlying26 rfl (by kernel_rfl) ?_)
      | ((with_reducible refine at_store 26 ?_); refine box_part rfl 26 _ _ rfl gs 21 x.cs rfl rfl H1.s (by kernel_rfl) (by simp [Neg.cs]) (neg_one x) ?_; intro w3 S3 gg; rw [put_snd] at S3; refine Hid.out ?_))
    unfold Hid
    have H3 : At w3 B gs gn (.slice a0 n0.length c0) (.slice (some ⟨g, 0, none⟩) (rest.length + 1) c) ⟨s0, x, n0, m :: rest⟩ := ⟨S3, H1.n.grown gg (Ne.symm hsn), H1.o0.grown gg H1.s (by decide), H1.o1.grown gg H1.s (by decide), H.ap, H.bs, H.bn⟩
    have bB0 : Below B w w3 := below_at (below_le b0 hB) gg (Nat.le_trans hB b0.size) H.bs
    have B14 := B14.grown gg (fun e => by have := H.s.lt; omega)
    replace R2 := range_by (range_kept R2 b0 hgw) gg (Nat.lt_of_lt_of_le hgw b0.size) (fun e => hns (Option.some.inj e))
    have hgw : g < w3.heap.size := Nat.lt_of_lt_of_le hgw bB0.size
    clear gg S3 R1 H1 B13
    obtain ⟨i, ei, Ri⟩ := first_cut (w := w3) hcc R2
    clear R2
    go_wp2_with (at_builtin; refine Hid.out ?_)
    unfold Hid
    refine wpList_appM rfl _ _ rfl w3.heap.size _ [] rfl (ownM_empty w3 w3.heap.size (Nat.le_refl _)) g i rest.length (c - 1) rest rfl rfl (range_kept Ri (bo_alloc _ _) hgw) (by simp; omega) (by simp) ?_
    intro v' w2 o2 g2 at2
    have bc : Below w3.heap.size w3 w2 := (bo_alloc w3 (.cells #[] 28)).grown g2 (by simp) (fun q e => by cases e; exact Nat.le_refl _)
    have H2 := H3.kept bc
    clear g2
    obtain ⟨ar, cr, er⟩ := o2.form
    subst er
    have av : ∀ k, (Value.slice a0 n0.length c0).ownBlock = some k → (Value.slice ar ([] ++ rest).length cr).ownBlock ≠ some k := by
      intro k e1 e2
      have := (World.ownsRow.lt H3.o0 k e1).2
      rcases at2 with h | h
      · rw [e2] at h
        have h9 : k = w3.heap.size := Option.some.inj h
        omega
      · rw [e2] at h
        have h9 := Option.some.inj h
        simp at h9
        omega
    clear at2
    go_wp2_with ((with_reducible refine at_store 49 ?_); refine box_sl rfl _ _ rfl gn 1 _ _ _ rfl rfl H2.n (by simp) ?_; intro w5 h7 g3)
    simp only [List.setIfInBounds_toArray, List.set] at h7
    skip
    have h1 := H2.s.grown g3 hsn
    replace o2 := (o2.grown g3 H2.n (by decide)).base (C := B) (Nat.le_trans hB bB0.size)
    have h3 := H2.o0.grown g3 H2.n (by decide)
    have b5 := below_at (below_le bc (Nat.le_trans hB bB0.size)) g3 (Nat.le_trans hB (Nat.le_trans bB0.size bc.size)) H2.bn
    simp only [List.nil_append] at o2 av
    have H4 : At w5 B gs gn (.slice a0 n0.length c0) (.slice ar rest.length cr) ⟨s0, x, n0, rest⟩ := ⟨h1, h7, h3, o2, av, H2.bs, H2.bn⟩
    have B14 := (B14.kept bc).grown g3 (fun e => by have := H.n.lt; omega)
    replace b5 := below_trans bB0 b5
    clear bc g3 h1 h7 h3 o2 av H2 H3 bB0
    have hB5 : B ≤ w5.heap.size := Nat.le_trans hB b5.size
    have b0 : Below w5.heap.size w5 w5 := Below.refl _ _
    replace b0 := b0.drew
    replace B14 := B14.drew
    have H1 := H4.kept b0
    refine region_by (fun w' => Bl w' gn #[(.slice a0 n0.length c0), (.slice ar rest.length cr)] 49 ∧ Bl w' _ back.cs 28) 12 [(0, true), (1, true), (2, true), (3, true), (4, true), (5, true), (6, true), (7, true), (8, true), (9, false), (10, false), (11, true), (12, false)] ⟨none, .assign (.tmp 0), 0, "", #[], none⟩ (by kernel_rfl) (by kernel_rfl) ⟨H1.n, B14⟩ (fun x _ _ _ _ h => by cases x <;> exact h) ?_
    simp only [arrange, List.map_cons, List.map_nil, List.getD_cons_zero, List.getD_cons_succ]
    generalize World.drew _ = dw at b0 B14 H1 ⊢
    refine by_run rfl (.slice (some ⟨gn, 0, none⟩) 2 2) (fun _ _ => run_move rfl) ?_
    simp only [Act.put, List.setIfInBounds_toArray, List.set]
    refine by_run rfl (.int .i64 1) (fun _ _ => run_move rfl) ?_
    simp only [Act.put, List.setIfInBounds_toArray, List.set]
    refine by_run rfl (.int .i64 0) (fun _ _ => by simp [execOp, go_sem]; try rfl) ?_
    simp only [Act.put, List.setIfInBounds_toArray, List.set]
    refine by_run rfl (.slice (some ⟨gn, 0, none⟩) 2 2) (fun _ _ => run_move rfl) ?_
    simp only [Act.put, List.setIfInBounds_toArray, List.set]
    refine by_run rfl (.int .i64 1) (fun _ _ => run_move rfl) ?_
    simp only [Act.put, List.setIfInBounds_toArray, List.set]
    refine by_run rfl (.int .i64 0) (fun _ _ => by simp [execOp, go_sem]; try rfl) ?_
    simp only [Act.put, List.setIfInBounds_toArray, List.set]
    refine by_run rfl (.pointer (some ⟨gn, 0, none⟩)) (fun _ _ => run_idx_n (k := 0) rfl rfl (by omega)) ?_
    simp only [Act.put, List.setIfInBounds_toArray, List.set]
    refine by_run rfl (.slice a0 n0.length c0) (fun _ h => run_lds rfl ((h.1.k 0).trans rfl)) ?_
    simp only [Act.put, List.setIfInBounds_toArray, List.set]
    refine by_load rfl 28 _ rfl _ rfl (fun _ h => h.2) Try.underlying28 rfl (by kernel_rfl) ?_
    simp only [Act.put, List.setIfInBounds_toArray, List.set]
    refine by_wp rfl rfl ?_
    unfold Oper.wp
    rw [run_lit rfl]
    have BL := bl_new dw back.cs 28
    have bb := bo_alloc dw (.cells back.cs 28)
    replace b0 := bchain b0 bb
    replace H1 := H1.kept bb
    replace B14 := B14.kept bb
    refine ⟨fun _ => ⟨H1.n, B14⟩, ?_⟩
    simp only [Act.put, List.setIfInBounds_toArray, List.set]
    clear bb
    refine by_wp rfl rfl ?_
    refine wp_appM _ _ rfl B _ n0 rfl H1.o0 _ 0 1 1 [back] rfl rfl (range_one BL) (by simp; omega) (Nat.le_trans hB5 b0.size) ?_
    intro v' w2 o2 g2 at2
    obtain ⟨h1, h2, h3, h4⟩ := H1.grow0 g2 at2
    have B142 : Bl w2 _ back.cs 28 := (g2.block _ B14.lt (fun e => by have := (World.ownsRow.lt H.o0 _ e.symm).2; have := n14; omega)).trans B14
    have b2 := below_own (below_le b0 hB5) g2 H1.o0 (Nat.le_trans hB5 b0.size) (Nat.le_refl B)
    refine ⟨fun _ => ⟨h2, B142⟩, ?_⟩
    simp only [Act.put, List.setIfInBounds_toArray, List.set]
    refine by_run rfl (.pointer (some ⟨gn, 0, none⟩)) (fun _ _ => run_idx_n (k := 0) rfl rfl (by omega)) ?_
    simp only [Act.put, List.setIfInBounds_toArray, List.set]
    obtain ⟨ar, cr, er⟩ := o2.form
    subst er
    refine by_wp rfl rfl ?_
    refine wp_box_sl _ _ rfl gn 0 _ _ _ rfl rfl h2 (by simp) ?_
    intro w3 h5 g3
    simp only [List.setIfInBounds_toArray, List.set] at h5
    have hsn : gs ≠ gn := H.s.ne H.n (by decide)
    replace h1 := h1.grown g3 hsn
    replace o2 := o2.grown g3 h2 (by decide)
    replace h3 := h3.grown g3 h2 (by decide)
    have b3 := below_at b2 g3 (Nat.le_trans hB5 (Nat.le_trans b0.size g2.size)) H.bn
    refine ⟨fun h => absurd h (by omega), ?_⟩
    refine by_nil ?_
    go_wp2
    refine bodyPost_ret (v := .tuple #[.slice (some ⟨gs, 0, none⟩) 2 2, .slice (some ⟨gn, 0, none⟩) 2 2]) (by simp [results, Try.results25, go_sem]) rfl ?_
    exact ⟨rfl, ⟨_, _, ⟨h1, h5, o2, h3, h4, H.bs, H.bn⟩⟩, below_trans b5 b3⟩
/-- Two who agree behind one thing. -/
theorem do_any {B gs gn : Nat} {v0 v1 : Value} (p : Two) (who what : Int) (hw : who = 0 ∨ who = 1) (w : World) (H : At w B gs gn v0 v1 p) (hB : B ≤ w.heap.size) (hl : p.size ≤ 100000) :
    Calls Try.prog 25 #[.slice (some ⟨gs, 0, none⟩) 2 2, .slice (some ⟨gn, 0, none⟩) 2 2, .int .i64 who, .int .i64 what] w fun e w' => e = .returned (.tuple #[.slice (some ⟨gs, 0, none⟩) 2 2, .slice (some ⟨gn, 0, none⟩) 2 2]) ∧ (∃ v0' v1', At w' B gs gn v0' v1' (p.act who what)) ∧ Below B w w' := by
  obtain ⟨s0, s1, n0, n1⟩ := p
  simp only [Two.size] at hl
  rcases hw with rfl | rfl
  · rw [show Two.act ⟨s0, s1, n0, n1⟩ 0 what = Two.one ⟨s0, s1, n0, n1⟩ what from rfl]
    by_cases h2 : what < 2
    · have := do_say_0 h2 w H hB hl
      simpa [Two.one, h2] using this
    cases n0 with
    | nil =>
      have := do_none_0 h2 w H
      simpa [Two.one, h2] using this
    | cons m rest =>
      simp only [List.length_cons] at hl
      by_cases h4 : what = 4
      · subst h4
        have := do_lose_0 w H hB (by omega)
        simpa [Two.one] using this
      by_cases h5 : what = 5
      · subst h5
        have := do_twice_0 w H hB (by omega)
        simpa [Two.one] using this
      obtain ⟨⟨x, back, sy⟩, hH⟩ : ∃ z, iHear s0 m = z := ⟨_, rfl⟩
      have := do_hear_0 h2 h4 h5 hH w H hB (by omega)
      cases sy <;> simpa [Two.one, h2, h4, h5, hH] using this
  · rw [show Two.act ⟨s0, s1, n0, n1⟩ 1 what = (Two.one ⟨s1, s0, n1, n0⟩ what).swap from rfl]
    by_cases h2 : what < 2
    · have := do_say_1 h2 w H hB hl
      cases hs : says s1 <;> simpa [Two.one, h2, Two.swap, hs] using this
    cases n1 with
    | nil =>
      have := do_none_1 h2 w H
      simpa [Two.one, h2, Two.swap] using this
    | cons m rest =>
      simp only [List.length_cons] at hl
      by_cases h4 : what = 4
      · subst h4
        have := do_lose_1 w H hB (by omega)
        simpa [Two.one, Two.swap] using this
      by_cases h5 : what = 5
      · subst h5
        have := do_twice_1 w H hB (by omega)
        simpa [Two.one, Two.swap] using this
      obtain ⟨⟨x, back, sy⟩, hH⟩ : ∃ z, iHear s1 m = z := ⟨_, rfl⟩
      have := do_hear_1 h2 h4 h5 hH w H hB (by omega)
      cases sy <;> simpa [Two.one, h2, h4, h5, hH, Two.swap] using this
end Go.Proofs.Ytaoafikkamnjlaa
