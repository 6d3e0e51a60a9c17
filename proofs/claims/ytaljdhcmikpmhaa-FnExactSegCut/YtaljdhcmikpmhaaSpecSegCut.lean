/- SegCut of the specification: the pieces of a message, in new memory. -/
import Derived.Test.YtaljdhcmikpmhaaImplSegCut
import Derived.Test.YtaljdhcmikpmhaaIn
namespace Go.Proofs.Ytaljdhcmikpmhaa
open Go.RowKit

set_option maxHeartbeats 1000000 in
theorem spec_cut_no (a : Option Addr) (n cap : Nat) (m : Int) (w : World) (h : ¬ (n ≤ 24 ∧ 1 ≤ m ∧ m ≤ 8)) :
    Calls Try.prog 7 #[.slice a n cap, .int .i64 m] w fun e w' => ∃ v, e = .returned v ∧ OwnP w' w.heap.size v [] ∧ Below w.heap.size w w' := by
  have P := ownP_empty w w.heap.size (Nat.le_refl _)
  by_cases h1 : 24 < (n : Int)
  · go_enter Try.func7, Try.ntmps7
    go_wp2
    go_ret
    exact ⟨_, rfl, P, below_alloc _ _⟩
  have h2 : inB m 1 8 = false := (inB_not m 1 8).2 (by omega)
  go_enter Try.func7, Try.ntmps7
  go_wp2_with (go_at_call 31; refine (in_any _ _ _ _).mono ?_; rw [h2]; rintro e w' ⟨rfl, h3⟩; subst h3)
  go_ret
  exact ⟨_, rfl, P, below_alloc _ _⟩
set_option maxHeartbeats 1000000 in
theorem spec_cut_one (a : Option Addr) (cap : Nat) (zs : List Nat) (m : Int) (w : World) (hR : Rd w (.slice a zs.length cap) zs) (h : zs.length ≤ 24 ∧ 1 ≤ m ∧ m ≤ 8) (h1 : (zs.length : Int) ≤ m) :
    Calls Try.prog 7 #[.slice a zs.length cap, .int .i64 m] w fun e w' => ∃ v qs, e = .returned v ∧ OwnP w' w.heap.size v qs ∧ qs.map Pc.dat = [(0, (zs.length : Int), zs)] ∧ Below w.heap.size w w' := by
  have h2 : ¬ 24 < (zs.length : Int) := by omega
  have h3 : inB m 1 8 = true := (inB_iff m 1 8).2 (by omega)
  have P0 := (ownP_empty w w.heap.size (Nat.le_refl _)).kept (below_alloc _ (.cells #[] 5))
  have o1 : Own ((w.alloc (.cells #[] 35)).alloc (.cells #[] 5)) w.heap.size (.slice (some ⟨w.heap.size + 1, 0, none⟩) 0 0) [] := by simpa using own_empty (w.alloc (.cells #[] 35)) w.heap.size (by simp)
  have b0 := bchain (below_alloc w (.cells #[] 35)) (below_alloc _ (.cells #[] 5))
  have R1 := hR.kept b0
  go_enter Try.func7, Try.ntmps7
  go_wp2_with (first | (go_at_call 31; refine (in_any _ _ _ _).mono ?_; rw [h3]; rintro e w' ⟨rfl, h4⟩; subst h4) | (at_builtin; refine wpList_app _ rfl (.tmp 25) (.tmp 26) rfl w.heap.size (.slice (some ⟨w.heap.size + 1, 0, none⟩) 0 0) [] rfl o1 _ zs rfl R1 (by simp; omega) (by simp; omega) ?_))
  intro v2 w2 o2 g2
  have P2 := P0.byRow o1 (by simp) g2
  have b2 := b0.grown g2 (by simp; omega) (by simp [Value.ownBlock])
  have z2 := b2.size
  have P3 := P2.kept (below_alloc w2 (.cells #[.int .i64 0, .int .i64 (zs.length : Int), v2] 35))
  have o3 := o2.alloc (.cells #[.int .i64 0, .int .i64 (zs.length : Int), v2] 35)
  have b3 := b2.alloc z2 (.cells #[.int .i64 0, .int .i64 (zs.length : Int), v2] 35)
  obtain ⟨a2, c2, hv2⟩ := o2.form
  subst hv2
  clear g2 P0 o1 R1 b0
  go_wp2_with (at_builtin; refine wpList_appP _ rfl (.tmp 22) (.tmp 29) rfl w.heap.size _ [] rfl P3 w2.heap.size 1 ⟨0, zs.length, .slice a2 zs.length c2, zs⟩ rfl (by simp) (by simp) (by simp) o3 (by simp) (by simp) (by simp; omega) ?_)
  intro v4 w4 P4 b4
  have bl4 := b3.trans b4
  clear P2 P3 b3 b4 o2 o3
  go_wp2
  go_ret
  exact ⟨_, _, rfl, P4, rfl, bl4⟩
set_option maxHeartbeats 2000000 in
theorem spec_cut_more (a : Option Addr) (cap : Nat) (zs : List Nat) (m : Nat) (w : World) (hR : Rd w (.slice a zs.length cap) zs) (h : zs.length ≤ 24 ∧ 1 ≤ m ∧ m ≤ 8) (h1 : m < zs.length) :
    Calls Try.prog 7 #[.slice a zs.length cap, .int .i64 m] w fun e w' => ∃ v qs, e = .returned v ∧ OwnP w' w.heap.size v qs ∧ qs.map Pc.dat = (1, (zs.length : Int), zs.take m) :: moreD m (zs.drop m) ∧ Below w.heap.size w w' := by
  obtain ⟨_, _, hab, hcap⟩ := hR.room
  obtain ⟨rfl, rfl⟩ : a = _ ∧ cap = _ := by simpa using hab
  clear hab
  have h2 : ¬ 24 < (zs.length : Int) := by omega
  have h3 : inB m 1 8 = true := (inB_iff m 1 8).2 (by omega)
  have h5 : ¬ (zs.length : Int) ≤ (m : Int) := by omega
  have h6 : decide ((zs.length : Int) ≤ (m : Int)) = false := by simp; omega
  have h7 : decide (zs.length ≤ m) = false := by simp; omega
  have D : (moreD m (zs.drop m)).length ≤ 26 := by
    have := moreD_length m 24 (zs.drop m) (by simp; omega)
    omega
  obtain ⟨T, hT⟩ : ∃ T, ((1, (zs.length : Int), zs.take m) :: moreD m (zs.drop m) : List Dat) = T := ⟨_, rfl⟩
  have lT : T.length ≤ 27 := by rw [← hT]; simp; omega
  have hT' := hide hT
  rw [hT]
  clear hT
  go_enter Try.func7, Try.ntmps7
  go_wp2_with (go_at_call 31; refine (in_any _ _ _ _).mono ?_; rw [h3]; rintro e w' ⟨rfl, h4⟩; subst h4)
  go_loopw [5, 6] (fun l y wr => ∃ (qs : List Pc) (t : Nat), y = .int .i64 t ∧ t ≤ 40 ∧ OwnP wr w.heap.size l qs ∧ ((t = 0 ∧ qs = []) ∨ (0 < t ∧ t < zs.length ∧ qs.map Pc.dat ++ moreD m (zs.drop t) = T) ∨ (zs.length ≤ t ∧ qs.map Pc.dat = T)) ∧ qs.length ≤ 27 ∧ Below w.heap.size w wr) (fun _ y _ => zs.length - (intOf y).toNat)
  case atStart => exact ⟨[], 0, rfl, by omega, ownP_empty w _ (Nat.le_refl _), .inl ⟨rfl, rfl⟩, by simp, below_alloc _ _⟩
  case round =>
    obtain ⟨qs, t, rfl, ht, P, hq, lq, bl⟩ := hrel
    have zl := bl.size
    by_cases hlt : t < zs.length
    · have R0 := hR.rest (n := t) (by omega)
      rw [if_neg (show ¬ cap = t by omega), ← List.length_drop] at R0
      by_cases hl : zs.length ≤ t + m
      · have t0 : 0 < t := by omega
        have hq2 : qs.map Pc.dat ++ moreD m (zs.drop t) = T := by
          rcases hq with ⟨h, _⟩ | ⟨_, _, h⟩ | ⟨h, _⟩
          · omega
          · exact h
          · omega
        have lq2 : qs.length + 1 ≤ 27 := by
          have := congrArg List.length hq2
          rw [moreD_last (by simp; omega)] at this
          simp at this
          omega
        have hq3 := hide hq2
        clear hq hq2
        have R1 := R0
        obtain ⟨aT, hT5⟩ : ∃ r, (a.map fun x => x.add t) = r := ⟨_, rfl⟩
        rw [hT5, List.length_drop] at R1
        have t1 : ((t : Int) == 0) = false := by simp; omega
        have t2 : 0 < (t : Int) := by omega
        have t3 : (zs.length : Int) ≤ (t : Int) + (m : Int) := by omega
        have t4 : ¬ (t : Int) + (m : Int) < (zs.length : Int) := by omega
        have hl1 : min (zs.length : Int) ((t : Int) + (m : Int)) = (zs.length : Int) := by omega
        clear R0
        have o1 := own_empty wr wr.heap.size (Nat.le_refl _)
        have ap1 := P.apart (Nat.le_refl _) o1
        have e1 := below_alloc wr (.cells #[] 5)
        have R3 := (R1.kept bl).kept e1
        have ly : (zs.drop t).length = (zs.length - t) := by simp; try omega
        have sy : ([] : List Nat).length + (zs.drop t).length ≤ 4000000 := by rw [ly]; simp; omega
        have sz : wr.heap.size ≤ (wr.alloc (.cells #[] 5)).heap.size := by simp
        go_wp2_with (at_builtin; refine wpList_app _ rfl (.tmp 38) (.tmp 47) rfl wr.heap.size (.slice (some ⟨wr.heap.size, 0, none⟩) 0 0) [] rfl o1 _ (zs.drop t) rfl R3 sy sz ?_)
        intro v2 w2 o2 g2
        have ap2 := P.apart (Nat.le_refl _) o2
        have P2 := (P.kept e1).byRow o1 ap1 g2
        have b2 : Below w.heap.size w w2 := (bl.alloc zl _).grown g2 (by simp; omega) (by simp [Value.ownBlock]; omega)
        have z2 := b2.size
        have o2' := o2.base zl
        obtain ⟨a2, c2, hv2⟩ := o2.form
        rw [ly] at hv2
        subst hv2
        have P3 := (P2.kept (below_alloc w2 (.cells #[.int .i64 3, .int .i64 0, .slice a2 (zs.length - t) c2] 35))).kept (below_alloc _ (.cells #[.int .i64 3, .int .i64 0, .slice a2 (zs.length - t) c2] 35))
        have o3 := (o2'.alloc (.cells #[.int .i64 3, .int .i64 0, .slice a2 (zs.length - t) c2] 35)).alloc (.cells #[.int .i64 3, .int .i64 0, .slice a2 (zs.length - t) c2] 35)
        have b3 := (b2.alloc z2 (.cells #[.int .i64 3, .int .i64 0, .slice a2 (zs.length - t) c2] 35)).alloc (by simp; omega) (.cells #[.int .i64 3, .int .i64 0, .slice a2 (zs.length - t) c2] 35)
        clear g2 o1 R1 R3 e1 ap1 P2 o2 o2' b2 sy sz ly
        go_wp2_with (at_builtin; refine wpList_appP _ rfl (.tmp 67) (.tmp 69) rfl w.heap.size _ qs rfl P3 (w2.heap.size + 1) 1 ⟨3, 0, .slice a2 (zs.length - t) c2, zs.drop t⟩ rfl (by simp) (by simp) (by simp) o3 ap2 (by omega) (by simp; omega) ?_)
        intro v4 w4 P4 b4
        have bl4 := b3.trans b4
        clear P3 b3 b4 o3
        go_wp2
        go_roundw
        case rel => exact ⟨_, t + m, by go_num, by omega, P4, .inr (.inr ⟨hl, by rw [← unhide hq3, moreD_last (by simp; omega)]; simp [Pc.dat]⟩), by simp; omega, bl4⟩
        case measure => simp [intOf]; omega
      · by_cases t0 : t = 0
        · subst t0
          obtain rfl : qs = [] := by
            rcases hq with ⟨_, h⟩ | ⟨h, _⟩ | ⟨h, _⟩
            · exact h
            · omega
            · omega
          clear hq
          have R1 := hR.first (n := m) (by omega)
          have hl1 : min (zs.length : Int) (m : Int) = (m : Int) := by omega
          clear R0
          have o1 := own_empty wr wr.heap.size (Nat.le_refl _)
          have ap1 := P.apart (Nat.le_refl _) o1
          have e1 := below_alloc wr (.cells #[] 5)
          have R3 := (R1.kept bl).kept e1
          have ly : (zs.take m).length = m := by simp; try omega
          have sy : ([] : List Nat).length + (zs.take m).length ≤ 4000000 := by rw [ly]; simp; omega
          have sz : wr.heap.size ≤ (wr.alloc (.cells #[] 5)).heap.size := by simp
          go_wp2_with (at_builtin; refine wpList_app _ rfl (.tmp 38) (.tmp 47) rfl wr.heap.size (.slice (some ⟨wr.heap.size, 0, none⟩) 0 0) [] rfl o1 _ (zs.take m) rfl R3 sy sz ?_)
          intro v2 w2 o2 g2
          have ap2 := P.apart (Nat.le_refl _) o2
          have P2 := (P.kept e1).byRow o1 ap1 g2
          have b2 : Below w.heap.size w w2 := (bl.alloc zl _).grown g2 (by simp; omega) (by simp [Value.ownBlock]; omega)
          have z2 := b2.size
          have o2' := o2.base zl
          obtain ⟨a2, c2, hv2⟩ := o2.form
          rw [ly] at hv2
          subst hv2
          have P3 := (P2.kept (below_alloc w2 (.cells #[.int .i64 1, .int .i64 (zs.length : Int), .slice a2 m c2] 35))).kept (below_alloc _ (.cells #[.int .i64 1, .int .i64 (zs.length : Int), .slice a2 m c2] 35))
          have o3 := (o2'.alloc (.cells #[.int .i64 1, .int .i64 (zs.length : Int), .slice a2 m c2] 35)).alloc (.cells #[.int .i64 1, .int .i64 (zs.length : Int), .slice a2 m c2] 35)
          have b3 := (b2.alloc z2 (.cells #[.int .i64 1, .int .i64 (zs.length : Int), .slice a2 m c2] 35)).alloc (by simp; omega) (.cells #[.int .i64 1, .int .i64 (zs.length : Int), .slice a2 m c2] 35)
          clear g2 o1 R1 R3 e1 ap1 P2 o2 o2' b2 sy sz ly
          go_wp2_with (at_builtin; refine wpList_appP _ rfl (.tmp 67) (.tmp 69) rfl w.heap.size _ [] rfl P3 (w2.heap.size + 1) 1 ⟨1, (zs.length : Int), .slice a2 m c2, zs.take m⟩ rfl (by simp) (by simp) (by simp) o3 ap2 (by simp) (by simp; omega) ?_)
          intro v4 w4 P4 b4
          have bl4 := b3.trans b4
          clear P3 b3 b4 o3
          go_wp2
          go_roundw
          case rel => exact ⟨_, m, by go_num, by omega, P4, .inr (.inl ⟨by omega, by omega, by rw [← unhide hT']; simp [Pc.dat]⟩), by simp, bl4⟩
          case measure => simp [intOf]; omega
        · have hq2 : qs.map Pc.dat ++ moreD m (zs.drop t) = T := by
            rcases hq with ⟨h, _⟩ | ⟨_, _, h⟩ | ⟨h, _⟩
            · omega
            · exact h
            · omega
          rw [moreD_more h.2.1 (by simp; omega), List.drop_drop] at hq2
          have lq2 : qs.length + 1 ≤ 27 := by
            have := congrArg List.length hq2
            simp at this
            omega
          have hq3 := hide hq2
          clear hq hq2
          have R1 := R0.first (n := m) (by simp; omega)
          obtain ⟨aT, hT5⟩ : ∃ r, (a.map fun x => x.add t) = r := ⟨_, rfl⟩
          rw [hT5] at R1
          have t1 : ((t : Int) == 0) = false := by simp; omega
          have t2 : 0 < (t : Int) := by omega
          have t3 : ¬ (zs.length : Int) ≤ (t : Int) + (m : Int) := by omega
          have t4 : (t : Int) + (m : Int) < (zs.length : Int) := by omega
          have hl1 : min (zs.length : Int) ((t : Int) + (m : Int)) = (t : Int) + (m : Int) := by omega
          clear R0
          have o1 := own_empty wr wr.heap.size (Nat.le_refl _)
          have ap1 := P.apart (Nat.le_refl _) o1
          have e1 := below_alloc wr (.cells #[] 5)
          have R3 : Rd (wr.alloc (.cells #[] 5)) (.slice aT (t + m - t) (cap - t)) ((zs.drop t).take m) := by rw [Nat.add_sub_cancel_left]; exact (R1.kept bl).kept e1
          have ly : ((zs.drop t).take m).length = m := by simp; try omega
          have sy : ([] : List Nat).length + ((zs.drop t).take m).length ≤ 4000000 := by rw [ly]; simp; omega
          have sz : wr.heap.size ≤ (wr.alloc (.cells #[] 5)).heap.size := by simp
          go_wp2_with (at_builtin; refine wpList_app _ rfl (.tmp 38) (.tmp 47) rfl wr.heap.size (.slice (some ⟨wr.heap.size, 0, none⟩) 0 0) [] rfl o1 _ ((zs.drop t).take m) rfl R3 sy sz ?_)
          intro v2 w2 o2 g2
          have ap2 := P.apart (Nat.le_refl _) o2
          have P2 := (P.kept e1).byRow o1 ap1 g2
          have b2 : Below w.heap.size w w2 := (bl.alloc zl _).grown g2 (by simp; omega) (by simp [Value.ownBlock]; omega)
          have z2 := b2.size
          have o2' := o2.base zl
          obtain ⟨a2, c2, hv2⟩ := o2.form
          rw [ly] at hv2
          subst hv2
          have P3 := (P2.kept (below_alloc w2 (.cells #[.int .i64 2, .int .i64 0, .slice a2 m c2] 35))).kept (below_alloc _ (.cells #[.int .i64 2, .int .i64 0, .slice a2 m c2] 35))
          have o3 := (o2'.alloc (.cells #[.int .i64 2, .int .i64 0, .slice a2 m c2] 35)).alloc (.cells #[.int .i64 2, .int .i64 0, .slice a2 m c2] 35)
          have b3 := (b2.alloc z2 (.cells #[.int .i64 2, .int .i64 0, .slice a2 m c2] 35)).alloc (by simp; omega) (.cells #[.int .i64 2, .int .i64 0, .slice a2 m c2] 35)
          clear g2 o1 R1 R3 e1 ap1 P2 o2 o2' b2 sy sz ly
          go_wp2_with (at_builtin; refine wpList_appP _ rfl (.tmp 67) (.tmp 69) rfl w.heap.size _ qs rfl P3 (w2.heap.size + 1) 1 ⟨2, 0, .slice a2 m c2, (zs.drop t).take m⟩ rfl (by simp) (by simp) (by simp) o3 ap2 (by omega) (by simp; omega) ?_)
          intro v4 w4 P4 b4
          have bl4 := b3.trans b4
          clear P3 b3 b4 o3
          go_wp2
          go_roundw
          case rel => exact ⟨_, t + m, by go_num, by omega, P4, .inr (.inl ⟨by omega, by omega, by rw [← unhide hq3]; simp [Pc.dat]⟩), by simp; omega, bl4⟩
          case measure => simp [intOf]; omega
    · have hq2 : qs.map Pc.dat = T := by
        rcases hq with ⟨h, _⟩ | ⟨_, h, _⟩ | ⟨_, h⟩
        · omega
        · omega
        · exact h
      clear hq
      have hlt' : ¬ (t : Int) < (zs.length : Int) := by omega
      go_wp2
      go_ret
      exact ⟨_, rfl, qs, P, hq2, bl⟩
theorem spec_cut (v : Value) (zs : List Nat) (m : Int) (w : World) (hR : Rd w v zs) :
    Calls Try.prog 7 #[v, .int .i64 m] w fun e w' => CutAns w.heap.size zs m e w' ∧ Below w.heap.size w w' := by
  obtain ⟨a, cap, rfl⟩ := hR.form
  by_cases h : zs.length ≤ 24 ∧ 1 ≤ m ∧ m ≤ 8
  · by_cases h1 : (zs.length : Int) ≤ m
    · refine (spec_cut_one a cap zs m w hR h h1).mono ?_
      rintro e w1 ⟨v, qs, rfl, P, hq, b⟩
      exact ⟨⟨v, qs, rfl, P, by rw [hq, cutD, if_pos h, if_pos h1]⟩, b⟩
    · obtain ⟨k, rfl⟩ : ∃ k : Nat, m = k := ⟨m.toNat, by omega⟩
      refine (spec_cut_more a cap zs k w hR (by omega) (by omega)).mono ?_
      rintro e w1 ⟨v, qs, rfl, P, hq, b⟩
      exact ⟨⟨v, qs, rfl, P, by rw [hq, cutD, if_pos h, if_neg h1]; rfl⟩, b⟩
  · refine (spec_cut_no a zs.length cap m w h).mono ?_
    rintro e w1 ⟨v, rfl, P, b⟩
    exact ⟨⟨v, [], rfl, P, by rw [cutD, if_neg h]; rfl⟩, b⟩
end Go.Proofs.Ytaljdhcmikpmhaa
