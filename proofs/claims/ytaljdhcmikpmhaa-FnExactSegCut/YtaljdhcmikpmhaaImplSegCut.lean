/- The program's SegCut: the pieces of a message, in new memory. -/
import Derived.Test.YtaljdhcmikpmhaaPieceNew
import Derived.Test.YtaljdhcmikpmhaaBox
namespace Go.Proofs.Ytaljdhcmikpmhaa
open Go.RowKit

abbrev Dat := Int × Int × List Nat
/-- The pieces behind the first one. -/
def moreD (m : Nat) (zs : List Nat) : List Dat :=
  if _h : m = 0 ∨ zs.length ≤ m then [(3, 0, zs)] else (2, 0, zs.take m) :: moreD m (zs.drop m)
termination_by zs.length
decreasing_by simp only [List.length_drop]; omega
theorem moreD_last {m : Nat} {zs : List Nat} (h : zs.length ≤ m) : moreD m zs = [(3, 0, zs)] := by
  rw [moreD, dif_pos (.inr h)]
theorem moreD_more {m : Nat} {zs : List Nat} (h1 : 1 ≤ m) (h : m < zs.length) : moreD m zs = (2, 0, zs.take m) :: moreD m (zs.drop m) := by
  rw [moreD, dif_neg (by omega)]
/-- The pieces of a message. -/
def cutD (zs : List Nat) (m : Int) : List Dat :=
  if zs.length ≤ 24 ∧ 1 ≤ m ∧ m ≤ 8 then (if (zs.length : Int) ≤ m then [(0, zs.length, zs)] else (1, zs.length, zs.take m.toNat) :: moreD m.toNat (zs.drop m.toNat)) else []
theorem moreD_small (m : Nat) : ∀ (n : Nat) (zs : List Nat), zs.length ≤ n → Byt zs → ∀ d ∈ moreD m zs, Byt d.2.2 ∧ d.2.2.length ≤ n := by
  intro n zs hn hz d hd
  induction zs using moreD.induct (m := m) generalizing n d with
  | case1 zs h =>
    rw [moreD, dif_pos h] at hd
    simp only [List.mem_singleton] at hd
    subst hd
    exact ⟨hz, hn⟩
  | case2 zs h ih =>
    rw [moreD, dif_neg h] at hd
    rcases List.mem_cons.1 hd with rfl | hd
    · exact ⟨hz.take m, by simp; omega⟩
    · exact ih n (by simp; omega) (fun z hz' => hz z (List.mem_of_mem_drop hz')) d hd
theorem cutD_small (zs : List Nat) (m : Int) (hz : Byt zs) : ∀ d ∈ cutD zs m, Byt d.2.2 ∧ d.2.2.length ≤ 24 := by
  intro d hd
  unfold cutD at hd
  split at hd
  · rename_i h
    split at hd
    · simp only [List.mem_singleton] at hd
      subst hd
      exact ⟨hz, h.1⟩
    · rcases List.mem_cons.1 hd with rfl | hd
      · exact ⟨hz.take _, by simp; omega⟩
      · exact moreD_small _ 24 _ (by simp; omega) (fun z hz' => hz z (List.mem_of_mem_drop hz')) d hd
  · simp at hd
theorem moreD_length (m : Nat) : ∀ (n : Nat) (zs : List Nat), zs.length ≤ n → (moreD m zs).length ≤ n + 1 := by
  intro n zs hn
  induction zs using moreD.induct (m := m) generalizing n with
  | case1 zs h => rw [moreD, dif_pos h]; simp
  | case2 zs h ih =>
    rw [moreD, dif_neg h]
    have := ih (n - 1) (by simp; omega)
    simp
    omega
theorem cutD_length (zs : List Nat) (m : Int) : (cutD zs m).length ≤ 30 := by
  unfold cutD
  split
  · rename_i h
    split
    · simp
    · have := moreD_length m.toNat 24 (zs.drop m.toNat) (by simp; omega)
      simp
      omega
  · simp
/-- How many cells a slice has. -/
def lenOf : Value → Nat
  | .slice _ n _ => n
  | _ => 0
theorem lenOf_slice (a : Option Addr) (n c : Nat) : lenOf (.slice a n c) = n := rfl

set_option maxHeartbeats 1000000 in
theorem impl_cut_no (a : Option Addr) (n cap : Nat) (m : Int) (w : World) (h : ¬ (n ≤ 24 ∧ 1 ≤ m ∧ m ≤ 8)) :
    Calls Try.prog 9 #[.slice a n cap, .int .i64 m] w fun e w' => ∃ v, e = .returned v ∧ OwnP w' w.heap.size v [] ∧ Below w.heap.size w w' := by
  by_cases h1 : 24 < (n : Int)
  · go_enter Try.func9, Try.ntmps9
    go_wp2
    go_ret
    exact ⟨_, rfl, ownP_none _ _, Below.refl _ _⟩
  by_cases h2 : m < 1
  · go_enter Try.func9, Try.ntmps9
    go_wp2
    go_ret
    exact ⟨_, rfl, ownP_none _ _, Below.refl _ _⟩
  have h3 : 8 < m := by omega
  go_enter Try.func9, Try.ntmps9
  go_wp2
  go_ret
  exact ⟨_, rfl, ownP_none _ _, Below.refl _ _⟩
set_option maxHeartbeats 1000000 in
theorem impl_cut_one (a : Option Addr) (cap : Nat) (zs : List Nat) (m : Int) (w : World) (hR : Rd w (.slice a zs.length cap) zs) (h : zs.length ≤ 24 ∧ 1 ≤ m ∧ m ≤ 8) (h1 : (zs.length : Int) ≤ m) :
    Calls Try.prog 9 #[.slice a zs.length cap, .int .i64 m] w fun e w' => ∃ v qs, e = .returned v ∧ OwnP w' w.heap.size v qs ∧ qs.map Pc.dat = [(0, (zs.length : Int), zs)] ∧ Below w.heap.size w w' := by
  have h2 : ¬ 24 < (zs.length : Int) := by omega
  have h3 : ¬ m < 1 := by omega
  have h4 : ¬ 8 < m := by omega
  go_enter Try.func9, Try.ntmps9
  go_wp2_with fail
  refine (part_new _ _ _ zs _ hR (by omega)).mono ?_
  rintro e w1 ⟨v1, rfl, o1, b1⟩
  obtain ⟨a1, c1, hv1⟩ := o1.form
  have P := ownP_one w1 w.heap.size ⟨0, zs.length, v1, zs⟩ b1.size o1
  have bl := b1.alloc b1.size (.cells #[.int .i64 0, .int .i64 (zs.length : Int), v1] 35)
  subst hv1
  go_wp2
  go_ret
  exact ⟨_, _, rfl, P, rfl, bl⟩
set_option maxHeartbeats 2000000 in
theorem impl_cut_more (a : Option Addr) (cap : Nat) (zs : List Nat) (m : Nat) (w : World) (hR : Rd w (.slice a zs.length cap) zs) (h : zs.length ≤ 24 ∧ 1 ≤ m ∧ m ≤ 8) (h1 : m < zs.length) :
    Calls Try.prog 9 #[.slice a zs.length cap, .int .i64 m] w fun e w' => ∃ v qs, e = .returned v ∧ OwnP w' w.heap.size v qs ∧ qs.map Pc.dat = (1, (zs.length : Int), zs.take m) :: moreD m (zs.drop m) ∧ Below w.heap.size w w' := by
  obtain ⟨_, _, hab, hcap⟩ := hR.room
  obtain ⟨rfl, rfl⟩ : a = _ ∧ cap = _ := by simpa using hab
  clear hab
  have h2 : ¬ 24 < (zs.length : Int) := by omega
  have h3 : ¬ (m : Int) < 1 := by omega
  have h4 : ¬ 8 < (m : Int) := by omega
  have h5 : ¬ (zs.length : Int) ≤ (m : Int) := by omega
  have R1 := hR.first (n := m) (by omega)
  have R2 := hR.rest (n := m) (by omega)
  have hne : ¬ cap = m := by omega
  rw [if_neg hne] at R2
  have D : (moreD m (zs.drop m)).length ≤ 26 := by
    have := moreD_length m 24 (zs.drop m) (by simp; omega)
    omega
  obtain ⟨T, hT⟩ : ∃ T, ((1, (zs.length : Int), zs.take m) :: moreD m (zs.drop m) : List Dat) = T := ⟨_, rfl⟩
  have lT : T.length ≤ 27 := by rw [← hT]; simp; omega
  have hT' := hide hT
  rw [hT]
  clear hT
  go_enter Try.func9, Try.ntmps9
  go_wp2_with fail
  refine (part_new _ _ _ (zs.take m) _ R1 (by simp; omega)).mono ?_
  rintro e w1 ⟨v1, rfl, o1, b1⟩
  obtain ⟨a1, c1, hv1⟩ := o1.form
  rw [show (zs.take m).length = m by simp; omega] at hv1
  have P := ownP_one w1 w.heap.size ⟨1, zs.length, v1, zs.take m⟩ b1.size o1
  have bl := b1.alloc b1.size (.cells #[.int .i64 1, .int .i64 (zs.length : Int), v1] 35)
  subst hv1
  clear o1 b1
  obtain ⟨aR, hR5⟩ : ∃ r, (a.map fun x => x.add m) = r := ⟨_, rfl⟩
  rw [hR5] at R2
  go_wp2_with fail
  go_loopw [5, 6] (fun l y wr => ∃ qs ys aY cY, y = .slice aY ys.length cY ∧ OwnP wr w.heap.size l qs ∧ Rd w (.slice aY ys.length cY) ys ∧ qs.map Pc.dat ++ moreD m ys = T ∧ ys.length ≤ 24 ∧ ys.length ≤ cY ∧ Below w.heap.size w wr) (fun _ y _ => lenOf y)
  case atStart => exact ⟨_, zs.drop m, aR, cap - m, by simp, P, by simpa using R2, by rw [← unhide hT']; rfl, by simp; omega, by simp; omega, bl⟩
  case round =>
    clear P bl R1 R2 hR5
    obtain ⟨qs, ys, aY, cY, rfl, P, RY, hq, hy, hcY, bl⟩ := hrel
    have lq : qs.length ≤ 27 := by
      have := congrArg List.length hq
      simp at this
      omega
    have hq' := hide hq
    clear hq
    have zl := bl.size
    by_cases hlt : m < ys.length
    · have Y1 := RY.first (n := m) (by omega)
      have Y2 := RY.rest (n := m) (by omega)
      have hne' : ¬ cY = m := by omega
      rw [if_neg hne'] at Y2
      have hlt' : (m : Int) < (ys.length : Int) := by omega
      go_wp2_with fail
      refine (part_new _ _ _ (ys.take m) _ (Y1.kept bl) (by simp; omega)).mono ?_
      rintro e w2 ⟨v2, rfl, o2, b2⟩
      have ap := P.apart (Nat.le_refl _) o2
      obtain ⟨a2, c2, hv2⟩ := o2.form
      rw [show (ys.take m).length = m by simp; omega] at hv2
      have z2 := b2.size
      have P2 := (P.kept b2).kept (below_alloc w2 (.cells #[.int .i64 2, .int .i64 0, v2] 35))
      have o3 := (o2.base zl).alloc (.cells #[.int .i64 2, .int .i64 0, v2] 35)
      have bl2 := (bl.trans (b2.mono zl)).alloc (Nat.le_trans zl z2) (.cells #[.int .i64 2, .int .i64 0, v2] 35)
      subst hv2
      clear o2
      go_wp2_with (at_builtin; refine wpList_appP _ rfl (.tmp 41) (.tmp 46) rfl w.heap.size _ qs rfl P2 w2.heap.size 1 ⟨2, 0, .slice a2 m c2, ys.take m⟩ rfl (by simp) (by simp) (by simp) o3 ap (by omega) (by simp; omega) ?_)
      intro v4 w4 P4 b4
      have bl4 := bl2.trans b4
      clear P P2 o3 bl bl2 b4 b2
      obtain ⟨aR, hR5⟩ : ∃ r, (aY.map fun x => x.add m) = r := ⟨_, rfl⟩
      rw [hR5] at Y2
      go_wp2
      go_roundw
      case rel => exact ⟨_, ys.drop m, aR, cY - m, by simp, P4, by simpa using Y2, by rw [← unhide hq', moreD_more h.2.1 hlt]; simp [Pc.dat], by simp; omega, by simp; omega, bl4⟩
      case measure => simp [lenOf]; omega
    · have hlt' : ¬ (m : Int) < (ys.length : Int) := by omega
      go_wp2_with fail
      refine (part_new _ _ _ ys _ (RY.kept bl) (by omega)).mono ?_
      rintro e w2 ⟨v2, rfl, o2, b2⟩
      have ap := P.apart (Nat.le_refl _) o2
      obtain ⟨a2, c2, hv2⟩ := o2.form
      have z2 := b2.size
      have P2 := (P.kept b2).kept (below_alloc w2 (.cells #[.int .i64 3, .int .i64 0, v2] 35))
      have o3 := (o2.base zl).alloc (.cells #[.int .i64 3, .int .i64 0, v2] 35)
      have bl2 := (bl.trans (b2.mono zl)).alloc (Nat.le_trans zl z2) (.cells #[.int .i64 3, .int .i64 0, v2] 35)
      subst hv2
      clear o2
      go_wp2_with (at_builtin; refine wpList_appP _ rfl (.tmp 51) (.tmp 54) rfl w.heap.size _ qs rfl P2 w2.heap.size 1 ⟨3, 0, .slice a2 ys.length c2, ys⟩ rfl (by simp) (by simp) (by simp) o3 ap (by omega) (by simp; omega) ?_)
      intro v4 w4 P4 b4
      have bl4 := bl2.trans b4
      go_wp2
      go_ret
      exact ⟨_, _, rfl, P4, by rw [← unhide hq', moreD_last (by omega)]; simp [Pc.dat], bl4⟩
/-- Pieces as the document says, in new memory. -/
def CutAns (B : Nat) (zs : List Nat) (m : Int) (e : Ending) (w : World) : Prop := ∃ v qs, e = .returned v ∧ OwnP w B v qs ∧ qs.map Pc.dat = cutD zs m
theorem impl_cut (v : Value) (zs : List Nat) (m : Int) (w : World) (hR : Rd w v zs) :
    Calls Try.prog 9 #[v, .int .i64 m] w fun e w' => CutAns w.heap.size zs m e w' ∧ Below w.heap.size w w' := by
  obtain ⟨a, cap, rfl⟩ := hR.form
  by_cases h : zs.length ≤ 24 ∧ 1 ≤ m ∧ m ≤ 8
  · by_cases h1 : (zs.length : Int) ≤ m
    · refine (impl_cut_one a cap zs m w hR h h1).mono ?_
      rintro e w1 ⟨v, qs, rfl, P, hq, b⟩
      exact ⟨⟨v, qs, rfl, P, by rw [hq, cutD, if_pos h, if_pos h1]⟩, b⟩
    · obtain ⟨k, rfl⟩ : ∃ k : Nat, m = k := ⟨m.toNat, by omega⟩
      refine (impl_cut_more a cap zs k w hR (by omega) (by omega)).mono ?_
      rintro e w1 ⟨v, qs, rfl, P, hq, b⟩
      exact ⟨⟨v, qs, rfl, P, by rw [hq, cutD, if_pos h, if_neg h1]; rfl⟩, b⟩
  · refine (impl_cut_no a zs.length cap m w h).mono ?_
    rintro e w1 ⟨v, rfl, P, b⟩
    exact ⟨⟨v, [], rfl, P, by rw [cutD, if_neg h]; rfl⟩, b⟩
end Go.Proofs.Ytaljdhcmikpmhaa
