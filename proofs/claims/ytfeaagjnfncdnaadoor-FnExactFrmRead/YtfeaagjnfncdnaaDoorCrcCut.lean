/- CrcCut of the specification and of the program: bytes without their sum, or none. -/
import Derived.Test.YtfeaagjnfncdnaaDoorAppend
import Derived.Test.YtfeaagjnfncdnaaDoorCrcOf
namespace Go.Proofs.YtfeaagjnfncdnaaDoor
open Go.RowKit

/-- What is cut of bytes, if it is. -/
def cutB (zs : List Nat) : Bool := decide (2 ≤ zs.length ∧ CrcM.crc (zs.take (zs.length - 2)) = zs.getD (zs.length - 2) 0 + zs.getD (zs.length - 1) 0 * 256)
def cutL (zs : List Nat) : List Nat := if cutB zs = true then zs.take (zs.length - 2) else []
theorem cutL_byt {zs : List Nat} (h : Byt zs) : Byt (cutL zs) := by
  unfold cutL
  split
  · exact h.take _
  · intro z hz; simp at hz
theorem cutL_length (zs : List Nat) : (cutL zs).length ≤ zs.length := by
  unfold cutL
  split
  · simp
  · simp
theorem cutB_short {zs : List Nat} (h : zs.length < 2) : cutB zs = false := by simp [cutB]; omega
set_option maxRecDepth 100000 in
set_option maxHeartbeats 2000000 in
theorem spec_cut_short (v : Value) (zs : List Nat) (w : World) (hv : Rd w v zs) (hs : zs.length < 2) :
    Calls Tryd.prog 12 #[v] w fun e w' => ∃ v', e = .returned (.tuple #[v', .bool (cutB zs)]) ∧ Own w' w.heap.size v' (cutL zs) ∧ Below w.heap.size w w' := by
  have hB := cutB_short hs
  have hL : cutL zs = [] := by unfold cutL; rw [hB]; rfl
  rw [hL, hB]
  obtain ⟨a, cap, rfl⟩ : ∃ a cap, v = .slice a zs.length cap := by
    rcases hv.2.2 with ⟨rfl, a, c, rfl, _⟩ | ⟨b, off, cap, rfl, _⟩
    · exact ⟨_, _, rfl⟩
    · exact ⟨_, _, rfl⟩
  have hneg : (zs.length : Int) - 2 < 0 := by omega
  have hd : decide ((zs.length : Int) - 2 < 0) = true := by simpa using hneg
  clear hv hL hB
  go_enter Tryd.func12, Tryd.ntmps12
  go_wp2
  go_quiet (fail)
  go_wp2
  go_ret2
  exact ⟨_, rfl, own_empty w _ (Nat.le_refl _), below_drewN ((Below.refl _ _).alloc (Nat.le_refl _) _) _⟩

theorem cutB_eq (ys : List Nat) (p q : Nat) : cutB (ys ++ [p, q]) = decide (CrcM.crc ys = p + q * 256) := by
  simp [cutB]
theorem cutL_eq (ys : List Nat) (p q : Nat) : cutL (ys ++ [p, q]) = if CrcM.crc ys = p + q * 256 then ys else [] := by
  unfold cutL
  rw [cutB_eq]
  by_cases h : CrcM.crc ys = p + q * 256
  · simp [h]
  · simp [h]

set_option maxRecDepth 100000 in
set_option maxHeartbeats 2000000 in
theorem spec_cut_long (v : Value) (ys : List Nat) (p q : Nat) (w : World) (hv : Rd w v (ys ++ [p, q])) :
    Calls Tryd.prog 12 #[v] w fun e w' => ∃ v', e = .returned (.tuple #[v', .bool (cutB (ys ++ [p, q]))]) ∧ Own w' w.heap.size v' (cutL (ys ++ [p, q])) ∧ Below w.heap.size w w' := by
  rw [cutB_eq, cutL_eq]
  have hll : (ys ++ [p, q]).length = ys.length + 2 := by simp
  have hby := hv.1
  have hp : p < 256 := hby p (by simp)
  have hq : q < 256 := hby q (by simp)
  have hlen := hv.2.1
  rcases hv.2.2 with ⟨h, _⟩ | ⟨b, off, cap, rfl, hcap, hm, hb, hc⟩
  · simp at h
  rw [hll] at hcap hlen hc hv ⊢
  have hr0 := hv.head ys.length hll.symm (by omega) (by omega)
  rw [List.take_left' rfl] at hr0
  have c1 : w.cell? ⟨b, off + ys.length, none⟩ = some (.int .u8 (p : Int)) := by rw [hc _ (by omega)]; simp
  have c2 : w.cell? ⟨b, off + (ys.length + 1), none⟩ = some (.int .u8 (q : Int)) := by rw [hc _ (by omega)]; simp
  have hcl := CrcM.crc_lt ys (fun z hz => hby z (by simp [hz]))
  clear hc hv
  have h0 : ¬ ((ys.length + 2 : Nat) : Int) - 2 < 0 := by omega
  have e2 : ((ys.length + 2 : Nat) : Int) - 2 = (ys.length : Int) := by omega
  have hd : decide ((ys.length : Int) < 0) = false := by simp
  have hcap' : ys.length ≤ cap := by omega
  have i1 : (ys.length : Int) < (ys.length : Int) + 2 := by omega
  have i2 : (ys.length : Int) + 1 < (ys.length : Int) + 2 := by omega
  by_cases hk : CrcM.crc ys = p + q * 256
  · rw [decide_eq_true hk, if_pos hk]
    go_enter Tryd.func12, Tryd.ntmps12
    go_wp2
    go_quiet ((go_at_call 19; exact Calls.quiet_of_same (spec_of _ ys _ hr0)))
    have o0 := own_empty w w.heap.size (Nat.le_refl _)
    have hr1 := hr0.alloc (.cells #[] 5)
    go_wp2_with (at_builtin; refine wpList_app _ rfl (.tmp 31) (.tmp 34) rfl w.heap.size _ [] rfl (show Own _ _ _ _ from o0) _ ys rfl (show Rd _ _ _ from hr1) (by simp; omega) (by simp) ?_)
    intro v1 w1 o1 g1
    have bl1 : Below w.heap.size w w1 := (below_drewN ((Below.refl _ _).alloc (Nat.le_refl _) _) _).grown g1 (by simp) (by simp [Value.ownBlock])
    clear g1 hr1 o0
    go_wp2
    go_ret2
    exact ⟨_, rfl, o1, bl1⟩
  · have hk' : ((CrcM.crc ys : Int) != (p : Int) + (q : Int) * 256) = true := by simp; omega
    rw [decide_eq_false hk, if_neg hk]
    go_enter Tryd.func12, Tryd.ntmps12
    go_wp2
    go_quiet ((go_at_call 19; exact Calls.quiet_of_same (spec_of _ ys _ hr0)))
    go_wp2
    go_ret2
    exact ⟨_, rfl, own_empty w _ (Nat.le_refl _), below_drewN ((Below.refl _ _).alloc (Nat.le_refl _) _) _⟩

theorem two_last {zs : List Nat} (h : 2 ≤ zs.length) : ∃ ys p q, zs = ys ++ [p, q] := by
  refine ⟨zs.take (zs.length - 2), zs[zs.length - 2], zs[zs.length - 1], ?_⟩
  have e : zs = zs.take (zs.length - 2) ++ zs.drop (zs.length - 2) := (List.take_append_drop _ _).symm
  have e2 : zs.drop (zs.length - 2) = [zs[zs.length - 2], zs[zs.length - 1]] := by
    rw [List.drop_eq_getElem_cons (by omega), show zs.length - 2 + 1 = zs.length - 1 from by omega, List.drop_eq_getElem_cons (by omega), show zs.length - 1 + 1 = zs.length from by omega, List.drop_length]
  rw [e2] at e
  exact e
theorem spec_cut (v : Value) (zs : List Nat) (w : World) (hv : Rd w v zs) :
    Calls Tryd.prog 12 #[v] w fun e w' => ∃ v', e = .returned (.tuple #[v', .bool (cutB zs)]) ∧ Own w' w.heap.size v' (cutL zs) ∧ Below w.heap.size w w' := by
  by_cases h : zs.length < 2
  · exact spec_cut_short v zs w hv h
  · obtain ⟨ys, p, q, rfl⟩ := two_last (show 2 ≤ zs.length by omega)
    exact spec_cut_long v ys p q w hv

set_option maxRecDepth 100000 in
set_option maxHeartbeats 2000000 in
theorem impl_cut_short (v : Value) (zs : List Nat) (w : World) (hv : Rd w v zs) (hs : zs.length < 2) :
    Calls Tryd.prog 22 #[v] w fun e w' => ∃ v', e = .returned (.tuple #[v', .bool (cutB zs)]) ∧ Own w' w.heap.size v' (cutL zs) ∧ Below w.heap.size w w' := by
  have hB := cutB_short hs
  have hL : cutL zs = [] := by unfold cutL; rw [hB]; rfl
  rw [hL, hB]
  obtain ⟨a, cap, rfl⟩ : ∃ a cap, v = .slice a zs.length cap := by
    rcases hv.2.2 with ⟨rfl, a, c, rfl, _⟩ | ⟨b, off, cap, rfl, _⟩
    · exact ⟨_, _, rfl⟩
    · exact ⟨_, _, rfl⟩
  have hneg : (zs.length : Int) - 2 < 0 := by omega
  clear hv hL hB
  go_enter Tryd.func22, Tryd.ntmps22
  go_wp2
  go_ret2
  exact ⟨_, rfl, own_none w _, Below.refl _ _⟩

set_option maxRecDepth 100000 in
set_option maxHeartbeats 2000000 in
theorem impl_cut_long (v : Value) (ys : List Nat) (p q : Nat) (w : World) (hv : Rd w v (ys ++ [p, q])) :
    Calls Tryd.prog 22 #[v] w fun e w' => ∃ v', e = .returned (.tuple #[v', .bool (cutB (ys ++ [p, q]))]) ∧ Own w' w.heap.size v' (cutL (ys ++ [p, q])) ∧ Below w.heap.size w w' := by
  rw [cutB_eq, cutL_eq]
  have hll : (ys ++ [p, q]).length = ys.length + 2 := by simp
  have hby := hv.1
  have hp : p < 256 := hby p (by simp)
  have hq : q < 256 := hby q (by simp)
  have hlen := hv.2.1
  rcases hv.2.2 with ⟨h, _⟩ | ⟨b, off, cap, rfl, hcap, hm, hb, hc⟩
  · simp at h
  rw [hll] at hcap hlen hc hv ⊢
  have hr0 := hv.head ys.length hll.symm (by omega) (by omega)
  rw [List.take_left' rfl] at hr0
  have c1 : w.cell? ⟨b, off + ys.length, none⟩ = some (.int .u8 (p : Int)) := by rw [hc _ (by omega)]; simp
  have c2 : w.cell? ⟨b, off + (ys.length + 1), none⟩ = some (.int .u8 (q : Int)) := by rw [hc _ (by omega)]; simp
  have hcl := CrcM.crc_lt ys (fun z hz => hby z (by simp [hz]))
  clear hc hv
  have h0 : ¬ ((ys.length + 2 : Nat) : Int) - 2 < 0 := by omega
  have e2 : ((ys.length + 2 : Nat) : Int) - 2 = (ys.length : Int) := by omega
  have hd : decide ((ys.length : Int) < 0) = false := by simp
  have hcap' : ys.length ≤ cap := by omega
  have i1 : (ys.length : Int) < (ys.length : Int) + 2 := by omega
  have i2 : (ys.length : Int) + 1 < (ys.length : Int) + 2 := by omega
  by_cases hk : CrcM.crc ys = p + q * 256
  · rw [decide_eq_true hk, if_pos hk]
    go_enter Tryd.func22, Tryd.ntmps22
    go_wp2
    go_quiet (fail)
    go_wp2_with fail
    have bq : Below w.heap.size w (w.drewN nq) := below_drew nq
    refine (impl_of _ ys _ (hr0.kept bq)).mono ?_
    rintro e w1 ⟨rfl, b1⟩
    have bl1 := bchain bq b1
    have hr1 := hr0.kept bl1
    have o0 := own_none w1 w.heap.size
    have hz1 := bl1.size
    go_wp2_with (at_builtin; refine wpList_app _ rfl (.const (.slice none 0 0)) (.tmp 32) rfl w.heap.size _ [] rfl o0 _ ys rfl hr1 (by simp; omega) (by omega) ?_)
    intro v1 w2 o1 g1
    have bl2 : Below w.heap.size w w2 := bl1.grown g1 hz1 (by simp [Value.ownBlock])
    clear g1 hr1 o0
    go_wp2
    go_ret2
    exact ⟨_, rfl, o1, bl2⟩
  · have hk' : ((CrcM.crc ys : Int) != (p : Int) + (q : Int) * 256) = true := by simp; omega
    rw [decide_eq_false hk, if_neg hk]
    go_enter Tryd.func22, Tryd.ntmps22
    go_wp2
    go_quiet (fail)
    go_wp2_with fail
    have bq : Below w.heap.size w (w.drewN nq) := below_drew nq
    refine (impl_of _ ys _ (hr0.kept bq)).mono ?_
    rintro e w1 ⟨rfl, b1⟩
    have bl1 := bchain bq b1
    go_wp2
    go_ret2
    exact ⟨_, rfl, own_none w1 _, bl1⟩
theorem impl_cut (v : Value) (zs : List Nat) (w : World) (hv : Rd w v zs) :
    Calls Tryd.prog 22 #[v] w fun e w' => ∃ v', e = .returned (.tuple #[v', .bool (cutB zs)]) ∧ Own w' w.heap.size v' (cutL zs) ∧ Below w.heap.size w w' := by
  by_cases h : zs.length < 2
  · exact impl_cut_short v zs w hv h
  · obtain ⟨ys, p, q, rfl⟩ := two_last (show 2 ≤ zs.length by omega)
    exact impl_cut_long v ys p q w hv
end Go.Proofs.YtfeaagjnfncdnaaDoor
