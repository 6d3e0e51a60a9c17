/- Pieces of which one is missing, or comes twice: no message comes. -/
import Derived.Test.YtpghbdigiplbiaaMa
import Derived.Test.YtpghbdigiplbiaaMb
import Derived.Test.YtpghbdigiplbiaaMc
import Derived.Test.YtpghbdigiplbiaaMd
namespace Go.Proofs.Ytpghbdigiplbiaa
open Go Go.RowKit
theorem putA_cases (m : Int) (acc : List Nat) (d : Dat) : stA m acc d = 0 ∨ stA m acc d = putC m acc.length d.1 d.2.2.length := by
  unfold stA putA
  split
  · exact .inr rfl
  · exact .inl rfl
theorem feed_skip {m : Int} {acc : List Nat} {d : Dat} {ds : List Dat} (h2 : stA m acc d ≠ 2) (h1 : stA m acc d ≠ 1) : feedF m acc (d :: ds) = feedF 0 [] ds := by
  obtain ⟨e1, e2⟩ := st_bad h1
  simp only [feedF, e1, e2]
  rw [if_neg h2]
  rfl
theorem feed_go {m : Int} {acc : List Nat} {d : Dat} {ds : List Dat} (h1 : stA m acc d = 1) : feedF m acc (d :: ds) = feedF (stN m acc d) (stG m acc d) ds := by
  simp only [feedF]
  rw [if_neg (by omega)]
  rfl
theorem feed_zero (m : Nat) (r : List Nat) : feedF 0 [] (moreD m r) = [] := by
  have key : ∀ (g : Int) (ys : List Nat), g = 2 ∨ g = 3 → stA 0 [] (g, 0, ys) ≠ 2 ∧ stA 0 [] (g, 0, ys) ≠ 1 := by
    intro g ys hg
    have e : putC 0 ([] : List Nat).length g ys.length = 3 := by
      simp only [putC, if_true]
      rw [if_neg (by omega), if_neg (by omega)]
    rcases putA_cases 0 [] (g, 0, ys) with h | h
    · omega
    · simp only at h
      omega
  induction r using moreD.induct (m := m) with
  | case1 r h =>
    rw [moreD, dif_pos h]
    obtain ⟨h1, h2⟩ := key 3 r (.inr rfl)
    rw [feed_skip h1 h2]
    rfl
  | case2 r h ih =>
    rw [moreD, dif_neg h]
    obtain ⟨h1, h2⟩ := key 2 (r.take m) (.inl rfl)
    rw [feed_skip h1 h2]
    exact ih
theorem feed_off (m : Nat) (L : Int) (hL : L ≠ 0) (r acc : List Nat) (h : ((acc.length + r.length : Nat) : Int) ≠ L) : feedF L acc (moreD m r) = [] := by
  induction r using moreD.induct (m := m) generalizing acc with
  | case1 r hm =>
    rw [moreD, dif_pos hm]
    have h2 : stA L acc (3, 0, r) ≠ 2 ∧ stA L acc (3, 0, r) ≠ 1 := by
      rcases putA_cases L acc (3, 0, r) with e | e
      · omega
      · simp only [putC] at e
        rw [if_neg hL, if_neg (by simp), if_neg (by intro hh; exact h hh.2)] at e
        omega
    rw [feed_skip h2.1 h2.2]
    rfl
  | case2 r hm ih =>
    rw [moreD, dif_neg hm]
    have hlt : m < r.length := by omega
    by_cases h1 : stA L acc (2, 0, r.take m) = 1
    · rw [feed_go h1]
      have e := h1
      unfold stA at e
      have e1 : stN L acc (2, 0, r.take m) = L := by rw [stN, putN, if_pos e, if_neg hL]
      have e2 : stG L acc (2, 0, r.take m) = acc ++ r.take m := by rw [stG, putG, if_pos e]
      rw [e1, e2]
      refine ih _ ?_
      simp only [List.length_append, List.length_take, List.length_drop]
      intro hh
      apply h
      rw [← hh]
      congr 1
      omega
    · have h2 : stA L acc (2, 0, r.take m) ≠ 2 := by
        rcases putA_cases L acc (2, 0, r.take m) with e | e
        · omega
        · simp only [putC] at e
          rw [if_neg hL] at e
          split at e
          · omega
          · rw [if_neg (by simp)] at e
            omega
      rw [feed_skip h2 h1]
      exact feed_zero m _
theorem cut_reach {zs : List Nat} {m : Int} (hc : cutB zs.length m = true) : ∀ k, k < (cutD zs m).length → ∃ j acc, Cut zs m k j acc ∧ ∀ rest, feedF 0 [] ((cutD zs m).take k ++ rest) = feedF j acc rest
  | 0, _ => ⟨0, [], Cut.zero zs m, fun rest => by simp⟩
  | k + 1, hk => by
    obtain ⟨j, acc, hcut, hf⟩ := cut_reach hc k (by omega)
    obtain ⟨d, hd, _, _, hnext, hmore, _⟩ := hcut.step hc (by omega)
    refine ⟨_, _, hnext, fun rest => ?_⟩
    have e : (cutD zs m).take (k + 1) = (cutD zs m).take k ++ [d] := by rw [List.take_add_one, hd]; rfl
    rw [e, List.append_assoc, hf, List.cons_append, List.nil_append, feed_go (hmore hk).1]
/-- What a place of the pieces looks like, and what comes behind it. -/
theorem cut_place {zs : List Nat} {m : Int} {k : Nat} {j : Int} {acc : List Nat} (hc : cutB zs.length m = true) (h : Cut zs m k j acc) (hk : k < (cutD zs m).length) :
    (k = 0 ∧ j = 0 ∧ acc = [] ∧ ((cutD zs m).drop 0 = [(0, (zs.length : Int), zs)] ∨ ∃ r, (cutD zs m).drop 0 = (1, (zs.length : Int), zs.take m.toNat) :: moreD m.toNat r ∧ m < (zs.length : Int))) ∨
    (∃ r, (cutD zs m).drop k = moreD m.toNat r ∧ r ≠ [] ∧ acc ++ r = zs ∧ 1 ≤ acc.length ∧ j = (zs.length : Int)) := by
  obtain ⟨pre, suf, e, hp, hh⟩ := h
  have hd : (cutD zs m).drop k = suf := by rw [e, ← hp]; simp
  rcases hh with ⟨rfl, rfl, rfl⟩ | ⟨rfl, _⟩ | ⟨r, hs, hr, hz, ha, rfl⟩
  · refine .inl ⟨rfl, rfl, rfl, ?_⟩
    by_cases hl : (zs.length : Int) ≤ m
    · exact .inl (by rw [List.drop_zero]; exact cut_one hc hl)
    · exact .inr ⟨_, by rw [List.drop_zero]; exact cut_many hc hl, by omega⟩
  · have hlen := congrArg List.length e
    rw [List.length_append, hp, List.length_nil] at hlen
    omega
  · exact .inr ⟨r, by rw [hd, hs], hr, hz, ha, rfl⟩
theorem feed_lost {zs : List Nat} {m : Int} (hc : cutB zs.length m = true) {k : Nat} (hk : k < (cutD zs m).length) : feedF 0 [] ((cutD zs m).take k ++ (cutD zs m).drop (k + 1)) = [] := by
  obtain ⟨h1, h2, h3⟩ := cut_yes hc
  obtain ⟨j, acc, hcut, hf⟩ := cut_reach hc k hk
  rw [hf]
  have htl : (cutD zs m).drop (k + 1) = ((cutD zs m).drop k).drop 1 := by rw [List.drop_drop]
  rw [htl]
  rcases cut_place hc hcut hk with ⟨rfl, rfl, rfl, h | ⟨r, h, _⟩⟩ | ⟨r, h, hr, hz, ha, rfl⟩
  · rw [h]; rfl
  · rw [h]; exact feed_zero _ _
  · rw [h]
    have hl : 1 ≤ r.length := List.length_pos_iff.2 hr
    have hzl := congrArg List.length hz
    rw [List.length_append] at hzl
    by_cases hm : r.length ≤ m.toNat
    · rw [moreD_last hm]; rfl
    · rw [moreD_more (by omega) (by omega)]
      refine feed_off m.toNat _ (by omega) _ _ ?_
      simp only [List.length_drop]
      omega
theorem feed_twice {zs : List Nat} {m : Int} (hc : cutB zs.length m = true) {k : Nat} (hk : k < (cutD zs m).length) {d : Dat} (hd : (cutD zs m)[k]? = some d) (hs : d.1 = 1 ∨ d.1 = 2) : feedF 0 [] ((cutD zs m).take (k + 1) ++ (cutD zs m).drop k) = [] := by
  obtain ⟨h1, h2, h3⟩ := cut_yes hc
  obtain ⟨j, acc, hcut, hf⟩ := cut_reach hc k hk
  have e : (cutD zs m).take (k + 1) = (cutD zs m).take k ++ [d] := by rw [List.take_add_one, hd]; rfl
  have hdr : (cutD zs m).drop k = d :: (cutD zs m).drop (k + 1) := by
    obtain ⟨hk', rfl⟩ := List.getElem?_eq_some_iff.1 hd
    exact List.drop_eq_getElem_cons hk'
  rw [e, List.append_assoc, hf, List.cons_append, List.nil_append]
  rcases cut_place hc hcut hk with ⟨rfl, rfl, rfl, h | ⟨r, h, hlt⟩⟩ | ⟨r, h, hr, hz, ha, rfl⟩
  · rw [h] at hdr
    obtain ⟨rfl, _⟩ := List.cons.inj hdr
    simp at hs
  · have hdr' := hdr
    rw [h] at hdr'
    obtain ⟨rfl, htl⟩ := List.cons.inj hdr'
    rw [h]
    have ht : (zs.take m.toNat).length = m.toNat := by simp; omega
    obtain ⟨q1, q2, q3⟩ := st_start (L := (zs.length : Int)) (ys := zs.take m.toNat) (by rw [ht]; exact piece1 (by omega) (by omega) (by omega) h1)
    rw [feed_go q1, q2, q3]
    have hx : stA (zs.length : Int) (zs.take m.toNat) (1, (zs.length : Int), zs.take m.toNat) ≠ 2 ∧ stA (zs.length : Int) (zs.take m.toNat) (1, (zs.length : Int), zs.take m.toNat) ≠ 1 := by
      rcases putA_cases (zs.length : Int) (zs.take m.toNat) (1, (zs.length : Int), zs.take m.toNat) with e | e
      · omega
      · simp only [putC] at e
        rw [if_neg (by omega), if_neg (by simp), if_neg (by simp)] at e
        omega
    rw [feed_skip hx.1 hx.2]
    exact feed_zero _ _
  · have hl : 1 ≤ r.length := List.length_pos_iff.2 hr
    have hzl := congrArg List.length hz
    rw [List.length_append] at hzl
    have hdr' := hdr
    rw [h] at hdr'
    by_cases hm : r.length ≤ m.toNat
    · rw [moreD_last hm] at hdr'
      obtain ⟨rfl, _⟩ := List.cons.inj hdr'
      simp at hs
    · rw [moreD_more (by omega) (by omega)] at hdr'
      obtain ⟨rfl, _⟩ := List.cons.inj hdr'
      have ht : (r.take m.toNat).length = m.toNat := by simp; omega
      obtain ⟨q1, q2, q3⟩ := st_more (L := (zs.length : Int)) (acc := acc) (ys := r.take m.toNat) (joinL (by omega) (by omega) ha (by omega)) (by omega) (piece2 (by omega) (by omega)).1 (by omega)
      rw [feed_go q1, q2, q3, h]
      refine feed_off m.toNat _ (by omega) _ _ ?_
      simp only [List.length_append, ht]
      omega
/-- What has come stays small. -/
theorem stG_small {m : Int} {acc : List Nat} {d : Dat} (ha : Byt acc) (hd : Byt d.2.2) : Byt (stG m acc d) ∧ (stG m acc d).length ≤ 40 ∧ Byt (stM m acc d) := by
  have hb : Byt (acc ++ d.2.2) := fun x hx => by
    rcases List.mem_append.1 hx with h | h
    · exact ha x h
    · exact hd x h
  have h0 : Byt ([] : List Nat) := fun x hx => by cases hx
  refine ⟨?_, ?_, ?_⟩
  · unfold stG putG
    split
    · exact hb
    · exact h0
  · unfold stG putG
    split
    · rename_i h
      unfold putA at h
      split at h
      · rename_i hh
        simp only [Bool.and_eq_true] at hh
        have h1 := joinB_small hh.1
        have h2 := pieceB_small hh.2
        rw [List.length_append]
        omega
      · cases h
    · simp
  · unfold stM putM
    split
    · exact hb
    · exact h0
end Go.Proofs.Ytpghbdigiplbiaa
