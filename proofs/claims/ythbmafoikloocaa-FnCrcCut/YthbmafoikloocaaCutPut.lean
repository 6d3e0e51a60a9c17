/- What is put is cut again, what is cut had its sum put, and with one byte turned nothing is cut: plain lists. -/
import Derived.Test.YthbmafoikloocaaCrcPut
import Derived.Test.YthbmafoikloocaaCrcCut
namespace Go.Proofs.Ythbmafoikloocaa
open Go.RowKit

theorem cut_put_B {b : List Nat} (h : Byt b) : cutB (putL b) = true := by
  have := CrcM.crc_lt b h
  rw [putL, cutB_eq]
  simp
  omega
theorem cut_put_L {b : List Nat} (h : Byt b) : cutL (putL b) = b := by
  have := CrcM.crc_lt b h
  rw [putL, cutL_eq, if_pos (by omega)]
theorem put_cut {c : List Nat} (hb : Byt c) (h : cutB c = true) : putL (cutL c) = c := by
  by_cases hl : c.length < 2
  · rw [cutB_short hl] at h; simp at h
  · obtain ⟨ys, p, q, rfl⟩ := two_last (show 2 ≤ c.length by omega)
    have hp : p < 256 := hb p (by simp)
    have hq : q < 256 := hb q (by simp)
    rw [cutB_eq] at h
    have e := of_decide_eq_true h
    rw [cutL_eq, if_pos e, putL, e]
    congr 2
    · omega
    · congr 1; omega
namespace CrcM
theorem fold_inj (l : List Nat) : ∀ {s t : Nat}, s < 65536 → t < 65536 → (∀ b ∈ l, b < 256) → l.foldl stp s = l.foldl stp t → s = t := by
  induction l with
  | nil => intro s t _ _ _ h; exact h
  | cons a l ih =>
    intro s t hs ht hl h
    have ha : a < 256 := hl a (by simp)
    exact stp_inj_left hs ht ha (ih (stp_lt hs ha) (stp_lt ht ha) (fun b hb => hl b (by simp [hb])) h)
theorem crc_set {l : List Nat} (h : ∀ b ∈ l, b < 256) {i x : Nat} (hi : i < l.length) (hx : x < 256) (hne : x ≠ l.getD i 0) : crc (l.set i x) ≠ crc l := by
  intro e
  have e1 : l = l.take i ++ l.getD i 0 :: l.drop (i + 1) := by
    simp [hi]
  have e2 : l.set i x = l.take i ++ x :: l.drop (i + 1) := by
    rw [List.set_eq_take_append_cons_drop, if_pos hi]
  have hd : l.getD i 0 < 256 := by
    rw [List.getD_eq_getElem?_getD, List.getElem?_eq_getElem hi]; exact h _ (List.getElem_mem hi)
  have ht : (l.take i).foldl stp 0 < 65536 := crc_lt (l.take i) (fun b hb => h b (List.mem_of_mem_take hb))
  unfold crc at e
  rw [e2] at e
  conv at e => rhs; rw [e1]
  simp only [List.foldl_append, List.foldl_cons] at e
  have := fold_inj (l.drop (i + 1)) (stp_lt ht hx) (stp_lt ht hd) (fun b hb => h b (List.mem_of_mem_drop hb)) e
  exact hne (stp_inj_right ht hx hd this)
end CrcM
theorem cut_bent {b : List Nat} (h : Byt b) {i x : Nat} (hi : i < (putL b).length) (hx : x < 256) (hne : x ≠ (putL b).getD i 0) : cutB ((putL b).set i x) = false := by
  have hc := CrcM.crc_lt b h
  rw [putL_length] at hi
  by_cases h1 : i < b.length
  · have e : (putL b).set i x = b.set i x ++ [CrcM.crc b % 256, CrcM.crc b / 256] := by rw [putL, List.set_append, if_pos h1]
    have hne' : x ≠ b.getD i 0 := by
      intro e2
      apply hne
      rw [e2, putL, List.getD_eq_getElem?_getD, List.getD_eq_getElem?_getD, List.getElem?_append_left h1]
    rw [e, cutB_eq]
    have := CrcM.crc_set h h1 hx hne'
    simp
    omega
  · by_cases h2 : i = b.length
    · subst h2
      have e : (putL b).set b.length x = b ++ [x, CrcM.crc b / 256] := by rw [putL, List.set_append, if_neg (by omega)]; simp
      have hne' : x ≠ CrcM.crc b % 256 := by
        intro e2
        apply hne
        rw [putL, e2]
        simp
      rw [e, cutB_eq]
      simp
      omega
    · have h3 : i = b.length + 1 := by omega
      subst h3
      have e : (putL b).set (b.length + 1) x = b ++ [CrcM.crc b % 256, x] := by rw [putL, List.set_append, if_neg (by omega)]; simp
      have hne' : x ≠ CrcM.crc b / 256 := by
        intro e2
        apply hne
        rw [putL, e2]
        simp
      rw [e, cutB_eq]
      simp
      omega
end Go.Proofs.Ythbmafoikloocaa
