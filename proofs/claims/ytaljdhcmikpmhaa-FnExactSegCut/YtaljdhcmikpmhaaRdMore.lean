/- Parts of lists of bytes: the first ones, the rest. -/
import Derived.Test.YtaljdhcmikpmhaaOwnMore
import Derived.Test.YtaljdhcmikpmhaaFrmMath
namespace Go.Proofs.Ytaljdhcmikpmhaa
open Go.RowKit

theorem rd_nil (w : World) : Rd w (.slice none 0 0) [] := ⟨fun z hz => by simp at hz, by simp, .inl ⟨rfl, _, _, rfl, fun _ => rfl⟩⟩
theorem rd_set {w : World} {s : Value} {zs : List Nat} {g o : Nat} {x : Value} (h : Rd w s zs) (hlt : ∀ b, s.ownBlock = some b → b < g) : Rd (w.setCell ⟨g, o, none⟩ x) s zs := by
  have hne : s.ownBlock ≠ some g := fun e => by have := hlt g e; omega
  obtain ⟨h1, h2, h3⟩ := h
  refine ⟨h1, h2, ?_⟩
  rcases h3 with h3 | ⟨b, off, cap, e, h4, h5, h6, h7⟩
  · exact .inl h3
  · refine .inr ⟨b, off, cap, e, h4, h5, by simpa using h6, fun j hj => ?_⟩
    have hne' : (⟨g, o, none⟩ : Addr) ≠ ⟨b, off + j, none⟩ := by
      intro e'
      simp only [Addr.mk.injEq] at e'
      rw [e] at hne
      exact hne (by simp [Value.ownBlock, e'.1])
    exact (cell_far hne').trans (h7 j hj)
theorem Rd.room {w : World} {v : Value} {zs : List Nat} (h : Rd w v zs) : ∃ a cap, v = .slice a zs.length cap ∧ zs.length ≤ cap := by
  rcases h.2.2 with ⟨rfl, a, c, rfl, _⟩ | ⟨b, off, cap, rfl, h4, _⟩
  · exact ⟨_, _, rfl, Nat.zero_le _⟩
  · exact ⟨_, _, rfl, h4⟩
theorem Rd.first {w : World} {a : Option Addr} {cap n : Nat} {zs : List Nat} (h : Rd w (.slice a zs.length cap) zs) (hn : n ≤ zs.length) : Rd w (.slice a n cap) (zs.take n) := by
  obtain ⟨h1, h2, h3⟩ := h
  refine ⟨h1.take n, by rw [List.length_take]; omega, ?_⟩
  rcases h3 with ⟨rfl, a', c', e, hnone⟩ | ⟨b, off, cap', e, h4, h5, h6, h7⟩
  · simp only [Value.slice.injEq] at e
    obtain ⟨rfl, _, rfl⟩ := e
    obtain rfl : n = 0 := by simpa using hn
    exact .inl ⟨rfl, _, _, rfl, hnone⟩
  · simp only [Value.slice.injEq, true_and] at e
    obtain ⟨rfl, rfl⟩ := e
    refine .inr ⟨b, off, cap, by rw [List.length_take, Nat.min_eq_left hn], by rw [List.length_take]; omega, h5, h6, fun j hj => ?_⟩
    rw [List.length_take] at hj
    rw [h7 j (by omega)]
    simp [show j < n by omega]
theorem Rd.rest {w : World} {a : Option Addr} {cap n : Nat} {zs : List Nat} (h : Rd w (.slice a zs.length cap) zs) (hn : n ≤ zs.length) : Rd w (.slice (if cap = n then a else a.map fun x => x.add n) (zs.length - n) (cap - n)) (zs.drop n) := by
  obtain ⟨h1, h2, h3⟩ := h
  refine ⟨fun z hz => h1 z (List.mem_of_mem_drop hz), by rw [List.length_drop]; omega, ?_⟩
  by_cases h0 : zs.length = n
  · left
    refine ⟨by rw [List.drop_eq_nil_iff]; omega, _, _, by rw [h0, Nat.sub_self], fun e => ?_⟩
    rcases h3 with ⟨rfl, a', c', e', hnone⟩ | ⟨b, off, cap', e', h4, h5, h6, h7⟩
    · simp only [Value.slice.injEq] at e'
      obtain ⟨rfl, _, rfl⟩ := e'
      split at e
      · have := hnone e; omega
      · have := hnone (by simpa using e); omega
    · simp only [Value.slice.injEq, true_and] at e'
      obtain ⟨rfl, rfl⟩ := e'
      split at e <;> simp at e
  · right
    rcases h3 with ⟨rfl, a', c', e', hnone⟩ | ⟨b, off, cap', e', h4, h5, h6, h7⟩
    · simp at hn h0; omega
    · simp only [Value.slice.injEq, true_and] at e'
      obtain ⟨rfl, rfl⟩ := e'
      refine ⟨b, off + n, cap - n, ?_, by rw [List.length_drop]; omega, by omega, h6, fun j hj => ?_⟩
      · rw [if_neg (by omega), List.length_drop, Option.map_some, add_at]
      · rw [List.length_drop] at hj
        rw [show off + n + j = off + (n + j) by omega, h7 (n + j) (by omega)]
        simp [List.getElem?_drop]
theorem head_block {a : Option Addr} {m c m' c' : Nat} : (Value.slice a m c).ownBlock = (Value.slice a m' c').ownBlock := by cases a <;> rfl
theorem rest_block {a : Option Addr} {cap n m c m' c' : Nat} : (Value.slice (if cap = n then a else a.map fun x => x.add n) m c).ownBlock = (Value.slice a m' c').ownBlock := by
  split
  · cases a <;> rfl
  · cases a with
    | none => rfl
    | some x => simp [Value.ownBlock, Addr.add]; split <;> rfl
end Go.Proofs.Ytaljdhcmikpmhaa
