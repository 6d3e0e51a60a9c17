/- The bytes that the laws of sums draw. -/
import Derived.Test.YteennkfgnbhhhabDrawBytes
import Derived.Test.YteennkfgnbhhhabCrcOf
namespace Go.Proofs.Yteennkfgnbhhhab
open Go.RowKit
theorem drawOf_any (v : Value) (zs : List Nat) (w : World) (h : Rd w v zs) :
    Calls Try.prog 7 #[v] w fun e w' => ∃ v' ys, e = .returned v' ∧ Own w' w.heap.size v' ys ∧ Byt ys ∧ ys.length ≤ 20 ∧ Below w.heap.size w w' := by
  go_enter Try.func7, Try.ntmps7
  go_wp2_with fail
  refine (open_any v zs _ h).mono ?_
  rintro e w1 ⟨rfl, ⟨cs, r1⟩, b1⟩
  go_wp2_with fail
  refine (bytes_any w.heap.size w.heap.size 0 cs 20 w1 r1 (by omega) (by omega)).mono ?_
  rintro e w2 ⟨v2, ys, p2, rfl, o2, by2, ln2, r2, hp2, g2⟩
  have b2 : Below w.heap.size w w2 := b1.grown g2 b1.size (fun q e => by cases e; exact Nat.le_refl _)
  have o2' := ownsRow_mono o2 b1.size
  go_wp2
  go_ret
  exact ⟨_, ys, rfl, o2', by2, ln2, b2⟩
end Go.Proofs.Yteennkfgnbhhhab
namespace Go.Proofs.Yteennkfgnbhhhab.CrcM
theorem fold_apart (l : List Nat) : ∀ {s t : Nat}, s < 65536 → t < 65536 → (∀ b ∈ l, b < 256) → l.foldl stp s = l.foldl stp t → s = t := by
  induction l with
  | nil => intro s t _ _ _ h; exact h
  | cons b l ih =>
    intro s t hs ht hb h
    have hb0 := hb b (by simp)
    have := ih (stp_lt hs hb0) (stp_lt ht hb0) (fun c hc => hb c (by simp [hc])) h
    exact stp_inj_left hs ht hb0 this
/-- Two bytes side by side, turned, not both by nothing. -/
theorem two_apart {s a b o t : Nat} (hs : s < 65536) (ha : a < 256) (hb : b < 256) (ho : o < 256) (ht : t < 256) (hne : ¬ (o = 0 ∧ t = 0)) : stp (stp s (a ^^^ o)) (b ^^^ t) ≠ stp (stp s a) b := by
  intro h
  have hx : ∀ {x y : Nat}, x < 65536 → y < 65536 → x ^^^ y < 65536 := fun h1 h2 => Nat.xor_lt_two_pow (n := 16) h1 h2
  have l1 : s ^^^ a < 65536 := hx hs (by omega)
  have lo : it 8 o < 65536 := it_lt 8 (by omega)
  have lsa : it 8 (s ^^^ a) < 65536 := it_lt 8 l1
  have e1 : stp s (a ^^^ o) = it 8 (s ^^^ a) ^^^ it 8 o := by
    unfold stp
    rw [← Nat.xor_assoc, it_xor]
  have h1 : it 8 ((it 8 (s ^^^ a) ^^^ it 8 o) ^^^ (b ^^^ t)) = it 8 (it 8 (s ^^^ a) ^^^ b) := by
    rw [e1] at h
    exact h
  have h2 := it_inj 8 (hx (hx lsa lo) (hx (by omega) (by omega))) (hx lsa (by omega)) h1
  have h3 : it 8 o ^^^ t = 0 := by
    have e2 : (it 8 (s ^^^ a) ^^^ it 8 o) ^^^ (b ^^^ t) = (it 8 (s ^^^ a) ^^^ b) ^^^ (it 8 o ^^^ t) := by
      rw [Nat.xor_assoc, Nat.xor_assoc]
      congr 1
      rw [← Nat.xor_assoc, Nat.xor_comm (it 8 o) b, Nat.xor_assoc]
    rw [e2] at h2
    have h4 : (it 8 (s ^^^ a) ^^^ b) ^^^ (it 8 o ^^^ t) = (it 8 (s ^^^ a) ^^^ b) ^^^ 0 := by rw [h2, Nat.xor_zero]
    exact xor_inj h4
  have h5 := xor_zero_eq h3
  have h6 : it 8 (256 * t) = it 8 o := by rw [it8_256, h5]
  have h7 := it_inj 8 (x := 256 * t) (y := o) (by omega) (by omega) h6
  omega
theorem crc_two {l : List Nat} (h : ∀ b ∈ l, b < 256) {i o t : Nat} (hi : i + 1 < l.length) (ho : o < 256) (ht : t < 256) (hne : ¬ (o = 0 ∧ t = 0)) :
    crc ((l.set i (l.getD i 0 ^^^ o)).set (i + 1) (l.getD (i + 1) 0 ^^^ t)) ≠ crc l := by
  obtain ⟨p, a, b, q, rfl, hp⟩ : ∃ p a b q, l = p ++ a :: b :: q ∧ p.length = i := by
    refine ⟨l.take i, l[i], l[i + 1], l.drop (i + 2), ?_, by simp; omega⟩
    rw [List.getElem_cons_drop, List.getElem_cons_drop, List.take_append_drop]
  subst hp
  have ea : (p ++ a :: b :: q).getD p.length 0 = a := by simp
  have eb : (p ++ a :: b :: q).getD (p.length + 1) 0 = b := by simp
  have es : ((p ++ a :: b :: q).set p.length (a ^^^ o)).set (p.length + 1) (b ^^^ t) = p ++ (a ^^^ o) :: (b ^^^ t) :: q := by
    simp
  rw [ea, eb, es]
  unfold crc
  rw [List.foldl_append, List.foldl_append, List.foldl_cons, List.foldl_cons, List.foldl_cons, List.foldl_cons]
  have hs : p.foldl stp 0 < 65536 := crc_lt p (fun c hc => h c (by simp [hc]))
  have ha := h a (by simp)
  have hb := h b (by simp)
  have hxa : a ^^^ o < 256 := Nat.xor_lt_two_pow (n := 8) ha ho
  have hxb : b ^^^ t < 256 := Nat.xor_lt_two_pow (n := 8) hb ht
  intro e
  exact two_apart hs ha hb ho ht hne (fold_apart q (stp_lt (stp_lt hs hxa) hxb) (stp_lt (stp_lt hs ha) hb) (fun c hc => h c (by simp [hc])) e)
end Go.Proofs.Yteennkfgnbhhhab.CrcM
