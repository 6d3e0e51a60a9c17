/- Sums: of bytes with their sum behind them, and with one byte turned. -/
import Derived.Test.YteennkfgnbhhhabDrawSum
import Derived.Test.YteennkfgnbhhhabCrcPut
namespace Go.Proofs.Yteennkfgnbhhhab.CrcM
theorem low_xor (s : Nat) : s ^^^ s % 256 = 256 * (s / 256) := by
  have h := add_xor 8 (s / 256) (s % 256) (by omega)
  have e : 2 ^ 8 * (s / 256) + s % 256 = s := by omega
  rw [e] at h
  calc s ^^^ s % 256 = (2 ^ 8 * (s / 256) ^^^ s % 256) ^^^ s % 256 := by rw [← h]
    _ = 256 * (s / 256) := by rw [Nat.xor_assoc, Nat.xor_self, Nat.xor_zero]
theorem crc_put (zs : List Nat) : crc (putL zs) = 0 := by
  unfold putL
  rw [show zs ++ [crc zs % 256, crc zs / 256] = (zs ++ [crc zs % 256]) ++ [crc zs / 256] by simp, crc_snoc, crc_snoc]
  unfold stp
  rw [low_xor, it8_256, Nat.xor_self, it_zero]
theorem crc_one {l : List Nat} (h : ∀ b ∈ l, b < 256) {i o : Nat} (hi : i < l.length) (ho : o < 256) (hne : o ≠ 0) :
    crc (l.set i (l.getD i 0 ^^^ o)) ≠ crc l := by
  obtain ⟨p, a, q, rfl, hp⟩ : ∃ p a q, l = p ++ a :: q ∧ p.length = i := by
    refine ⟨l.take i, l[i], l.drop (i + 1), ?_, by simp; omega⟩
    rw [List.getElem_cons_drop, List.take_append_drop]
  subst hp
  have ea : (p ++ a :: q).getD p.length 0 = a := by simp
  have es : (p ++ a :: q).set p.length (a ^^^ o) = p ++ (a ^^^ o) :: q := by simp
  rw [ea, es]
  unfold crc
  rw [List.foldl_append, List.foldl_append, List.foldl_cons, List.foldl_cons]
  have hs : p.foldl stp 0 < 65536 := crc_lt p (fun c hc => h c (by simp [hc]))
  have ha := h a (by simp)
  have hxa : a ^^^ o < 256 := Nat.xor_lt_two_pow (n := 8) ha ho
  intro e
  have e1 := fold_apart q (stp_lt hs hxa) (stp_lt hs ha) (fun c hc => h c (by simp [hc])) e
  have e2 := stp_inj_right hs hxa ha e1
  have e3 : a ^^^ o = a ^^^ 0 := by rw [e2, Nat.xor_zero]
  exact hne (xor_inj e3)
end Go.Proofs.Yteennkfgnbhhhab.CrcM
