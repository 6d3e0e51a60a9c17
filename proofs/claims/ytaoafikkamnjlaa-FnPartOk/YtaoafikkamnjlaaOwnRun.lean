/- Rows of bytes beside boxes; loads and lengths of slices. -/
import Derived.Test.YtaoafikkamnjlaaBoxSlice
import Derived.Test.YtaoafikkamnjlaaDrawMsg
namespace Go.Proofs.Ytaoafikkamnjlaa
open Go.RowKit
theorem Own.put {w w' : World} {B b : Nat} {v : Value} {zs : List Nat} (h : Own w B v zs) (k : w.grownBy w' (some b)) (hn : v.ownBlock ≠ some b) : Own w' B v zs := World.ownsRow.kept h k (.inr hn)
theorem own_new {w : World} {B : Nat} {v : Value} {zs : List Nat} (h : Own w B v zs) : v.ownBlock ≠ some w.heap.size := fun e => by have := (World.ownsRow.lt h _ e).2; omega
theorem own_ne {w : World} {B b : Nat} {v : Value} {zs : List Nat} (h : Own w B v zs) (hb : b < B) : v.ownBlock ≠ some b := fun e => by have := (World.ownsRow.lt h _ e).1; omega
theorem Own.drew {w : World} {B : Nat} {v : Value} {zs : List Nat} (h : Own w B v zs) : Own w.drew B v zs := h
theorem own_down {w : World} {B C : Nat} {v : Value} {zs : List Nat} (h : Own w B v zs) (hc : C ≤ B) : Own w C v zs := by
  refine ⟨h.1, ?_⟩
  rcases h.2 with h0 | ⟨g, cap, cur, e, hb, r⟩
  · exact .inl h0
  · exact .inr ⟨g, cap, cur, e, Nat.le_trans hc hb, r⟩
theorem own_form {w : World} {B : Nat} {v : Value} {zs : List Nat} (h : Own w B v zs) : ∃ a c, v = .slice a zs.length c := by
  rcases h.2 with ⟨h, h0⟩ | ⟨g, cap, cur, h, _⟩
  · exact ⟨_, _, by rw [h, h0]⟩
  · exact ⟨_, _, h⟩
/-- A new row of bytes, written out. -/
theorem own_row {w : World} {B g : Nat} {zs : List Nat} {cs : Array Value} (h : Bl w g cs 5) (hB : B ≤ g) (hc : cs = (bcells zs).toArray) (hm : zs.length ≤ 1000) : Own w B (.slice (some ⟨g, 0, none⟩) zs.length zs.length) zs := by
  have hl : (bcells zs).length = zs.length := by simp [bcells]
  refine ⟨by rw [hl]; omega, .inr ⟨g, zs.length, cs, rfl, hB, h, Nat.le_refl _, by unfold maxLen; omega, ?_, ?_⟩⟩
  · rw [hc]; simp [hl]
  · rw [hc]
    exact List.take_of_length_le (by simp [hl])
theorem grown_drew {w w1 : World} {r : Option Nat} (h : w.grownBy w1 r) : w.grownBy w1.drew r := grown_trans h ⟨rfl, rfl, rfl, Nat.le_refl _, fun _ _ _ => rfl⟩
section
variable {ρ : Operand → Value} {w : World} {d : Option Tmp} {t : TypeId} {pos : String} {af : Array Edge} {gd : Option (Nat × Bool)} {x y : Operand}
theorem run_ldb {g k n c : Nat} {a : Option Addr} (hx : ρ x = .pointer (some ⟨g, k, none⟩)) (hr : w.cell? ⟨g, k, none⟩ = some (.slice a n c)) : (execOp ρ ⟨d, .load 22 x, t, pos, af, gd⟩).run Try.prog w = .ok (.value (.slice a n c)) w := by
  simp [execOp, hx, hr, go_sem]
theorem run_lenb {a : Option Addr} {n c : Nat} (h : ρ x = .slice a n c) : (execOp ρ ⟨d, .call { callee := .builtin .len, args := #[x], argTypes := #[22] }, t, pos, af, gd⟩).run Try.prog w = .ok (.value (.int .i64 (n : Int))) w := by
  have hu := Try.underlying22
  simp [h, go_sem, hu]
end
end Go.Proofs.Ytaoafikkamnjlaa
