/- What the law of coming to agree needs besides. -/
import Derived.Test.YtaoafikkamnjlaaNegRun
import Derived.Test.YtaoafikkamnjlaaNegCalm
namespace Go.Proofs.Ytaoafikkamnjlaa
open Go.RowKit
theorem cell_fst2 {w : World} {g : Nat} {a b : Neg} {t : TypeId} {f : Bool} (h : Bl w g (a.cs ++ b.cs) t) (hf : a.fails = f) : w.cell? ⟨g, 20, none⟩ = some (.bool f) := by
  rw [h.k]; simp [Neg.cs, hf]
theorem cell_snd2 {w : World} {g : Nat} {a b : Neg} {t : TypeId} {f : Bool} (h : Bl w g (a.cs ++ b.cs) t) (hf : b.fails = f) : w.cell? ⟨g, 41, none⟩ = some (.bool f) := by
  rw [h.k]; simp [Neg.cs, hf]
theorem Two.left_pos (p : Two) (n : Nat) : 1 ≤ p.left n ∧ 2 * p.wt ≤ p.left n := by
  refine ⟨?_, by unfold Two.left; omega⟩
  have h1 := wt_least p.nx
  have h2 := wt_least p.ny
  unfold Two.left
  by_cases e1 : p.nx = []
  · by_cases e2 : p.ny = []
    · simp [e1, e2]
    · have : 0 < p.ny.length := List.length_pos_iff.2 e2
      simp only [Two.wt]
      omega
  · have : 0 < p.nx.length := List.length_pos_iff.2 e1
    simp only [Two.wt]
    omega
theorem Two.size_wt (p : Two) : p.size ≤ p.wt := by
  have h1 := wt_least p.nx
  have h2 := wt_least p.ny
  simp only [Two.size, Two.wt]
  omega
section
variable {ops : Array Oper} {rest : List Oper} {o : Oper} {a : Act} {w : World} {Q : Exit → Act → World → Prop}
theorem at_lit (ty : TypeId) {d : Option Tmp} {n : Nat} {ps : Array (Nat × Operand)} {t : TypeId} {pos : String} {af : Array Edge} (h : wpList Try.prog ops Q (⟨d, .buildSlice ty n ps, t, pos, af, none⟩ :: rest) a w) : wpList Try.prog ops Q (⟨d, .buildSlice ty n ps, t, pos, af, none⟩ :: rest) a w := h
theorem wpList_lit2 {d : Option Tmp} {t : TypeId} {pos : String} {af : Array Edge} (x y : Operand) {p q : Neg} (hx : a.eval x = .agg p.cs) (hy : a.eval y = .agg q.cs)
    (h : wpList Try.prog ops Q rest (a.put d (.slice (some ⟨w.heap.size, 0, none⟩) 2 2)) (w.alloc (.cells (p.cs ++ q.cs) 26))) : wpList Try.prog ops Q (⟨d, .buildSlice 46 2 #[(0, x), (1, y)], t, pos, af, none⟩ :: rest) a w := by
  refine wpList_plain rfl fun _ hK => ?_
  unfold Oper.wp
  rw [run_lit2 hx hy]
  exact hK _ _ h
end
section
variable {ρ : Operand → Value} {w : World} {d : Option Tmp} {t : TypeId} {pos : String} {af : Array Edge} {gd : Option (Nat × Bool)} {x y : Operand}
theorem run_len {a : Option Addr} {n c : Nat} (h : ρ x = .slice a n c) : (execOp ρ ⟨d, .call { callee := .builtin .len, args := #[x], argTypes := #[49] }, t, pos, af, gd⟩).run Try.prog w = .ok (.value (.int .i64 (n : Int))) w := by
  have hu := Try.underlying49
  simp [h, go_sem, hu]
theorem run_sum {m n : Nat} (h1 : ρ x = .int .i64 (m : Int)) (h2 : ρ y = .int .i64 (n : Int)) (hb : m + n ≤ 1000000) : (execOp ρ ⟨d, .binOp .add 3 x y 3, t, pos, af, gd⟩).run Try.prog w = .ok (.value (.int .i64 ((m + n : Nat) : Int))) w := by
  rw [run_add h1 h2 (by omega), Int.natCast_add]
end
theorem at_again {w : World} {B gs gn : Nat} {v0 v1 : Value} {p : Two} (h : At w B gs gn v0 v1 p) (hB : B ≤ w.heap.size) : At (w.alloc (.cells (p.x.cs ++ p.y.cs) 26)) B w.heap.size gn v0 v1 p :=
  have bb := bo_alloc w (.cells (p.x.cs ++ p.y.cs) 26)
  ⟨bl_new w _ _, h.n.kept bb, h.o0.kept bb, h.o1.kept bb, h.ap, hB, h.bn⟩
end Go.Proofs.Ytaoafikkamnjlaa
