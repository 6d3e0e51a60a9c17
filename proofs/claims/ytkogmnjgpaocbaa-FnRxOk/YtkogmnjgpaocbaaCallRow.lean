/- Calls, extracts and builds of a statement whose order is open. -/
import Derived.Test.YtkogmnjgpaocbaaOpenRow
import Derived.Test.YtkogmnjgpaocbaaOpenDraw
namespace Go.Proofs.Ytkogmnjgpaocbaa
open Go.RowKit
theorem Bl.ne {w : World} {b b' : Nat} {cs cs' : Array Value} {t t' : TypeId} (h : Bl w b cs t) (h' : Bl w b' cs' t') (ht : t ≠ t') : b ≠ b' := by
  rintro rfl
  unfold Bl at h h'
  rw [h] at h'
  simp only [Option.some.injEq, Obj.cells.injEq] at h'
  exact ht h'.2.1
section
variable {ρ : Operand → Value} {w : World} {d : Option Tmp} {t : TypeId} {pos : String} {af : Array Edge} {gd : Option (Nat × Bool)} {x y : Operand}
theorem run_call1 {f : FuncId} {u : Value} {ty : Array TypeId} (hf : ρ (.func f) = .func (.func f) #[] #[]) (h1 : ρ x = u) (hc : ∀ (args : Array Value) (w : World), (callFunc f args).run Try.prog w = .ok (.enter f args) w) : (execOp ρ ⟨d, .call { callee := .value (.func f), args := #[x], argTypes := ty }, t, pos, af, gd⟩).run Try.prog w = .ok (.enter f #[u]) w := by
  simp [execOp, resolve, invoke, hf, h1, hc, go_sem]
theorem run_call2 {f : FuncId} {u v : Value} {ty : Array TypeId} (hf : ρ (.func f) = .func (.func f) #[] #[]) (h1 : ρ x = u) (h2 : ρ y = v) (hc : ∀ (args : Array Value) (w : World), (callFunc f args).run Try.prog w = .ok (.enter f args) w) : (execOp ρ ⟨d, .call { callee := .value (.func f), args := #[x, y], argTypes := ty }, t, pos, af, gd⟩).run Try.prog w = .ok (.enter f #[u, v]) w := by
  simp [execOp, resolve, invoke, hf, h1, h2, hc, go_sem]
theorem run_extract {vs : Array Value} {i : Nat} {u : Value} (h : ρ x = .tuple vs) (hu : vs[i]? = some u) : (execOp ρ ⟨d, .extract x i, t, pos, af, gd⟩).run Try.prog w = .ok (.value u) w := by
  simp [execOp, h, hu, go_sem]
end
section
variable {ops : Array Oper} {C : World → Prop} {Q : Exit → Act → World → Prop} {R : Act → World → Prop} {n i : Nat} {o : Oper} {rest : List (Nat × Bool × Oper)} {a : Act} {w : World}
theorem run_load_cell {ρ : Operand → Value} {w : World} {d : Option Tmp} {t : TypeId} {pos : String} {af : Array Edge} {gd : Option (Nat × Bool)} {x : Operand} {g k : Nat} {v : Int} (hx : ρ x = .pointer (some ⟨g, k, none⟩)) (hv : w.cell? ⟨g, k, none⟩ = some (.int .i64 v)) : (execOp ρ ⟨d, .load 3 x, t, pos, af, gd⟩).run Try.prog w = .ok (.value (.int .i64 v)) w := run_load hx hv
/-- A load of an int out of a box, taken first. -/
theorem by_cell {d : Option Tmp} {t' : TypeId} {pos : String} {af : Array Edge} {x : Operand} (g k : Nat) (hx : a.eval x = .pointer (some ⟨g, k, none⟩)) {t : TypeId} {cs : Array Value} (hC : ∀ w', C w' → Bl w' g cs t) (v : Int) (hv : cs[k]? = some (.int .i64 v))
    (h : wpBy Try.prog ops C n Q R rest (a.put d (.int .i64 v)) w) : wpBy Try.prog ops C n Q R ((i, true, ⟨d, .load 3 x, t', pos, af, none⟩) :: rest) a w :=
  by_run rfl _ (fun w' hw => run_load_cell hx (((hC w' hw).k k).trans hv)) h
end
end Go.Proofs.Ytkogmnjgpaocbaa
