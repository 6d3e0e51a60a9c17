/- The steps of a statement whose order is open that only read. -/
import Derived.Test.YtpdndapegiglcaaOpenOrder
namespace Go.Proofs.Ytpdndapegiglcaa

section
variable {P : Program} {ops : Array Oper} {C : World → Prop} {Q : Exit → Act → World → Prop} {n : Nat}

theorem value_enter {s : Sem Value} {w w' : World} {f : FuncId} {args : Array Value} (h : (do pure (Next.value (← s)) : Sem Next).run P w = .ok (.enter f args) w') : False := by
  simp only [Sem.run_bind] at h
  generalize s.run P w = r at h
  cases r with
  | ok u w1 => simp [Result.andThen, Sem.run_pure] at h
  | halt x w1 => simp [Result.andThen] at h
theorem and_enter {r : Result Value} {w' : World} {f : FuncId} {args : Array Value} (h : (r.andThen fun a w' => Result.ok (Next.value a) w') = Result.ok (Next.enter f args) w') : False := by
  cases r with
  | ok u w1 => simp [Result.andThen] at h
  | halt x w1 => simp [Result.andThen] at h
theorem read_enter {o : Oper} (hr : readB o.op = true) {ρ : Operand → Value} {w w' : World} {f : FuncId} {args : Array Value} (h : (execOp ρ o).run P w = .ok (.enter f args) w') : False := by
  obtain ⟨dst, op, type, pos, after, guard⟩ := o
  unfold execOp at h
  cases op
  case pick c a b => exact value_enter (s := do pure (if ← asBool (ρ c) then ρ a else ρ b)) (by simpa using h)
  case call c =>
    obtain ⟨callee, args', tys⟩ := c
    cases callee with
    | builtin b =>
      cases b <;> simp [readB] at hr
      all_goals
        simp [resolve, invoke, builtin] at h
        exact and_enter h
    | _ => simp [readB] at hr
  all_goals first
    | (simp [readB] at hr; done)
    | exact value_enter h
    | (simp [Sem.run_pure] at h; done)
theorem by_read {R : Act → World → Prop} {i : Nat} {o : Oper} {rest : List (Nat × Bool × Oper)} {a : Act} {w : World} (hr : readB o.op = true)
    (h : ∀ K : Act → Prop, (∀ a', wpBy P ops C n Q R rest a' w → K a') → if Region.wanted o (yielded ops a.tmps) = true then o.quiet P a C K else K (a.put o.dst undef)) :
    wpBy P ops C n Q R ((i, true, o) :: rest) a w := by
  have := h (fun a' => wpBy P ops C n Q R rest a' w) (fun _ h => h)
  by_cases hw : Region.wanted o (yielded ops a.tmps) = true
  · rw [if_pos hw] at this
    obtain ⟨v, hv, hK⟩ := this
    refine ⟨v, .inl ⟨hw, fun w' hC => ?_⟩, hK⟩
    have h1 := hv w' hC
    have h2 := @read_enter P o hr a.eval w'
    unfold Oper.quietAt at h1
    generalize (execOp a.eval o).run P w' = r at h1 h2 ⊢
    cases r with
    | halt x w1 => exact h1.elim
    | ok nx w1 =>
      cases nx
      case value u => obtain ⟨rfl, rfl⟩ := h1; exact .inl rfl
      case skip => obtain ⟨rfl, rfl⟩ := h1; exact .inr ⟨rfl, rfl⟩
      case enter f args => exact (h2 rfl).elim
      all_goals exact h1.elim
  · rw [if_neg hw] at this
    exact ⟨undef, .inr ⟨by simpa using hw, rfl⟩, this⟩
/-- A look at a pointer that is something. -/
theorem by_check {R : Act → World → Prop} {i : Nat} {o : Oper} {rest : List (Nat × Bool × Oper)} {a : Act} {w : World} (x : Operand) (p : Addr) (ho : o.op = .nilCheck x) (hg : o.guard = none) (hx : a.eval x = .pointer (some p))
    (h : wpBy P ops C n Q R rest (a.put o.dst (.pointer (some p))) w) : wpBy P ops C n Q R ((i, true, o) :: rest) a w :=
  ⟨_, .inl ⟨by simp [Region.wanted, hg], fun w' _ => .inl (by unfold execOp; simp [ho, hx])⟩, h⟩
end
/-- A class of worlds, under names of its own. -/
theorem cls (p : World → Prop) : ∃ (ι : Type) (W : ι → World), (∀ w', p w' → ∃ x, w' = W x) ∧ ∀ x, p (W x) := ⟨{ w' // p w' }, Subtype.val, fun w' h => ⟨⟨w', h⟩, rfl⟩, fun x => x.2⟩
end Go.Proofs.Ytpdndapegiglcaa
