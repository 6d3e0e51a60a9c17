/- A list of the call's own is read by itself from an operation on. -/
import Derived.Test.YtpghbdigiplbiaaMa
import Derived.Test.YtpghbdigiplbiaaMb
import Derived.Test.YtpghbdigiplbiaaMc
import Derived.Test.YtpghbdigiplbiaaMd
namespace Go.Proofs.Ytpghbdigiplbiaa
open Go
def thawSt (t i : Nat) (ds : List (List D)) (σ : St) : St := (σ.put (T t) (.a (.d (.row ds)))).put (B i) (.b .none)
def Thawable (t i : Nat) (ds : List (List D)) (σ : St) : Prop := ∃ k e sz es, σ.t t = .own i k ∧ σ.b i = .own k e sz es ∧ asData es ds
def thawC (t i : Nat) (ds : List (List D)) (c : Cert) : Cert := ⟨T t :: B i :: c.rd, T t :: B i :: c.wr, fun σ => (Thawable t i ds σ ∧ (c.beh (thawSt t i ds σ)).1, fun us => ∃ us', us = .a (.d (.row ds)) :: .b .none :: us' ∧ (c.beh (thawSt t i ds σ)).2 us')⟩
theorem XB.nox {C : Ctx} (h : XB C []) : ∀ b, ¬ C.X b := fun b hb => by
  obtain ⟨j, x, hx, _⟩ := h b hb
  cases hx
section
variable {P : Program} {C : Ctx} {ops : Array Oper} {os : List Oper} {o : Oper} {c : Cert} {cs : List Cert} {σ : St} {K : St → Prop}
theorem ok_thaw (ho : OpOk P C ops o c) (t i : Nat) (ds : List (List D)) (hX : ∀ b, ¬ C.X b) : OpOk P C ops o (thawC t i ds c) := by
  obtain ⟨⟨ht, hl⟩, hdst, hs⟩ := ho
  refine ⟨⟨fun σ h => ?_, fun σ => ?_⟩, ?_, fun σ a w K Q hR hsafe hK => ?_⟩
  · obtain ⟨us, hus⟩ := ht _ h.2
    exact ⟨_, us, rfl, hus⟩
  · have e1 : (σ.mask (T t :: B i :: c.rd)).t t = σ.t t := by simp [St.mask]
    have e2 : (σ.mask (T t :: B i :: c.rd)).b i = σ.b i := bx_mask (by simp)
    have e3 : c.beh (thawSt t i ds (σ.mask (T t :: B i :: c.rd))) = c.beh (thawSt t i ds σ) := by
      rw [← hl (thawSt t i ds (σ.mask _)), ← hl (thawSt t i ds σ)]
      congr 1
      unfold thawSt St.mask St.put upd
      simp only
      congr 1
      · funext q
        by_cases hq : q = t
        · subst hq; simp
        · by_cases hqr : (true, q) ∈ c.rd
          · simp [hq, hqr]
          · simp [hqr]
      · funext q
        by_cases hq : q = i
        · subst hq; simp
        · by_cases hqr : (false, q) ∈ c.rd
          · simp [hq, hqr]
          · simp [hqr]
    unfold thawC Thawable
    simp only [e1, e2, e3]
  · unfold thawC
    cases hd : o.dst with
    | none => rfl
    | some d =>
      rw [hd] at hdst
      simp only [dstIn] at hdst ⊢
      simp at hdst ⊢
      exact .inr hdst
  · obtain ⟨⟨k, e, sz, es, h1, h2, h3⟩, hsf⟩ := hsafe
    have hR2 : Rel C (thawSt t i ds σ) a w := Rel.thaw ds h1 h2 h3 (fun b hb => absurd hb (hX b)) hR
    exact hs (thawSt t i ds σ) a w K Q hR2 hsf fun us a' w' hus hR' => hK _ a' w' ⟨us, rfl, hus⟩ hR'
/-- Ahead of an operation: the list that slot t holds is read by itself from now on. -/
theorem Wk.thaw (t i : Nat) (ds : List (List D)) (hX : XB C []) {k : Nat} {e : TypeId} {sz : Nat} {es : List (List A)} (ht : σ.t t = .own i k) (hb : σ.b i = .own k e sz es) (hd : asData es ds)
    (h : Wk P C ops (o :: os) (c :: cs) (thawSt t i ds σ) K) : Wk P C ops (o :: os) (thawC t i ds c :: cs) σ K := by
  obtain ⟨⟨ho, hos⟩, hsafe, hr⟩ := h
  refine ⟨⟨ok_thaw ho t i ds hX.nox, hos⟩, ⟨⟨k, e, sz, es, ht, hb, hd⟩, hsafe⟩, fun us hus => ?_⟩
  obtain ⟨us', rfl, hus'⟩ := hus
  exact hr us' hus'
end
end Go.Proofs.Ytpghbdigiplbiaa
