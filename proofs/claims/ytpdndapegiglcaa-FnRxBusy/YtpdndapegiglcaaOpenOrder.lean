/- A statement whose order is open: what only reads may be done first, whatever else makes memory meanwhile, as long as it leaves what is read alone (a class of worlds). -/
import Derived.Test.YtpdndapegiglcaaRows
import Derived.WalkKit
import Derived.Deep.QuietTactic
import Derived.BigQuiet
namespace Go.Proofs.Ytpdndapegiglcaa

section
variable {P : Program} {ops : Array Oper} {md : Region.Mode} {C : World → Prop} {Q : Exit → Act → World → Prop} {n : Nat}

/-- In the state a, in every world of the class, o leaves the value v, and the world as it is. -/
def ReadsAs (P : Program) (ops : Array Oper) (C : World → Prop) (o : Oper) (v : Value) (a : Act) : Prop :=
  (Region.wanted o (yielded ops a.tmps) = true ∧ ∀ w, C w → ((execOp a.eval o).run P w = .ok (.value v) w ∨ ((execOp a.eval o).run P w = .ok .skip w ∧ v = undef))) ∨
  (Region.wanted o (yielded ops a.tmps) = false ∧ v = undef)
theorem ReadsAs.moved {o : Oper} {v : Value} {a a' : Act} (h : ReadsAs P ops C o v a) (he : execOp a'.eval o = execOp a.eval o)
    (hw : Region.wanted o (yielded ops a'.tmps) = Region.wanted o (yielded ops a.tmps)) : ReadsAs P ops C o v a' := by
  unfold ReadsAs at *
  rw [he, hw]
  exact h
theorem ReadsAs.op {i : Nat} {o : Oper} {v : Value} {a : Act} {w : World} (hi : ops[i]? = some o) (h : ReadsAs P ops C o v a) (hC : C w) {K : Act → World → Prop} (hK : K (a.put o.dst v) w) : wpOp P ops Q i K a w := by
  unfold wpOp
  simp only [hi]
  rcases h with ⟨hw, hv⟩ | ⟨hw, rfl⟩
  · rw [if_pos hw]
    left
    unfold Oper.wp
    rcases hv w hC with e | ⟨e, rfl⟩
    · rw [e]; exact hK
    · rw [e]; exact hK
  · rw [if_neg (by rw [hw]; exact Bool.false_ne_true)]
    exact hK

/-- What one operation leaves is the same, whether the other one's value lies there already. -/
theorem upon_late {x : Option Tmp} {oj : Oper} {v : Value} {a : Act} (h2 : ∀ d, x = some d → oj.dst ≠ some d) (hQ : ∀ c a w, Q (.panic c) (a.put x v) w → Q (.panic c) a w)
    {G : Act → Prop} (hG : ∀ u, G (a.put oj.dst u)) (hGd : ∀ d u, G ({ a with defers := d :: a.defers }.put oj.dst u)) {K : Act → World → Prop} :
    ∀ r, oj.upon P (a.put x v) K Q r → oj.upon P a (fun a' w' => G a' ∧ K (a'.put x v) w') Q r := by
  intro r h
  have sw : ∀ u, (a.put x v).put oj.dst u = (a.put oj.dst u).put x v := fun u => Act.put_comm a v u h2
  match r with
  | .ok (.value u) w' => exact ⟨hG u, by rw [← sw]; exact h⟩
  | .ok .skip w' => exact ⟨hG _, by rw [← sw]; exact h⟩
  | .ok (.defer d) w' => exact ⟨hGd d _, by rw [← Act.put_comm _ v undef h2, ← Act.put_defers]; exact h⟩
  | .ok (.enter f args) w' =>
    refine Calls.mono h fun e w'' he => ?_
    match e with
    | .returned u => exact ⟨hG u, by rw [← sw]; exact he⟩
    | .panicked c => exact hQ _ _ _ he
    | .outgrown => exact he
  | .ok (.row row args) w' => exact Rows.mono h fun u w'' he => ⟨hG u, by rw [← sw]; exact he⟩
  | .halt (.panic u) w' => exact hQ _ _ _ h
theorem op_late {j : Nat} {oi oj : Oper} {v : Value} (hj : ops[j]? = some oj) (hap : oi.apart ops oj = true) (hsi : ∀ cs b, oi.op ≠ .select cs b) (hsj : ∀ cs b, oj.op ≠ .select cs b)
    (hQ : ∀ c a w, Q (.panic c) (a.put oi.dst v) w → Q (.panic c) a w) {K : Act → World → Prop} {a : Act} {w : World} (hy : ReadsAs P ops C oi v a) (h : wpOp P ops Q j K (a.put oi.dst v) w) :
    wpOp P ops Q j (fun a' w' => ReadsAs P ops C oi v a' ∧ K (a'.put oi.dst v) w') a w := by
  obtain ⟨h1, h2, h3⟩ := Oper.apart_spec hap
  have keep : ∀ (b : Act), ReadsAs P ops C oi v b → ∀ u, ReadsAs P ops C oi v (b.put oj.dst u) := fun b hb u => hb.moved (execOp_put oi hsi b oj.dst u h3) (wanted_put oi b oj.dst u h3)
  have keepD : ∀ d, ReadsAs P ops C oi v { a with defers := d :: a.defers } := fun d => hy.moved rfl rfl
  unfold wpOp at *
  simp only [hj] at *
  rw [wanted_put oj a oi.dst v h1] at h
  by_cases hw : Region.wanted oj (yielded ops a.tmps) = true
  · rw [if_pos hw] at h ⊢
    rcases h with h | ⟨ha, hl⟩
    · left
      unfold Oper.wp at *
      rw [execOp_put oj hsj a oi.dst v h1] at h
      exact upon_late h2 hQ (keep a hy) (fun d u => keep _ (keepD d) u) _ h
    · right
      unfold Oper.asks at *
      rw [execOp_put oj hsj a oi.dst v h1] at ha
      exact ⟨ha, hl⟩
  · rw [if_neg hw] at h ⊢
    exact ⟨keep a hy _, by rw [← Act.put_comm a v undef h2]; exact h⟩

/-- Whatever comes up next, from here on: what is one of the first n leaves a world of the class. -/
def wpAnyC (P : Program) (md : Region.Mode) (ops : Array Oper) (C : World → Prop) (n : Nat) (Q : Exit → Act → World → Prop) : Nat → Array Bool → Act → World → Prop
  | 0, listed, a, w => Region.ready md ops listed = [] ∧ Q .normal a w
  | f + 1, listed, a, w => (Region.ready md ops listed = [] → Q .normal a w) ∧
      ∀ i ∈ Region.ready md ops listed, wpOp P ops Q i (fun a' w' => (i < n → C w') ∧ wpAnyC P md ops C n Q f (listed.setIfInBounds i true) a' w') a w
theorem wpAnyC.plain : ∀ (f : Nat) (listed : Array Bool) (a : Act) (w : World), wpAnyC P md ops C n Q f listed a w → wpAny P md ops Q f listed a w
  | 0, _, _, _, h => h
  | f + 1, _, _, _, h => ⟨h.1, fun i hi => wpOp_mono (fun a' w' h' => wpAnyC.plain f _ a' w' h'.2) (h.2 i hi)⟩

/-- Each operation behind the first n waits for all of these. -/
def tailB (md : Region.Mode) (ops : Array Oper) (n : Nat) : Bool :=
  (List.range ops.size).all fun t => decide (t < n) || (List.range n).all fun i => match ops[t]? with
    | some o => o.after.any fun e => Region.binds md e && e.on == i
    | none => false
theorem tailB_waits (h : tailB md ops n = true) {t i : Nat} (hi : i < n) {listed : Array Bool} (hun : listed.getD i true = false) (hr : t ∈ Region.ready md ops listed) : t < n := by
  by_cases ht : t < n
  · exact ht
  · exfalso
    obtain ⟨_, o, ho, hall⟩ := mem_ready.1 hr
    have htl : t < ops.size := (Array.getElem?_eq_some_iff.1 ho).1
    have h1 := List.all_eq_true.1 h t (List.mem_range.2 htl)
    simp only [Bool.or_eq_true, decide_eq_true_eq] at h1
    have h2 := List.all_eq_true.1 (h1.resolve_left ht) i (List.mem_range.2 hi)
    rw [ho] at h2
    obtain ⟨e, he, hb⟩ := Array.any_eq_true'.1 h2
    simp only [Bool.and_eq_true, beq_iff_eq] at hb
    have h3 := hall e he hb.1
    rw [hb.2] at h3
    rcases Nat.lt_or_ge i listed.size with h' | h'
    · simp [h'] at hun h3; rw [hun] at h3; cases h3
    · simp [Array.getElem?_eq_none h'] at h3

theorem take_first {i : Nat} {oi : Oper} {v : Value} (hi : ops[i]? = some oi) (hsel : ∀ (j : Nat) (o : Oper) cs b, ops[j]? = some o → o.op ≠ .select cs b)
    (hQ : ∀ c a w, Q (.panic c) (a.put oi.dst v) w → Q (.panic c) a w) (hin : i < n) (ht : tailB md ops n = true) :
    ∀ (f : Nat) (listed : Array Bool) (a : Act) (w : World), C w →
      (∀ j oj, ops[j]? = some oj → j ≠ i → listed.getD j true = false → (∀ e ∈ oj.after, Region.binds md e = true → e.on ≠ i) → oi.apart ops oj = true) →
      i ∈ Region.ready md ops listed → ReadsAs P ops C oi v a →
      wpAnyC P md ops C n Q f (listed.setIfInBounds i true) (a.put oi.dst v) w → wpAnyC P md ops C n Q (f + 1) listed a w := by
  intro f
  induction f with
  | zero =>
    intro listed a w hC _ hr hy H
    refine ⟨fun h => (by rw [h] at hr; cases hr), fun j hj => ?_⟩
    by_cases hji : j = i
    · subst hji; exact hy.op hi hC ⟨fun _ => hC, H⟩
    · have := ready_mono hj hji
      rw [H.1] at this
      cases this
  | succ f ih =>
    intro listed a w hC hfree hr hy H
    have hun := (mem_ready.1 hr).1
    refine ⟨fun h => (by rw [h] at hr; cases hr), fun j hj => ?_⟩
    by_cases hji : j = i
    · subst hji; exact hy.op hi hC ⟨fun _ => hC, H⟩
    · have hjn : j < n := tailB_waits ht hin hun hj
      have h1 := H.2 j (ready_mono hj hji)
      obtain ⟨hjun, oj, hoj, hall⟩ := mem_ready.1 hj
      have hnot : ∀ e ∈ oj.after, Region.binds md e = true → e.on ≠ i := fun e he hb heq => by
        have h3 := hall e he hb
        rw [heq] at h3
        rcases Nat.lt_or_ge i listed.size with h' | h'
        · simp [h'] at hun h3; rw [hun] at h3; cases h3
        · simp [Array.getElem?_eq_none h'] at h3
      have h2 := op_late hoj (hfree j oj hoj hji hjun hnot) (fun cs b => hsel i oi cs b hi) (fun cs b => hsel j oj cs b hoj) hQ hy h1
      refine wpOp_mono (fun a' w' h3 => ?_) h2
      obtain ⟨hy', hC', H'⟩ := h3
      have hC2 := hC' hjn
      refine ⟨fun _ => hC2, ih (listed.setIfInBounds j true) a' w' hC2 ?_ (ready_mono hr (Ne.symm hji)) hy' ?_⟩
      · intro k ok hk hki hkun hno
        refine hfree k ok hk hki ?_ hno
        by_cases hjk : j = k
        · subst hjk; exact hjun
        · rw [getD_set_ne true hjk] at hkun; exact hkun
      · rw [Array.setIfInBounds_comm _ _ hji]
        exact H'

/-- The operations in the order in which they are walked: its place, whether it only reads, itself; R: what is asked then. -/
def wpBy (P : Program) (ops : Array Oper) (C : World → Prop) (n : Nat) (Q : Exit → Act → World → Prop) (R : Act → World → Prop) : List (Nat × Bool × Oper) → Act → World → Prop
  | [], a, w => R a w
  | (_, true, o) :: rest, a, w => ∃ v, ReadsAs P ops C o v a ∧ wpBy P ops C n Q R rest (a.put o.dst v) w
  | (i, false, _) :: rest, a, w => wpOp P ops Q i (fun a' w' => (i < n → C w') ∧ wpBy P ops C n Q R rest a' w') a w
/-- Places that have come up. -/
def markL (listed : Array Bool) (p : List (Nat × Bool)) : Array Bool := p.foldl (fun l x => l.setIfInBounds x.1 true) listed
def byB (md : Region.Mode) (ops : Array Oper) (n : Nat) : List (Nat × Bool) → Array Bool → Bool
  | [], _ => true
  | (i, true) :: rest, listed => decide (i < n) && (Region.ready md ops listed).contains i && Region.free md ops listed i && byB md ops n rest (listed.setIfInBounds i true)
  | (i, false) :: rest, listed => decide (Region.ready md ops listed = [i]) && (decide (i < n) || rest.all fun x => decide (n ≤ x.1)) && byB md ops n rest (listed.setIfInBounds i true)
def arrange (l : List Oper) (p : List (Nat × Bool)) (d : Oper) : List (Nat × Bool × Oper) := p.map fun x => (x.1, x.2, l.getD x.1 d)

theorem wpAnyC_of_by {l : List Oper} {d : Oper} {f : Nat} (hs : Region.noSelect l.toArray = true) (ht : tailB md l.toArray n = true) (hQ : ∀ x v c a w, Q (.panic c) (Act.put a x v) w → Q (.panic c) a w) :
    ∀ (p : List (Nat × Bool)) (listed : Array Bool) (a : Act) (w : World), byB md l.toArray n p listed = true → (C w ∨ p.all (fun x => decide (n ≤ x.1)) = true) →
      wpBy P l.toArray C n Q (fun a w => wpAnyC P md l.toArray C n Q f (markL listed p) a w) (arrange l p d) a w → wpAnyC P md l.toArray C n Q (p.length + f) listed a w
  | [], listed, a, w, _, _, h => by rw [List.length_nil, Nat.zero_add]; exact h
  | (i, true) :: p, listed, a, w, hB, hC, h => by
    simp only [byB, Bool.and_eq_true, decide_eq_true_eq] at hB
    obtain ⟨⟨⟨hin, hr⟩, hf⟩, hB'⟩ := hB
    have hr' : i ∈ Region.ready md l.toArray listed := by simpa using hr
    obtain ⟨_, oi, hoi, _⟩ := mem_ready.1 hr'
    have hoi2 : l.getD i d = oi := by
      have : l[i]? = some oi := by simpa using hoi
      simp [List.getD, this]
    have hC' : C w := by
      rcases hC with hC | hC
      · exact hC
      · simp only [List.all_cons, Bool.and_eq_true, decide_eq_true_eq] at hC
        omega
    obtain ⟨v, hy, hK⟩ := h
    rw [hoi2] at hy hK
    rw [List.length_cons, show p.length + 1 + f = (p.length + f) + 1 by omega]
    exact take_first hoi (Region.noSelect_spec hs) (hQ _ _) hin ht (p.length + f) listed a w hC' (Region.free_spec hoi hf) hr' hy (wpAnyC_of_by hs ht hQ p _ _ w hB' (.inl hC') hK)
  | (i, false) :: p, listed, a, w, hB, hC, h => by
    simp only [byB, Bool.and_eq_true, Bool.or_eq_true, decide_eq_true_eq] at hB
    obtain ⟨⟨hr, hn⟩, hB'⟩ := hB
    rw [List.length_cons, show p.length + 1 + f = (p.length + f) + 1 by omega]
    refine ⟨fun h0 => (by rw [hr] at h0; cases h0), fun j hj => ?_⟩
    rw [hr] at hj
    have hji : j = i := by simpa using hj
    subst hji
    refine wpOp_mono (fun a' w' h' => ⟨h'.1, wpAnyC_of_by hs ht hQ p _ a' w' hB' ?_ h'.2⟩) h
    rcases hn with hn | hn
    · exact .inl (h'.1 hn)
    · exact .inr hn

theorem wpBy_end {R R' : Act → World → Prop} (hR : ∀ a w, R a w → R' a w) : ∀ (l : List (Nat × Bool × Oper)) (a : Act) (w : World), wpBy P ops C n Q R l a w → wpBy P ops C n Q R' l a w
  | [], a, w, h => hR a w h
  | (_, true, _) :: rest, _, _, ⟨v, hy, h⟩ => ⟨v, hy, wpBy_end hR rest _ _ h⟩
  | (_, false, _) :: rest, _, _, h => wpOp_mono (fun a' w' h' => ⟨h'.1, wpBy_end hR rest a' w' h'.2⟩) h

/-- THE REGION, its operations in one order. -/
theorem region_by {id : Nat} {a : Act} {w : World} {l : List Oper} (C : World → Prop) (n : Nat) (p : List (Nat × Bool)) (d : Oper) (hm : P.follows .mixedOrders = true)
    (hB : (decide (p.length = l.length) && Region.noSelect l.toArray && tailB .any l.toArray n && byB .any l.toArray n p (Array.replicate l.length false) && (Region.ready .any l.toArray (markL (Array.replicate l.length false) p)).isEmpty) = true) (hC : C w.drew)
    (hQ : ∀ x v c a w, Q (.panic c) (Act.put a x v) w → Q (.panic c) a w) (h : wpBy P l.toArray C n Q (Q .normal) (arrange l p d) a w.drew) : (Code.region id l.toArray true).wp P Q a w := by
  simp only [Bool.and_eq_true, decide_eq_true_eq, List.isEmpty_iff] at hB
  obtain ⟨⟨⟨⟨hl, hs⟩, ht⟩, hb⟩, he⟩ := hB
  refine wp_region_any hm ?_
  have := wpAnyC.plain _ _ _ _ (wpAnyC_of_by (f := 0) hs ht hQ p (Array.replicate l.length false) a w.drew hb (.inl hC) (wpBy_end (fun a w hq => ⟨he, hq⟩) _ _ _ h))
  rw [Nat.add_zero, hl] at this
  simpa using this
/-- THE REGION, its first operations in one order, and then whatever comes up. -/
theorem region_part {id : Nat} {a : Act} {w : World} {l : List Oper} (C : World → Prop) (n : Nat) (p : List (Nat × Bool)) (f : Nat) (d : Oper) (hm : P.follows .mixedOrders = true)
    (hB : (decide (p.length + f = l.length) && Region.noSelect l.toArray && tailB .any l.toArray n && byB .any l.toArray n p (Array.replicate l.length false)) = true) (hC : C w.drew)
    (hQ : ∀ x v c a w, Q (.panic c) (Act.put a x v) w → Q (.panic c) a w)
    (h : wpBy P l.toArray C n Q (fun a w => wpAnyC P .any l.toArray C n Q f (markL (Array.replicate l.length false) p) a w) (arrange l p d) a w.drew) : (Code.region id l.toArray true).wp P Q a w := by
  simp only [Bool.and_eq_true, decide_eq_true_eq] at hB
  obtain ⟨⟨⟨hl, hs⟩, ht⟩, hb⟩ := hB
  refine wp_region_any hm ?_
  have := wpAnyC.plain _ _ _ _ (wpAnyC_of_by hs ht hQ p (Array.replicate l.length false) a w.drew hb (.inl hC) h)
  rw [hl] at this
  simpa using this
/-- What is left, in one order. -/
theorem rest_by {l : List Oper} {a : Act} {w : World} {listed : Array Bool} (p : List (Nat × Bool)) (d : Oper)
    (hB : (Region.noSelect l.toArray && tailB md l.toArray n && byB md l.toArray n p listed && (Region.ready md l.toArray (markL listed p)).isEmpty) = true) (hC : C w)
    (hQ : ∀ x v c a w, Q (.panic c) (Act.put a x v) w → Q (.panic c) a w) (h : wpBy P l.toArray C n Q (Q .normal) (arrange l p d) a w) : wpAnyC P md l.toArray C n Q p.length listed a w := by
  simp only [Bool.and_eq_true, List.isEmpty_iff] at hB
  obtain ⟨⟨⟨hs, ht⟩, hb⟩, he⟩ := hB
  have := wpAnyC_of_by (f := 0) hs ht hQ p listed a w hb (.inl hC) (wpBy_end (fun a w hq => ⟨he, hq⟩) _ _ _ h)
  rwa [Nat.add_zero] at this
/-- What is left: one of two comes up. -/
theorem rest_two {l : List Oper} {a : Act} {w : World} {listed : Array Bool} {f : Nat} (i j : Nat) (d : Oper) (hr : decide (Region.ready md l.toArray listed = [i, j]) = true)
    (hi : wpBy P l.toArray C n Q (fun a w => wpAnyC P md l.toArray C n Q f (listed.setIfInBounds i true) a w) (arrange l [(i, false)] d) a w)
    (hj : wpBy P l.toArray C n Q (fun a w => wpAnyC P md l.toArray C n Q f (listed.setIfInBounds j true) a w) (arrange l [(j, false)] d) a w) : wpAnyC P md l.toArray C n Q (f + 1) listed a w := by
  simp only [decide_eq_true_eq] at hr
  refine ⟨fun h0 => (by rw [hr] at h0; cases h0), fun k hk => ?_⟩
  rw [hr] at hk
  simp only [List.mem_cons, List.not_mem_nil, or_false] at hk
  rcases hk with rfl | rfl
  · exact hi
  · exact hj

theorem by_nil {R : Act → World → Prop} {a : Act} {w : World} (h : R a w) : wpBy P ops C n Q R [] a w := h
/-- One that makes memory, or calls. -/
theorem by_move {R : Act → World → Prop} {i : Nat} {o : Oper} {rest : List (Nat × Bool × Oper)} {a : Act} {w : World} (ho : ops[i]? = some o)
    (h : ∀ K : Act → World → Prop, (∀ a' w', (i < n → C w') → wpBy P ops C n Q R rest a' w' → K a' w') → if Region.wanted o (yielded ops a.tmps) = true then o.wp P a w K Q else K (a.put o.dst undef) w) :
    wpBy P ops C n Q R ((i, false, o) :: rest) a w := by
  show wpOp P ops Q i _ a w
  unfold wpOp
  simp only [ho]
  have := h (fun a' w' => (i < n → C w') ∧ wpBy P ops C n Q R rest a' w') (fun _ _ h1 h2 => ⟨h1, h2⟩)
  split
  · rename_i hw; rw [if_pos hw] at this; exact .inl this
  · rename_i hw; rw [if_neg hw] at this; exact this

/-- What never enters a function. -/
def readB : Op → Bool
  | .move _ | .assign _ | .pick .. | .load .. | .binOp .. | .unOp .. | .convert .. | .fieldAddr .. | .field .. | .indexAddr .. | .index .. | .extract .. | .slice .. | .build .. | .makeInterface .. => true
  | .call { callee := .builtin .len, .. } | .call { callee := .builtin .cap, .. } => true
  | _ => false
end
end Go.Proofs.Ytpdndapegiglcaa
