/- Two who agree, where nothing is lost any more: how far they have come. -/
import Derived.Test.YtaoafikkamnjlaaNegPlay
namespace Go.Proofs.Ytaoafikkamnjlaa
open Go.RowKit
--MATH
def Q1 (M : Opt) (p : Two) : Prop := p.x.asks = M ∨ (∃ m ∈ p.ny, m.kind = 1) ∨ (∃ m ∈ p.nx, m.kind = 2 ∨ m.kind = 3)
def Q2 (M : Opt) (p : Two) : Prop := p.x.mine = M ∨ (⟨1, M⟩ : Msg) ∈ p.ny ∨ (⟨2, M⟩ : Msg) ∈ p.nx
def Per (M : Opt) (t : Nat) (p : Two) : Prop := (1 ≤ t → p.x.asks = M) ∧ (2 ≤ t → p.y.asks = M) ∧ (3 ≤ t → p.x.mine = M) ∧ (4 ≤ t → p.y.mine = M)
theorem one_y (p : Two) (what : Int) : (p.one what).y = p.y := by
  unfold Two.one
  split
  · split <;> rfl
  · split
    · rfl
    · split
      · rfl
      split <;> rfl
theorem zero_x (p : Two) : (p.one 0).x = p.x ∧ (p.one 0).nx = p.nx := by
  unfold Two.one
  rw [if_pos (by omega)]
  split <;> exact ⟨rfl, rfl⟩
section
variable {a b : Opt} {p : Two}
theorem Inv.asks3 (ha : a.ok = true) (hb : b.ok = true) (h : Inv a b p) (hx : p.x.asks = a.least b) : (p.one 3).x.asks = a.least b := by
  rcases h.three ha hb with ⟨_, e⟩ | ⟨m, rest, _, ⟨_, e⟩ | ⟨_, _, e⟩ | ⟨_, _, e⟩ | ⟨_, e⟩⟩ <;> rw [e]
  · exact hx
  · exact hx
  · exact hx
  · exact hx
  · simp only
    split
    · rfl
    · exact hx
theorem Inv.mine3 (ha : a.ok = true) (hb : b.ok = true) (h : Inv a b p) (hx : p.x.mine = a.least b) : (p.one 3).x.mine = a.least b := by
  rcases h.three ha hb with ⟨_, e⟩ | ⟨m, rest, _, ⟨_, e⟩ | ⟨_, _, e⟩ | ⟨_, _, e⟩ | ⟨_, e⟩⟩ <;> rw [e]
  · exact hx
  · exact hx
  · exact hx
  · simp only
    split <;> exact hx
theorem Inv.q1 (ha : a.ok = true) (hb : b.ok = true) (h : Inv a b p) (hq : Q1 (a.least b) p) : Q1 (a.least b) (p.one 3) := by
  have hM := least_good ha hb
  have hz : Opt.zero ≠ a.least b := fun e => by rw [← e, ok_zero] at hM; cases hM
  rcases h.three ha hb with ⟨_, e⟩ | ⟨m, rest, en, ⟨rfl, e⟩ | ⟨hk, _, e⟩ | ⟨rfl, h1, e⟩ | ⟨rfl, e⟩⟩ <;> rw [e]
  · exact hq
  · rcases hq with h1 | ⟨q, h1, h2⟩ | ⟨q, h1, h2⟩
    · exact .inl h1
    · exact .inr (.inl ⟨q, List.mem_append_left _ h1, h2⟩)
    · rw [en] at h1
      rcases List.mem_cons.1 h1 with rfl | h1
      · rcases h2 with h2 | h2 <;> cases h2
      · exact .inr (.inr ⟨q, h1, h2⟩)
  · rcases hq with h1 | ⟨q, h1, h2⟩ | ⟨q, h1, h2⟩
    · exact .inl h1
    · exact .inr (.inl ⟨q, List.mem_append_left _ h1, h2⟩)
    · rw [en] at h1
      rcases List.mem_cons.1 h1 with rfl | h1
      · omega
      · exact .inr (.inr ⟨q, h1, h2⟩)
  · exact .inl h1
  · refine .inl ?_
    simp only
    split
    · rfl
    · rename_i hn
      exact (h.1.J3 (h.1.mine.resolve_left hn)).1
theorem Inv.q2 (ha : a.ok = true) (hb : b.ok = true) (h : Inv a b p) (hq : Q2 (a.least b) p) : Q2 (a.least b) (p.one 3) := by
  rcases h.three ha hb with ⟨_, e⟩ | ⟨m, rest, en, ⟨rfl, e⟩ | ⟨hk, hn, e⟩ | ⟨rfl, h1, e⟩ | ⟨rfl, e⟩⟩ <;> rw [e]
  · exact hq
  · rcases hq with h1 | h1 | h1
    · exact .inl h1
    · exact .inr (.inl (List.mem_append_left _ h1))
    · rw [en] at h1
      rcases List.mem_cons.1 h1 with h1 | h1
      · cases h1
      · exact .inr (.inr h1)
  · rcases hq with h1 | h1 | h1
    · exact .inl h1
    · exact .inr (.inl (List.mem_append_left _ h1))
    · rw [en] at h1
      rcases List.mem_cons.1 h1 with h1 | h1
      · rw [← h1] at hk
        cases hk
      · exact .inr (.inr h1)
  · exact .inl rfl
  · rcases hq with h1 | h1 | h1
    · refine .inl ?_
      simp only
      split <;> exact h1
    · exact .inr (.inl h1)
    · rw [en] at h1
      rcases List.mem_cons.1 h1 with h1 | h1
      · cases h1
      · exact .inr (.inr h1)
/-- .. where the other one hears (p the other way round). -/
theorem Inv.q1o (ha : a.ok = true) (hb : b.ok = true) (h : Inv a b p) (hq : Q1 (a.least b) p.swap) : Q1 (a.least b) (p.one 3).swap := by
  rcases h.three ha hb with ⟨_, e⟩ | ⟨m, rest, en, ⟨rfl, e⟩ | ⟨hk, hn, e⟩ | ⟨rfl, h1, e⟩ | ⟨rfl, e⟩⟩ <;> rw [e]
  · exact hq
  · exact .inl (h.2.J1 (by rw [en]; simp))
  · exact .inr (.inr ⟨⟨3, a.least b⟩, by simp [Two.swap], .inr rfl⟩)
  · rcases hq with h1 | ⟨q, h1, h2⟩ | ⟨q, h1, h2⟩
    · exact .inl h1
    · simp only [Two.swap, en] at h1
      rcases List.mem_cons.1 h1 with rfl | h1
      · cases h2
      · exact .inr (.inl ⟨q, h1, h2⟩)
    · exact .inr (.inr ⟨q, h1, h2⟩)
  · rcases hq with h1 | ⟨q, h1, h2⟩ | ⟨q, h1, h2⟩
    · exact .inl h1
    · simp only [Two.swap, en] at h1
      rcases List.mem_cons.1 h1 with rfl | h1
      · cases h2
      · exact .inr (.inl ⟨q, h1, h2⟩)
    · exact .inr (.inr ⟨q, h1, h2⟩)
theorem Inv.q2o (ha : a.ok = true) (hb : b.ok = true) (h : Inv a b p) (hq : Q2 (a.least b) p.swap) : Q2 (a.least b) (p.one 3).swap := by
  rcases h.three ha hb with ⟨_, e⟩ | ⟨m, rest, en, ⟨rfl, e⟩ | ⟨hk, hn, e⟩ | ⟨rfl, h1, e⟩ | ⟨rfl, e⟩⟩ <;> rw [e]
  · exact hq
  · exact .inr (.inr (by simp [Two.swap]))
  · rcases hq with h1 | h1 | h1
    · exact .inl h1
    · simp only [Two.swap, en] at h1
      rcases List.mem_cons.1 h1 with h1 | h1
      · rw [← h1] at hn
        exact absurd rfl hn
      · exact .inr (.inl h1)
    · exact .inr (.inr (List.mem_append_left _ h1))
  · rcases hq with h1 | h1 | h1
    · exact .inl h1
    · simp only [Two.swap, en] at h1
      rcases List.mem_cons.1 h1 with h1 | h1
      · cases h1
      · exact .inr (.inl h1)
    · exact .inr (.inr h1)
  · rcases hq with h1 | h1 | h1
    · exact .inl h1
    · simp only [Two.swap, en] at h1
      rcases List.mem_cons.1 h1 with h1 | h1
      · cases h1
      · exact .inr (.inl h1)
    · exact .inr (.inr h1)
end
def FE (p : Two) : Prop := p.x.fails = true ∨ p.y.fails = true ∨ p.nx ≠ [] ∨ p.ny ≠ []
/-- All the while that all is heard. -/
def Mid (a b : Opt) (t : Nat) (p : Two) : Prop :=
  (a.mode = b.mode → Inv a b p ∧ Per (a.least b) t p ∧ (t % 2 = 0 → Q1 (a.least b) p ∧ (2 ≤ t → Q2 (a.least b) p)) ∧ (t % 2 = 1 → Q1 (a.least b) p.swap ∧ (3 ≤ t → Q2 (a.least b) p.swap))) ∧ (a.mode ≠ b.mode → Fars a b p ∧ FE p)
/-- Behind so many times that one asked, and all was heard. -/
def Calm (a b : Opt) (t : Nat) (p : Two) : Prop :=
  (a.mode = b.mode → Inv a b p ∧ Per (a.least b) t p) ∧ (a.mode ≠ b.mode → Fars a b p ∧ (1 ≤ t → p.x.fails = true ∨ p.y.fails = true))
section
variable {a b : Opt} {p : Two} {t : Nat}
theorem Per.act3 (hm : a.mode = b.mode) (ha : a.ok = true) (hb : b.ok = true) (h : Inv a b p) (hp : Per (a.least b) t p) (who : Int) : Per (a.least b) t (p.act who 3) := by
  obtain ⟨h1, h2, h3, h4⟩ := hp
  unfold Two.act
  split
  · exact ⟨fun k => h.asks3 ha hb (h1 k), fun k => by rw [one_y]; exact h2 k, fun k => h.mine3 ha hb (h3 k), fun k => by rw [one_y]; exact h4 k⟩
  · have hs := h.swap hm
    have e := least_swap hm
    refine ⟨fun k => ?_, fun k => ?_, fun k => ?_, fun k => ?_⟩
    · show (p.swap.one 3).y.asks = _
      rw [one_y]; exact h1 k
    · have := hs.asks3 hb ha (by rw [e]; exact h2 k)
      rw [e] at this; exact this
    · show (p.swap.one 3).y.mine = _
      rw [one_y]; exact h3 k
    · have := hs.mine3 hb ha (by rw [e]; exact h4 k)
      rw [e] at this; exact this
theorem Mid.step (ha : a.ok = true) (hb : b.ok = true) (h : Mid a b t p) (who : Int) : Mid a b t (p.act who 3) := by
  refine ⟨fun hm => ?_, fun hm => ?_⟩
  · obtain ⟨h1, h2, h3, h4⟩ := h.1 hm
    refine ⟨h1.act hm ha hb who 3, h2.act3 hm ha hb h1 who, fun e => ?_, fun e => ?_⟩
    · obtain ⟨q1, q2⟩ := h3 e
      unfold Two.act
      split
      · exact ⟨h1.q1 ha hb q1, fun k => h1.q2 ha hb (q2 k)⟩
      · have hs := h1.swap hm
        have e := least_swap hm
        have r1 := hs.q1o hb ha (by rw [e]; exact q1)
        have r2 := fun k => hs.q2o hb ha (by rw [e]; exact q2 k)
        rw [e] at r1 r2
        exact ⟨r1, r2⟩
    · obtain ⟨q1, q2⟩ := h4 e
      unfold Two.act
      split
      · exact ⟨h1.q1o ha hb q1, fun k => h1.q2o ha hb (q2 k)⟩
      · have hs := h1.swap hm
        have e := least_swap hm
        have r1 := hs.q1 hb ha (by rw [e]; exact q1)
        have r2 := fun k => hs.q2 hb ha (by rw [e]; exact q2 k)
        rw [e] at r1 r2
        exact ⟨r1, r2⟩
  · obtain ⟨h1, h2⟩ := h.2 hm
    refine ⟨h1.act hm ha hb who 3, ?_⟩
    have key : ∀ {a b : Opt} {p : Two}, a.mode ≠ b.mode → a.ok = true → b.ok = true → Fars a b p → FE p → FE (p.one 3) := by
      intro a b p hm ha hb h1 h2
      obtain ⟨x, y, nx, ny⟩ := p
      obtain ⟨f1, f2⟩ := h1
      simp only at f1 f2
      cases nx with
      | nil => exact h2
      | cons m rest =>
        have e0 : Two.one ⟨x, y, m :: rest, ny⟩ 3 = { x := (iHear x m).1, y := y, nx := rest, ny := if (iHear x m).2.2 then ny ++ [(iHear x m).2.1] else ny } := rfl
        rw [e0, f1.net m (by simp), f1.heard hm ha hb]
        exact .inl rfl
    unfold Two.act
    split
    · exact key hm ha hb h1 h2
    · have : FE p.swap := by
        rcases h2 with h | h | h | h
        · exact .inr (.inl h)
        · exact .inl h
        · exact .inr (.inr (.inr h))
        · exact .inr (.inr (.inl h))
      have r := key (fun e => hm e.symm) hb ha ⟨h1.2, h1.1⟩ this
      rcases r with h | h | h | h
      · exact .inr (.inl h)
      · exact .inl h
      · exact .inr (.inr (.inr h))
      · exact .inr (.inr (.inl h))
theorem Mid.last (h : Mid a b t p) (e1 : p.nx = []) (e2 : p.ny = []) : Calm a b (t + 1) p := by
  refine ⟨fun hm => ?_, fun hm => ?_⟩
  · obtain ⟨h1, ⟨p1, p2, p3, p4⟩, h3, h4⟩ := h.1 hm
    have n1 : ∀ q : Two, q.nx = [] → q.ny = [] → Q1 (a.least b) q → q.x.asks = a.least b := by
      intro q f1 f2 hq
      rcases hq with h | ⟨m, h, _⟩ | ⟨m, h, _⟩
      · exact h
      · rw [f2] at h; cases h
      · rw [f1] at h; cases h
    have n2 : ∀ q : Two, q.nx = [] → q.ny = [] → Q2 (a.least b) q → q.x.mine = a.least b := by
      intro q f1 f2 hq
      rcases hq with h | h | h
      · exact h
      · rw [f2] at h; cases h
      · rw [f1] at h; cases h
    refine ⟨h1, fun k => ?_, fun k => ?_, fun k => ?_, fun k => ?_⟩
    · by_cases e : t % 2 = 0
      · exact n1 p e1 e2 (h3 e).1
      · exact p1 (by omega)
    · by_cases e : t % 2 = 1
      · exact n1 p.swap e2 e1 (h4 e).1
      · exact p2 (by omega)
    · by_cases e : t % 2 = 0
      · exact n2 p e1 e2 ((h3 e).2 (by omega))
      · exact p3 (by omega)
    · by_cases e : t % 2 = 1
      · exact n2 p.swap e2 e1 ((h4 e).2 (by omega))
      · exact p4 (by omega)
  · obtain ⟨h1, h2⟩ := h.2 hm
    refine ⟨h1, fun _ => ?_⟩
    rcases h2 with h | h | h | h
    · exact .inl h
    · exact .inr h
    · exact absurd e1 h
    · exact absurd e2 h
/-- One asks. -/
theorem Calm.say (ha : a.ok = true) (hb : b.ok = true) (h : Calm a b t p) : Mid a b t (p.act ((t % 2 : Nat) : Int) 0) := by
  have key : ∀ {a b : Opt} {q : Two}, a.ok = true → b.ok = true → Inv a b q → Q1 (a.least b) (q.one 0) ∧ (q.x.asks = a.least b → Q2 (a.least b) (q.one 0)) := by
    intro a b q ha hb hq
    have hM := least_good ha hb
    by_cases hs : says q.x = true
    · have e : q.one 0 = { q with ny := q.ny ++ [⟨1, q.x.asks⟩] } := by unfold Two.one; rw [if_pos (by omega), if_pos hs]
      rw [e]
      exact ⟨.inr (.inl ⟨⟨1, q.x.asks⟩, by simp, rfl⟩), fun hx => .inr (.inl (by simp [hx]))⟩
    · have e : q.one 0 = q := by unfold Two.one; rw [if_pos (by omega), if_neg hs]
      rw [e]
      have hmn : q.x.mine = a.least b := by
        rcases hq.1.mine with h | h
        · exact absurd ((says_iff q.x).2 ⟨hq.1.ok hM ha, hq.1.fails, h⟩) hs
        · exact h
      exact ⟨.inl (hq.1.J3 hmn).1, fun _ => .inl hmn⟩
  have key2 : ∀ {a b : Opt} {q : Two}, a.ok = true → Fars a b q → FE (q.one 0) := by
    intro a b q ha hq
    by_cases hs : says q.x = true
    · have e : q.one 0 = { q with ny := q.ny ++ [⟨1, q.x.asks⟩] } := by unfold Two.one; rw [if_pos (by omega), if_pos hs]
      rw [e]
      exact .inr (.inr (.inr (by simp)))
    · have e : q.one 0 = q := by unfold Two.one; rw [if_pos (by omega), if_neg hs]
      rw [e]
      refine .inl ?_
      cases hf : q.x.fails
      · exact absurd ((says_iff q.x).2 ⟨hq.1.ok ha, hf, hq.1.mine⟩) hs
      · rfl
  refine ⟨fun hm => ?_, fun hm => ?_⟩
  · obtain ⟨h1, p1, p2, p3, p4⟩ := h.1 hm
    refine ⟨h1.act hm ha hb _ 0, ?_, fun e => ?_, fun e => ?_⟩
    · unfold Two.act
      split
      · exact ⟨fun k => by rw [(zero_x p).1]; exact p1 k, fun k => by rw [one_y]; exact p2 k, fun k => by rw [(zero_x p).1]; exact p3 k, fun k => by rw [one_y]; exact p4 k⟩
      · refine ⟨fun k => ?_, fun k => ?_, fun k => ?_, fun k => ?_⟩
        · show (p.swap.one 0).y.asks = _
          rw [one_y]; exact p1 k
        · show (p.swap.one 0).x.asks = _
          rw [(zero_x _).1]; exact p2 k
        · show (p.swap.one 0).y.mine = _
          rw [one_y]; exact p3 k
        · show (p.swap.one 0).x.mine = _
          rw [(zero_x _).1]; exact p4 k
    · rw [show p.act ((t % 2 : Nat) : Int) 0 = p.one 0 by unfold Two.act; rw [if_pos (by omega)]]
      have := key ha hb h1
      exact ⟨this.1, fun k => this.2 (p1 (by omega))⟩
    · rw [show p.act ((t % 2 : Nat) : Int) 0 = (p.swap.one 0).swap by unfold Two.act; rw [if_neg (by omega)]]
      have := key hb ha (h1.swap hm)
      rw [least_swap hm] at this
      exact ⟨this.1, fun k => this.2 (p2 (by omega))⟩
  · obtain ⟨h1, _⟩ := h.2 hm
    refine ⟨h1.act hm ha hb _ 0, ?_⟩
    unfold Two.act
    split
    · exact key2 ha h1
    · have r := key2 (q := p.swap) hb ⟨h1.2, h1.1⟩
      rcases r with h | h | h | h
      · exact .inr (.inl h)
      · exact .inl h
      · exact .inr (.inr (.inr h))
      · exact .inr (.inr (.inl h))
/-- How many times more one is heard. -/
def Two.left (p : Two) (n : Nat) : Nat := 2 * p.wt + (if n % 2 = 0 then (if p.nx = [] then 1 else 0) else (if p.ny = [] then 1 else 0))
theorem Mid.drop (ha : a.ok = true) (hb : b.ok = true) (h : Mid a b t p) (n : Nat) (hn : ¬ (p.nx = [] ∧ p.ny = [])) : (p.act ((n % 2 : Nat) : Int) 3).left (n + 1) + 1 ≤ p.left n := by
  have same : ∀ q : Two, q.nx = [] → q.one 3 = q := by
    intro q e
    obtain ⟨x, y, nx, ny⟩ := q
    simp only at e
    subst e
    rfl
  have fall : ∀ q : Two, (q = p ∨ q = p.swap) → q.nx ≠ [] → (q.one 3).wt + 1 ≤ q.wt := by
    intro q hq hne
    by_cases hm : a.mode = b.mode
    · obtain ⟨h1, _⟩ := h.1 hm
      rcases hq with rfl | rfl
      · exact h1.falls ha hb hne
      · exact (h1.swap hm).falls hb ha hne
    · obtain ⟨h1, _⟩ := h.2 hm
      rcases hq with rfl | rfl
      · exact h1.falls hm ha hb hne
      · exact Fars.falls (fun e => hm e.symm) hb ha ⟨h1.2, h1.1⟩ hne
  by_cases e : n % 2 = 0
  · rw [show p.act ((n % 2 : Nat) : Int) 3 = p.one 3 by unfold Two.act; rw [if_pos (by omega)]]
    unfold Two.left
    rw [if_neg (by omega), if_pos e]
    by_cases en : p.nx = []
    · rw [same p en, if_pos en, if_neg (fun e2 => hn ⟨en, e2⟩)]
      omega
    · have := fall p (.inl rfl) en
      rw [if_neg en]
      split <;> omega
  · rw [show p.act ((n % 2 : Nat) : Int) 3 = (p.swap.one 3).swap by unfold Two.act; rw [if_neg (by omega)]]
    have ws : ∀ q : Two, q.swap.wt = q.wt := fun q => by simp only [Two.wt, Two.swap]; omega
    unfold Two.left
    rw [if_pos (by omega), if_neg e, ws]
    by_cases en : p.ny = []
    · rw [same p.swap en, if_pos en]
      rw [show p.swap.swap.nx = p.nx from rfl, if_neg (fun e2 => hn ⟨e2, en⟩), ws]
      omega
    · have := fall p.swap (.inr rfl) en
      rw [ws] at this
      rw [if_neg en]
      split <;> omega
theorem Calm.zero {p : Two} (h1 : a.mode = b.mode → Inv a b p) (h2 : a.mode ≠ b.mode → Fars a b p) : Calm a b 0 p :=
  ⟨fun hm => ⟨h1 hm, fun k => by omega, fun k => by omega, fun k => by omega, fun k => by omega⟩, fun hm => ⟨h2 hm, fun k => by omega⟩⟩
theorem Calm.done (ha : a.ok = true) (hb : b.ok = true) (h : Calm a b t p) (ht : 4 ≤ t) : (a.mode = b.mode → done p.x = true ∧ done p.y = true) ∧ (a.mode ≠ b.mode → done p.x = false ∧ done p.y = false ∧ (p.x.fails = true ∨ p.y.fails = true)) := by
  refine ⟨fun hm => ?_, fun hm => ?_⟩
  · obtain ⟨h1, _, _, p3, p4⟩ := h.1 hm
    have hM := least_good ha hb
    have m1 := p3 (by omega)
    have m2 := p4 (by omega)
    exact ⟨h1.1.all hM ha m1 (h1.2.J3 m2).2, h1.2.all hM hb m2 (h1.1.J3 m1).2⟩
  · obtain ⟨h1, h2⟩ := h.2 hm
    exact ⟨h1.1.never, h1.2.never, h2 (by omega)⟩
end
theorem Two.left_say {p : Two} (t : Nat) (h : p.wt ≤ 100) : (p.act ((t % 2 : Nat) : Int) 0).left 0 ≤ 205 := by
  have ws : ∀ q : Two, q.swap.wt = q.wt := fun q => by simp only [Two.wt, Two.swap]; omega
  have : (p.act ((t % 2 : Nat) : Int) 0).wt ≤ 102 := by
    unfold Two.act
    split
    · have := p.wt_say; omega
    · have := p.swap.wt_say; rw [ws] at this; rw [ws]; omega
  unfold Two.left
  split <;> split <;> omega
--END
end Go.Proofs.Ytaoafikkamnjlaa
