/- Two who agree, whatever of what they say is lost, doubled or late: as plain lists; what holds all the while. -/
import Derived.Test.YtaoafikkamnjlaaNegVal
namespace Go.Proofs.Ytaoafikkamnjlaa
open Go.RowKit
--MATH
/-- Two who agree: both, and what is on its way to each. -/
structure Two where
  x : Neg
  y : Neg
  nx : List Msg
  ny : List Msg
def Two.swap (p : Two) : Two := ⟨p.y, p.x, p.ny, p.nx⟩
/-- One thing that happens to the first. -/
def Two.one (p : Two) (what : Int) : Two :=
  if what < 2 then (if says p.x then { p with ny := p.ny ++ [⟨1, p.x.asks⟩] } else p)
  else match p.nx with
  | [] => p
  | m :: rest =>
    if what = 4 then { p with nx := rest }
    else if what = 5 then { p with nx := m :: rest ++ [m] }
    else { x := (iHear p.x m).1, y := p.y, nx := rest, ny := if (iHear p.x m).2.2 then p.ny ++ [(iHear p.x m).2.1] else p.ny }
/-- .. to either. -/
def Two.act (p : Two) (who what : Int) : Two := if who = 0 then p.one what else (p.swap.one what).swap
theorem Two.swap_swap (p : Two) : p.swap.swap = p := rfl
def Opt.le (a b : Opt) : Prop := a.mode = b.mode ∧ a.win ≤ b.win ∧ a.mps ≤ b.mps ∧ a.mtu ≤ b.mtu ∧ a.tri ≤ b.tri
theorem Opt.le_refl (a : Opt) : a.le a := ⟨rfl, Int.le_refl _, Int.le_refl _, Int.le_refl _, Int.le_refl _⟩
theorem Opt.ext' {a b : Opt} (h1 : a.mode = b.mode) (h2 : a.win = b.win) (h3 : a.mps = b.mps) (h4 : a.mtu = b.mtu) (h5 : a.tri = b.tri) : a = b := by
  cases a; cases b; simp_all
theorem least_mid {own oth q : Opt} (h1 : (own.least oth).le q) (h2 : q.le oth) : own.least q = own.least oth := by
  obtain ⟨a1, a2, a3, a4, a5⟩ := h1
  obtain ⟨b1, b2, b3, b4, b5⟩ := h2
  simp only [Opt.least] at *
  apply Opt.ext' <;> simp only <;> omega
theorem least_low {M q : Opt} (h : M.le q) : q.least M = M := by
  obtain ⟨a1, a2, a3, a4, a5⟩ := h
  apply Opt.ext' <;> simp only [Opt.least] <;> omega
theorem least_left (a b : Opt) : (a.least b).le a := by
  refine ⟨rfl, ?_, ?_, ?_, ?_⟩ <;> simp only [Opt.least] <;> omega
theorem least_right {a b : Opt} (h : a.mode = b.mode) : (a.least b).le b := by
  refine ⟨h, ?_, ?_, ?_, ?_⟩ <;> simp only [Opt.least] <;> omega
theorem least_swap {a b : Opt} (h : a.mode = b.mode) : b.least a = a.least b := by
  apply Opt.ext' <;> simp only [Opt.least] <;> omega
theorem ok_mid {M q own : Opt} (hM : M.ok = true) (ho : own.ok = true) (h1 : M.le q) (h2 : q.le own) : q.ok = true := by
  simp only [Opt.ok, Bool.and_eq_true, inB_iff, Opt.le] at *
  omega
theorem least_good {a b : Opt} (ha : a.ok = true) (hb : b.ok = true) : (a.least b).ok = true := by
  simp only [Opt.ok, Bool.and_eq_true, inB_iff, Opt.least] at *
  omega
theorem ok_zero : Opt.zero.ok = false := by decide
/-- What may be on its way, of two who want one mode. -/
def Good (M oth : Opt) (m : Msg) : Prop := (m.kind = 1 ∧ M.le m.opts ∧ m.opts.le oth) ∨ (m.kind = 2 ∧ m.opts = M) ∨ (m.kind = 3 ∧ m.opts = M)
structure Side (M o oth : Opt) (x y : Neg) (nx ny : List Msg) : Prop where
  own : x.own = o
  lo : M.le x.asks
  hi : x.asks.le o
  fails : x.fails = false
  mine : x.mine = Opt.zero ∨ x.mine = M
  yours : x.yours = Opt.zero ∨ x.yours = M
  net : ∀ m ∈ nx, Good M oth m
  J1 : (⟨1, M⟩ : Msg) ∈ ny → x.asks = M
  J2 : (⟨2, M⟩ : Msg) ∈ nx → x.asks = M ∧ y.yours = M
  J3 : x.mine = M → x.asks = M ∧ y.yours = M
theorem Side.ok {M own oth : Opt} {x y : Neg} {nx ny : List Msg} (h : Side M own oth x y nx ny) (hM : M.ok = true) (ho : own.ok = true) : x.ok = true := by
  have h1 := ok_mid hM ho h.lo h.hi
  have h2 : x.mine.yes = true := by
    rcases h.mine with e | e
    · rw [e]; decide
    · rw [e]; simp [Opt.yes, hM]
  have h3 : x.yours.yes = true := by
    rcases h.yours with e | e
    · rw [e]; decide
    · rw [e]; simp [Opt.yes, hM]
  simp [Neg.ok, h.own, ho, h1, h2, h3]
theorem Side.heard {own oth : Opt} {x y : Neg} {nx ny : List Msg} {m : Msg} (ho : own.ok = true) (hh : oth.ok = true) (h : Side (own.least oth) own oth x y nx ny) (hg : Good (own.least oth) oth m) :
    (m = ⟨1, own.least oth⟩ ∧ iHear x m = ({ x with yours := own.least oth }, ⟨2, own.least oth⟩, true)) ∨ (m.kind = 1 ∧ m.opts ≠ own.least oth ∧ iHear x m = (x, ⟨3, own.least oth⟩, true))
    ∨ (m = ⟨2, own.least oth⟩ ∧ iHear x m = (if own.least oth = x.asks then { x with mine := own.least oth } else x, Msg.zero, false)) ∨ (m = ⟨3, own.least oth⟩ ∧ iHear x m = (if x.mine = Opt.zero then { x with asks := own.least oth } else x, Msg.zero, false)) := by
  have hM := least_good ho hh
  have hok := h.ok hM ho
  obtain ⟨k, q⟩ := m
  rcases hg with ⟨rfl, h1, h2⟩ | ⟨rfl, rfl⟩ | ⟨rfl, rfl⟩
  · have hq := ok_mid hM hh h1 h2
    have hl := least_mid h1 h2
    have hmo : q.mode = own.mode := by have := h1.1; simpa [Opt.least] using this.symm
    by_cases e : own.least oth = q
    · refine .inl ⟨by rw [e], ?_⟩
      unfold iHear
      rw [if_neg (by simp [hok, hq, inB]), if_neg (by simp [h.own, hmo]), if_pos rfl, if_pos (by simp [h.own, hl, e])]
      simp [e]
    · refine .inr (.inl ⟨rfl, fun e' => e e'.symm, ?_⟩)
      unfold iHear
      rw [if_neg (by simp [hok, hq, inB]), if_neg (by simp [h.own, hmo]), if_pos rfl, if_neg (by simp [h.own, hl, e])]
      simp [h.own, hl]
  · refine .inr (.inr (.inl ⟨rfl, ?_⟩))
    unfold iHear
    rw [if_neg (by simp [hok, hM, inB]), if_neg (by simp [h.own, Opt.least]), if_neg (by simp), if_pos rfl]
    simp only
    split <;> rfl
  · refine .inr (.inr (.inr ⟨rfl, ?_⟩))
    have hmo : x.asks.mode = (own.least oth).mode := h.lo.1.symm
    unfold iHear
    rw [if_neg (by simp [hok, hM, inB]), if_neg (by simp [h.own, Opt.least]), if_neg (by simp), if_neg (by simp)]
    simp only [hmo, and_true, least_low h.lo]
    split <;> rfl
/-- What holds of two who want one mode. -/
def Inv (a b : Opt) (p : Two) : Prop := Side (a.least b) a b p.x p.y p.nx p.ny ∧ Side (a.least b) b a p.y p.x p.ny p.nx
theorem Inv.swap {a b : Opt} {p : Two} (hm : a.mode = b.mode) (h : Inv a b p) : Inv b a p.swap := by
  unfold Inv
  rw [least_swap hm]
  exact ⟨h.2, h.1⟩
theorem inv_new (a b : Opt) (hm : a.mode = b.mode) (ha : a.ok = true) (hb : b.ok = true) : Inv a b ⟨⟨a, a, Opt.zero, Opt.zero, false⟩, ⟨b, b, Opt.zero, Opt.zero, false⟩, [], []⟩ := by
  have hM := least_good ha hb
  have hz : Opt.zero ≠ a.least b := fun e => by rw [← e, ok_zero] at hM; cases hM
  exact ⟨⟨rfl, least_left a b, Opt.le_refl a, rfl, .inl rfl, .inl rfl, by simp, by simp, by simp, fun e => absurd e hz⟩, ⟨rfl, least_right hm, Opt.le_refl b, rfl, .inl rfl, .inl rfl, by simp, by simp, by simp, fun e => absurd e hz⟩⟩
theorem says_iff (s : Neg) : says s = true ↔ s.ok = true ∧ s.fails = false ∧ s.mine = Opt.zero := by
  simp [says, Opt.same_iff, and_assoc]
theorem Inv.one {a b : Opt} {p : Two} (ha : a.ok = true) (hb : b.ok = true) (h : Inv a b p) (what : Int) : Inv a b (p.one what) := by
  have hM := least_good ha hb
  have hz : Opt.zero ≠ a.least b := fun e => by rw [← e, ok_zero] at hM; cases hM
  obtain ⟨x, y, nx, ny⟩ := p
  obtain ⟨h1, h2⟩ := h
  simp only at h1 h2
  unfold Two.one
  simp only
  split
  · split
    · refine ⟨{ h1 with J1 := fun e => ?_ }, { h2 with net := fun m e => ?_, J2 := fun e => ?_ }⟩
      · simp only [List.mem_append, List.mem_singleton, Msg.mk.injEq, true_and] at e
        rcases e with e | e
        · exact h1.J1 e
        · exact e.symm
      · simp only [List.mem_append, List.mem_singleton] at e
        rcases e with e | rfl
        · exact h2.net m e
        · exact .inl ⟨rfl, h1.lo, h1.hi⟩
      · simp only [List.mem_append, List.mem_singleton, Msg.mk.injEq] at e
        rcases e with e | ⟨e, _⟩
        · exact h2.J2 e
        · cases e
    · exact ⟨h1, h2⟩
  · cases nx with
    | nil => exact ⟨h1, h2⟩
    | cons m rest =>
      simp only
      have h1r : Side (a.least b) a b x y rest ny := { h1 with net := fun q e => h1.net q (List.mem_cons_of_mem _ e), J2 := fun e => h1.J2 (List.mem_cons_of_mem _ e) }
      have h2r : Side (a.least b) b a y x ny rest := { h2 with J1 := fun e => h2.J1 (List.mem_cons_of_mem _ e) }
      split
      · exact ⟨h1r, h2r⟩
      split
      · refine ⟨{ h1 with net := fun q e => ?_, J2 := fun e => ?_ }, { h2 with J1 := fun e => ?_ }⟩
        · simp only [List.cons_append, List.mem_cons, List.mem_append, List.not_mem_nil, or_false] at e
          exact h1.net q (by rcases e with e | e | e <;> simp [e])
        · simp only [List.cons_append, List.mem_cons, List.mem_append, List.not_mem_nil, or_false] at e
          exact h1.J2 (by rcases e with e | e | e <;> simp [e])
        · simp only [List.cons_append, List.mem_cons, List.mem_append, List.not_mem_nil, or_false] at e
          exact h2.J1 (by rcases e with e | e | e <;> simp [e])
      · rcases h1.heard ha hb (h1.net m (by simp)) with ⟨rfl, e⟩ | ⟨hk, hn, e⟩ | ⟨rfl, e⟩ | ⟨rfl, e⟩ <;> rw [e] <;> simp only [if_true, Bool.false_eq_true, if_false]
        · have hy := h2.J1 (by simp)
          refine ⟨{ h1r with yours := .inr rfl, J1 := fun e => ?_ }, { h2r with net := fun q e => ?_, J2 := fun _ => ⟨hy, rfl⟩, J3 := fun e => ⟨(h2r.J3 e).1, rfl⟩ }⟩
          · simp only [List.mem_append, List.mem_singleton, Msg.mk.injEq] at e
            rcases e with e | ⟨e, _⟩
            · exact h1r.J1 e
            · cases e
          · simp only [List.mem_append, List.mem_singleton] at e
            rcases e with e | rfl
            · exact h2r.net q e
            · exact .inr (.inl ⟨rfl, rfl⟩)
        · refine ⟨{ h1r with J1 := fun e => ?_ }, { h2r with net := fun q e => ?_, J2 := fun e => ?_ }⟩
          · simp only [List.mem_append, List.mem_singleton, Msg.mk.injEq] at e
            rcases e with e | ⟨e, _⟩
            · exact h1r.J1 e
            · cases e
          · simp only [List.mem_append, List.mem_singleton] at e
            rcases e with e | rfl
            · exact h2r.net q e
            · exact .inr (.inr ⟨rfl, rfl⟩)
          · simp only [List.mem_append, List.mem_singleton, Msg.mk.injEq] at e
            rcases e with e | ⟨e, _⟩
            · exact h2r.J2 e
            · cases e
        · obtain ⟨e1, e2⟩ := h1.J2 (by simp)
          rw [if_pos e1.symm]
          exact ⟨{ h1r with mine := .inr rfl, J3 := fun _ => ⟨e1, e2⟩ }, { h2r with J2 := h2r.J2, J3 := h2r.J3 }⟩
        · split
          · rename_i hmz
            exact ⟨{ h1r with lo := Opt.le_refl _, hi := least_left a b, J1 := fun _ => rfl, J2 := fun e => ⟨rfl, (h1r.J2 e).2⟩, J3 := fun e => absurd (hmz.symm.trans e) hz }, { h2r with J2 := h2r.J2, J3 := h2r.J3 }⟩
          · exact ⟨h1r, h2r⟩
theorem Inv.act {a b : Opt} {p : Two} (hm : a.mode = b.mode) (ha : a.ok = true) (hb : b.ok = true) (h : Inv a b p) (who what : Int) : Inv a b (p.act who what) := by
  unfold Two.act
  split
  · exact h.one ha hb what
  · exact ((h.swap hm).one hb ha what).swap hm.symm
/-- What holds of two who want two modes. -/
structure Far (o oth : Opt) (x : Neg) (nx : List Msg) : Prop where
  own : x.own = o
  asks : x.asks = o
  mine : x.mine = Opt.zero
  yours : x.yours = Opt.zero
  net : ∀ m ∈ nx, m = ⟨1, oth⟩
def Fars (a b : Opt) (p : Two) : Prop := Far a b p.x p.nx ∧ Far b a p.y p.ny
theorem Far.ok {o oth : Opt} {x : Neg} {nx : List Msg} (h : Far o oth x nx) (ho : o.ok = true) : x.ok = true := by
  simp [Neg.ok, h.own, h.asks, h.mine, h.yours, ho, show Opt.zero.yes = true by decide]
theorem Far.heard {o oth : Opt} {x : Neg} {nx : List Msg} (hm : o.mode ≠ oth.mode) (ho : o.ok = true) (hh : oth.ok = true) (h : Far o oth x nx) : iHear x ⟨1, oth⟩ = ({ x with fails := true }, Msg.zero, false) := by
  unfold iHear
  rw [if_neg (by simp [h.ok ho, hh, inB]), if_pos (by simp [h.own]; exact fun e => hm e.symm)]
theorem fars_new (a b : Opt) : Fars a b ⟨⟨a, a, Opt.zero, Opt.zero, false⟩, ⟨b, b, Opt.zero, Opt.zero, false⟩, [], []⟩ := ⟨⟨rfl, rfl, rfl, rfl, by simp⟩, ⟨rfl, rfl, rfl, rfl, by simp⟩⟩
theorem Fars.one {a b : Opt} {p : Two} (hm : a.mode ≠ b.mode) (ha : a.ok = true) (hb : b.ok = true) (h : Fars a b p) (what : Int) : Fars a b (p.one what) := by
  obtain ⟨x, y, nx, ny⟩ := p
  obtain ⟨h1, h2⟩ := h
  simp only at h1 h2
  unfold Two.one
  simp only
  split
  · split
    · refine ⟨h1, { h2 with net := fun m e => ?_ }⟩
      simp only [List.mem_append, List.mem_singleton] at e
      rcases e with e | rfl
      · exact h2.net m e
      · rw [h1.asks]
    · exact ⟨h1, h2⟩
  · cases nx with
    | nil => exact ⟨h1, h2⟩
    | cons m rest =>
      simp only
      have h1r : Far a b x rest := { h1 with net := fun q e => h1.net q (List.mem_cons_of_mem _ e) }
      split
      · exact ⟨h1r, h2⟩
      split
      · refine ⟨{ h1 with net := fun q e => ?_ }, h2⟩
        simp only [List.cons_append, List.mem_cons, List.mem_append, List.not_mem_nil, or_false] at e
        exact h1.net q (by rcases e with e | e | e <;> simp [e])
      · rw [h1.net m (by simp), h1.heard hm ha hb]
        simp only [Bool.false_eq_true, if_false]
        exact ⟨{ h1r with own := h1r.own }, h2⟩
theorem Fars.act {a b : Opt} {p : Two} (hm : a.mode ≠ b.mode) (ha : a.ok = true) (hb : b.ok = true) (h : Fars a b p) (who what : Int) : Fars a b (p.act who what) := by
  unfold Two.act
  split
  · exact h.one hm ha hb what
  · obtain ⟨q1, q2⟩ := Fars.one (p := p.swap) (fun e => hm e.symm) hb ha ⟨h.2, h.1⟩ what
    exact ⟨q2, q1⟩
/-- How many are on their way: at most one more. -/
def Two.size (p : Two) : Nat := p.nx.length + p.ny.length
theorem Two.size_one (p : Two) (what : Int) : (p.one what).size ≤ p.size + 1 := by
  unfold Two.one Two.size
  split
  · split <;> simp <;> omega
  · split
    · omega
    · rename_i m rest e
      rw [e]
      split
      · simp; omega
      split
      · simp; omega
      · simp only
        split <;> simp <;> omega
theorem Two.size_act (p : Two) (who what : Int) : (p.act who what).size ≤ p.size + 1 := by
  unfold Two.act
  split
  · exact p.size_one what
  · have := p.swap.size_one what
    simp only [Two.swap, Two.size] at *
    omega
theorem Side.agreed {M o oth : Opt} {x y : Neg} {nx ny : List Msg} (h : Side M o oth x y nx ny) (hd : done x = true) : doneO x = M := by
  have hd' := hd
  simp only [done, Bool.and_eq_true, Bool.not_eq_true', ← Bool.not_eq_true, Opt.same_iff] at hd
  obtain ⟨⟨⟨⟨_, _⟩, h1⟩, h2⟩, _⟩ := hd
  rw [doneO, if_pos hd', (h.mine).resolve_left h1, (h.yours).resolve_left h2]
  exact least_low (Opt.le_refl M)
theorem Side.all {M o oth : Opt} {x y : Neg} {nx ny : List Msg} (h : Side M o oth x y nx ny) (hM : M.ok = true) (ho : o.ok = true) (h1 : x.mine = M) (h2 : x.yours = M) : done x = true := by
  have hz : M ≠ Opt.zero := fun e => by rw [e, ok_zero] at hM; cases hM
  have hs : M.same Opt.zero = false := by rw [← Bool.not_eq_true, Opt.same_iff]; exact hz
  simp [done, h.ok hM ho, h.fails, h1, h2, hs, meets, hM]
theorem Far.never {o oth : Opt} {x : Neg} {nx : List Msg} (h : Far o oth x nx) : done x = false := by
  simp [done, h.mine, show Opt.zero.same Opt.zero = true by decide]
--CALM
theorem Inv.three {a b : Opt} {p : Two} (ha : a.ok = true) (hb : b.ok = true) (h : Inv a b p) : (p.nx = [] ∧ p.one 3 = p) ∨ ∃ m rest, p.nx = m :: rest ∧
    ((m = ⟨1, a.least b⟩ ∧ p.one 3 = ⟨{ p.x with yours := a.least b }, p.y, rest, p.ny ++ [⟨2, a.least b⟩]⟩) ∨ (m.kind = 1 ∧ m.opts ≠ a.least b ∧ p.one 3 = ⟨p.x, p.y, rest, p.ny ++ [⟨3, a.least b⟩]⟩)
    ∨ (m = ⟨2, a.least b⟩ ∧ p.x.asks = a.least b ∧ p.one 3 = ⟨{ p.x with mine := a.least b }, p.y, rest, p.ny⟩) ∨ (m = ⟨3, a.least b⟩ ∧ p.one 3 = ⟨if p.x.mine = Opt.zero then { p.x with asks := a.least b } else p.x, p.y, rest, p.ny⟩)) := by
  obtain ⟨x, y, nx, ny⟩ := p
  obtain ⟨h1, h2⟩ := h
  simp only at h1 h2
  cases nx with
  | nil => exact .inl ⟨rfl, rfl⟩
  | cons m rest =>
    refine .inr ⟨m, rest, rfl, ?_⟩
    have e0 : Two.one ⟨x, y, m :: rest, ny⟩ 3 = { x := (iHear x m).1, y := y, nx := rest, ny := if (iHear x m).2.2 then ny ++ [(iHear x m).2.1] else ny } := rfl
    rw [e0]
    rcases h1.heard ha hb (h1.net m (by simp)) with ⟨rfl, e⟩ | ⟨hk, hn, e⟩ | ⟨rfl, e⟩ | ⟨rfl, e⟩ <;> rw [e]
    · exact .inl ⟨rfl, rfl⟩
    · exact .inr (.inl ⟨hk, hn, rfl⟩)
    · have e1 := (h1.J2 (by simp)).1
      exact .inr (.inr (.inl ⟨rfl, e1, by rw [if_pos e1.symm]; rfl⟩))
    · exact .inr (.inr (.inr ⟨rfl, rfl⟩))
/-- How much is still to be heard. -/
def wt : List Msg → Nat
  | [] => 0
  | m :: r => (if m.kind = 1 then 2 else 1) + wt r
theorem wt_append (a b : List Msg) : wt (a ++ b) = wt a + wt b := by
  induction a with
  | nil => simp [wt]
  | cons m r ih => simp only [List.cons_append, wt, ih]; omega
theorem wt_most (a : List Msg) : wt a ≤ 2 * a.length := by
  induction a with
  | nil => simp [wt]
  | cons m r ih => simp only [wt, List.length_cons]; split <;> omega
theorem wt_least (a : List Msg) : a.length ≤ wt a := by
  induction a with
  | nil => simp
  | cons m r ih => simp only [wt, List.length_cons]; split <;> omega
def Two.wt (p : Two) : Nat := Go.Proofs.Ytaoafikkamnjlaa.wt p.nx + Go.Proofs.Ytaoafikkamnjlaa.wt p.ny
theorem Two.wt_most (p : Two) : p.wt ≤ 2 * p.size := by
  have h1 := Go.Proofs.Ytaoafikkamnjlaa.wt_most p.nx
  have h2 := Go.Proofs.Ytaoafikkamnjlaa.wt_most p.ny
  simp only [Two.wt, Two.size]
  omega
theorem Two.wt_say (p : Two) : (p.one 0).wt ≤ p.wt + 2 := by
  unfold Two.one Two.wt
  rw [if_pos (by omega)]
  split
  · simp only [wt_append, Go.Proofs.Ytaoafikkamnjlaa.wt]
    simp
    omega
  · omega
theorem Inv.falls {a b : Opt} {p : Two} (ha : a.ok = true) (hb : b.ok = true) (h : Inv a b p) (hn : p.nx ≠ []) : (p.one 3).wt + 1 ≤ p.wt := by
  rcases h.three ha hb with ⟨e, _⟩ | ⟨m, rest, e, ⟨rfl, e1⟩ | ⟨hk, _, e1⟩ | ⟨rfl, _, e1⟩ | ⟨rfl, e1⟩⟩
  · exact absurd e hn
  all_goals
    rw [e1]
    simp only [Two.wt, e, wt_append, Go.Proofs.Ytaoafikkamnjlaa.wt]
    first
      | (simp; omega)
      | (simp [hk]; omega)
theorem Fars.falls {a b : Opt} {p : Two} (hm : a.mode ≠ b.mode) (ha : a.ok = true) (hb : b.ok = true) (h : Fars a b p) (hn : p.nx ≠ []) : (p.one 3).wt + 1 ≤ p.wt := by
  obtain ⟨x, y, nx, ny⟩ := p
  obtain ⟨h1, h2⟩ := h
  simp only at h1 h2
  cases nx with
  | nil => exact absurd rfl hn
  | cons m rest =>
    have e0 : Two.one ⟨x, y, m :: rest, ny⟩ 3 = { x := (iHear x m).1, y := y, nx := rest, ny := if (iHear x m).2.2 then ny ++ [(iHear x m).2.1] else ny } := rfl
    rw [e0, h1.net m (by simp), h1.heard hm ha hb]
    simp only [Two.wt, Go.Proofs.Ytaoafikkamnjlaa.wt]
    simp
    omega
--END
end Go.Proofs.Ytaoafikkamnjlaa
