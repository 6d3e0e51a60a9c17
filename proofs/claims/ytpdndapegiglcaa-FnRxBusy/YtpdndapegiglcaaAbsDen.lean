/- What values in memory read as: data that nobody turns any more (D), and a call's own variables and lists besides (A, Bx); a world in which they are so (Env), and how it outlasts each step. -/
import Derived.Maps.AppendAt
import Derived.Deep.MidRow
import Derived.WalkKit
namespace Go.Proofs.Ytpdndapegiglcaa
open Go

inductive D where
  | v (x : Value)
  | row (es : List (List D))
instance : Inhabited D := ⟨.v undef⟩

/-- In the world w, out of blocks F that nobody turns, a value reads as data. -/
inductive FDen (w : World) (F : Nat → Prop) : D → Value → Prop
  | v (x : Value) : FDen w F (.v x) x
  | emp (a : Option Addr) (c : Nat) (h : a = none → c = 0) : FDen w F (.row []) (.slice a 0 c)
  | row (sz b o cap n : Nat) (es : List (List D)) (vs : Nat → Nat → Value) (hF : F b) (hn : es.length = n) (hcap : n ≤ cap) (hmax : cap ≤ maxLen)
      (hsz : ∀ e ∈ es, e.length = sz)
      (hc : ∀ i j e d, es[i]? = some e → e[j]? = some d → w.cell? ⟨b, o + (i * sz + j), none⟩ = some (vs i j))
      (h1 : ∀ i j e d, es[i]? = some e → e[j]? = some d → (vs i j).oneCell' = true)
      (hd : ∀ i j e d, es[i]? = some e → e[j]? = some d → FDen w F d (vs i j)) :
      FDen w F (.row es) (.slice (some ⟨b, o, none⟩) n cap)
theorem FDen.nil {w : World} {F : Nat → Prop} : FDen w F (.row []) (.slice none 0 0) := .emp none 0 (fun _ => rfl)

inductive A where
  | any
  | d (x : D)
  | ptr (i o : Nat)
  | own (i k : Nat)
  | optr (i k o : Nat)
  | rptr (sz : Nat) (es : List (List D)) (i j : Nat)
  | agg (cs : List A)
  | tup (cs : List A)
  | fn (f : Fn) (first captured : List A)
  | ifc (t : TypeId) (a : A)
instance : Inhabited A := ⟨.any⟩

inductive Den (w : World) (F : Nat → Prop) (E : Nat → Option Nat) (H : Nat → Nat → Option Value) : A → Value → Prop
  | any (x : Value) : Den w F E H .any x
  | d (x : D) (v : Value) (h : FDen w F x v) : Den w F E H (.d x) v
  | ptr (i o b : Nat) (h : E i = some b) : Den w F E H (.ptr i o) (.pointer (some ⟨b, o, none⟩))
  | own (i k : Nat) (v : Value) (h : H i k = some v) (h1 : v.oneCell' = true) : Den w F E H (.own i k) v
  | optr (i k o b n c : Nat) (h : H i k = some (.slice (some ⟨b, 0, none⟩) n c)) : Den w F E H (.optr i k o) (.pointer (some ⟨b, o, none⟩))
  | rptr (sz b o cap n : Nat) (es : List (List D)) (i j : Nat) (h : FDen w F (.row es) (.slice (some ⟨b, o, none⟩) n cap)) (hi : i < n) (hz : ∀ e ∈ es, e.length = sz) :
      Den w F E H (.rptr sz es i j) (.pointer (some ⟨b, o + (i * sz + j), none⟩))
  | agg (as : List A) (cs : Array Value) (hs : cs.size = as.length) (h1 : ∀ i : Nat, i < as.length → (cs.getD i undef).oneCell' = true)
      (h : ∀ (i : Nat) (a : A), as[i]? = some a → Den w F E H a (cs.getD i undef)) : Den w F E H (.agg as) (.agg cs)
  | tup (as : List A) (cs : Array Value) (hs : cs.size = as.length)
      (h : ∀ (i : Nat) (a : A), as[i]? = some a → Den w F E H a (cs.getD i undef)) : Den w F E H (.tup as) (.tuple cs)
  | fn (f : Fn) (as bs : List A) (cs ds : Array Value) (hs : cs.size = as.length) (ht : ds.size = bs.length)
      (h : ∀ (i : Nat) (a : A), as[i]? = some a → Den w F E H a (cs.getD i undef)) (h' : ∀ (i : Nat) (a : A), bs[i]? = some a → Den w F E H a (ds.getD i undef)) :
      Den w F E H (.fn f as bs) (.func f cs ds)
  | ifc (t : TypeId) (a : A) (v : Value) (h : Den w F E H a v) : Den w F E H (.ifc t a) (.iface t v)

theorem FDen.mono {w w' : World} {F F' : Nat → Prop} (hF : ∀ b, F b → F' b) (hw : ∀ b, F b → w'.heap[b]? = w.heap[b]?) {x : D} {v : Value} (h : FDen w F x v) : FDen w' F' x v := by
  induction h with
  | v x => exact .v x
  | emp a c h => exact .emp a c h
  | row sz b o cap n es vs hb hn hcap hmax hsz hc h1 hd ih =>
    refine .row sz b o cap n es vs (hF b hb) hn hcap hmax hsz (fun i j e d he hj => ?_) h1 ih
    rw [World.cell?_of_block (a := ⟨b, o + (i * sz + j), none⟩) (hw b hb)]
    exact hc i j e d he hj

theorem Den.mono {w w' : World} {F F' : Nat → Prop} {E E' : Nat → Option Nat} {H H' : Nat → Nat → Option Value} (hF : ∀ b, F b → F' b) (hw : ∀ b, F b → w'.heap[b]? = w.heap[b]?)
    (hE : ∀ i b, E i = some b → E' i = some b) (hH : ∀ i k v, H i k = some v → H' i k = some v) {x : A} {v : Value} (h : Den w F E H x v) : Den w' F' E' H' x v := by
  induction h with
  | any x => exact .any x
  | d x v h => exact .d x v (h.mono hF hw)
  | ptr i o b h => exact .ptr i o b (hE _ _ h)
  | own i k v h h1 => exact .own i k v (hH _ _ _ h) h1
  | optr i k o b n c h => exact .optr i k o b n c (hH _ _ _ h)
  | rptr sz b o cap n es i j h hi hz => exact .rptr sz b o cap n es i j (h.mono hF hw) hi hz
  | agg as cs hs h1 h ih => exact .agg as cs hs h1 ih
  | tup as cs hs h ih => exact .tup as cs hs ih
  | fn f as bs cs ds hs ht h h' ih ih' => exact .fn f as bs cs ds hs ht ih ih'
  | ifc t a v h ih => exact .ifc t a v ih

/-- Two lists, place by place. -/
def Pw {α β : Type} (R : α → β → Prop) (as : List α) (vs : List β) : Prop := as.length = vs.length ∧ ∀ (j : Nat) (a : α) (v : β), as[j]? = some a → vs[j]? = some v → R a v
section
variable {α β : Type} {R R' : α → β → Prop} {as as' : List α} {vs vs' : List β}
theorem Pw.nil : Pw R [] [] := ⟨rfl, fun j a v h => by simp at h⟩
theorem Pw.mono (h : Pw R as vs) (hr : ∀ a v, R a v → R' a v) : Pw R' as vs := ⟨h.1, fun j a v ha hv => hr _ _ (h.2 j a v ha hv)⟩
theorem Pw.append (h : Pw R as vs) (h' : Pw R as' vs') : Pw R (as ++ as') (vs ++ vs') := by
  refine ⟨by simp [h.1, h'.1], fun j a v ha hv => ?_⟩
  by_cases hj : j < as.length
  · rw [List.getElem?_append_left hj] at ha
    rw [List.getElem?_append_left (by rw [← h.1]; exact hj)] at hv
    exact h.2 j a v ha hv
  · rw [List.getElem?_append_right (by omega)] at ha
    rw [List.getElem?_append_right (by rw [← h.1]; omega), ← h.1] at hv
    exact h'.2 _ a v ha hv
theorem Pw.take (h : Pw R as vs) (n : Nat) : Pw R (as.take n) (vs.take n) := by
  refine ⟨by simp [h.1], fun j a v ha hv => ?_⟩
  rw [List.getElem?_take] at ha hv
  split at ha
  · rename_i hj; rw [if_pos hj] at hv; exact h.2 j a v ha hv
  · cases ha
theorem Pw.drop (h : Pw R as vs) (n : Nat) : Pw R (as.drop n) (vs.drop n) := by
  refine ⟨by simp [h.1], fun j a v ha hv => ?_⟩
  rw [List.getElem?_drop] at ha hv
  exact h.2 _ a v ha hv
theorem Pw.one {a : α} {v : β} (h : R a v) : Pw R [a] [v] := by
  refine ⟨rfl, fun j x y hx hy => ?_⟩
  cases j with
  | zero => simp only [List.getElem?_cons_zero, Option.some.injEq] at hx hy; exact hx ▸ hy ▸ h
  | succ j => simp at hx
theorem Pw.get (h : Pw R as vs) {j : Nat} {a : α} (ha : as[j]? = some a) : ∃ v, vs[j]? = some v ∧ R a v := by
  have hj := (List.getElem?_eq_some_iff.1 ha).1
  have : vs[j]? = some (vs[j]'(by rw [← h.1]; exact hj)) := List.getElem?_eq_getElem _
  exact ⟨_, this, h.2 j a _ ha this⟩
theorem Pw.all {p : β → Prop} (h : Pw R as vs) (hp : ∀ a v, R a v → p v) : ∀ v ∈ vs, p v := by
  intro v hv
  obtain ⟨j, hj, rfl⟩ := List.getElem_of_mem hv
  have hj' : j < as.length := by rw [h.1]; exact hj
  exact hp _ _ (h.2 j _ _ (List.getElem?_eq_getElem hj') (List.getElem?_eq_getElem hj))
end
/-- What lies in one cell. -/
def CellOk (w : World) (F : Nat → Prop) (E : Nat → Option Nat) (H : Nat → Nat → Option Value) (a : A) (v : Value) : Prop := v.oneCell' = true ∧ Den w F E H a v

/-- A call's own: a variable (its cells), or a list that may grow (its elements, each so many cells); fresh: a name that names nothing yet. -/
inductive Bx where
  | none
  | fresh
  | var (cs : List A)
  | own (k : Nat) (e : TypeId) (sz : Nat) (es : List (List A))
instance : Inhabited Bx := ⟨.none⟩

def BoxOk (w : World) (F : Nat → Prop) (E : Nat → Option Nat) (H : Nat → Nat → Option Value) (i : Nat) : Bx → Prop
  | .none => True
  | .fresh => E i = none ∧ ∀ k, H i k = none
  | .var cs => ∃ (b : Nat) (ct : Array Value) (t : TypeId), E i = some b ∧ w.heap[b]? = some (.cells ct t (0, 0)) ∧ Pw (CellOk w F E H) cs ct.toList
  | .own k e sz es => ∃ (v : Value) (xs : List Value), H i k = some v ∧ (∀ k', k < k' → H i k' = none) ∧ w.ownsRow 0 e sz v es.length xs ∧ (∀ c ∈ es, c.length = sz) ∧ Pw (CellOk w F E H) es.flatten xs
def blk (E : Nat → Option Nat) (H : Nat → Nat → Option Value) (i : Nat) : Bx → Option Nat
  | .var _ => E i
  | .own k _ _ _ => (H i k).bind Value.ownBlock
  | _ => none

theorem BoxOk.lt {w : World} {F : Nat → Prop} {E : Nat → Option Nat} {H : Nat → Nat → Option Value} {i b : Nat} {x : Bx} (h : BoxOk w F E H i x) (hb : blk E H i x = some b) : b < w.heap.size := by
  cases x with
  | none => cases hb
  | fresh => cases hb
  | var cs =>
    obtain ⟨b', ct, t, e, hh, _⟩ := h
    rw [show b = b' from Option.some.inj (hb.symm.trans e)]
    exact (Array.getElem?_eq_some_iff.1 hh).1
  | own k e sz es =>
    obtain ⟨v, xs, hv, _, ho, _⟩ := h
    simp only [blk, hv, Option.bind_some] at hb
    exact (World.ownsRow.lt ho b hb).2

/-- A box whose block stands outlasts what leaves it alone. -/
theorem BoxOk.mono {w w' : World} {F F' : Nat → Prop} {E E' : Nat → Option Nat} {H H' : Nat → Nat → Option Value} (hF : ∀ b, F b → F' b) (hw : ∀ b, F b → w'.heap[b]? = w.heap[b]?)
    (hE : ∀ i b, E i = some b → E' i = some b) (hH : ∀ i k v, H i k = some v → H' i k = some v) {i : Nat} {x : Bx} (h : BoxOk w F E H i x)
    (hs : ∀ b, blk E H i x = some b → w'.heap[b]? = w.heap[b]?) (hn : ∀ k, H i k = none → H' i k = none) (hf : E i = none → E' i = none) : BoxOk w' F' E' H' i x := by
  cases x with
  | none => trivial
  | fresh => exact ⟨hf h.1, fun k => hn k (h.2 k)⟩
  | var cs =>
    obtain ⟨b, ct, t, e, hh, h2⟩ := h
    exact ⟨b, ct, t, hE _ _ e, (hs b e).trans hh, h2.mono fun a v h => ⟨h.1, h.2.mono hF hw hE hH⟩⟩
  | own k e sz es =>
    obtain ⟨v, xs, hv, hk, ho, h2, h3⟩ := h
    refine ⟨v, xs, hH _ _ _ hv, fun k' hk' => hn k' (hk k' hk'), ?_, h2, h3.mono fun a v h => ⟨h.1, h.2.mono hF hw hE hH⟩⟩
    refine ⟨ho.1, ?_⟩
    rcases ho.2 with h | ⟨g, cap, cur, rfl, hb, hg, r⟩
    · exact .inl h
    · refine .inr ⟨g, cap, cur, rfl, hb, ?_, r⟩
      rw [hs g (by simp [blk, hv, Value.ownBlock])]
      exact hg

structure Ctx where
  w0 : World
  X : Nat → Prop
  F0 : Nat → Prop
  E0 : Nat → Option Nat
  H0 : Nat → Nat → Option Value

structure Env (C : Ctx) (w : World) (F : Nat → Prop) (E : Nat → Option Nat) (H : Nat → Nat → Option Value) (bx : Nat → Bx) : Prop where
  os : w.os = C.w0.os
  tape : w.tape = C.w0.tape
  output : w.output = C.w0.output
  size : C.w0.heap.size ≤ w.heap.size
  old : ∀ b, b < C.w0.heap.size → ¬ C.X b → w.heap[b]? = C.w0.heap[b]?
  F0 : ∀ b, C.F0 b → F b
  Flt : ∀ b, F b → b < w.heap.size
  Fnew : ∀ b, F b → C.F0 b ∨ C.w0.heap.size ≤ b
  E0 : ∀ i b, C.E0 i = some b → E i = some b
  H0 : ∀ i k v, C.H0 i k = some v → H i k = some v
  box : ∀ i, BoxOk w F E H i (bx i)
  sep : ∀ i j b, i ≠ j → blk E H i (bx i) = some b → blk E H j (bx j) ≠ some b
  live : ∀ i b, blk E H i (bx i) = some b → ¬ F b ∧ (C.X b ∨ C.w0.heap.size ≤ b)

/-- One step: the boxes S are turned, and new memory is made. -/
theorem Env.step {C : Ctx} {w w' : World} {F F' : Nat → Prop} {E E' : Nat → Option Nat} {H H' : Nat → Nat → Option Value} {bx bx' : Nat → Bx} (h : Env C w F E H bx) (S : Nat → Prop)
    (hos : w'.os = w.os) (hta : w'.tape = w.tape) (hou : w'.output = w.output) (hsz : w.heap.size ≤ w'.heap.size)
    (hsame : ∀ b, b < w.heap.size → (∀ i, S i → blk E H i (bx i) ≠ some b) → w'.heap[b]? = w.heap[b]?)
    (hF : ∀ b, F b → F' b) (hF' : ∀ b, F' b → F b ∨ (b < w'.heap.size ∧ (w.heap.size ≤ b ∨ C.w0.heap.size ≤ b ∧ ∃ i, S i ∧ blk E H i (bx i) = some b)))
    (hE : ∀ i b, E i = some b → E' i = some b) (hH : ∀ i k v, H i k = some v → H' i k = some v)
    (hEn : ∀ i, ¬ S i → E' i = E i) (hHn : ∀ i k, ¬ S i → H' i k = H i k)
    (hbx : ∀ i, ¬ S i → bx' i = bx i)
    (hbox : ∀ i, S i → BoxOk w' F' E' H' i (bx' i))
    (hlive : ∀ i, S i → ∀ b, blk E' H' i (bx' i) = some b → ¬ F' b ∧ (w.heap.size ≤ b ∨ ∃ j, S j ∧ blk E H j (bx j) = some b))
    (hsep : ∀ i j b, S i → S j → i ≠ j → blk E' H' i (bx' i) = some b → blk E' H' j (bx' j) ≠ some b) : Env C w' F' E' H' bx' := by
  have hFs : ∀ b, F b → w'.heap[b]? = w.heap[b]? := fun b hb => hsame b (h.Flt b hb) (fun i _ e => (h.live i b e).1 hb)
  have hb' : ∀ i, ¬ S i → blk E' H' i (bx' i) = blk E H i (bx i) := fun i hi => by
    rw [hbx i hi]
    cases bx i with
    | var cs => exact hEn i hi
    | own k e sz es => simp only [blk, hHn i k hi]
    | _ => rfl
  have hlt : ∀ i b, blk E H i (bx i) = some b → b < w.heap.size := fun i b hb => (h.box i).lt hb
  refine ⟨hos.trans h.os, hta.trans h.tape, hou.trans h.output, Nat.le_trans h.size hsz, ?_, fun b hb => hF b (h.F0 b hb), ?_, ?_, fun i b hb => hE _ _ (h.E0 i b hb), fun i k v hv => hH _ _ _ (h.H0 i k v hv), ?_, ?_, ?_⟩
  · intro b hb hX
    refine (hsame b (Nat.lt_of_lt_of_le hb h.size) (fun i _ e => ?_)).trans (h.old b hb hX)
    rcases (h.live i b e).2 with hx | hx
    · exact hX hx
    · omega
  · intro b hb
    rcases hF' b hb with hb | hb
    · exact Nat.lt_of_lt_of_le (h.Flt b hb) hsz
    · exact hb.1
  · intro b hb
    rcases hF' b hb with hb | ⟨_, hb | hb⟩
    · exact h.Fnew b hb
    · exact .inr (Nat.le_trans h.size hb)
    · exact .inr hb.1
  · intro i
    by_cases hi : S i
    · exact hbox i hi
    · rw [hbx i hi]
      refine (h.box i).mono hF hFs hE hH (fun b hb => hsame b (hlt i b hb) (fun j hj e => ?_)) (fun k hk => by rw [hHn i k hi]; exact hk) (fun he => by rw [hEn i hi]; exact he)
      exact h.sep i j b (fun e => hi (e ▸ hj)) hb e
  · intro i j b hij hbi hbj
    by_cases hi : S i
    · by_cases hj : S j
      · exact hsep i j b hi hj hij hbi hbj
      · rw [hb' j hj] at hbj
        rcases (hlive i hi b hbi).2 with hx | ⟨q, hq, hx⟩
        · have := hlt j b hbj; omega
        · exact h.sep q j b (fun e => hj (e ▸ hq)) hx hbj
    · rw [hb' i hi] at hbi
      by_cases hj : S j
      · rcases (hlive j hj b hbj).2 with hx | ⟨q, hq, hx⟩
        · have := hlt i b hbi; omega
        · exact h.sep i q b (fun e => hi (e ▸ hq)) hbi hx
      · rw [hb' j hj] at hbj
        exact h.sep i j b hij hbi hbj
  · intro i b hb
    by_cases hi : S i
    · obtain ⟨h1, h2⟩ := hlive i hi b hb
      refine ⟨h1, ?_⟩
      rcases h2 with hx | ⟨q, _, hx⟩
      · exact .inr (Nat.le_trans h.size hx)
      · exact (h.live q b hx).2
    · rw [hb' i hi] at hb
      obtain ⟨h1, h2⟩ := h.live i b hb
      refine ⟨fun hf => ?_, h2⟩
      rcases hF' b hf with hf | ⟨_, hf | ⟨_, j, hj, hf⟩⟩
      · exact h1 hf
      · have := hlt i b hb; omega
      · exact h.sep i j b (fun e => hi (e ▸ hj)) hb hf
end Go.Proofs.Ytpdndapegiglcaa
