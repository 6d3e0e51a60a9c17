/- Laws and contracts that the proof stands on: AbsDen, AbsSt, AbsOps, AbsMem, AbsWr, AbsCode, AbsFn, AbsCall, AbsGrow, AbsMake, AbsApp, AbsOwn. -/
import Derived.Maps.AppendAt
import Derived.Deep.MidRow
import Derived.WalkKit
import Derived.Laws.OwnMore
/- What values in memory read as: data that nobody turns any more (D), and a call's own variables and lists besides (A, Bx); a world in which they are so (Env), and how it outlasts each step. -/
namespace Go.Proofs.Ytdjadeegjbhihaa
open Go

inductive D where
  | v (x : Value)
  | row (es : List (List D))
instance : Inhabited D := ⟨.v undef⟩

/-- In the world w, out of blocks F that nobody turns, a value reads as data. -/
inductive FDen (w : World) (F : Nat → Prop) : D → Value → Prop
  | v (x : Value) : FDen w F (.v x) x
  | emp (a : Option Addr) (c : Nat) (h : a = none → c = 0) : FDen w F (.row []) (.slice a 0 c)
  | row (sz b o cap n : Nat) (es : List (List D)) (vs : Nat → Nat → Value) (hF : F b) (hn : es.length = n) (hcap : n ≤ cap) (hmax : cap ≤ maxLen)
      (hsz : ∀ e ∈ es, e.length = sz)
      (hc : ∀ i j e d, es[i]? = some e → e[j]? = some d → w.cell? ⟨b, o + (i * sz + j), none⟩ = some (vs i j))
      (h1 : ∀ i j e d, es[i]? = some e → e[j]? = some d → (vs i j).oneCell' = true)
      (hd : ∀ i j e d, es[i]? = some e → e[j]? = some d → FDen w F d (vs i j)) :
      FDen w F (.row es) (.slice (some ⟨b, o, none⟩) n cap)
theorem FDen.nil {w : World} {F : Nat → Prop} : FDen w F (.row []) (.slice none 0 0) := .emp none 0 (fun _ => rfl)

inductive A where
  | any
  | d (x : D)
  | ptr (i o : Nat)
  | own (i k : Nat)
  | optr (i k o : Nat)
  | rptr (sz : Nat) (es : List (List D)) (i j : Nat)
  | agg (cs : List A)
  | tup (cs : List A)
  | fn (f : Fn) (first captured : List A)
  | ifc (t : TypeId) (a : A)
instance : Inhabited A := ⟨.any⟩

inductive Den (w : World) (F : Nat → Prop) (E : Nat → Option Nat) (H : Nat → Nat → Option Value) : A → Value → Prop
  | any (x : Value) : Den w F E H .any x
  | d (x : D) (v : Value) (h : FDen w F x v) : Den w F E H (.d x) v
  | ptr (i o b : Nat) (h : E i = some b) : Den w F E H (.ptr i o) (.pointer (some ⟨b, o, none⟩))
  | own (i k : Nat) (v : Value) (h : H i k = some v) (h1 : v.oneCell' = true) : Den w F E H (.own i k) v
  | optr (i k o b n c : Nat) (h : H i k = some (.slice (some ⟨b, 0, none⟩) n c)) : Den w F E H (.optr i k o) (.pointer (some ⟨b, o, none⟩))
  | rptr (sz b o cap n : Nat) (es : List (List D)) (i j : Nat) (h : FDen w F (.row es) (.slice (some ⟨b, o, none⟩) n cap)) (hi : i < n) (hz : ∀ e ∈ es, e.length = sz) :
      Den w F E H (.rptr sz es i j) (.pointer (some ⟨b, o + (i * sz + j), none⟩))
  | agg (aas : List A) (cs : Array Value) (hs : cs.size = aas.length) (h1 : ∀ i : Nat, i < aas.length → (cs.getD i undef).oneCell' = true)
      (h : ∀ (i : Nat) (a : A), aas[i]? = some a → Den w F E H a (cs.getD i undef)) : Den w F E H (.agg aas) (.agg cs)
  | tup (aas : List A) (cs : Array Value) (hs : cs.size = aas.length)
      (h : ∀ (i : Nat) (a : A), aas[i]? = some a → Den w F E H a (cs.getD i undef)) : Den w F E H (.tup aas) (.tuple cs)
  | fn (f : Fn) (aas bs : List A) (cs ds : Array Value) (hs : cs.size = aas.length) (ht : ds.size = bs.length)
      (h : ∀ (i : Nat) (a : A), aas[i]? = some a → Den w F E H a (cs.getD i undef)) (h' : ∀ (i : Nat) (a : A), bs[i]? = some a → Den w F E H a (ds.getD i undef)) :
      Den w F E H (.fn f aas bs) (.func f cs ds)
  | ifc (t : TypeId) (a : A) (v : Value) (h : Den w F E H a v) : Den w F E H (.ifc t a) (.iface t v)

theorem FDen.mono {w w' : World} {F F' : Nat → Prop} (hF : ∀ b, F b → F' b) (hw : ∀ b, F b → w'.heap[b]? = w.heap[b]?) {x : D} {v : Value} (h : FDen w F x v) : FDen w' F' x v := by
  induction h with
  | v x => exact .v x
  | emp a c h => exact .emp a c h
  | row sz b o cap n es vs hb hn hcap hmax hsz hc h1 hd ih =>
    refine .row sz b o cap n es vs (hF b hb) hn hcap hmax hsz (fun i j e d he hj => ?_) h1 ih
    rw [World.cell?_of_block (a := ⟨b, o + (i * sz + j), none⟩) (hw b hb)]
    exact hc i j e d he hj

theorem Den.mono {w w' : World} {F F' : Nat → Prop} {E E' : Nat → Option Nat} {H H' : Nat → Nat → Option Value} (hF : ∀ b, F b → F' b) (hw : ∀ b, F b → w'.heap[b]? = w.heap[b]?)
    (hE : ∀ i b, E i = some b → E' i = some b) (hH : ∀ i k v, H i k = some v → H' i k = some v) {x : A} {v : Value} (h : Den w F E H x v) : Den w' F' E' H' x v := by
  induction h with
  | any x => exact .any x
  | d x v h => exact .d x v (h.mono hF hw)
  | ptr i o b h => exact .ptr i o b (hE _ _ h)
  | own i k v h h1 => exact .own i k v (hH _ _ _ h) h1
  | optr i k o b n c h => exact .optr i k o b n c (hH _ _ _ h)
  | rptr sz b o cap n es i j h hi hz => exact .rptr sz b o cap n es i j (h.mono hF hw) hi hz
  | agg aas cs hs h1 h ih => exact .agg aas cs hs h1 ih
  | tup aas cs hs h ih => exact .tup aas cs hs ih
  | fn f aas bs cs ds hs ht h h' ih ih' => exact .fn f aas bs cs ds hs ht ih ih'
  | ifc t a v h ih => exact .ifc t a v ih

/-- Two lists, place by place. -/
def Pw {α β : Type} (R : α → β → Prop) (aas : List α) (vs : List β) : Prop := aas.length = vs.length ∧ ∀ (j : Nat) (a : α) (v : β), aas[j]? = some a → vs[j]? = some v → R a v
section
variable {α β : Type} {R R' : α → β → Prop} {aas aas' : List α} {vs vs' : List β}
theorem Pw.nil : Pw R [] [] := ⟨rfl, fun j a v h => by simp at h⟩
theorem Pw.mono (h : Pw R aas vs) (hr : ∀ a v, R a v → R' a v) : Pw R' aas vs := ⟨h.1, fun j a v ha hv => hr _ _ (h.2 j a v ha hv)⟩
theorem Pw.append (h : Pw R aas vs) (h' : Pw R aas' vs') : Pw R (aas ++ aas') (vs ++ vs') := by
  refine ⟨by simp [h.1, h'.1], fun j a v ha hv => ?_⟩
  by_cases hj : j < aas.length
  · rw [List.getElem?_append_left hj] at ha
    rw [List.getElem?_append_left (by rw [← h.1]; exact hj)] at hv
    exact h.2 j a v ha hv
  · rw [List.getElem?_append_right (by omega)] at ha
    rw [List.getElem?_append_right (by rw [← h.1]; omega), ← h.1] at hv
    exact h'.2 _ a v ha hv
theorem Pw.take (h : Pw R aas vs) (n : Nat) : Pw R (aas.take n) (vs.take n) := by
  refine ⟨by simp [h.1], fun j a v ha hv => ?_⟩
  rw [List.getElem?_take] at ha hv
  split at ha
  · rename_i hj; rw [if_pos hj] at hv; exact h.2 j a v ha hv
  · cases ha
theorem Pw.drop (h : Pw R aas vs) (n : Nat) : Pw R (aas.drop n) (vs.drop n) := by
  refine ⟨by simp [h.1], fun j a v ha hv => ?_⟩
  rw [List.getElem?_drop] at ha hv
  exact h.2 _ a v ha hv
theorem Pw.one {a : α} {v : β} (h : R a v) : Pw R [a] [v] := by
  refine ⟨rfl, fun j x y hx hy => ?_⟩
  cases j with
  | zero => simp only [List.getElem?_cons_zero, Option.some.injEq] at hx hy; exact hx ▸ hy ▸ h
  | succ j => simp at hx
theorem Pw.get (h : Pw R aas vs) {j : Nat} {a : α} (ha : aas[j]? = some a) : ∃ v, vs[j]? = some v ∧ R a v := by
  have hj := (List.getElem?_eq_some_iff.1 ha).1
  have : vs[j]? = some (vs[j]'(by rw [← h.1]; exact hj)) := List.getElem?_eq_getElem _
  exact ⟨_, this, h.2 j a _ ha this⟩
theorem Pw.all {p : β → Prop} (h : Pw R aas vs) (hp : ∀ a v, R a v → p v) : ∀ v ∈ vs, p v := by
  intro v hv
  obtain ⟨j, hj, rfl⟩ := List.getElem_of_mem hv
  have hj' : j < aas.length := by rw [h.1]; exact hj
  exact hp _ _ (h.2 j _ _ (List.getElem?_eq_getElem hj') (List.getElem?_eq_getElem hj))
end
/-- What lies in one cell. -/
def CellOk (w : World) (F : Nat → Prop) (E : Nat → Option Nat) (H : Nat → Nat → Option Value) (a : A) (v : Value) : Prop := v.oneCell' = true ∧ Den w F E H a v

/-- A call's own: a variable (its cells), or a list that may grow (its elements, each so many cells); fresh: a name that names nothing yet. -/
inductive Bx where
  | none
  | fresh
  | var (cs : List A)
  | own (k : Nat) (e : TypeId) (sz : Nat) (es : List (List A))
instance : Inhabited Bx := ⟨.none⟩

def BoxOk (w : World) (F : Nat → Prop) (E : Nat → Option Nat) (H : Nat → Nat → Option Value) (i : Nat) : Bx → Prop
  | .none => True
  | .fresh => E i = none ∧ ∀ k, H i k = none
  | .var cs => ∃ (b : Nat) (ct : Array Value) (t : TypeId), E i = some b ∧ w.heap[b]? = some (.cells ct t (0, 0)) ∧ Pw (CellOk w F E H) cs ct.toList
  | .own k e sz es => ∃ (v : Value) (xs : List Value), H i k = some v ∧ (∀ k', k < k' → H i k' = none) ∧ w.ownsRow 0 e sz v es.length xs ∧ (∀ c ∈ es, c.length = sz) ∧ Pw (CellOk w F E H) es.flatten xs
def blk (E : Nat → Option Nat) (H : Nat → Nat → Option Value) (i : Nat) : Bx → Option Nat
  | .var _ => E i
  | .own k _ _ _ => (H i k).bind Value.ownBlock
  | _ => none

theorem BoxOk.lt {w : World} {F : Nat → Prop} {E : Nat → Option Nat} {H : Nat → Nat → Option Value} {i b : Nat} {x : Bx} (h : BoxOk w F E H i x) (hb : blk E H i x = some b) : b < w.heap.size := by
  cases x with
  | none => cases hb
  | fresh => cases hb
  | var cs =>
    obtain ⟨b', ct, t, e, hh, _⟩ := h
    rw [show b = b' from Option.some.inj (hb.symm.trans e)]
    exact (Array.getElem?_eq_some_iff.1 hh).1
  | own k e sz es =>
    obtain ⟨v, xs, hv, _, ho, _⟩ := h
    simp only [blk, hv, Option.bind_some] at hb
    exact (World.ownsRow.lt ho b hb).2

/-- A box whose block stands outlasts what leaves it alone. -/
theorem BoxOk.mono {w w' : World} {F F' : Nat → Prop} {E E' : Nat → Option Nat} {H H' : Nat → Nat → Option Value} (hF : ∀ b, F b → F' b) (hw : ∀ b, F b → w'.heap[b]? = w.heap[b]?)
    (hE : ∀ i b, E i = some b → E' i = some b) (hH : ∀ i k v, H i k = some v → H' i k = some v) {i : Nat} {x : Bx} (h : BoxOk w F E H i x)
    (hs : ∀ b, blk E H i x = some b → w'.heap[b]? = w.heap[b]?) (hn : ∀ k, H i k = none → H' i k = none) (hf : E i = none → E' i = none) : BoxOk w' F' E' H' i x := by
  cases x with
  | none => trivial
  | fresh => exact ⟨hf h.1, fun k => hn k (h.2 k)⟩
  | var cs =>
    obtain ⟨b, ct, t, e, hh, h2⟩ := h
    exact ⟨b, ct, t, hE _ _ e, (hs b e).trans hh, h2.mono fun a v h => ⟨h.1, h.2.mono hF hw hE hH⟩⟩
  | own k e sz es =>
    obtain ⟨v, xs, hv, hk, ho, h2, h3⟩ := h
    refine ⟨v, xs, hH _ _ _ hv, fun k' hk' => hn k' (hk k' hk'), ?_, h2, h3.mono fun a v h => ⟨h.1, h.2.mono hF hw hE hH⟩⟩
    refine ⟨ho.1, ?_⟩
    rcases ho.2 with h | ⟨g, cap, cur, rfl, hb, hg, r⟩
    · exact .inl h
    · refine .inr ⟨g, cap, cur, rfl, hb, ?_, r⟩
      rw [hs g (by simp [blk, hv, Value.ownBlock])]
      exact hg

structure Ctx where
  w0 : World
  X : Nat → Prop
  F0 : Nat → Prop
  E0 : Nat → Option Nat
  H0 : Nat → Nat → Option Value

structure Env (C : Ctx) (w : World) (F : Nat → Prop) (E : Nat → Option Nat) (H : Nat → Nat → Option Value) (bx : Nat → Bx) : Prop where
  os : w.os = C.w0.os
  tape : w.tape = C.w0.tape
  output : w.output = C.w0.output
  size : C.w0.heap.size ≤ w.heap.size
  old : ∀ b, b < C.w0.heap.size → ¬ C.X b → w.heap[b]? = C.w0.heap[b]?
  F0 : ∀ b, C.F0 b → F b
  Flt : ∀ b, F b → b < w.heap.size
  Fnew : ∀ b, F b → C.F0 b ∨ C.w0.heap.size ≤ b
  E0 : ∀ i b, C.E0 i = some b → E i = some b
  H0 : ∀ i k v, C.H0 i k = some v → H i k = some v
  box : ∀ i, BoxOk w F E H i (bx i)
  sep : ∀ i j b, i ≠ j → blk E H i (bx i) = some b → blk E H j (bx j) ≠ some b
  live : ∀ i b, blk E H i (bx i) = some b → ¬ F b ∧ (C.X b ∨ C.w0.heap.size ≤ b)

/-- One step: the boxes S are turned, and new memory is made. -/
theorem Env.step {C : Ctx} {w w' : World} {F F' : Nat → Prop} {E E' : Nat → Option Nat} {H H' : Nat → Nat → Option Value} {bx bx' : Nat → Bx} (h : Env C w F E H bx) (S : Nat → Prop)
    (hos : w'.os = w.os) (hta : w'.tape = w.tape) (hou : w'.output = w.output) (hsz : w.heap.size ≤ w'.heap.size)
    (hsame : ∀ b, b < w.heap.size → (∀ i, S i → blk E H i (bx i) ≠ some b) → w'.heap[b]? = w.heap[b]?)
    (hF : ∀ b, F b → F' b) (hF' : ∀ b, F' b → F b ∨ (b < w'.heap.size ∧ (w.heap.size ≤ b ∨ C.w0.heap.size ≤ b ∧ ∃ i, S i ∧ blk E H i (bx i) = some b)))
    (hE : ∀ i b, E i = some b → E' i = some b) (hH : ∀ i k v, H i k = some v → H' i k = some v)
    (hEn : ∀ i, ¬ S i → E' i = E i) (hHn : ∀ i k, ¬ S i → H' i k = H i k)
    (hbx : ∀ i, ¬ S i → bx' i = bx i)
    (hbox : ∀ i, S i → BoxOk w' F' E' H' i (bx' i))
    (hlive : ∀ i, S i → ∀ b, blk E' H' i (bx' i) = some b → ¬ F' b ∧ (w.heap.size ≤ b ∨ ∃ j, S j ∧ blk E H j (bx j) = some b))
    (hsep : ∀ i j b, S i → S j → i ≠ j → blk E' H' i (bx' i) = some b → blk E' H' j (bx' j) ≠ some b) : Env C w' F' E' H' bx' := by
  have hFs : ∀ b, F b → w'.heap[b]? = w.heap[b]? := fun b hb => hsame b (h.Flt b hb) (fun i _ e => (h.live i b e).1 hb)
  have hb' : ∀ i, ¬ S i → blk E' H' i (bx' i) = blk E H i (bx i) := fun i hi => by
    rw [hbx i hi]
    cases bx i with
    | var cs => exact hEn i hi
    | own k e sz es => simp only [blk, hHn i k hi]
    | _ => rfl
  have hlt : ∀ i b, blk E H i (bx i) = some b → b < w.heap.size := fun i b hb => (h.box i).lt hb
  refine ⟨hos.trans h.os, hta.trans h.tape, hou.trans h.output, Nat.le_trans h.size hsz, ?_, fun b hb => hF b (h.F0 b hb), ?_, ?_, fun i b hb => hE _ _ (h.E0 i b hb), fun i k v hv => hH _ _ _ (h.H0 i k v hv), ?_, ?_, ?_⟩
  · intro b hb hX
    refine (hsame b (Nat.lt_of_lt_of_le hb h.size) (fun i _ e => ?_)).trans (h.old b hb hX)
    rcases (h.live i b e).2 with hx | hx
    · exact hX hx
    · omega
  · intro b hb
    rcases hF' b hb with hb | hb
    · exact Nat.lt_of_lt_of_le (h.Flt b hb) hsz
    · exact hb.1
  · intro b hb
    rcases hF' b hb with hb | ⟨_, hb | hb⟩
    · exact h.Fnew b hb
    · exact .inr (Nat.le_trans h.size hb)
    · exact .inr hb.1
  · intro i
    by_cases hi : S i
    · exact hbox i hi
    · rw [hbx i hi]
      refine (h.box i).mono hF hFs hE hH (fun b hb => hsame b (hlt i b hb) (fun j hj e => ?_)) (fun k hk => by rw [hHn i k hi]; exact hk) (fun he => by rw [hEn i hi]; exact he)
      exact h.sep i j b (fun e => hi (e ▸ hj)) hb e
  · intro i j b hij hbi hbj
    by_cases hi : S i
    · by_cases hj : S j
      · exact hsep i j b hi hj hij hbi hbj
      · rw [hb' j hj] at hbj
        rcases (hlive i hi b hbi).2 with hx | ⟨q, hq, hx⟩
        · have := hlt j b hbj; omega
        · exact h.sep q j b (fun e => hj (e ▸ hq)) hx hbj
    · rw [hb' i hi] at hbi
      by_cases hj : S j
      · rcases (hlive j hj b hbj).2 with hx | ⟨q, hq, hx⟩
        · have := hlt i b hbi; omega
        · exact h.sep i q b (fun e => hi (e ▸ hq)) hbi hx
      · rw [hb' j hj] at hbj
        exact h.sep i j b hij hbi hbj
  · intro i b hb
    by_cases hi : S i
    · obtain ⟨h1, h2⟩ := hlive i hi b hb
      refine ⟨h1, ?_⟩
      rcases h2 with hx | ⟨q, _, hx⟩
      · exact .inr (Nat.le_trans h.size hx)
      · exact (h.live q b hx).2
    · rw [hb' i hi] at hb
      obtain ⟨h1, h2⟩ := h.live i b hb
      refine ⟨fun hf => ?_, h2⟩
      rcases hF' b hf with hf | ⟨_, hf | ⟨_, j, hj, hf⟩⟩
      · exact h1 hf
      · have := hlt i b hb; omega
      · exact h.sep i j b (fun e => hi (e ▸ hj)) hb hf
end Go.Proofs.Ytdjadeegjbhihaa

/- The state of a walk: what slots and boxes read as (St, Rel); what one operation asks and leaves (Cert, OpOk); a statement whose order is open may be walked in the order in which it is written, if what each operation looks at and turns is apart from that of those that it does not wait for (wp_draw). -/
namespace Go.Proofs.Ytdjadeegjbhihaa
open Go

structure St where
  n : Nat
  t : Nat → A
  b : Nat → Bx

abbrev Key := Bool × Nat
abbrev T (i : Nat) : Key := (true, i)
abbrev B (i : Nat) : Key := (false, i)
inductive V where
  | a (x : A)
  | b (x : Bx)
def upd {α : Type} (f : Nat → α) (k : Nat) (x : α) : Nat → α := fun i => if i = k then x else f i
def St.get (σ : St) : Key → V
  | (true, i) => .a (σ.t i)
  | (false, i) => .b (σ.b i)
def St.put (σ : St) : Key → V → St
  | (true, i), .a x => { σ with t := upd σ.t i x }
  | (false, i), .b x => { σ with b := upd σ.b i x }
  | _, _ => σ
def St.puts (σ : St) : List Key → List V → St
  | k :: ks, v :: vs => (σ.put k v).puts ks vs
  | _, _ => σ

theorem upd_comm {α : Type} (f : Nat → α) {i j : Nat} (x y : α) (h : i ≠ j) : upd (upd f i x) j y = upd (upd f j y) i x := by
  funext k
  simp only [upd]
  split <;> split <;> simp_all
theorem St.put_comm (σ : St) {k k' : Key} (v v' : V) (h : k ≠ k') : (σ.put k v).put k' v' = (σ.put k' v').put k v := by
  obtain ⟨p, i⟩ := k
  obtain ⟨q, j⟩ := k'
  cases p <;> cases q <;> cases v <;> cases v' <;> simp only [St.put] <;> (try rfl)
  all_goals
    have : i ≠ j := fun e => h (by rw [e])
    rw [upd_comm _ _ _ this]
theorem St.get_put (σ : St) {k k' : Key} (v : V) (h : k ≠ k') : (σ.put k v).get k' = σ.get k' := by
  obtain ⟨p, i⟩ := k
  obtain ⟨q, j⟩ := k'
  cases p <;> cases q <;> cases v <;> simp only [St.put, St.get]
  all_goals
    have : ¬ j = i := fun e => h (by rw [e])
    simp [upd, this]
theorem St.get_puts {k : Key} : ∀ (ks : List Key) (vs : List V) (σ : St), k ∉ ks → (σ.puts ks vs).get k = σ.get k
  | [], vs, σ, _ => by cases vs <;> rfl
  | _ :: _, [], _, _ => rfl
  | k' :: ks, v :: vs, σ, h => by
    rw [St.puts, St.get_puts ks vs _ (fun e => h (List.mem_cons_of_mem _ e)), St.get_put _ _ (fun e => h (by rw [e]; exact List.mem_cons_self))]
theorem St.puts_put_comm {k : Key} {v : V} : ∀ (ks : List Key) (vs : List V) (σ : St), k ∉ ks → (σ.puts ks vs).put k v = (σ.put k v).puts ks vs
  | [], vs, σ, _ => by cases vs <;> rfl
  | _ :: _, [], _, _ => rfl
  | k' :: ks, v' :: vs, σ, h => by
    rw [St.puts, St.puts_put_comm ks vs _ (fun e => h (List.mem_cons_of_mem _ e)), St.put_comm _ _ _ (fun e => h (by rw [e]; exact List.mem_cons_self)), St.puts]
theorem St.puts_comm : ∀ (ks : List Key) (vs : List V) (ks' : List Key) (vs' : List V) (σ : St), (∀ k ∈ ks, k ∉ ks') → (σ.puts ks vs).puts ks' vs' = (σ.puts ks' vs').puts ks vs
  | [], vs, ks', vs', σ, _ => by cases vs <;> rfl
  | _ :: _, [], _, _, _, _ => rfl
  | k :: ks, v :: vs, ks', vs', σ, h => by
    rw [St.puts, St.puts_comm ks vs ks' vs' _ (fun q hq => h q (List.mem_cons_of_mem _ hq)), ← St.puts_put_comm ks' vs' σ (h k List.mem_cons_self), St.puts]

def Rel (C : Ctx) (σ : St) (a : Act) (w : World) : Prop :=
  a.defers = [] ∧ a.tmps.size = σ.n ∧ ∃ F E H, Env C w F E H σ.b ∧ ∀ t, Den w F E H (σ.t t) (a.tmps.getD t undef)

theorem Env.heap {C : Ctx} {w w' : World} {F : Nat → Prop} {E : Nat → Option Nat} {H : Nat → Nat → Option Value} {bx : Nat → Bx} (h : Env C w F E H bx)
    (hh : w'.heap = w.heap) (hos : w'.os = w.os) (hta : w'.tape = w.tape) (hou : w'.output = w.output) : Env C w' F E H bx :=
  h.step (fun _ => False) hos hta hou (by rw [hh]; exact Nat.le_refl _) (fun b _ _ => by rw [hh]) (fun _ h => h) (fun _ h => .inl h) (fun _ _ h => h) (fun _ _ _ h => h) (fun _ _ => rfl) (fun _ _ _ => rfl) (fun _ _ => rfl)
    (fun _ h => h.elim) (fun _ h => h.elim) (fun _ _ _ h => h.elim)
theorem Rel.heap {C : Ctx} {σ : St} {a : Act} {w w' : World} (h : Rel C σ a w) (hh : w'.heap = w.heap) (hos : w'.os = w.os) (hta : w'.tape = w.tape) (hou : w'.output = w.output) : Rel C σ a w' := by
  obtain ⟨h1, h2, F, E, H, he, hd⟩ := h
  exact ⟨h1, h2, F, E, H, he.heap hh hos hta hou, fun t => (hd t).mono (fun _ h => h) (fun b _ => by rw [hh]) (fun _ _ h => h) (fun _ _ _ h => h)⟩

/-- What a state says of some slots and boxes alone. -/
def St.mask (σ : St) (rd : List Key) : St := ⟨σ.n, fun i => if rd.contains (T i) then σ.t i else .any, fun i => if rd.contains (B i) then σ.b i else .none⟩
structure Cert where
  rd : List Key
  wr : List Key
  beh : St → Prop × (List V → Prop)
def Cert.safe (c : Cert) (σ : St) : Prop := (c.beh σ).1
def Cert.rel (c : Cert) (σ : St) (us : List V) : Prop := (c.beh σ).2 us
def Cert.total (c : Cert) : Prop := (∀ σ, (c.beh σ).1 → ∃ us, (c.beh σ).2 us) ∧ ∀ σ, c.beh (σ.mask c.rd) = c.beh σ

def dstIn : Option Nat → List Key → Bool
  | some d, ks => ks.contains (T d)
  | none, _ => true
/-- What an operation asks and leaves holds of it. -/
def OpOk (P : Program) (C : Ctx) (ops : Array Oper) (o : Oper) (c : Cert) : Prop :=
  c.total ∧ dstIn o.dst c.wr = true ∧ ∀ (σ : St) (a : Act) (w : World) (K : Act → World → Prop) (Q : Exit → Act → World → Prop), Rel C σ a w → c.safe σ →
    (∀ us a' w', c.rel σ us → Rel C (σ.puts c.wr us) a' w' → K a' w') →
    if Region.wanted o (yielded ops a.tmps) then o.wp P a w K Q else K (a.put o.dst undef) w

/-- The operations, in the order in which they are written. -/
def Wc : List Cert → St → (St → Prop) → Prop
  | [], σ, K => K σ
  | c :: cs, σ, K => c.safe σ ∧ ∀ us, c.rel σ us → Wc cs (σ.puts c.wr us) K

/-- c' need not wait for c, nor c for c'. -/
def Cert.apart (c' c : Cert) : Bool :=
  c'.wr.all (fun k => !c.rd.contains k && !c.wr.contains k) && c.wr.all (fun k => !c'.rd.contains k)

theorem St.puts_n : ∀ (ks : List Key) (vs : List V) (σ : St), (σ.puts ks vs).n = σ.n
  | [], vs, σ => by cases vs <;> rfl
  | _ :: _, [], _ => rfl
  | (p, i) :: ks, v :: vs, σ => by
    rw [St.puts, St.puts_n ks vs]
    cases p <;> cases v <;> rfl
theorem mask_puts {ks : List Key} {vs : List V} {σ : St} {l : List Key} (h : ∀ k ∈ l, k ∉ ks) : (σ.puts ks vs).mask l = σ.mask l := by
  have ht : ∀ i, T i ∈ l → (σ.puts ks vs).t i = σ.t i := fun i hi => by
    have := St.get_puts ks vs σ (h _ hi)
    simpa [St.get] using this
  have hb : ∀ i, B i ∈ l → (σ.puts ks vs).b i = σ.b i := fun i hi => by
    have := St.get_puts ks vs σ (h _ hi)
    simpa [St.get] using this
  unfold St.mask
  rw [St.puts_n]
  congr 1
  · funext i
    split
    · rename_i hi; exact ht i (by simpa using hi)
    · rfl
  · funext i
    split
    · rename_i hi; exact hb i (by simpa using hi)
    · rfl

theorem apart_iff {c' c : Cert} (h : c'.apart c = true) : (∀ k ∈ c.rd, k ∉ c'.wr) ∧ (∀ k ∈ c'.wr, k ∉ c.wr) ∧ (∀ k ∈ c'.rd, k ∉ c.wr) := by
  simp only [Cert.apart, Bool.and_eq_true, List.all_eq_true, Bool.not_eq_true', List.contains_eq_mem, decide_eq_false_iff_not] at h
  exact ⟨fun k hk h2 => (h.1 k h2).1 hk, fun k hk => (h.1 k hk).2, fun k hk h2 => h.2 k h2 hk⟩

theorem Wc_pick {K : St → Prop} {c : Cert} {L2 : List Cert} (hto0 : c.total) : ∀ (L1 : List Cert) (σ : St), (∀ c' ∈ L1, c'.apart c = true ∧ c'.total) → Wc (L1 ++ c :: L2) σ K →
    c.safe σ ∧ ∀ us, c.rel σ us → Wc (L1 ++ L2) (σ.puts c.wr us) K
  | [], σ, _, h => h
  | c' :: L1, σ, hL, h => by
    obtain ⟨hs, hr⟩ := h
    obtain ⟨hap, hto⟩ := hL c' List.mem_cons_self
    obtain ⟨h1, h2, h3⟩ := apart_iff hap
    have ih := fun us hus => Wc_pick hto0 L1 (σ.puts c'.wr us) (fun q hq => hL q (List.mem_cons_of_mem _ hq)) (hr us hus)
    have e1 : ∀ us, c.safe (σ.puts c'.wr us) = c.safe σ := fun us => by unfold Cert.safe; rw [← hto0.2, mask_puts h1, hto0.2]
    have e2 : ∀ us, c.rel (σ.puts c'.wr us) = c.rel σ := fun us => by funext q; unfold Cert.rel; rw [← hto0.2, mask_puts h1, hto0.2]
    have e3 : ∀ us, c'.safe (σ.puts c.wr us) = c'.safe σ := fun us => by unfold Cert.safe; rw [← hto.2, mask_puts h3, hto.2]
    have e4 : ∀ us, c'.rel (σ.puts c.wr us) = c'.rel σ := fun us => by funext q; unfold Cert.rel; rw [← hto.2, mask_puts h3, hto.2]
    obtain ⟨u0, hu0⟩ := hto.1 _ hs
    refine ⟨by have := (ih u0 hu0).1; rwa [e1] at this, fun us hus => ⟨by rw [e3]; exact hs, fun us' hus' => ?_⟩⟩
    rw [e4] at hus'
    have := (ih us' hus').2 us (by rw [e2]; exact hus)
    rwa [St.puts_comm _ _ _ _ _ h2] at this

/-- For each operation the ones that it waits for, as the bits of a number. -/
def waitsTo (ops : List Oper) : Nat → List Nat
  | 0 => []
  | n + 1 =>
    let acc := waitsTo ops n
    acc ++ [(ops.getD n default).after.toList.foldl (fun s e => if Region.binds .any e then s ||| 2 ^ e.on ||| acc.getD e.on 0 else s) 0]
def edgesOk (ops : List Oper) : Bool := ops.zipIdx.all fun (o, i) => o.after.toList.all fun e => !Region.binds .any e || decide (e.on < i)
def apartOk (ops : List Oper) (cs : List Cert) : Bool :=
  let ws := waitsTo ops ops.length
  cs.zipIdx.all fun (c, i) => (cs.take i).zipIdx.all fun (c', j) => (ws.getD i 0).testBit j || c'.apart c

/-- A set of operations that has with each one all that it waits for. -/
def Down (ops : List Oper) (L : Nat → Prop) : Prop := ∀ i o, ops[i]? = some o → L i → ∀ e ∈ o.after.toList, Region.binds .any e = true → L e.on

theorem fold_bit {acc : List Nat} {L : Nat → Prop} : ∀ (es : List Edge) (s : Nat), (∀ j, s.testBit j = true → L j) → (∀ e ∈ es, Region.binds .any e = true → L e.on ∧ ∀ j, (acc.getD e.on 0).testBit j = true → L j) →
    ∀ j, (es.foldl (fun s e => if Region.binds .any e then s ||| 2 ^ e.on ||| acc.getD e.on 0 else s) s).testBit j = true → L j
  | [], s, hs, _, j, h => hs j h
  | e :: es, s, hs, he, j, h => by
    rw [List.foldl_cons] at h
    refine fold_bit es _ ?_ (fun q hq => he q (List.mem_cons_of_mem _ hq)) j h
    intro j hj
    split at hj
    · rename_i hb
      obtain ⟨h1, h2⟩ := he e List.mem_cons_self hb
      rw [Nat.testBit_or, Nat.testBit_or, Bool.or_eq_true, Bool.or_eq_true, Nat.testBit_two_pow] at hj
      rcases hj with (hj | hj) | hj
      · exact hs j hj
      · rw [decide_eq_true_eq] at hj; exact hj ▸ h1
      · exact h2 j hj
    · exact hs j hj

theorem waitsTo_length (ops : List Oper) : ∀ n, (waitsTo ops n).length = n
  | 0 => rfl
  | n + 1 => by rw [waitsTo, List.length_append, waitsTo_length ops n]; rfl
theorem waitsTo_down {ops : List Oper} {L : Nat → Prop} (hL : Down ops L) : ∀ n, n ≤ ops.length → ∀ i o, i < n → ops[i]? = some o → (∀ e ∈ o.after.toList, Region.binds .any e = true → L e.on) →
    ∀ j, ((waitsTo ops n).getD i 0).testBit j = true → L j
  | 0, _, _, _, hi, _, _ => by omega
  | n + 1, hn, i, o, hi, ho, he => by
    have hl := waitsTo_length ops n
    by_cases h : i < n
    · have : (waitsTo ops (n + 1)).getD i 0 = (waitsTo ops n).getD i 0 := by
        rw [waitsTo]
        simp only [List.getD_eq_getElem?_getD]
        rw [List.getElem?_append_left (by omega)]
      rw [this]
      exact waitsTo_down hL n (by omega) i o h ho he
    · obtain rfl : i = n := by omega
      have e1 : ops.getD i default = o := by simp [List.getD_eq_getElem?_getD, ho]
      have : (waitsTo ops (i + 1)).getD i 0 = o.after.toList.foldl (fun s e => if Region.binds .any e then s ||| 2 ^ e.on ||| (waitsTo ops i).getD e.on 0 else s) 0 := by
        rw [waitsTo, e1]
        simp only [List.getD_eq_getElem?_getD]
        rw [List.getElem?_append_right (by omega), hl]
        simp
      rw [this]
      refine fold_bit _ 0 (fun j hj => by simp at hj) (fun e hee hb => ⟨he e hee hb, fun j hj => ?_⟩)
      by_cases hlt : e.on < i
      · have hLe := he e hee hb
        obtain ⟨o', ho'⟩ : ∃ o', ops[e.on]? = some o' := ⟨ops[e.on]'(by omega), List.getElem?_eq_getElem (by omega)⟩
        exact waitsTo_down hL i (by omega) e.on o' hlt ho' (hL e.on o' ho' hLe) j hj
      · rw [List.getD_eq_getElem?_getD, List.getElem?_eq_none (by omega)] at hj
        simp at hj

/-- Those that are not yet done, in the order in which they are written. -/
def left (cs : List Cert) (listed : Array Bool) : List Cert := (cs.zipIdx.filter fun x => !listed.getD x.2 true).map (·.1)

theorem left_split {cs : List Cert} {listed : Array Bool} {i : Nat} {c : Cert} (hc : cs[i]? = some c) (hi : listed.getD i true = false) (hs : listed.size = cs.length) :
    left cs listed = ((cs.zipIdx.take i).filter fun x => !listed.getD x.2 true).map (·.1) ++ c :: (((cs.zipIdx.drop (i + 1)).filter fun x => !listed.getD x.2 true).map (·.1)) ∧
    left cs (listed.setIfInBounds i true) = ((cs.zipIdx.take i).filter fun x => !listed.getD x.2 true).map (·.1) ++ (((cs.zipIdx.drop (i + 1)).filter fun x => !listed.getD x.2 true).map (·.1)) := by
  have hlt : i < cs.length := (List.getElem?_eq_some_iff.1 hc).1
  have hci : cs[i] = c := (List.getElem?_eq_some_iff.1 hc).2
  have hz : cs.zipIdx = cs.zipIdx.take i ++ (c, i) :: cs.zipIdx.drop (i + 1) := by
    have h1 : i < cs.zipIdx.length := by simpa using hlt
    have h2 : cs.zipIdx[i] = (c, i) := by simp [hci]
    rw [← h2, ← List.drop_eq_getElem_cons h1, List.take_append_drop]
  have hne : ∀ x ∈ cs.zipIdx.take i, x.2 ≠ i := by
    intro x hx
    obtain ⟨k, hk, rfl⟩ := List.getElem_of_mem hx
    simp only [List.length_take, List.length_zipIdx] at hk
    simp only [List.getElem_take, List.getElem_zipIdx]
    omega
  have hne2 : ∀ x ∈ cs.zipIdx.drop (i + 1), x.2 ≠ i := by
    intro x hx
    obtain ⟨k, hk, rfl⟩ := List.getElem_of_mem hx
    simp only [List.getElem_drop, List.getElem_zipIdx]
    omega
  have hget : ∀ x : Cert × Nat, x.2 ≠ i → (listed.setIfInBounds i true).getD x.2 true = listed.getD x.2 true := by
    intro x hx
    simp only [Array.getD_eq_getD_getElem?]
    rw [Array.getElem?_setIfInBounds_ne (Ne.symm hx)]
  have hgi : (listed.setIfInBounds i true).getD i true = true := by
    simp only [Array.getD_eq_getD_getElem?]
    cases h : (listed.setIfInBounds i true)[i]? with
    | none => rfl
    | some b =>
      have hsz : i < listed.size := by omega
      simp [hsz] at h
      simp [← h]
  refine ⟨?_, ?_⟩
  · unfold left
    rw [hz]
    simp only [List.filter_append, List.filter_cons, List.map_append]
    simp [hi, ← hz]
  · unfold left
    rw [hz]
    simp only [List.filter_append, List.filter_cons, List.map_append]
    rw [← hz]
    simp only [hgi, Bool.not_true, Bool.false_eq_true, if_false]
    congr 2
    · exact List.filter_congr fun x hx => by rw [hget x (hne x hx)]
    · exact List.filter_congr fun x hx => by rw [hget x (hne2 x hx)]

def Lst (listed : Array Bool) (i : Nat) : Prop := listed.getD i false = true

theorem getD_ff {l : Array Bool} {i : Nat} (h : i < l.size) : l.getD i true = l.getD i false := by simp [Array.getD, h]

theorem mem_ready {md : Region.Mode} {ops : Array Oper} {listed : Array Bool} {i : Nat} (h : i ∈ Region.ready md ops listed) :
    listed.getD i true = false ∧ ∃ o, ops[i]? = some o ∧ ∀ e ∈ o.after.toList, Region.binds md e = true → listed.getD e.on false = true := by
  simp only [Region.ready, List.mem_filter, List.mem_range, Bool.and_eq_true, Bool.not_eq_true'] at h
  obtain ⟨_, h1, h2⟩ := h
  refine ⟨h1, ?_⟩
  cases ho : ops[i]? with
  | none => simp [ho] at h2
  | some o =>
    refine ⟨o, rfl, fun e he hb => ?_⟩
    simp only [ho, Option.map_some, Option.getD_some, Array.all_eq_true'] at h2
    have := h2 e (by simpa using he)
    simpa [hb] using this

theorem ready_of {md : Region.Mode} {ops : Array Oper} {listed : Array Bool} {i : Nat} {o : Oper} (ho : ops[i]? = some o) (hi : listed.getD i true = false)
    (he : ∀ e ∈ o.after.toList, Region.binds md e = true → listed.getD e.on false = true) : i ∈ Region.ready md ops listed := by
  simp only [Region.ready, List.mem_filter, List.mem_range, Bool.and_eq_true, Bool.not_eq_true']
  refine ⟨(Array.getElem?_eq_some_iff.1 ho).1, hi, ?_⟩
  simp only [ho, Option.map_some, Option.getD_some, Array.all_eq_true']
  intro e hee
  by_cases hb : Region.binds md e = true
  · simp [he e (by simpa using hee) hb]
  · simp [Bool.eq_false_iff.2 hb]

theorem apartOk_get {ops : List Oper} {cs : List Cert} (h : apartOk ops cs = true) {i j : Nat} {c c' : Cert} (hi : cs[i]? = some c) (hj : cs[j]? = some c') (hji : j < i) :
    ((waitsTo ops ops.length).getD i 0).testBit j = true ∨ c'.apart c = true := by
  simp only [apartOk, List.all_eq_true] at h
  have hlt : i < cs.length := (List.getElem?_eq_some_iff.1 hi).1
  have h1 := h (c, i) (by
    have : (cs.zipIdx)[i]? = some (c, i) := by simp [hi]
    exact List.mem_of_getElem? this) (c', j) (by
    have : ((cs.take i).zipIdx)[j]? = some (c', j) := by simp [hj, hji]
    exact List.mem_of_getElem? this)
  simpa using h1

theorem wp_any {P : Program} {C : Ctx} {ops : Array Oper} {cs : List Cert} {Q : Exit → Act → World → Prop} (hlen : cs.length = ops.size)
    (hok : ∀ (i : Nat) (o : Oper) (c : Cert), ops[i]? = some o → cs[i]? = some c → OpOk P C ops o c) (hed : edgesOk ops.toList = true) (hind : apartOk ops.toList cs = true) :
    ∀ (fuel : Nat) (listed : Array Bool) (σ : St) (a : Act) (w : World), listed.size = cs.length → Down ops.toList (Lst listed) → (left cs listed).length = fuel → Rel C σ a w →
      Wc (left cs listed) σ (fun σ' => ∀ a w, Rel C σ' a w → Q .normal a w) → wpAny P .any ops Q fuel listed a w
  | 0, listed, σ, a, w, hs, hd, hf, hR, hW => by
    have hnil : left cs listed = [] := List.eq_nil_of_length_eq_zero hf
    rw [hnil] at hW
    refine ⟨?_, hW a w hR⟩
    apply List.eq_nil_iff_forall_not_mem.2
    intro i hi
    obtain ⟨h1, o, ho, _⟩ := mem_ready hi
    have hlt : i < cs.length := by rw [hlen]; exact (Array.getElem?_eq_some_iff.1 ho).1
    have := (left_split (List.getElem?_eq_getElem hlt) h1 hs).1
    rw [hnil] at this
    simp at this
  | fuel + 1, listed, σ, a, w, hs, hd, hf, hR, hW => by
    refine ⟨fun hn => ?_, fun i hi => ?_⟩
    · exfalso
      -- the first that is not done is ready
      have all : ∀ m, m ≤ cs.length → ∀ i, i < m → listed.getD i false = true := by
        intro m
        induction m with
        | zero => intro _ i hi; omega
        | succ m ih =>
          intro hm i hi
          by_cases hlt : i < m
          · exact ih (by omega) i hlt
          · obtain rfl : i = m := by omega
            cases hli : listed.getD i false with
            | true => rfl
            | false =>
              exfalso
              have hio : i < ops.size := by omega
              have hmem : i ∈ Region.ready .any ops listed := ready_of (Array.getElem?_eq_getElem hio) (by rw [getD_ff (by omega)]; exact hli) (fun e he hb => by
                have h3 : e.on < i := by
                  simp only [edgesOk, List.all_eq_true] at hed
                  have h4 := hed (ops[i], i) (by
                    have : (ops.toList.zipIdx)[i]? = some (ops[i], i) := by simp [hio]
                    exact List.mem_of_getElem? this) e he
                  simpa [hb] using h4
                exact ih (by omega) e.on h3)
              rw [hn] at hmem
              cases hmem
      have : left cs listed = [] := by
        unfold left
        rw [List.map_eq_nil_iff, List.filter_eq_nil_iff]
        intro x hx
        obtain ⟨k, hk, rfl⟩ := List.getElem_of_mem hx
        simp only [List.length_zipIdx] at hk
        simp only [List.getElem_zipIdx, Nat.zero_add]
        have := all cs.length (Nat.le_refl _) k hk
        rw [getD_ff (by omega), this]
        simp
      rw [this] at hf
      simp at hf
    · obtain ⟨h1, o, ho, he⟩ := mem_ready hi
      have hio : i < ops.size := (Array.getElem?_eq_some_iff.1 ho).1
      have hlt : i < cs.length := by omega
      have hc : cs[i]? = some cs[i] := List.getElem?_eq_getElem hlt
      obtain ⟨e1, e2⟩ := left_split hc h1 hs
      rw [e1] at hW
      have hho := hok i o cs[i] ho hc
      have hoi : ops.toList[i]? = some o := by simpa using ho
      obtain ⟨hsafe, hrel⟩ := Wc_pick hho.1 _ σ (fun c' hc' => by
        obtain ⟨x, hx, rfl⟩ := List.mem_map.1 hc'
        obtain ⟨hx1, hx2⟩ := List.mem_filter.1 hx
        obtain ⟨k, hk, rfl⟩ := List.getElem_of_mem hx1
        simp only [List.length_take, List.length_zipIdx] at hk
        simp only [List.getElem_take, List.getElem_zipIdx, Nat.zero_add] at hx2 ⊢
        have hk2 : k < cs.length := by omega
        have hkc : cs[k]? = some cs[k] := List.getElem?_eq_getElem hk2
        have hko : k < ops.size := by omega
        refine ⟨?_, (hok k ops[k] cs[k] (Array.getElem?_eq_getElem hko) hkc).1⟩
        rcases apartOk_get hind hc hkc (by omega) with h | h
        · exfalso
          have := waitsTo_down hd ops.toList.length (Nat.le_refl _) i o (by simpa using hio) hoi he k h
          rw [getD_ff (by omega)] at hx2
          rw [Lst] at this
          rw [this] at hx2
          simp at hx2
        · exact h) hW
      have hst := hho.2.2 σ a w (wpAny P .any ops Q fuel (listed.setIfInBounds i true)) Q hR hsafe (fun us a' w' hus hR' => by
        refine wp_any hlen hok hed hind fuel _ _ a' w' (by simpa using hs) ?_ ?_ hR' ?_
        · intro k o' hk hL e hee hb
          have up : ∀ q, Lst listed q → Lst (listed.setIfInBounds i true) q := fun q hq => by
            unfold Lst at *
            by_cases hqi : q = i
            · subst hqi
              simp [Array.getD, show q < listed.size by omega]
            · simp only [Array.getD_eq_getD_getElem?] at *
              rw [Array.getElem?_setIfInBounds_ne (Ne.symm hqi)]
              exact hq
          by_cases hki : k = i
          · subst hki
            obtain rfl : o' = o := Option.some.inj (hk.symm.trans hoi)
            exact up _ (he e hee hb)
          · refine up _ (hd k o' hk ?_ e hee hb)
            unfold Lst at *
            simp only [Array.getD_eq_getD_getElem?] at *
            rwa [Array.getElem?_setIfInBounds_ne (Ne.symm hki)] at hL
        · rw [e2]
          rw [e1] at hf
          simp only [List.length_append, List.length_cons] at hf ⊢
          omega
        · rw [e2]; exact hrel us hus)
      unfold wpOp
      simp only [ho]
      split
      · rename_i hw
        rw [if_pos hw] at hst
        exact .inl hst
      · rename_i hw
        rw [if_neg hw] at hst
        exact hst

/-- A statement whose order is open. -/
theorem wp_draw {P : Program} {C : Ctx} {id : Nat} {ops : Array Oper} {Q : Exit → Act → World → Prop} {σ : St} {a : Act} {w : World} (hm : P.follows .mixedOrders = true) (cs : List Cert) (hlen : cs.length = ops.size)
    (hR : Rel C σ a w) (hok : ∀ (i : Nat) (o : Oper) (c : Cert), ops[i]? = some o → cs[i]? = some c → OpOk P C ops o c)
    (hW : Wc cs σ (fun σ' => ∀ a w, Rel C σ' a w → Q .normal a w)) (hed : edgesOk ops.toList = true) (hind : apartOk ops.toList cs = true) : (Code.region id ops true).wp P Q a w := by
  have hl : left cs (Array.replicate ops.size false) = cs := by
    unfold left
    have : (cs.zipIdx.filter fun x => !(Array.replicate ops.size false).getD x.2 true) = cs.zipIdx := by
      apply List.filter_eq_self.2
      intro x hx
      obtain ⟨k, hk, rfl⟩ := List.getElem_of_mem hx
      simp only [List.length_zipIdx] at hk
      simp only [List.getElem_zipIdx, Nat.zero_add, Array.getD, Array.size_replicate]
      rw [dif_pos (by omega)]
      simp
    rw [this]
    simp
  refine wp_region_any hm (wp_any hlen hok hed hind ops.size _ σ a _ (by simp [hlen]) ?_ (by rw [hl, hlen]) (hR.heap rfl rfl rfl rfl) (by rw [hl]; exact hW))
  intro i o _ hL
  unfold Lst at hL
  simp only [Array.getD, Array.size_replicate] at hL
  split at hL
  · simp at hL
  · cases hL
end Go.Proofs.Ytdjadeegjbhihaa

/- What each operation asks and leaves, one law each. -/
namespace Go.Proofs.Ytdjadeegjbhihaa
open Go

/-- What an operand reads as. -/
def aev (σ : St) : Operand → A
  | .tmp t => σ.t t
  | .const v => .d (.v v)
  | .global _ => .any
  | .func f => .d (.v (.func (.func f) #[] #[]))
def kof : Operand → List Key
  | .tmp t => [T t]
  | _ => []

structure RelE (C : Ctx) (σ : St) (a : Act) (w : World) (F : Nat → Prop) (E : Nat → Option Nat) (H : Nat → Nat → Option Value) : Prop where
  dfr : a.defers = []
  n : a.tmps.size = σ.n
  env : Env C w F E H σ.b
  den : ∀ t, Den w F E H (σ.t t) (a.tmps.getD t undef)
theorem Rel.e {C : Ctx} {σ : St} {a : Act} {w : World} (h : Rel C σ a w) : ∃ F E H, RelE C σ a w F E H := by
  obtain ⟨h1, h2, F, E, H, h3, h4⟩ := h
  exact ⟨F, E, H, h1, h2, h3, h4⟩
theorem RelE.r {C : Ctx} {σ : St} {a : Act} {w : World} {F : Nat → Prop} {E : Nat → Option Nat} {H : Nat → Nat → Option Value} (h : RelE C σ a w F E H) : Rel C σ a w :=
  ⟨h.dfr, h.n, F, E, H, h.env, h.den⟩

section
variable {C : Ctx} {σ : St} {a : Act} {w w' : World} {F F' : Nat → Prop} {E E' : Nat → Option Nat} {H H' : Nat → Nat → Option Value}
theorem RelE.ev (h : RelE C σ a w F E H) (x : Operand) : Den w F E H (aev σ x) (a.eval x) := by
  cases x with
  | tmp t => exact h.den t
  | const v => exact .d _ _ (.v v)
  | global g => exact .any _
  | func f => exact .d _ _ (.v _)
theorem getD_put (a : Act) (d : Nat) (v : Value) (hd : d < a.tmps.size) (t : Nat) : (a.put (some d) v).tmps.getD t undef = if t = d then v else a.tmps.getD t undef := by
  simp only [Act.put, Array.getD_eq_getD_getElem?]
  by_cases h : t = d
  · subst h; simp [hd]
  · rw [Array.getElem?_setIfInBounds_ne (Ne.symm h), if_neg h]
theorem size_putA (a : Act) (d : Option Nat) (v : Value) : (a.put d v).tmps.size = a.tmps.size := by
  cases d <;> simp [Act.put]
theorem dfr_put (a : Act) (d : Option Nat) (v : Value) : (a.put d v).defers = a.defers := by
  cases d <;> rfl
theorem RelE.put (h : RelE C σ a w F E H) {d : Nat} (hd : d < σ.n) {r : A} {v : Value} (hv : Den w F E H r v) : RelE C (σ.put (T d) (.a r)) (a.put (some d) v) w F E H := by
  refine ⟨(dfr_put _ _ _).trans h.dfr, (size_putA _ _ _).trans h.n, h.env, fun t => ?_⟩
  rw [getD_put a d v (by rw [h.n]; exact hd)]
  show Den w F E H (upd σ.t d r t) _
  unfold upd
  split
  · exact hv
  · exact h.den t
theorem RelE.putn (h : RelE C σ a w F E H) (v : Value) : RelE C σ (a.put none v) w F E H := h
/-- The world moves on. -/
theorem RelE.move (h : RelE C σ a w F E H) {b' : Nat → Bx} (he : Env C w' F' E' H' b') (hF : ∀ b, F b → F' b) (hw : ∀ b, F b → w'.heap[b]? = w.heap[b]?)
    (hE : ∀ i b, E i = some b → E' i = some b) (hH : ∀ i k v, H i k = some v → H' i k = some v) : RelE C ⟨σ.n, σ.t, b'⟩ a w' F' E' H' :=
  ⟨h.dfr, h.n, he, fun t => (h.den t).mono hF hw hE hH⟩
theorem Env.frozen {bx : Nat → Bx} (h : Env C w F E H bx) {b : Nat} (hb : F b) (i : Nat) : blk E H i (bx i) ≠ some b := fun e => (h.live i b e).1 hb
end

/-! Inversions. -/
section
variable {w : World} {F : Nat → Prop} {E : Nat → Option Nat} {H : Nat → Nat → Option Value} {v : Value}
theorem den_d {x : D} (h : Den w F E H (.d x) v) : FDen w F x v := by cases h; assumption
theorem den_v {x : Value} (h : Den w F E H (.d (.v x)) v) : v = x := by cases h with | d _ _ h => cases h; rfl
theorem den_ptr {i o : Nat} (h : Den w F E H (.ptr i o) v) : ∃ b, E i = some b ∧ v = .pointer (some ⟨b, o, none⟩) := by cases h with | ptr _ _ b h => exact ⟨b, h, rfl⟩
theorem den_own {i k : Nat} (h : Den w F E H (.own i k) v) : H i k = some v := by cases h with | own _ _ _ h => exact h
theorem den_optr {i k o : Nat} (h : Den w F E H (.optr i k o) v) : ∃ b n c, H i k = some (.slice (some ⟨b, 0, none⟩) n c) ∧ v = .pointer (some ⟨b, o, none⟩) := by cases h with | optr _ _ _ b n c h => exact ⟨b, n, c, h, rfl⟩
theorem den_agg {aas : List A} (h : Den w F E H (.agg aas) v) : ∃ cs : Array Value, v = .agg cs ∧ cs.size = aas.length ∧ (∀ i : Nat, i < aas.length → (cs.getD i undef).oneCell' = true) ∧ ∀ (i : Nat) (a : A), aas[i]? = some a → Den w F E H a (cs.getD i undef) := by
  cases h with | agg _ cs hs h1 h => exact ⟨cs, rfl, hs, h1, h⟩
theorem den_cells {aas : List A} (h : Den w F E H (.agg aas) v) : ∃ cs : Array Value, v = .agg cs ∧ Pw (CellOk w F E H) aas cs.toList := by
  obtain ⟨cs, rfl, hs, h1, h⟩ := den_agg h
  refine ⟨cs, rfl, by simp [hs], fun j a v ha hv => ?_⟩
  have hj := (List.getElem?_eq_some_iff.1 ha).1
  have e : cs.getD j undef = v := by
    rw [Array.getD_eq_getD_getElem?, ← Array.getElem?_toList, hv]
    rfl
  exact ⟨e ▸ h1 j hj, e ▸ h j a ha⟩
theorem agg_den {aas : List A} {vs : List Value} (h : Pw (CellOk w F E H) aas vs) : Den w F E H (.agg aas) (.agg vs.toArray) := by
  refine .agg aas vs.toArray (by simp [h.1]) (fun i hi => ?_) (fun i a ha => ?_)
  · obtain ⟨v, hv, h2⟩ := h.get (List.getElem?_eq_getElem hi)
    simpa [Array.getD_eq_getD_getElem?, hv] using h2.1
  · obtain ⟨v, hv, h2⟩ := h.get ha
    simpa [Array.getD_eq_getD_getElem?, hv] using h2.2
theorem den_tup {aas : List A} (h : Den w F E H (.tup aas) v) : ∃ cs : Array Value, v = .tuple cs ∧ cs.size = aas.length ∧ ∀ (i : Nat) (a : A), aas[i]? = some a → Den w F E H a (cs.getD i undef) := by
  cases h with | tup _ cs hs h => exact ⟨cs, rfl, hs, h⟩
theorem den_rptr {sz i j : Nat} {es : List (List D)} (h : Den w F E H (.rptr sz es i j) v) : ∃ b o cap n, v = .pointer (some ⟨b, o + (i * sz + j), none⟩) ∧ FDen w F (.row es) (.slice (some ⟨b, o, none⟩) n cap) ∧ i < n ∧ ∀ e ∈ es, e.length = sz := by
  cases h with | rptr _ b o cap n _ _ _ h hi hz => exact ⟨b, o, cap, n, rfl, h, hi, hz⟩
theorem den_row {es : List (List D)} (h : FDen w F (.row es) v) : ∃ b n c, v = .slice b n c ∧ n = es.length := by
  cases h with
  | emp => exact ⟨_, _, _, rfl, rfl⟩
  | row sz b o cap n _ vs hF hn => exact ⟨_, _, _, rfl, hn.symm⟩
end

/-! A statement, operation by operation. -/
def Oks (P : Program) (C : Ctx) (ops : Array Oper) : List Oper → List Cert → Prop
  | [], [] => True
  | o :: os, c :: cs => OpOk P C ops o c ∧ Oks P C ops os cs
  | _, _ => False
def Wk (P : Program) (C : Ctx) (ops : Array Oper) (os : List Oper) (cs : List Cert) (σ : St) (K : St → Prop) : Prop := Oks P C ops os cs ∧ Wc cs σ K

section
variable {P : Program} {C : Ctx} {ops : Array Oper} {os : List Oper} {o : Oper} {c : Cert} {cs : List Cert} {σ : St} {K : St → Prop}
theorem Wk.nil (h : K σ) : Wk P C ops [] [] σ K := ⟨trivial, h⟩
theorem Wk.cons (ho : OpOk P C ops o c) (hs : c.safe σ) (h : ∀ us, c.rel σ us → Wk P C ops os cs (σ.puts c.wr us) K) : Wk P C ops (o :: os) (c :: cs) σ K := by
  obtain ⟨u0, hu0⟩ := ho.1.1 σ hs
  exact ⟨⟨ho, (h u0 hu0).1⟩, hs, fun us hus => (h us hus).2⟩
theorem Wk.det (ho : OpOk P C ops o c) (hs : c.safe σ) (us : List V) (hu : ∀ us', c.rel σ us' → us' = us) (h : Wk P C ops os cs (σ.puts c.wr us) K) : Wk P C ops (o :: os) (c :: cs) σ K :=
  Wk.cons ho hs fun us' hus => by rw [hu us' hus]; exact h
theorem Oks.get : ∀ {os : List Oper} {cs : List Cert}, Oks P C ops os cs → os.length = cs.length ∧ ∀ (i : Nat) (o : Oper) (c : Cert), os[i]? = some o → cs[i]? = some c → OpOk P C ops o c
  | [], [], _ => ⟨rfl, fun i o c h => by simp at h⟩
  | [], _ :: _, h => h.elim
  | _ :: _, [], h => h.elim
  | o :: os, c :: cs, h => by
    obtain ⟨h1, h2⟩ := Oks.get h.2
    refine ⟨by simp [h1], fun i o' c' ho hc => ?_⟩
    cases i with
    | zero => simp only [List.getElem?_cons_zero, Option.some.injEq] at ho hc; exact ho ▸ hc ▸ h.1
    | succ i => exact h2 i o' c' (by simpa using ho) (by simpa using hc)

theorem wk_list {Q : Exit → Act → World → Prop} : ∀ (os : List Oper) (cs : List Cert) (σ : St) (a : Act) (w : World), Wk P C ops os cs σ K → Rel C σ a w → (∀ σ a w, K σ → Rel C σ a w → Q .normal a w) → wpList P ops Q os a w
  | [], [], σ, a, w, h, hR, hq => hq σ a w h.2 hR
  | [], _ :: _, _, _, _, h, _, _ => h.1.elim
  | _ :: _, [], _, _, _, h, _, _ => h.1.elim
  | o :: os, c :: cs, σ, a, w, h, hR, hq => by
    have := h.1.1.2.2 σ a w (wpList P ops Q os) Q hR h.2.1 (fun us a' w' hus hR' => wk_list os cs _ a' w' ⟨h.1.2, h.2.2 us hus⟩ hR' hq)
    unfold wpList
    split
    · rename_i hw; rw [if_pos hw] at this; exact .inl this
    · rename_i hw; rw [if_neg hw] at this; exact this

/-- How an operation without a guard is proved to do what its certificate says. -/
theorem OpOk.of {rd wr : List Key} {beh : St → Prop × (List V → Prop)} (hg : o.guard = none) (hdst : dstIn o.dst wr = true) (ht : ∀ σ, (beh σ).1 → ∃ us, (beh σ).2 us) (hl : ∀ σ, beh (σ.mask rd) = beh σ)
    (hs : ∀ (σ : St) (a : Act) (w : World) (F : Nat → Prop) (E : Nat → Option Nat) (H : Nat → Nat → Option Value) (K : Act → World → Prop) (Q : Exit → Act → World → Prop), RelE C σ a w F E H → (beh σ).1 →
      (∀ us a' w', (beh σ).2 us → Rel C (σ.puts wr us) a' w' → K a' w') → o.wp P a w K Q) : OpOk P C ops o ⟨rd, wr, beh⟩ := by
  refine ⟨⟨ht, hl⟩, hdst, fun σ a w K Q hR hsafe hK => ?_⟩
  rw [if_pos (by simp [Region.wanted, hg])]
  obtain ⟨F, E, H, hR⟩ := hR.e
  exact hs σ a w F E H K Q hR hsafe hK
end

/-- A behaviour that is told by a function of the state, where it answers. -/
def beh1 (f : St → Option A) (d : Nat) : St → Prop × (List V → Prop) := fun σ => (d < σ.n ∧ (f σ).isSome = true, fun us => ∃ r, f σ = some r ∧ us = [.a r])
section
variable {P : Program} {C : Ctx} {ops : Array Oper} {os : List Oper} {o : Oper} {cs : List Cert} {σ : St} {K : St → Prop}
/-- An operation that reads alone: its value is one that the state tells. -/
theorem OpOk.read {f : St → Option A} {rd : List Key} {d : Nat} (hg : o.guard = none) (hd : o.dst = some d) (hl : ∀ σ, f (σ.mask rd) = f σ)
    (hs : ∀ (σ : St) (a : Act) (w : World) (F : Nat → Prop) (E : Nat → Option Nat) (H : Nat → Nat → Option Value) (r : A), RelE C σ a w F E H → f σ = some r →
      ∃ v, (execOp a.eval o).run P w = .ok (.value v) w ∧ Den w F E H r v) : OpOk P C ops o ⟨rd, [T d], beh1 f d⟩ := by
  refine OpOk.of hg (by rw [hd]; simp [dstIn]) (fun σ h => ?_) (fun σ => ?_) (fun σ a w F E H K Q hR hsafe hK => ?_)
  · obtain ⟨r, hr⟩ := Option.isSome_iff_exists.1 h.2
    exact ⟨_, r, hr, rfl⟩
  · unfold beh1
    rw [hl]
    rfl
  · obtain ⟨r, hr⟩ := Option.isSome_iff_exists.1 hsafe.2
    obtain ⟨v, hv, hden⟩ := hs σ a w F E H r hR hr
    unfold Oper.wp
    rw [hv, Oper.upon_value, hd]
    exact hK [.a r] _ _ ⟨r, hr, rfl⟩ (hR.put hsafe.1 hden).r
theorem Wk.read {f : St → Option A} {rd : List Key} {d : Nat} (ho : OpOk P C ops o ⟨rd, [T d], beh1 f d⟩) (r : A) (hd : d < σ.n) (hr : f σ = some r) (h : Wk P C ops os cs (σ.put (T d) (.a r)) K) :
    Wk P C ops (o :: os) (⟨rd, [T d], beh1 f d⟩ :: cs) σ K :=
  Wk.det ho ⟨hd, by rw [hr]; rfl⟩ [.a r] (fun us' ⟨r', h1, h2⟩ => by rw [h2, Option.some.inj (h1.symm.trans hr)]) h
end
theorem aev_mask {σ : St} {rd : List Key} {x : Operand} (h : ∀ k ∈ kof x, k ∈ rd) : aev (σ.mask rd) x = aev σ x := by
  cases x with
  | tmp t =>
    have : T t ∈ rd := h _ List.mem_cons_self
    simp only [aev, St.mask]
    rw [if_pos (by simpa using this)]
  | _ => rfl
theorem bx_mask {σ : St} {rd : List Key} {i : Nat} (h : B i ∈ rd) : (σ.mask rd).b i = σ.b i := by
  simp only [St.mask]
  rw [if_pos (by simpa using h)]

/-! move, assign -/
section
variable {P : Program} {C : Ctx} {ops : Array Oper} {os : List Oper} {cs : List Cert} {σ : St} {K : St → Prop} {d : Nat} {ty : TypeId} {pos : String} {af : Array Edge}
def rMove (x : Operand) (σ : St) : Option A := some (aev σ x)
theorem ok_move (x : Operand) : OpOk P C ops ⟨some d, .move x, ty, pos, af, none⟩ ⟨kof x, [T d], beh1 (rMove x) d⟩ :=
  OpOk.read rfl rfl (fun σ => by unfold rMove; rw [aev_mask (fun k h => h)]) fun σ a w F E H r hR h => by
    obtain rfl := Option.some.inj h
    exact ⟨a.eval x, rfl, hR.ev x⟩
theorem ok_assign (x : Operand) : OpOk P C ops ⟨some d, .assign x, ty, pos, af, none⟩ ⟨kof x, [T d], beh1 (rMove x) d⟩ :=
  OpOk.read rfl rfl (fun σ => by unfold rMove; rw [aev_mask (fun k h => h)]) fun σ a w F E H r hR h => by
    obtain rfl := Option.some.inj h
    exact ⟨a.eval x, rfl, hR.ev x⟩
theorem Wk.mv {x : Operand} {r : A} (hr : aev σ x = r) (hd : d < σ.n) (h : Wk P C ops os cs (σ.put (T d) (.a r)) K) :
    Wk P C ops (⟨some d, .move x, ty, pos, af, none⟩ :: os) (⟨kof x, [T d], beh1 (rMove x) d⟩ :: cs) σ K := Wk.read (ok_move x) r hd (by rw [rMove, hr]) h
theorem Wk.asg {x : Operand} {r : A} (hr : aev σ x = r) (hd : d < σ.n) (h : Wk P C ops os cs (σ.put (T d) (.a r)) K) :
    Wk P C ops (⟨some d, .assign x, ty, pos, af, none⟩ :: os) (⟨kof x, [T d], beh1 (rMove x) d⟩ :: cs) σ K := Wk.read (ok_assign x) r hd (by rw [rMove, hr]) h

/-! numbers and truths -/
open Classical in
/-- The answer of a computation that looks at no memory, where it has one. -/
noncomputable def ans (P : Program) (s : Sem Value) : Option Value := if h : ∃ r, ∀ w, s.run P w = .ok r w then some h.choose else none
theorem ans_of {P : Program} {s : Sem Value} {r : Value} (h : ∀ w, s.run P w = .ok r w) : ans P s = some r := by
  unfold ans
  have hx : ∃ r, ∀ w, s.run P w = .ok r w := ⟨r, h⟩
  rw [dif_pos hx]
  have h1 := hx.choose_spec default
  rw [h default] at h1
  injection h1 with h1
  rw [h1]
theorem ans_run {P : Program} {s : Sem Value} {r : Value} (h : ans P s = some r) : ∀ w, s.run P w = .ok r w := by
  unfold ans at h
  split at h
  · rename_i hx
    obtain rfl := Option.some.inj h
    exact hx.choose_spec
  · cases h
def sc : A → Option Value
  | .d (.v v) => some v
  | _ => none
theorem den_sc {w : World} {F : Nat → Prop} {E : Nat → Option Nat} {H : Nat → Nat → Option Value} {x : A} {v u : Value} (h : sc x = some u) (hd : Den w F E H x v) : v = u := by
  unfold sc at h
  split at h
  · obtain rfl := Option.some.inj h; exact den_v hd
  · cases h
noncomputable def rBin (P : Program) (op : BinOp) (t : TypeId) (x y : Operand) (σ : St) : Option A :=
  (sc (aev σ x)).bind fun u => (sc (aev σ y)).bind fun v => (ans P (do eqGuard op t x y u v; binOp op t u v)).map fun r => .d (.v r)
theorem ok_bin (op : BinOp) (t yt : TypeId) (x y : Operand) : OpOk P C ops ⟨some d, .binOp op t x y yt, ty, pos, af, none⟩ ⟨kof x ++ kof y, [T d], beh1 (rBin P op t x y) d⟩ :=
  OpOk.read rfl rfl (fun σ => by unfold rBin; rw [aev_mask (fun k h => List.mem_append_left _ h), aev_mask (fun k h => List.mem_append_right _ h)]) fun σ a w F E H r hR h => by
    simp only [rBin, Option.bind_eq_some_iff, Option.map_eq_some_iff] at h
    obtain ⟨u, hu, v, hv, r, hr, rfl⟩ := h
    have e1 := den_sc hu (hR.ev x)
    have e2 := den_sc hv (hR.ev y)
    refine ⟨r, ?_, .d _ _ (.v r)⟩
    have := ans_run hr w
    simp only [execOp, e1, e2]
    rw [Sem.run_bind, this]
    rfl
theorem Wk.bin {op : BinOp} {t yt : TypeId} {x y : Operand} {u v r : Value} (hx : aev σ x = .d (.v u)) (hy : aev σ y = .d (.v v)) (hr : ∀ w, (do eqGuard op t x y u v; binOp op t u v : Sem Value).run P w = .ok r w) (hd : d < σ.n)
    (h : Wk P C ops os cs (σ.put (T d) (.a (.d (.v r)))) K) : Wk P C ops (⟨some d, .binOp op t x y yt, ty, pos, af, none⟩ :: os) (⟨kof x ++ kof y, [T d], beh1 (rBin P op t x y) d⟩ :: cs) σ K :=
  Wk.read (ok_bin op t yt x y) _ hd (by simp only [rBin, hx, hy, sc, Option.bind_some, ans_of hr, Option.map_some]) h
theorem wrap64 {n : Int} (h1 : -9223372036854775808 ≤ n) (h2 : n ≤ 9223372036854775807) : IntKind.i64.wrap n = n := by
  simp [IntKind.wrap, IntKind.bits, IntKind.signed]
  omega
theorem Wk.addi {t yt : TypeId} {x y : Operand} {u v : Int} (hx : aev σ x = .d (.v (.int .i64 u))) (hy : aev σ y = .d (.v (.int .i64 v))) (hr : -9223372036854775808 ≤ u + v ∧ u + v ≤ 9223372036854775807) (hd : d < σ.n)
    (h : Wk P C ops os cs (σ.put (T d) (.a (.d (.v (.int .i64 (u + v)))))) K) : Wk P C ops (⟨some d, .binOp .add t x y yt, ty, pos, af, none⟩ :: os) (⟨kof x ++ kof y, [T d], beh1 (rBin P .add t x y) d⟩ :: cs) σ K :=
  Wk.bin hx hy (fun w => by simp [eqGuard, binOp, go_sem, wrap64 hr.1 hr.2]) hd h
theorem Wk.subi {t yt : TypeId} {x y : Operand} {u v : Int} (hx : aev σ x = .d (.v (.int .i64 u))) (hy : aev σ y = .d (.v (.int .i64 v))) (hr : -9223372036854775808 ≤ u - v ∧ u - v ≤ 9223372036854775807) (hd : d < σ.n)
    (h : Wk P C ops os cs (σ.put (T d) (.a (.d (.v (.int .i64 (u - v)))))) K) : Wk P C ops (⟨some d, .binOp .sub t x y yt, ty, pos, af, none⟩ :: os) (⟨kof x ++ kof y, [T d], beh1 (rBin P .sub t x y) d⟩ :: cs) σ K :=
  Wk.bin hx hy (fun w => by simp [eqGuard, binOp, go_sem, wrap64 hr.1 hr.2]) hd h
noncomputable def rUn (P : Program) (op : UnOp) (x : Operand) (σ : St) : Option A := (sc (aev σ x)).bind fun u => (ans P (Op.unary op u)).map fun r => .d (.v r)
theorem ok_un (op : UnOp) (t : TypeId) (x : Operand) : OpOk P C ops ⟨some d, .unOp op t x, ty, pos, af, none⟩ ⟨kof x, [T d], beh1 (rUn P op x) d⟩ :=
  OpOk.read rfl rfl (fun σ => by unfold rUn; rw [aev_mask (fun k h => h)]) fun σ a w F E H r hR h => by
    simp only [rUn, Option.bind_eq_some_iff, Option.map_eq_some_iff] at h
    obtain ⟨u, hu, r, hr, rfl⟩ := h
    have e1 := den_sc hu (hR.ev x)
    refine ⟨r, ?_, .d _ _ (.v r)⟩
    have := ans_run hr w
    simp only [execOp, e1]
    rw [Sem.run_bind, this]
    rfl
theorem Wk.un {op : UnOp} {t : TypeId} {x : Operand} {u r : Value} (hx : aev σ x = .d (.v u)) (hr : ∀ w, (Op.unary op u).run P w = .ok r w) (hd : d < σ.n)
    (h : Wk P C ops os cs (σ.put (T d) (.a (.d (.v r)))) K) : Wk P C ops (⟨some d, .unOp op t x, ty, pos, af, none⟩ :: os) (⟨kof x, [T d], beh1 (rUn P op x) d⟩ :: cs) σ K :=
  Wk.read (ok_un op t x) _ hd (by simp only [rUn, hx, sc, Option.bind_some, ans_of hr, Option.map_some]) h
noncomputable def rConv (P : Program) (s t : TypeId) (x : Operand) (σ : St) : Option A := (sc (aev σ x)).bind fun u => (ans P (convert s t u)).map fun r => .d (.v r)
theorem ok_conv (s t : TypeId) (x : Operand) : OpOk P C ops ⟨some d, .convert s t x, ty, pos, af, none⟩ ⟨kof x, [T d], beh1 (rConv P s t x) d⟩ :=
  OpOk.read rfl rfl (fun σ => by unfold rConv; rw [aev_mask (fun k h => h)]) fun σ a w F E H r hR h => by
    simp only [rConv, Option.bind_eq_some_iff, Option.map_eq_some_iff] at h
    obtain ⟨u, hu, r, hr, rfl⟩ := h
    have e1 := den_sc hu (hR.ev x)
    refine ⟨r, ?_, .d _ _ (.v r)⟩
    have := ans_run hr w
    simp only [execOp, e1]
    rw [Sem.run_bind, this]
    rfl
theorem Wk.conv {s t : TypeId} {x : Operand} {u r : Value} (hx : aev σ x = .d (.v u)) (hr : ∀ w, (convert s t u).run P w = .ok r w) (hd : d < σ.n)
    (h : Wk P C ops os cs (σ.put (T d) (.a (.d (.v r)))) K) : Wk P C ops (⟨some d, .convert s t x, ty, pos, af, none⟩ :: os) (⟨kof x, [T d], beh1 (rConv P s t x) d⟩ :: cs) σ K :=
  Wk.read (ok_conv s t x) _ hd (by simp only [rConv, hx, sc, Option.bind_some, ans_of hr, Option.map_some]) h

/-! parts of tuples -/
def rExtract (x : Operand) (k : Nat) (σ : St) : Option A := match aev σ x with | .tup aas => aas[k]? | _ => none
theorem ok_extract (x : Operand) (k : Nat) : OpOk P C ops ⟨some d, .extract x k, ty, pos, af, none⟩ ⟨kof x, [T d], beh1 (rExtract x k) d⟩ :=
  OpOk.read rfl rfl (fun σ => by unfold rExtract; rw [aev_mask (fun k h => h)]) fun σ a w F E H r hR h => by
    unfold rExtract at h
    split at h
    · rename_i aas he
      have hd := hR.ev x
      rw [he] at hd
      obtain ⟨vs, hv, hs, hc⟩ := den_tup hd
      have hk : k < vs.size := by rw [hs]; exact (List.getElem?_eq_some_iff.1 h).1
      refine ⟨vs.getD k undef, ?_, hc k r h⟩
      simp [execOp, hv, Instr.extract, hk]
    · cases h
theorem Wk.ext {x : Operand} {k : Nat} {aas : List A} {r : A} (hx : aev σ x = .tup aas) (hk : aas[k]? = some r) (hd : d < σ.n) (h : Wk P C ops os cs (σ.put (T d) (.a r)) K) :
    Wk P C ops (⟨some d, .extract x k, ty, pos, af, none⟩ :: os) (⟨kof x, [T d], beh1 (rExtract x k) d⟩ :: cs) σ K := Wk.read (ok_extract x k) r hd (by simp only [rExtract, hx, hk]) h
end
end Go.Proofs.Ytdjadeegjbhihaa

/- Operations on structs, variables and lists: reads. -/
namespace Go.Proofs.Ytdjadeegjbhihaa
open Go

/-- Size of a type in cells, and whether a value of it is a row of cells. -/
def tyOf (P : Program) (t : TypeId) : Option (Nat × Bool) :=
  match P.underlying t, P.info? t with
  | some du, some i => some (i.size, du.isRow)
  | _, _ => none
def fieldOf (P : Program) (t : TypeId) (k : Nat) : Option (Nat × Nat × Bool) :=
  match P.underlying t with
  | some (.struct fs) => match fs[k]? with
    | some f => (tyOf P f.type).map fun (n, r) => (f.offset, n, r)
    | none => none
  | _ => none
/-- A part of cells: a row of them, or one. -/
def partA (aas : List A) (off n : Nat) (row : Bool) : Option A := if row then (if off + n ≤ aas.length then some (.agg ((aas.drop off).take n)) else none) else aas[off]?

section
variable {P : Program} {C : Ctx} {ops : Array Oper} {os : List Oper} {cs : List Cert} {σ : St} {K : St → Prop} {d : Nat} {ty : TypeId} {pos : String} {af : Array Edge}
variable {a : Act} {w w' : World} {F : Nat → Prop} {E : Nat → Option Nat} {H : Nat → Nat → Option Value}

theorem tyOf_parts {t : TypeId} {n : Nat} {r : Bool} (h : tyOf P t = some (n, r)) : ∃ du i, P.underlying t = some du ∧ P.info? t = some i ∧ i.size = n ∧ du.isRow = r := by
  unfold tyOf at h
  split at h
  · rename_i du i h1 h2
    simp only [Option.some.injEq, Prod.mk.injEq] at h
    exact ⟨du, i, h1, h2, h.1, h.2⟩
  · cases h
theorem run_agg {t : TypeId} {n : Nat} {r : Bool} (h : tyOf P t = some (n, r)) (w : World) : (isAgg t).run P w = .ok r w := by
  obtain ⟨du, i, h1, h2, h3, h4⟩ := tyOf_parts h
  unfold isAgg
  rw [Sem.run_bind, run_underlying h1 w, ← h4]
  cases du <;> rfl
theorem run_size {t : TypeId} {n : Nat} {r : Bool} (h : tyOf P t = some (n, r)) (w : World) : (sizeOf t).run P w = .ok n w := by
  obtain ⟨du, i, h1, h2, h3, h4⟩ := tyOf_parts h
  simp [sizeOf, typeInfo, h2, h3]

/-- A part of cells, as the program takes it. -/
theorem run_part {t : TypeId} {n off : Nat} {row : Bool} (ht : tyOf P t = some (n, row)) {aas : List A} {vs : Array Value} (hp : Pw (CellOk w F E H) aas vs.toList) {r : A} (hr : partA aas off n row = some r) :
    ∃ v, (part t vs off).run P w = .ok v w ∧ Den w F E H r v := by
  unfold partA at hr
  cases row with
  | true =>
    simp only [if_true] at hr
    split at hr
    · rename_i hl
      obtain rfl := Option.some.inj hr
      refine ⟨_, ?_, agg_den ((hp.drop off).take n)⟩
      have : vs.extract off (off + n) = (List.take n (List.drop off vs.toList)).toArray := by
        apply Array.ext'
        simp [List.extract_eq_take_drop]
      simp [part, run_agg ht, run_size ht, this]
    · cases hr
  | false =>
    simp only [Bool.false_eq_true, if_false] at hr
    obtain ⟨v, hv, h1⟩ := hp.get hr
    rw [Array.getElem?_toList] at hv
    exact ⟨v, by simp [part, run_agg ht, hv], h1.2⟩

def rField (x : Operand) (off n : Nat) (row : Bool) (σ : St) : Option A := match aev σ x with | .agg aas => partA aas off n row | _ => none
theorem ok_field {xt : TypeId} {x : Operand} {k off n : Nat} {row : Bool} (hf : fieldOf P xt k = some (off, n, row)) :
    OpOk P C ops ⟨some d, .field xt x k, ty, pos, af, none⟩ ⟨kof x, [T d], beh1 (rField x off n row) d⟩ :=
  OpOk.read rfl rfl (fun σ => by unfold rField; rw [aev_mask (fun k h => h)]) fun σ a w F E H r hR h => by
    unfold rField at h
    split at h
    · rename_i aas he
      have hd := hR.ev x
      rw [he] at hd
      obtain ⟨vs, hv, hp⟩ := den_cells hd
      unfold fieldOf at hf
      split at hf
      · rename_i fs hu
        split at hf
        · rename_i f hk
          simp only [Option.map_eq_some_iff, Prod.mk.injEq] at hf
          obtain ⟨⟨n', r'⟩, ht, rfl, rfl, rfl⟩ := hf
          obtain ⟨v, h1, h2⟩ := run_part ht hp h
          refine ⟨v, ?_, h2⟩
          simp [execOp, hv, Instr.field, run_underlying hu, hk, h1, asAgg]
        · cases hf
      · cases hf
    · cases h
theorem Wk.fld {xt : TypeId} {x : Operand} {k : Nat} (off n : Nat) (row : Bool) (hf : fieldOf P xt k = some (off, n, row)) {aas : List A} {r : A} (hx : aev σ x = .agg aas) (hr : partA aas off n row = some r) (hd : d < σ.n)
    (h : Wk P C ops os cs (σ.put (T d) (.a r)) K) : Wk P C ops (⟨some d, .field xt x k, ty, pos, af, none⟩ :: os) (⟨kof x, [T d], beh1 (rField x off n row) d⟩ :: cs) σ K :=
  Wk.read (ok_field hf) r hd (by simp only [rField, hx, hr]) h

/-! Loads. -/
theorem run_load_cells {t : TypeId} {n b o : Nat} {row : Bool} (ht : tyOf P t = some (n, row)) {aas : List A} {vs : List Value} (hp : Pw (CellOk w F E H) aas vs) (hc : ∀ j v, vs[j]? = some v → w.cell? ⟨b, o + j, none⟩ = some v)
    {off : Nat} {r : A} (hr : partA aas off n row = some r) : ∃ v, (loadVar t ⟨b, o + off, none⟩).run P w = .ok v w ∧ Den w F E H r v := by
  unfold partA at hr
  cases row with
  | true =>
    simp only [if_true] at hr
    split at hr
    · rename_i hl
      obtain rfl := Option.some.inj hr
      refine ⟨_, ?_, agg_den ((hp.drop off).take n)⟩
      obtain ⟨du, i, h1, h2, h3, h4⟩ := tyOf_parts ht
      refine run_loadVar_mid w b (o + off) t _ du (fun j v hv => ?_) h1 h4 ?_
      · rw [List.getElem?_take] at hv
        split at hv
        · rw [List.getElem?_drop] at hv
          rw [Nat.add_assoc]
          exact hc _ v hv
        · cases hv
      · have := hp.1
        simp [h2, h3]
        omega
    · cases hr
  | false =>
    simp only [Bool.false_eq_true, if_false] at hr
    obtain ⟨v, hv, h1⟩ := hp.get hr
    exact ⟨v, by simp [loadVar, run_agg ht, hc off v hv, go_sem], h1.2⟩

/-- A load out of a variable. -/
def rLoad (x : Operand) (i n : Nat) (row : Bool) (σ : St) : Option A := match aev σ x, σ.b i with | .ptr i' o, .var cs => if i' = i then partA cs o n row else none | _, _ => none
theorem ok_load {t : TypeId} {x : Operand} (i : Nat) {n : Nat} {row : Bool} (ht : tyOf P t = some (n, row)) :
    OpOk P C ops ⟨some d, .load t x, ty, pos, af, none⟩ ⟨kof x ++ [B i], [T d], beh1 (rLoad x i n row) d⟩ :=
  OpOk.read rfl rfl (fun σ => by unfold rLoad; rw [aev_mask (fun k h => List.mem_append_left _ h), bx_mask (by simp)]) fun σ a w F E H r hR h => by
    unfold rLoad at h
    split at h
    · rename_i i' o cs he hb
      split at h
      · rename_i hi
        subst hi
        have hd := hR.ev x
        rw [he] at hd
        obtain ⟨b, hE, hv⟩ := den_ptr hd
        have hbox := hR.env.box i'
        rw [hb] at hbox
        obtain ⟨b', ct, tt, hE', hh, hp⟩ := hbox
        obtain rfl := Option.some.inj (hE'.symm.trans hE)
        obtain ⟨v, h1, h2⟩ := run_load_cells (b := b') (o := 0) ht hp (fun j v hj => by
          rw [Nat.zero_add]
          simp only [World.cell?, hh]
          rw [← Array.getElem?_toList, hj]
          rfl) h
        rw [Nat.zero_add] at h1
        exact ⟨v, by simp [execOp, hv, Instr.loadAt, Instr.sureAddr, h1], h2⟩
      · cases h
    · cases h
theorem Wk.ld {t : TypeId} {x : Operand} {i o : Nat} (n : Nat) (row : Bool) (ht : tyOf P t = some (n, row)) {aas : List A} {r : A} (hx : aev σ x = .ptr i o) (hb : σ.b i = .var aas) (hr : partA aas o n row = some r) (hd : d < σ.n)
    (h : Wk P C ops os cs (σ.put (T d) (.a r)) K) : Wk P C ops (⟨some d, .load t x, ty, pos, af, none⟩ :: os) (⟨kof x ++ [B i], [T d], beh1 (rLoad x i n row) d⟩ :: cs) σ K :=
  Wk.read (ok_load i ht) r hd (by simp only [rLoad, hx, hb, if_true, hr]) h

/-- A load out of a list that nobody turns. -/
def rLoadR (x : Operand) (n : Nat) (row : Bool) (σ : St) : Option A := match aev σ x with | .rptr _ es i j => (es[i]?).bind fun e => partA (e.map .d) j n row | _ => none
theorem ok_loadr {t : TypeId} {x : Operand} {n : Nat} {row : Bool} (ht : tyOf P t = some (n, row)) :
    OpOk P C ops ⟨some d, .load t x, ty, pos, af, none⟩ ⟨kof x, [T d], beh1 (rLoadR x n row) d⟩ :=
  OpOk.read rfl rfl (fun σ => by unfold rLoadR; rw [aev_mask (fun k h => h)]) fun σ a w F E H r hR h => by
    unfold rLoadR at h
    split at h
    · rename_i sz es i j he
      have hd := hR.ev x
      rw [he] at hd
      obtain ⟨b, o, cap, m, hv, hrow, him, hz⟩ := den_rptr hd
      rw [Option.bind_eq_some_iff] at h
      obtain ⟨e, hei, h⟩ := h
      cases hrow with
      | emp => simp at hei
      | row sz' _ _ _ _ _ vs hF hn hcap hmax hsz hc h1 hdd =>
        have hmem : e ∈ es := List.mem_of_getElem? hei
        have e1 : sz' = sz := (hsz e hmem).symm.trans (hz e hmem)
        subst e1
        have hp : Pw (CellOk w F E H) (e.map .d) ((List.range e.length).map (vs i)) := by
          refine ⟨by simp, fun q x v hx hv => ?_⟩
          simp only [List.getElem?_map, Option.map_eq_some_iff] at hx hv
          obtain ⟨dd, hdq, rfl⟩ := hx
          obtain ⟨q', hq', rfl⟩ := hv
          have hql := (List.getElem?_eq_some_iff.1 hdq).1
          rw [List.getElem?_range hql] at hq'
          obtain rfl := Option.some.inj hq'
          exact ⟨h1 i q e dd hei hdq, .d _ _ (hdd i q e dd hei hdq)⟩
        obtain ⟨v, h2, h3⟩ := run_load_cells (b := b) (o := o + i * sz') ht hp (fun q v hq => by
          simp only [List.getElem?_map, Option.map_eq_some_iff] at hq
          obtain ⟨q', hq', rfl⟩ := hq
          have hql : q < e.length := by
            have := (List.getElem?_eq_some_iff.1 hq').1
            simpa using this
          rw [List.getElem?_range hql] at hq'
          obtain rfl := Option.some.inj hq'
          rw [Nat.add_assoc]
          exact hc i q e _ hei (List.getElem?_eq_getElem hql)) h
        rw [Nat.add_assoc] at h2
        exact ⟨v, by simp [execOp, hv, Instr.loadAt, Instr.sureAddr, h2], h3⟩
    · cases h
theorem Wk.ldr {t : TypeId} {x : Operand} {sz i j : Nat} {es : List (List D)} {e : List D} (n : Nat) (row : Bool) (ht : tyOf P t = some (n, row)) {r : A} (hx : aev σ x = .rptr sz es i j) (he : es[i]? = some e) (hr : partA (e.map .d) j n row = some r) (hd : d < σ.n)
    (h : Wk P C ops os cs (σ.put (T d) (.a r)) K) : Wk P C ops (⟨some d, .load t x, ty, pos, af, none⟩ :: os) (⟨kof x, [T d], beh1 (rLoadR x n row) d⟩ :: cs) σ K :=
  Wk.read (ok_loadr ht) r hd (by simp only [rLoadR, hx, he, Option.bind_some, hr]) h

/-- What a slice reads as, if nobody turns it. -/
def asRow : A → Option (List (List D))
  | .d (.row es) => some es
  | .d (.v (.slice none 0 0)) => some []
  | _ => none
theorem den_asRow {x : A} {es : List (List D)} {v : Value} (h : asRow x = some es) (hd : Den w F E H x v) : FDen w F (.row es) v := by
  unfold asRow at h
  split at h
  · obtain rfl := Option.some.inj h; exact den_d hd
  · obtain rfl := Option.some.inj h; rw [den_v hd]; exact .nil
  · cases h

/-! Addresses. -/
def rFAddr (x : Operand) (off : Nat) (σ : St) : Option A := match aev σ x with | .ptr i o => some (.ptr i (o + off)) | .rptr sz es i j => some (.rptr sz es i (j + off)) | .optr i k o => some (.optr i k (o + off)) | _ => none
theorem add_at' (b off j : Nat) : (⟨b, off, none⟩ : Addr).add j = ⟨b, off + j, none⟩ := Addr.add_mid b off j
theorem ok_faddr {xt : TypeId} {x : Operand} {k off n : Nat} {row : Bool} (hf : fieldOf P xt k = some (off, n + 1, row)) :
    OpOk P C ops ⟨some d, .fieldAddr xt x k, ty, pos, af, none⟩ ⟨kof x, [T d], beh1 (rFAddr x off) d⟩ :=
  OpOk.read rfl rfl (fun σ => by unfold rFAddr; rw [aev_mask (fun k h => h)]) fun σ a w F E H r hR h => by
    unfold fieldOf at hf
    split at hf
    · rename_i fs hu
      split at hf
      · rename_i f hk
        simp only [Option.map_eq_some_iff, Prod.mk.injEq] at hf
        obtain ⟨⟨n', r'⟩, ht, rfl, hn, rfl⟩ := hf
        simp only at hn
        subst hn
        have hd := hR.ev x
        have go : ∀ b o, a.eval x = .pointer (some ⟨b, o, none⟩) → (execOp a.eval ⟨some d, .fieldAddr xt x k, ty, pos, af, none⟩).run P w = .ok (.value (.pointer (some ⟨b, o + f.offset, none⟩))) w := fun b o e => by
          simp [execOp, e, Instr.fieldAt, run_underlying hu, hk, Instr.sureAddr, fieldPlace, run_size ht, add_at']
        unfold rFAddr at h
        split at h
        · rename_i i o he
          obtain rfl := Option.some.inj h
          rw [he] at hd
          obtain ⟨b, hE, hv⟩ := den_ptr hd
          exact ⟨_, go b o hv, .ptr i _ b hE⟩
        · rename_i sz es i j he
          obtain rfl := Option.some.inj h
          rw [he] at hd
          obtain ⟨b, o, cap, m, hv, hrow, him, hz⟩ := den_rptr hd
          refine ⟨_, go b _ hv, ?_⟩
          rw [Nat.add_assoc, Nat.add_assoc]
          exact .rptr sz b o cap m es i _ hrow him hz
        · rename_i i k' o he
          obtain rfl := Option.some.inj h
          rw [he] at hd
          obtain ⟨b, m, c, hH, hv⟩ := den_optr hd
          exact ⟨_, go b o hv, .optr i k' _ b m c hH⟩
        · cases h
      · cases hf
    · cases hf
theorem Wk.fad {xt : TypeId} {x : Operand} {k : Nat} (off n : Nat) (row : Bool) (hf : fieldOf P xt k = some (off, n + 1, row)) {r : A} (hr : rFAddr x off σ = some r) (hd : d < σ.n) (h : Wk P C ops os cs (σ.put (T d) (.a r)) K) :
    Wk P C ops (⟨some d, .fieldAddr xt x k, ty, pos, af, none⟩ :: os) (⟨kof x, [T d], beh1 (rFAddr x off) d⟩ :: cs) σ K := Wk.read (ok_faddr hf) r hd hr h

/-- An element's address: of a list that nobody turns. -/
def rIAddr (x y : Operand) (sz : Nat) (σ : St) : Option A :=
  match asRow (aev σ x), aev σ y with
  | some es, .d (.v (.int _ i)) => if 0 ≤ i ∧ i < es.length ∧ ∀ e ∈ es, e.length = sz then some (.rptr sz es i.toNat 0) else none
  | _, _ => none
theorem ok_iaddr {xt e : TypeId} {x y : Operand} {sz : Nat} {row : Bool} (hu : P.underlying xt = some (.slice e)) (ht : tyOf P e = some (sz, row)) :
    OpOk P C ops ⟨some d, .indexAddr xt x y, ty, pos, af, none⟩ ⟨kof x ++ kof y, [T d], beh1 (rIAddr x y sz) d⟩ :=
  OpOk.read rfl rfl (fun σ => by unfold rIAddr; rw [aev_mask (fun k h => List.mem_append_left _ h), aev_mask (fun k h => List.mem_append_right _ h)]) fun σ a w F E H r hR h => by
    unfold rIAddr at h
    split at h
    · rename_i es kd i he hi
      split at h
      · rename_i hc
        obtain ⟨h0, hlt, hz⟩ := hc
        obtain rfl := Option.some.inj h
        have hd2 := hR.ev y
        rw [hi] at hd2
        have e2 := den_v hd2
        have hrow := den_asRow he (hR.ev x)
        obtain ⟨b, n, c, hv, hn⟩ := den_row hrow
        rw [hv] at hrow
        have hlen : 0 < es.length := by omega
        cases hrow with
        | emp => simp at hlen
        | row sz' b' o _ _ _ vs hF hnn hcap hmax hsz hc h1 hdd =>
          have e1 : sz' = sz := by
            have hm : es[0] ∈ es := List.getElem_mem hlen
            exact (hsz _ hm).symm.trans (hz _ hm)
          subst e1
          refine ⟨.pointer (some ⟨b', o + (i.toNat * sz' + 0), none⟩), ?_, .rptr sz' b' o c n es i.toNat 0 (.row sz' b' o c n es vs hF hnn hcap hmax hsz hc h1 hdd) (by omega) hz⟩
          have hin : 0 ≤ i ∧ i < (n : Int) := ⟨h0, by omega⟩
          simp [execOp, hv, e2, Instr.indexAt, asIntOf, run_underlying hu, run_size ht, hin, add_at']
      · cases h
    · cases h
theorem Wk.iad {xt e : TypeId} {x y : Operand} (sz : Nat) (row : Bool) {kd : IntKind} {k : Nat} {es : List (List D)} (hu : P.underlying xt = some (.slice e)) (ht : tyOf P e = some (sz, row)) (hx : asRow (aev σ x) = some es) (hy : aev σ y = .d (.v (.int kd (k : Int))))
    (hk : k < es.length) (hz : ∀ e ∈ es, e.length = sz) (hd : d < σ.n) (h : Wk P C ops os cs (σ.put (T d) (.a (.rptr sz es k 0))) K) :
    Wk P C ops (⟨some d, .indexAddr xt x y, ty, pos, af, none⟩ :: os) (⟨kof x ++ kof y, [T d], beh1 (rIAddr x y sz) d⟩ :: cs) σ K :=
  Wk.read (ok_iaddr hu ht) _ hd (by simp only [rIAddr, hx, hy]; rw [if_pos ⟨by omega, by omega, hz⟩]; simp) h

/-- How many elements a list has. -/
def rLen (x : Operand) (σ : St) : Option A := match asRow (aev σ x) with | some es => some (.d (.v (.int .i64 (es.length : Int)))) | none => none
theorem ok_len {t e : TypeId} {x : Operand} (hu : P.underlying t = some (.slice e)) :
    OpOk P C ops ⟨some d, .call { callee := .builtin .len, args := #[x], argTypes := #[t] }, ty, pos, af, none⟩ ⟨kof x, [T d], beh1 (rLen x) d⟩ :=
  OpOk.read rfl rfl (fun σ => by unfold rLen; rw [aev_mask (fun k h => h)]) fun σ a w F E H r hR h => by
    unfold rLen at h
    split at h
    · rename_i es he
      obtain rfl := Option.some.inj h
      obtain ⟨b, n, c, hv, hn⟩ := den_row (den_asRow he (hR.ev x))
      refine ⟨.int .i64 (es.length : Int), ?_, .d _ _ (.v _)⟩
      simp [execOp, resolve, invoke, builtin, hv, Builtin.len_, run_underlying hu, goInt, hn]
    · cases h
theorem Wk.len {t e : TypeId} {x : Operand} {es : List (List D)} (hu : P.underlying t = some (.slice e)) (hx : asRow (aev σ x) = some es) (hd : d < σ.n) (h : Wk P C ops os cs (σ.put (T d) (.a (.d (.v (.int .i64 (es.length : Int)))))) K) :
    Wk P C ops (⟨some d, .call { callee := .builtin .len, args := #[x], argTypes := #[t] }, ty, pos, af, none⟩ :: os) (⟨kof x, [T d], beh1 (rLen x) d⟩ :: cs) σ K :=
  Wk.read (ok_len hu) _ hd (by simp only [rLen, hx]) h

/-- A part of a list that nobody turns. -/
theorem FDen.part {es : List (List D)} {b : Option Addr} {n c : Nat} {sz : Nat} (h : FDen w F (.row es) (.slice b n c)) (hz : ∀ e ∈ es, e.length = sz) (l m : Nat) (hlm : l ≤ m) (hm : m ≤ n) (b' : Option Addr) (hb : b' = if c = l then b else b.map (·.add (l * sz))) :
    FDen w F (.row ((es.drop l).take (m - l))) (.slice b' (m - l) (c - l)) := by
  cases h with
  | emp _ _ h0 =>
    obtain rfl : m = 0 := by omega
    obtain rfl : l = 0 := by omega
    refine .emp b' c (fun e => ?_)
    by_cases hc : c = 0
    · exact hc
    · rw [if_neg hc] at hb
      exact h0 (Option.map_eq_none_iff.1 (hb.symm.trans e))
  | row sz' g o _ _ _ vs hF hn hcap hmax hsz hc h1 hd =>
    by_cases hlt : m - l = 0
    · -- nothing is left of it
      have he : (es.drop l).take (m - l) = [] := by rw [hlt]; rfl
      rw [he, hlt]
      have hg : ∃ o', b' = some ⟨g, o', none⟩ := by
        rw [hb]
        split
        · exact ⟨o, rfl⟩
        · exact ⟨_, by rw [Option.map_some, add_at']⟩
      obtain ⟨o', rfl⟩ := hg
      exact .row 0 g o' (c - l) 0 [] vs hF rfl (by omega) (by omega) (by simp) (fun i j e d h => by simp at h) (fun i j e d h => by simp at h) (fun i j e d h => by simp at h)
    · have hne : es ≠ [] := fun e => by subst e; simp at hn; omega
      have e1 : sz' = sz := by
        obtain ⟨e, r, rfl⟩ := List.exists_cons_of_ne_nil hne
        exact (hsz e List.mem_cons_self).symm.trans (hz e List.mem_cons_self)
      subst e1
      rw [if_neg (by omega), Option.map_some, add_at'] at hb
      subst hb
      have hget : ∀ i e, ((es.drop l).take (m - l))[i]? = some e → es[l + i]? = some e := fun i e he => by
        rw [List.getElem?_take] at he
        split at he
        · rwa [List.getElem?_drop] at he
        · cases he
      refine .row sz' g (o + l * sz') (c - l) (m - l) _ (fun i j => vs (l + i) j) hF (by simp; omega) (by omega) (by omega) (fun e he => hz e (List.mem_of_mem_drop (List.mem_of_mem_take he))) (fun i j e d he hj => ?_) (fun i j e d he hj => h1 _ j e d (hget i e he) hj) (fun i j e d he hj => hd _ j e d (hget i e he) hj)
      have := hc (l + i) j e d (hget i e he) hj
      rw [Nat.add_mul] at this
      rw [← this]
      congr 2
      omega

/-- Bounds of a part. -/
def rBound (σ : St) (len : Nat) (dflt : Nat) : Option Operand → Option Nat
  | none => some dflt
  | some x => match sc (aev σ x) with | some (.int _ i) => if 0 ≤ i ∧ i ≤ len then some i.toNat else none | _ => none
def kofo : Option Operand → List Key
  | none => []
  | some x => kof x
def rSlice (x : Operand) (lo hi : Option Operand) (sz : Nat) (σ : St) : Option A :=
  match asRow (aev σ x) with
  | some es => (rBound σ es.length es.length hi).bind fun m => (rBound σ m 0 lo).bind fun l => if ∀ e ∈ es, e.length = sz then some (.d (.row ((es.drop l).take (m - l)))) else none
  | _ => none
theorem rBound_mask {rd : List Key} {x : Option Operand} (h : ∀ k ∈ kofo x, k ∈ rd) (len dflt : Nat) : rBound (σ.mask rd) len dflt x = rBound σ len dflt x := by
  cases x with
  | none => rfl
  | some x => simp only [rBound, aev_mask (σ := σ) (x := x) (rd := rd) (fun k hk => h k hk)]
theorem ok_slice {t e : TypeId} {x : Operand} {lo hi : Option Operand} {sz : Nat} {row : Bool} (hu : P.underlying t = some (.slice e)) (ht : tyOf P e = some (sz, row)) :
    OpOk P C ops ⟨some d, .slice t x lo hi none, ty, pos, af, none⟩ ⟨kof x ++ (kofo lo ++ kofo hi), [T d], beh1 (rSlice x lo hi sz) d⟩ :=
  OpOk.read rfl rfl (fun σ => by
    unfold rSlice
    rw [aev_mask (fun k h => List.mem_append_left _ h)]
    simp only [rBound_mask (σ := σ) (rd := kof x ++ (kofo lo ++ kofo hi)) (x := hi) (fun k h => List.mem_append_right _ (List.mem_append_right _ h)), rBound_mask (σ := σ) (rd := kof x ++ (kofo lo ++ kofo hi)) (x := lo) (fun k h => List.mem_append_right _ (List.mem_append_left _ h))]) fun σ a w F E H r hR h => by
    unfold rSlice at h
    split at h
    · rename_i es he
      simp only [Option.bind_eq_some_iff] at h
      obtain ⟨m, hm, l, hl, h⟩ := h
      split at h
      · rename_i hz
        obtain rfl := Option.some.inj h
        have hrow := den_asRow he (hR.ev x)
        obtain ⟨b, n, c, hv, hn⟩ := den_row hrow
        rw [hv] at hrow
        have hnc : n ≤ c := by
          cases hrow with
          | emp => exact Nat.zero_le _
          | row _ _ _ _ _ _ _ _ _ hcap => exact hcap
        have bound : ∀ (y : Option Operand) (len dflt k cp : Nat) (code : BoundsCode), rBound σ len dflt y = some k → len ≤ cp → k ≤ len ∨ y = none ∧ k = dflt := by
          intro y len dflt k cp code hy _
          cases y with
          | none => exact .inr ⟨rfl, (Option.some.inj hy).symm⟩
          | some y =>
            simp only [rBound] at hy
            split at hy
            · split at hy
              · rename_i hc; obtain rfl := Option.some.inj hy; exact .inl (by omega)
              · cases hy
            · cases hy
        have hmn : m ≤ n := by
          rcases bound hi _ _ m n .index hm (Nat.le_of_eq hn.symm) with h | h <;> omega
        have hlm : l ≤ m := by
          rcases bound lo _ _ l n .index hl hmn with h | h <;> omega
        have ev : ∀ (y : Operand) (len dflt k : Nat), rBound σ len dflt (some y) = some k → ∃ kd, a.eval y = .int kd (k : Int) := by
          intro y len dflt k hy
          simp only [rBound] at hy
          split at hy
          · rename_i kd i hs
            split at hy
            · rename_i hc
              obtain rfl := Option.some.inj hy
              refine ⟨kd, ?_⟩
              have := den_sc hs (hR.ev y)
              rw [this, Int.toNat_of_nonneg hc.1]
            · cases hy
          · cases hy
        refine ⟨.slice (if c = l then b else b.map (·.add (l * sz))) (m - l) (c - l), ?_, .d _ _ (hrow.part hz l m hlm hmn _ rfl)⟩
        have hund : ∀ w, (underlying t).run P w = .ok (.slice e) w := run_underlying hu
        have hb1 : ∀ (kd : IntKind) (k y : Nat) (code : BoundsCode), k ≤ y → (Instr.sliceBound (.int kd (k : Int)) y code).run P w = .ok k w := by
          intro kd k y code hk
          simp [Instr.sliceBound, asIntOf, hk]
        have key : (Instr.sliceBounds true n c (lo.map a.eval) (hi.map a.eval) none).run P w = .ok (l, m, c) w := by
          unfold Instr.sliceBounds
          cases hi with
          | none =>
            obtain rfl : es.length = m := Option.some.inj hm
            cases lo with
            | none =>
              obtain rfl : 0 = l := Option.some.inj hl
              simp [hn]
            | some y =>
              obtain ⟨kd, ey⟩ := ev y _ _ l hl
              simp [ey, hn]
              rw [hb1 kd l es.length _ (by omega)]
              rfl
          | some z =>
            obtain ⟨kz, ez⟩ := ev z _ _ m hm
            cases lo with
            | none =>
              obtain rfl : 0 = l := Option.some.inj hl
              simp [ez, hb1 kz m c _ (by omega)]
            | some y =>
              obtain ⟨kd, ey⟩ := ev y _ _ l hl
              simp [ey, ez, hb1 kz m c _ (by omega), hb1 kd l m _ hlm]
        simp only [execOp, Instr.sliceAt, Sem.run_bind, hund, Result.andThen_ok, hv, Option.map_none, Instr.slice, key, run_size ht, Sem.run_pure]
      · cases h
    · cases h
theorem Wk.slc {t e : TypeId} {x : Operand} {lo hi : Option Operand} (sz : Nat) (row : Bool) {es : List (List D)} {l m : Nat} (hu : P.underlying t = some (.slice e)) (ht : tyOf P e = some (sz, row)) (hx : asRow (aev σ x) = some es) (hm : rBound σ es.length es.length hi = some m) (hl : rBound σ m 0 lo = some l)
    (hz : ∀ e ∈ es, e.length = sz) (hd : d < σ.n) (h : Wk P C ops os cs (σ.put (T d) (.a (.d (.row ((es.drop l).take (m - l)))))) K) :
    Wk P C ops (⟨some d, .slice t x lo hi none, ty, pos, af, none⟩ :: os) (⟨kof x ++ (kofo lo ++ kofo hi), [T d], beh1 (rSlice x lo hi sz) d⟩ :: cs) σ K :=
  Wk.read (ok_slice hu ht) _ hd (by simp only [rSlice, hx, hm, hl, Option.bind_some]; rw [if_pos hz]) h
end
end Go.Proofs.Ytdjadeegjbhihaa

/- Operations that make variables and lists, and turn them. -/
namespace Go.Proofs.Ytdjadeegjbhihaa
open Go

def upd2 (H : Nat → Nat → Option Value) (i k : Nat) (v : Value) : Nat → Nat → Option Value := fun j q => if j = i ∧ q = k then some v else H j q
theorem upd_same {α : Type} (f : Nat → α) (k : Nat) (x : α) : upd f k x k = x := by simp [upd]
theorem upd_ne {α : Type} (f : Nat → α) {k j : Nat} (x : α) (h : j ≠ k) : upd f k x j = f j := by simp [upd, h]
theorem upd2_same (H : Nat → Nat → Option Value) (i k : Nat) (v : Value) : upd2 H i k v i k = some v := by simp [upd2]
theorem upd2_ne (H : Nat → Nat → Option Value) {i k j q : Nat} (v : Value) (h : ¬ (j = i ∧ q = k)) : upd2 H i k v j q = H j q := by simp [upd2, h]

section
variable {C : Ctx} {σ : St} {a : Act} {w w' : World} {F : Nat → Prop} {E : Nat → Option Nat} {H : Nat → Nat → Option Value}

theorem old_alloc (w : World) (o : Obj) (b : Nat) (hb : b < w.heap.size) : (w.alloc o).heap[b]? = w.heap[b]? := by
  show (w.heap.push o)[b]? = w.heap[b]?
  rw [Array.getElem?_push, if_neg (Nat.ne_of_lt hb)]
theorem new_alloc (w : World) (o : Obj) : (w.alloc o).heap[w.heap.size]? = some o := by
  show (w.heap.push o)[w.heap.size]? = some o
  simp
/-- A new variable. -/
theorem RelE.newvar (h : RelE C σ a w F E H) {i : Nat} (hb : σ.b i = .fresh) {aas : List A} {vs : Array Value} (t : TypeId) (hp : Pw (CellOk w F E H) aas vs.toList) :
    RelE C (σ.put (B i) (.b (.var aas))) a (w.alloc (.cells vs t)) F (upd E i (some w.heap.size)) H := by
  have hfr := h.env.box i
  rw [hb] at hfr
  have hE : ∀ j b, E j = some b → upd E i (some w.heap.size) j = some b := fun j b hj => by
    by_cases e : j = i
    · subst e; rw [hfr.1] at hj; cases hj
    · rw [upd_ne _ _ e]; exact hj
  have hold : ∀ b, b < w.heap.size → (w.alloc (.cells vs t)).heap[b]? = w.heap[b]? := fun b hb => old_alloc w _ b hb
  refine h.move (b' := upd σ.b i (.var aas)) (h.env.step (· = i) rfl rfl rfl (by simp) (fun b hb _ => hold b hb) (fun _ h => h) (fun _ h => .inl h) hE (fun _ _ _ h => h) (fun j hj => upd_ne _ _ hj) (fun _ _ _ => rfl) (fun j hj => upd_ne _ _ hj) ?_ ?_ ?_) (fun _ h => h) (fun b hb => hold b (h.env.Flt b hb)) hE (fun _ _ _ h => h)
  · rintro j rfl
    rw [upd_same]
    exact ⟨w.heap.size, vs, t, upd_same _ _ _, new_alloc w _, hp.mono fun a v hc => ⟨hc.1, hc.2.mono (fun _ h => h) (fun b hb => hold b (h.env.Flt b hb)) hE (fun _ _ _ h => h)⟩⟩
  · rintro j rfl b hbk
    rw [upd_same] at hbk
    simp only [blk, upd_same, Option.some.injEq] at hbk
    subst hbk
    exact ⟨fun hf => absurd (h.env.Flt _ hf) (by omega), .inl (Nat.le_refl _)⟩
  · rintro j k b rfl rfl hjk
    exact absurd rfl hjk

/-- A variable's cells turned. -/
theorem RelE.setvar (h : RelE C σ a w F E H) {i b : Nat} {cs aas : List A} {ct vs : Array Value} {t : TypeId} (hb : σ.b i = .var cs) (hE : E i = some b) (hh : w.heap[b]? = some (.cells ct t (0, 0))) (hp : Pw (CellOk w F E H) aas vs.toList) :
    RelE C (σ.put (B i) (.b (.var aas))) a (w.setRow b vs) F E H := by
  have hbk : blk E H i (σ.b i) = some b := by rw [hb]; exact hE
  have hold : ∀ q, q ≠ b → (w.setRow b vs).heap[q]? = w.heap[q]? := fun q hq => setRow_other w b q vs hq
  have hF : ∀ q, F q → (w.setRow b vs).heap[q]? = w.heap[q]? := fun q hq => hold q (fun e => h.env.frozen hq i (e ▸ hbk))
  refine h.move (b' := upd σ.b i (.var aas)) (h.env.step (· = i) rfl rfl rfl (by simp [World.setRow]) (fun q hq hn => hold q (fun e => hn i rfl (e ▸ hbk))) (fun _ h => h) (fun _ h => .inl h) (fun _ _ h => h) (fun _ _ _ h => h) (fun _ _ => rfl) (fun _ _ _ => rfl) (fun j hj => upd_ne _ _ hj) ?_ ?_ ?_) (fun _ h => h) hF (fun _ _ h => h) (fun _ _ _ h => h)
  · rintro j rfl
    rw [upd_same]
    exact ⟨b, vs, t, hE, setRow_heap w b ct vs t (0, 0) hh, hp.mono fun a v hc => ⟨hc.1, hc.2.mono (fun _ h => h) hF (fun _ _ h => h) (fun _ _ _ h => h)⟩⟩
  · rintro j rfl q hq
    rw [upd_same] at hq
    obtain rfl : b = q := Option.some.inj (hE.symm.trans hq)
    exact ⟨(h.env.live j b hbk).1, .inr ⟨j, rfl, hbk⟩⟩
  · rintro j k q rfl rfl hjk
    exact absurd rfl hjk

/-- A list of the call's own, made or turned. -/
theorem RelE.setown (h : RelE C σ a w F E H) {i k sz : Nat} {e : TypeId} {es : List (List A)} {v : Value} {xs : List Value} (hE : ∀ b, blk E H i (σ.b i) = some b → b < w.heap.size)
    (hk : ∀ q, k ≤ q → H i q = none) (hg : w.grownBy w' (blk E H i (σ.b i))) (ho : w'.ownsRow 0 e sz v es.length xs) (hz : ∀ c ∈ es, c.length = sz) (hp : Pw (CellOk w F E H) es.flatten xs)
    (hv : v.ownBlock = none ∨ v.ownBlock = blk E H i (σ.b i) ∨ v.ownBlock = some w.heap.size) :
    RelE C (σ.put (B i) (.b (.own k e sz es))) a w' F E (upd2 H i k v) := by
  have hH : ∀ j q u, H j q = some u → upd2 H i k v j q = some u := fun j q u hj => by
    by_cases e : j = i ∧ q = k
    · obtain ⟨rfl, rfl⟩ := e; rw [hk _ (Nat.le_refl _)] at hj; cases hj
    · rw [upd2_ne _ _ e]; exact hj
  have hF : ∀ q, F q → w'.heap[q]? = w.heap[q]? := fun q hq => hg.block q (h.env.Flt q hq) (fun e => h.env.frozen hq i e.symm)
  refine h.move (b' := upd σ.b i (.own k e sz es)) (h.env.step (· = i) hg.os hg.tape hg.output hg.size (fun q hq hn => hg.block q hq (fun e => hn i rfl e.symm)) (fun _ h => h) (fun _ h => .inl h) (fun _ _ h => h) hH (fun _ _ => rfl) (fun j q hj => upd2_ne _ _ (fun e => hj e.1)) (fun j hj => upd_ne _ _ hj) ?_ ?_ ?_) (fun _ h => h) hF (fun _ _ h => h) hH
  · rintro j rfl
    rw [upd_same]
    exact ⟨v, xs, upd2_same _ _ _ _, fun q hq => by rw [upd2_ne _ _ (by omega)]; exact hk q (by omega), ho, hz, hp.mono fun a v hc => ⟨hc.1, hc.2.mono (fun _ h => h) hF (fun _ _ h => h) hH⟩⟩
  · rintro j rfl q hq
    rw [upd_same] at hq
    simp only [blk, upd2_same, Option.bind_some] at hq
    rcases hv with hv | hv | hv
    · rw [hv] at hq; cases hq
    · rw [hv] at hq; exact ⟨(h.env.live j q hq).1, .inr ⟨j, rfl, hq⟩⟩
    · rw [hv] at hq
      obtain rfl := Option.some.inj hq
      exact ⟨fun hf => absurd (h.env.Flt _ hf) (by omega), .inl (Nat.le_refl _)⟩
  · rintro j q b rfl rfl hjk
    exact absurd rfl hjk
end

/-- The cells of a value. -/
def cellsA : A → Option (List A)
  | .agg aas => some aas
  | .tup _ => none
  | .any => none
  | .d (.v x) => if x.oneCell' then some [.d (.v x)] else none
  | x => some [x]
/-- A type's zero, cell by cell. -/
def zeroOf (P : Program) (t : TypeId) : Option (List Value) := ((P.info? t).bind (·.zero)).map (·.cells.toList)

section
variable {P : Program} {C : Ctx} {ops : Array Oper} {os : List Oper} {cs : List Cert} {σ : St} {K : St → Prop} {d : Nat} {ty : TypeId} {pos : String} {af : Array Edge}
variable {a : Act} {w w' : World} {F : Nat → Prop} {E : Nat → Option Nat} {H : Nat → Nat → Option Value}

theorem den_cellsA {x : A} {aas : List A} {v : Value} (h : cellsA x = some aas) (hd : Den w F E H x v) : Pw (CellOk w F E H) aas v.cells.toList := by
  cases hd with
  | any x => cases h
  | d x v hx =>
    cases hx with
    | v x =>
      simp only [cellsA] at h
      split at h
      · rename_i h1
        obtain rfl := Option.some.inj h
        have : v.cells = #[v] := by cases v <;> first | rfl | (simp [Value.oneCell'] at h1)
        rw [this]
        exact Pw.one ⟨h1, .d _ _ (.v v)⟩
      · cases h
    | emp a c h0 => obtain rfl := Option.some.inj h; exact Pw.one ⟨rfl, .d _ _ (.emp a c h0)⟩
    | row sz b o cap n es vs hF hn hcap hmax hsz hc h1 hd => obtain rfl := Option.some.inj h; exact Pw.one ⟨rfl, .d _ _ (.row sz b o cap n es vs hF hn hcap hmax hsz hc h1 hd)⟩
  | ptr i o b hb => obtain rfl := Option.some.inj h; exact Pw.one ⟨rfl, .ptr i o b hb⟩
  | own i k v hb h1 =>
    obtain rfl := Option.some.inj h
    have : v.cells = #[v] := by cases v <;> first | rfl | (simp [Value.oneCell'] at h1)
    rw [this]
    exact Pw.one ⟨h1, .own i k v hb h1⟩
  | optr i k o b n c hb => obtain rfl := Option.some.inj h; exact Pw.one ⟨rfl, .optr i k o b n c hb⟩
  | rptr sz b o cap n es i j hr hi hz => obtain rfl := Option.some.inj h; exact Pw.one ⟨rfl, .rptr sz b o cap n es i j hr hi hz⟩
  | agg bs cs hs h1 hc =>
    obtain rfl := Option.some.inj h
    obtain ⟨cs', e, hp⟩ := den_cells (.agg bs cs hs h1 hc)
    injection e with e
    subst e
    exact hp
  | tup aas cs hs hc => cases h
  | fn f aas bs cs ds hs ht hc hc' => obtain rfl := Option.some.inj h; exact Pw.one ⟨rfl, .fn f aas bs cs ds hs ht hc hc'⟩
  | ifc t a v hv => obtain rfl := Option.some.inj h; exact Pw.one ⟨rfl, .ifc t a v hv⟩

/-- A behaviour that turns boxes and slots, told by a function of the state. -/
def behs (f : St → Option (List V)) (d : Nat) : St → Prop × (List V → Prop) := fun σ => (d < σ.n ∧ (f σ).isSome = true, fun us => f σ = some us)
theorem OpOk.turn {o : Oper} {f : St → Option (List V)} {rd wr : List Key} {d : Nat} (hg : o.guard = none) (hdst : dstIn o.dst wr = true) (hl : ∀ σ, f (σ.mask rd) = f σ)
    (hs : ∀ (σ : St) (a : Act) (w : World) (F : Nat → Prop) (E : Nat → Option Nat) (H : Nat → Nat → Option Value) (K : Act → World → Prop) (Q : Exit → Act → World → Prop) (us : List V), RelE C σ a w F E H → d < σ.n → f σ = some us →
      (∀ a' w', Rel C (σ.puts wr us) a' w' → K a' w') → o.wp P a w K Q) : OpOk P C ops o ⟨rd, wr, behs f d⟩ := by
  refine OpOk.of hg hdst (fun σ h => ?_) (fun σ => ?_) (fun σ a w F E H K Q hR hsafe hK => ?_)
  · exact Option.isSome_iff_exists.1 h.2
  · unfold behs
    rw [hl]
    rfl
  · obtain ⟨us, hu⟩ := Option.isSome_iff_exists.1 hsafe.2
    exact hs σ a w F E H K Q us hR hsafe.1 hu (fun a' w' h => hK us a' w' hu h)
theorem Wk.turn {o : Oper} {f : St → Option (List V)} {rd wr : List Key} {d : Nat} (ho : OpOk P C ops o ⟨rd, wr, behs f d⟩) (us : List V) (hd : d < σ.n) (hr : f σ = some us) (h : Wk P C ops os cs (σ.puts wr us) K) :
    Wk P C ops (o :: os) (⟨rd, wr, behs f d⟩ :: cs) σ K :=
  Wk.det ho ⟨hd, by rw [hr]; rfl⟩ us (fun us' h' => Option.some.inj (h'.symm.trans hr)) h

theorem run_zero {t : TypeId} {zs : List Value} (h : zeroOf P t = some zs) (w : World) : ∃ z : Value, (zeroValue t).run P w = .ok z w ∧ z.cells.toList = zs := by
  unfold zeroOf at h
  simp only [Option.map_eq_some_iff, Option.bind_eq_some_iff] at h
  obtain ⟨z, ⟨i, hi, hz⟩, e⟩ := h
  exact ⟨z, by simp [zeroValue, typeInfo, hi, hz], e⟩
theorem pw_zero {zs : List Value} (h1 : zs.all (·.oneCell') = true) : Pw (CellOk w F E H) (zs.map fun x => .d (.v x)) zs := by
  refine ⟨by simp, fun j a v ha hv => ?_⟩
  simp only [List.getElem?_map, hv, Option.map_some, Option.some.injEq] at ha
  subst ha
  exact ⟨List.all_eq_true.1 h1 v (List.mem_of_getElem? hv), .d _ _ (.v v)⟩

/-- A new variable with its type's zero in it. -/
def rAlloc (i : Nat) (zs : List Value) (σ : St) : Option (List V) := match σ.b i with | .fresh => some [.a (.ptr i 0), .b (.var (zs.map fun x => .d (.v x)))] | _ => none
theorem ok_alloc {t : TypeId} (i : Nat) {zs : List Value} (hz : zeroOf P t = some zs) (h1 : zs.all (·.oneCell') = true) :
    OpOk P C ops ⟨some d, .alloc t, ty, pos, af, none⟩ ⟨[B i], [T d, B i], behs (rAlloc i zs) d⟩ :=
  OpOk.turn rfl (by simp [dstIn]) (fun σ => by unfold rAlloc; rw [bx_mask (by simp)]) fun σ a w F E H K Q us hR hd h hK => by
    unfold rAlloc at h
    split at h
    · rename_i hb
      obtain rfl := Option.some.inj h
      obtain ⟨z, hz1, hz2⟩ := run_zero hz w
      have hn := hR.newvar hb t (vs := z.cells) (by rw [hz2]; exact pw_zero h1)
      unfold Oper.wp
      have hrun : (execOp a.eval ⟨some d, .alloc t, ty, pos, af, none⟩).run P w = .ok (.value (.pointer (some ⟨w.heap.size, 0, none⟩))) (w.alloc (.cells z.cells t)) := by
        simp [execOp, Instr.alloc, hz1, newVar, newRow, go_sem]
      rw [hrun, Oper.upon_value]
      refine hK _ _ ?_
      exact (RelE.put (d := d) (r := .ptr i 0) hn hd (.ptr i 0 _ (upd_same _ _ _))).r
    · cases h
theorem Wk.alc {t : TypeId} (i : Nat) (zs : List Value) (hz : zeroOf P t = some zs) (h1 : zs.all (·.oneCell') = true) (hb : σ.b i = .fresh) (hd : d < σ.n)
    (h : Wk P C ops os cs ((σ.put (T d) (.a (.ptr i 0))).put (B i) (.b (.var (zs.map fun x => .d (.v x))))) K) : Wk P C ops (⟨some d, .alloc t, ty, pos, af, none⟩ :: os) (⟨[B i], [T d, B i], behs (rAlloc i zs) d⟩ :: cs) σ K :=
  Wk.turn (ok_alloc i hz h1) [.a (.ptr i 0), .b (.var (zs.map fun x => .d (.v x)))] hd (by simp only [rAlloc, hb]) h

/-- A new variable with a value in it. -/
def rBox (i : Nat) (x : Operand) (σ : St) : Option (List V) := match σ.b i with | .fresh => (cellsA (aev σ x)).map fun aas => [.a (.ptr i 0), .b (.var aas)] | _ => none
theorem ok_box {t : TypeId} {x : Operand} (i : Nat) :
    OpOk P C ops ⟨some d, .box t x, ty, pos, af, none⟩ ⟨kof x ++ [B i], [T d, B i], behs (rBox i x) d⟩ :=
  OpOk.turn rfl (by simp [dstIn]) (fun σ => by unfold rBox; rw [bx_mask (by simp), aev_mask (fun k h => List.mem_append_left _ h)]) fun σ a w F E H K Q us hR hd h hK => by
    unfold rBox at h
    split at h
    · rename_i hb
      simp only [Option.map_eq_some_iff] at h
      obtain ⟨aas, ha, rfl⟩ := h
      have hn := hR.newvar hb t (den_cellsA ha (hR.ev x))
      unfold Oper.wp
      have hrun : (execOp a.eval ⟨some d, .box t x, ty, pos, af, none⟩).run P w = .ok (.value (.pointer (some ⟨w.heap.size, 0, none⟩))) (w.alloc (.cells (a.eval x).cells t)) := by
        simp [execOp, Instr.box, newVar, newRow, go_sem]
      rw [hrun, Oper.upon_value]
      refine hK _ _ ?_
      exact (RelE.put (d := d) (r := .ptr i 0) hn hd (.ptr i 0 _ (upd_same _ _ _))).r
    · cases h
theorem Wk.bx {t : TypeId} {x : Operand} (i : Nat) {aas : List A} (hb : σ.b i = .fresh) (hx : cellsA (aev σ x) = some aas) (hd : d < σ.n)
    (h : Wk P C ops os cs ((σ.put (T d) (.a (.ptr i 0))).put (B i) (.b (.var aas))) K) : Wk P C ops (⟨some d, .box t x, ty, pos, af, none⟩ :: os) (⟨kof x ++ [B i], [T d, B i], behs (rBox i x) d⟩ :: cs) σ K :=
  Wk.turn (ok_box i) [.a (.ptr i 0), .b (.var aas)] hd (by simp only [rBox, hb, hx, Option.map_some]) h

/-- Cells put into others from a place on. -/
def setA (cs : List A) (o : Nat) (aas : List A) : List A := cs.take o ++ aas ++ cs.drop (o + aas.length)
/-- A store into a variable. -/
def rStore (x y : Operand) (i n : Nat) (σ : St) : Option (List V) :=
  match aev σ x, σ.b i with
  | .ptr i' o, .var cs => if i' = i then (cellsA (aev σ y)).bind fun aas => if aas.length = n ∧ o + n ≤ cs.length then some [.b (.var (setA cs o aas))] else none else none
  | _, _ => none
theorem run_store_cells {t : TypeId} {n b o : Nat} {row : Bool} (ht : tyOf P t = some (n, row)) {ct : Array Value} {tt : TypeId} (hh : w.heap[b]? = some (.cells ct tt (0, 0))) {v : Value} (hn : v.cells.size = n) (ho : o + n ≤ ct.size)
    (h1 : ∀ u ∈ v.cells.toList, u.oneCell' = true) : (storeVar t ⟨b, o, none⟩ v).run P w = .ok () (w.setRow b (ct.toList.take o ++ v.cells.toList ++ ct.toList.drop (o + v.cells.toList.length)).toArray) := by
  have := run_storeCells_at (P := P) b o tt v.cells.toList 0 ct w hh (by simp; omega) h1
  simp only [Nat.add_zero] at this
  simp [storeVar, run_size ht, hn, this]
theorem ok_store {t : TypeId} {x y : Operand} (i : Nat) {n : Nat} {row : Bool} (ht : tyOf P t = some (n, row)) :
    OpOk P C ops ⟨none, .store t x y, ty, pos, af, none⟩ ⟨kof x ++ (kof y ++ [B i]), [B i], behs (rStore x y i n) 0⟩ :=
  OpOk.turn rfl (by simp [dstIn]) (fun σ => by unfold rStore; rw [bx_mask (by simp), aev_mask (fun k h => List.mem_append_left _ h), aev_mask (fun k h => List.mem_append_right _ (List.mem_append_left _ h))]) fun σ a w F E H K Q us hR hd h hK => by
    unfold rStore at h
    split at h
    · rename_i i' o cs he hb
      split at h
      · rename_i hi
        subst hi
        simp only [Option.bind_eq_some_iff] at h
        obtain ⟨aas, ha, h⟩ := h
        split at h
        · rename_i hc
          obtain ⟨hl, hoc⟩ := hc
          obtain rfl := Option.some.inj h
          have hdx := hR.ev x
          rw [he] at hdx
          obtain ⟨b, hE, hv⟩ := den_ptr hdx
          have hbox := hR.env.box i'
          rw [hb] at hbox
          obtain ⟨b', ct, tt, hE', hh, hp⟩ := hbox
          obtain rfl := Option.some.inj (hE'.symm.trans hE)
          have hpy := den_cellsA ha (hR.ev y)
          have hn : (a.eval y).cells.size = n := by have := hpy.1; simp only [Array.length_toList] at this; omega
          have hrun := run_store_cells (w := w) (o := o) ht hh (v := a.eval y) hn (by have := hp.1; simp only [Array.length_toList] at this; omega) (hpy.all fun _ _ h => h.1)
          have hset := hR.setvar (aas := setA cs o aas) (vs := (ct.toList.take o ++ (a.eval y).cells.toList ++ ct.toList.drop (o + (a.eval y).cells.toList.length)).toArray) hb hE' hh (by
            simp only [setA]
            rw [← hpy.1]
            exact ((hp.take o).append hpy).append (hp.drop _))
          unfold Oper.wp
          have hex : (execOp a.eval ⟨none, .store t x y, ty, pos, af, none⟩).run P w = .ok .skip (w.setRow b' (ct.toList.take o ++ (a.eval y).cells.toList ++ ct.toList.drop (o + (a.eval y).cells.toList.length)).toArray) := by
            simp only [execOp, hv, Instr.storeAt, Instr.sureAddr, Sem.run_bind, Sem.run_pure, Result.andThen_ok, hrun]
          rw [hex, Oper.upon_skip]
          exact hK _ _ hset.r
        · cases h
      · cases h
    · cases h
theorem Wk.sto {t : TypeId} {x y : Operand} {i o : Nat} (n : Nat) (row : Bool) (ht : tyOf P t = some (n, row)) {bs aas : List A} (hx : aev σ x = .ptr i o) (hb : σ.b i = .var bs) (hy : cellsA (aev σ y) = some aas) (hl : aas.length = n) (ho : o + n ≤ bs.length) (hd : 0 < σ.n)
    (h : Wk P C ops os cs (σ.put (B i) (.b (.var (setA bs o aas)))) K) : Wk P C ops (⟨none, .store t x y, ty, pos, af, none⟩ :: os) (⟨kof x ++ (kof y ++ [B i]), [B i], behs (rStore x y i n) 0⟩ :: cs) σ K :=
  Wk.turn (ok_store i ht) [.b (.var (setA bs o aas))] hd (by simp only [rStore, hx, hb, if_true, hy, Option.bind_some]; rw [if_pos ⟨hl, ho⟩]) h
end
end Go.Proofs.Ytdjadeegjbhihaa

/- Statements, loops, functions and their calls, over what values read as. -/
namespace Go.Proofs.Ytdjadeegjbhihaa
open Go

/-! Names that a reading speaks of. -/
mutual
def A.within (K : List Nat) : A → Bool
  | .any => true
  | .d _ => true
  | .ptr i _ => K.contains i
  | .own i _ => K.contains i
  | .optr i _ _ => K.contains i
  | .rptr _ _ _ _ => true
  | .agg cs => A.withins K cs
  | .tup cs => A.withins K cs
  | .fn _ aas bs => A.withins K aas && A.withins K bs
  | .ifc _ a => A.within K a
def A.withins (K : List Nat) : List A → Bool
  | [] => true
  | a :: aas => A.within K a && A.withins K aas
end
def Bx.within (K : List Nat) : Bx → Bool
  | .none => true
  | .fresh => true
  | .var cs => A.withins K cs
  | .own _ _ _ es => es.all (A.withins K)
theorem withins_get {K : List Nat} : ∀ {aas : List A}, A.withins K aas = true → ∀ (i : Nat) (a : A), aas[i]? = some a → a.within K = true
  | [], _, i, a, h => by simp at h
  | b :: bs, hw, i, a, h => by
    simp only [A.withins, Bool.and_eq_true] at hw
    cases i with
    | zero => simp only [List.getElem?_cons_zero, Option.some.injEq] at h; exact h ▸ hw.1
    | succ i => exact withins_get hw.2 i a (by simpa using h)
theorem withins_map {α : Type} {K : List Nat} {f : α → A} (h : ∀ x, (f x).within K = true) : ∀ (l : List α), A.withins K (l.map f) = true
  | [] => rfl
  | x :: l => by simp [A.withins, h x, withins_map h l]

section
variable {w : World} {F : Nat → Prop} {E E' : Nat → Option Nat} {H H' : Nat → Nat → Option Value}
theorem Den.names {K : List Nat} (hE : ∀ i ∈ K, E' i = E i) (hH : ∀ i ∈ K, ∀ k, H' i k = H i k) {x : A} {v : Value} (h : Den w F E H x v) : x.within K = true → Den w F E' H' x v := by
  induction h with
  | any x => exact fun _ => .any x
  | d x v h => exact fun _ => .d x v h
  | ptr i o b h => exact fun hw => .ptr i o b ((hE i (by simpa [A.within] using hw)).trans h)
  | own i k v h h1 => exact fun hw => .own i k v ((hH i (by simpa [A.within] using hw) k).trans h) h1
  | optr i k o b n c h => exact fun hw => .optr i k o b n c ((hH i (by simpa [A.within] using hw) k).trans h)
  | rptr sz b o cap n es i j h hi hz => exact fun _ => .rptr sz b o cap n es i j h hi hz
  | agg aas cs hs h1 h ih => exact fun hw => .agg aas cs hs h1 fun i a ha => ih i a ha (withins_get (by simpa [A.within] using hw) i a ha)
  | tup aas cs hs h ih => exact fun hw => .tup aas cs hs fun i a ha => ih i a ha (withins_get (by simpa [A.within] using hw) i a ha)
  | fn f aas bs cs ds hs ht h h' ih ih' =>
    intro hw
    simp only [A.within, Bool.and_eq_true] at hw
    exact .fn f aas bs cs ds hs ht (fun i a ha => ih i a ha (withins_get hw.1 i a ha)) (fun i a ha => ih' i a ha (withins_get hw.2 i a ha))
  | ifc t a v h ih => exact fun hw => .ifc t a v (ih (by simpa [A.within] using hw))
theorem BoxOk.names {K : List Nat} (hE : ∀ i ∈ K, E' i = E i) (hH : ∀ i ∈ K, ∀ k, H' i k = H i k) {i : Nat} (hi : i ∈ K) {x : Bx} (h : BoxOk w F E H i x) (hw : x.within K = true) : BoxOk w F E' H' i x := by
  cases x with
  | none => trivial
  | fresh => exact ⟨(hE i hi).trans h.1, fun k => (hH i hi k).trans (h.2 k)⟩
  | var cs =>
    obtain ⟨b, ct, t, e, hh, hp⟩ := h
    refine ⟨b, ct, t, (hE i hi).trans e, hh, hp.1, fun j a v ha hv => ?_⟩
    have := hp.2 j a v ha hv
    exact ⟨this.1, this.2.names hE hH (withins_get hw j a ha)⟩
  | own k e sz es =>
    obtain ⟨v, xs, hv, hk, ho, hz, hp⟩ := h
    refine ⟨v, xs, (hH i hi k).trans hv, fun k' hk' => (hH i hi k').trans (hk k' hk'), ho, hz, hp.1, fun j a v ha hv => ?_⟩
    have := hp.2 j a v ha hv
    have hm : a.within K = true := by
      obtain ⟨l, hl, hal⟩ := List.mem_flatten.1 (List.mem_of_getElem? ha)
      obtain ⟨q, hq, hqa⟩ := List.getElem_of_mem hal
      exact withins_get (List.all_eq_true.1 (show es.all (A.withins K) = true from hw) l hl) q a (by rw [← hqa]; exact List.getElem?_eq_getElem hq)
    exact ⟨this.1, this.2.names hE hH hm⟩
theorem blk_names {i : Nat} {x : Bx} (hE : E' i = E i) (hH : ∀ k, H' i k = H i k) : blk E' H' i x = blk E H i x := by
  cases x with
  | var cs => exact hE
  | own k e sz es => simp only [blk, hH k]
  | _ => rfl
end

/-! Statements. -/
def AW (P : Program) (C : Ctx) (c : Code) (Q : Exit → St → Prop) (σ : St) : Prop := ∀ a w, Rel C σ a w → c.wp P (fun e a w => ∃ σ', Q e σ' ∧ Rel C σ' a w) a w
section
variable {P : Program} {C : Ctx} {σ : St} {Q Q' : Exit → St → Prop} {c c' : Code}
theorem AW.mono (hq : ∀ e σ, Q e σ → Q' e σ) (h : AW P C c Q σ) : AW P C c Q' σ := fun a w hR => Code.wp_mono (fun _ _ _ ⟨σ', h1, h2⟩ => ⟨σ', hq _ _ h1, h2⟩) (h a w hR)
theorem AW.skip (h : Q .normal σ) : AW P C .skip Q σ := fun _ _ hR => wp_skip ⟨σ, h, hR⟩
theorem AW.ret (h : Q .ret σ) : AW P C .ret Q σ := fun _ _ hR => wp_ret ⟨σ, h, hR⟩
theorem AW.exit {id : Nat} (h : Q (.exit id) σ) : AW P C (.exit id) Q σ := fun _ _ hR => wp_exit ⟨σ, h, hR⟩
def Exit.thenA (next : St → Prop) (Q : Exit → St → Prop) : Exit → St → Prop
  | .normal, σ => next σ
  | e, σ => Q e σ
theorem thenA_ret {next : St → Prop} (h : Q .ret σ) : Exit.thenA next Q .ret σ := h
theorem thenA_exit {next : St → Prop} {id : Nat} (h : Q (.exit id) σ) : Exit.thenA next Q (.exit id) σ := h
theorem thenA_normal {next : St → Prop} (h : next σ) : Exit.thenA next Q .normal σ := h
theorem AW.seq (h : AW P C c (Exit.thenA (AW P C c' Q) Q) σ) : AW P C (.seq c c') Q σ := fun a w hR =>
  wp_seq (Code.wp_mono (fun e a w ⟨σ', h1, h2⟩ => by
    cases e with
    | normal => exact h1 a w h2
    | _ => exact ⟨σ', h1, h2⟩) (h a w hR))
theorem AW.cond {x : Operand} {t : Bool} (hx : aev σ x = .d (.v (.bool t))) (h1 : t = true → AW P C c Q σ) (h2 : t = false → AW P C c' Q σ) : AW P C (.cond x c c') Q σ := fun a w hR => by
  obtain ⟨F, E, H, hR'⟩ := hR.e
  have hd := hR'.ev x
  rw [hx] at hd
  exact wp_cond_split (den_v hd) (fun ht => h1 ht a w hR) (fun ht => h2 ht a w hR)
def Exit.inBlockA (id : Nat) (Q : Exit → St → Prop) : Exit → St → Prop
  | .exit id', σ => if id' = id then Q .normal σ else Q (.exit id') σ
  | e, σ => Q e σ
theorem inBlockA_ret {id : Nat} (h : Q .ret σ) : Exit.inBlockA id Q .ret σ := h
theorem inBlockA_normal {id : Nat} (h : Q .normal σ) : Exit.inBlockA id Q .normal σ := h
theorem inBlockA_same {id : Nat} (h : Q .normal σ) : Exit.inBlockA id Q (.exit id) σ := by
  simp only [Exit.inBlockA, if_true]
  exact h
theorem inBlockA_other {id id' : Nat} (hne : id' ≠ id) (h : Q (.exit id') σ) : Exit.inBlockA id Q (.exit id') σ := by
  simp only [Exit.inBlockA]
  rw [if_neg hne]
  exact h
theorem AW.block {id : Nat} (h : AW P C c (Exit.inBlockA id Q) σ) : AW P C (.block id c) Q σ := fun a w hR =>
  wp_block (Code.wp_mono (fun e _ _ ⟨σ', h1, h2⟩ => by
    cases e with
    | exit id' =>
      simp only [Exit.inBlockA] at h1
      simp only [Exit.inBlock]
      split
      · rename_i hi; rw [if_pos hi] at h1; exact ⟨σ', h1, h2⟩
      · rename_i hi; rw [if_neg hi] at h1; exact ⟨σ', h1, h2⟩
    | _ => exact ⟨σ', h1, h2⟩) (h a w hR))
theorem AW.list {id : Nat} {l : List Oper} {cs : List Cert} (h : Wk P C l.toArray l cs σ (Q .normal)) : AW P C (.region id l.toArray false) Q σ := fun a w hR =>
  wp_region_lit (wk_list l cs σ a w h hR fun σ' _ _ hq hR' => ⟨σ', hq, hR'⟩)
theorem AW.draw {id : Nat} {l : List Oper} (cs : List Cert) (hm : P.follows .mixedOrders = true) (h : Wk P C l.toArray l cs σ (Q .normal)) (hed : edgesOk l = true) (hap : apartOk l cs = true) : AW P C (.region id l.toArray true) Q σ := fun a w hR => by
  obtain ⟨h1, h2⟩ := h.1.get
  refine wp_draw hm cs (by simp [h1]) hR (fun i o c ho hc => h2 i o c (by simpa using ho) hc) ?_ (by simpa using hed) (by simpa using hap)
  have mono : ∀ (cs : List Cert) (σ : St) (K K' : St → Prop), (∀ σ, K σ → K' σ) → Wc cs σ K → Wc cs σ K' := by
    intro cs
    induction cs with
    | nil => exact fun σ K K' hk h => hk σ h
    | cons c cs ih => exact fun σ K K' hk h => ⟨h.1, fun us hus => ih _ K K' hk (h.2 us hus)⟩
  exact mono cs σ _ _ (fun σ' hq a w hR' => ⟨σ', hq, hR'⟩) h.2

/-- The same, where what is left is told. -/
theorem AW.drawk {id : Nat} {l : List Oper} (cs : List Cert) (K : St → Prop) (hm : P.follows .mixedOrders = true) (h : Wk P C l.toArray l cs σ K) (hed : edgesOk l = true) (hap : apartOk l cs = true) (hk : ∀ σ', K σ' → Q .normal σ') : AW P C (.region id l.toArray true) Q σ := by
  refine AW.draw cs hm ⟨h.1, ?_⟩ hed hap
  have mono : ∀ (cs : List Cert) (σ : St) (K K' : St → Prop), (∀ σ, K σ → K' σ) → Wc cs σ K → Wc cs σ K' := by
    intro cs
    induction cs with
    | nil => exact fun σ K K' hk h => hk σ h
    | cons c cs ih => exact fun σ K K' hk h => ⟨h.1, fun us hus => ih _ K K' hk (h.2 us hus)⟩
  exact mono cs σ _ _ hk h.2
theorem AW.drawd {id : Nat} {l : List Oper} (cs : List Cert) (σ1 : St) (hm : P.follows .mixedOrders = true) (h : Wk P C l.toArray l cs σ (· = σ1)) (hed : edgesOk l = true) (hap : apartOk l cs = true) (hk : Q .normal σ1) : AW P C (.region id l.toArray true) Q σ :=
  AW.drawk cs _ hm h hed hap fun _ e => e ▸ hk

/-! Forgetting. -/
/-- A state by what its slots and boxes read as; all other slots are anything, all other names name nothing. -/
def St.of (n : Nat) (ts : List (Nat × A)) (bs : List (Nat × Bx)) : St := ⟨n, fun t => (ts.lookup t).getD .any, fun i => (bs.lookup i).getD .fresh⟩
def keys {α : Type} (l : List (Nat × α)) : List Nat := l.map (·.1)
theorem lookup_mem {α : Type} : ∀ {l : List (Nat × α)} {k : Nat} {x : α}, l.lookup k = some x → (k, x) ∈ l
  | [], _, _, h => by cases h
  | (q, y) :: l, k, x, h => by
    rw [List.lookup_cons] at h
    split at h
    · rename_i he
      obtain rfl := Option.some.inj h
      rw [eq_of_beq he]
      exact List.mem_cons_self
    · exact List.mem_cons_of_mem _ (lookup_mem h)
theorem lookup_none {α : Type} : ∀ {l : List (Nat × α)} {k : Nat}, l.lookup k = none → k ∉ keys l
  | [], _, _ => by simp [keys]
  | (q, y) :: l, k, h => by
    rw [List.lookup_cons] at h
    split at h
    · cases h
    · rename_i he
      have := lookup_none h
      simp only [keys, List.map_cons, List.mem_cons, not_or]
      exact ⟨fun e => by simp [e] at he, this⟩

/-- What is kept of a state: it holds of it, and speaks of names that are kept alone. -/
inductive KT (σ : St) (K : List Nat) : List (Nat × A) → Prop
  | nil : KT σ K []
  | cons {k : Nat} {x : A} {ts : List (Nat × A)} (h : σ.t k = x) (hw : x.within K = true) (t : KT σ K ts) : KT σ K ((k, x) :: ts)
inductive KB (σ : St) (K : List Nat) : List (Nat × Bx) → Prop
  | nil : KB σ K []
  | cons {k : Nat} {x : Bx} {ts : List (Nat × Bx)} (h : σ.b k = x) (hw : x.within K = true) (t : KB σ K ts) : KB σ K ((k, x) :: ts)
theorem KT.mem {σ : St} {K : List Nat} {ts : List (Nat × A)} (h : KT σ K ts) : ∀ p ∈ ts, σ.t p.1 = p.2 ∧ p.2.within K = true := by
  induction h with
  | nil => intro p hp; cases hp
  | cons h hw t ih =>
    intro p hp
    rcases List.mem_cons.1 hp with rfl | hp
    · exact ⟨h, hw⟩
    · exact ih p hp
theorem KB.mem {σ : St} {K : List Nat} {ts : List (Nat × Bx)} (h : KB σ K ts) : ∀ p ∈ ts, σ.b p.1 = p.2 ∧ p.2.within K = true := by
  induction h with
  | nil => intro p hp; cases hp
  | cons h hw t ih =>
    intro p hp
    rcases List.mem_cons.1 hp with rfl | hp
    · exact ⟨h, hw⟩
    · exact ih p hp
/-- The names that the caller handed are among those. -/
def Names (C : Ctx) (K : List Nat) : Prop := (∀ i b, C.E0 i = some b → i ∈ K) ∧ ∀ i k v, C.H0 i k = some v → i ∈ K
theorem Names.mono {C : Ctx} {K K' : List Nat} (h : Names C K) (hs : ∀ i, i ∈ K → i ∈ K') : Names C K' := ⟨fun i b hb => hs i (h.1 i b hb), fun i k v hv => hs i (h.2 i k v hv)⟩
def Keeps (C : Ctx) (σ : St) (n : Nat) (ts : List (Nat × A)) (bs : List (Nat × Bx)) : Prop := n = σ.n ∧ KT σ (keys bs) ts ∧ KB σ (keys bs) bs ∧ Names C (keys bs)
theorem Rel.keep {n : Nat} {ts : List (Nat × A)} {bs : List (Nat × Bx)} (hk : Keeps C σ n ts bs) {a : Act} {w : World} (h : Rel C σ a w) : Rel C (St.of n ts bs) a w := by
  obtain ⟨hd, hn, F, E, H, he, ht⟩ := h
  obtain ⟨rfl, hts, hbs, hC1, hC2⟩ := hk
  replace hts := hts.mem
  replace hbs := hbs.mem
  let E' : Nat → Option Nat := fun i => if (keys bs).contains i then E i else none
  let H' : Nat → Nat → Option Value := fun i k => if (keys bs).contains i then H i k else none
  have hE : ∀ i ∈ keys bs, E' i = E i := fun i hi => if_pos (by simpa using hi)
  have hH : ∀ i ∈ keys bs, ∀ k, H' i k = H i k := fun i hi k => if_pos (by simpa using hi)
  have hbx : ∀ i, (St.of σ.n ts bs).b i = .fresh ∧ i ∉ keys bs ∨ ((St.of σ.n ts bs).b i = σ.b i ∧ i ∈ keys bs ∧ (σ.b i).within (keys bs) = true) := by
    intro i
    cases hl : bs.lookup i with
    | none => exact .inl ⟨by simp [St.of, hl], lookup_none hl⟩
    | some x =>
      have hm := lookup_mem hl
      obtain ⟨h1, h2⟩ := hbs _ hm
      refine .inr ⟨by simp [St.of, hl, h1], ?_, by rw [h1]; exact h2⟩
      exact List.mem_map.2 ⟨_, hm, rfl⟩
  have hblk : ∀ i b, blk E' H' i ((St.of σ.n ts bs).b i) = some b → blk E H i (σ.b i) = some b := by
    intro i b hb
    rcases hbx i with ⟨h1, _⟩ | ⟨h1, h2, _⟩
    · rw [h1] at hb; cases hb
    · rw [h1, blk_names (hE i h2) (hH i h2)] at hb; exact hb
  refine ⟨hd, hn, F, E', H', ⟨he.os, he.tape, he.output, he.size, he.old, he.F0, he.Flt, he.Fnew, fun i b hb => ?_, fun i k v hv => ?_, fun i => ?_, fun i j b hij h1 h2 => ?_, fun i b hb => he.live i b (hblk i b hb)⟩, fun t => ?_⟩
  · rw [hE i (hC1 i b hb)]; exact he.E0 i b hb
  · rw [hH i (hC2 i k v hv)]; exact he.H0 i k v hv
  · rcases hbx i with ⟨h1, h2⟩ | ⟨h1, h2, h3⟩
    · rw [h1]
      have : (keys bs).contains i = false := by simpa using h2
      exact ⟨if_neg (by rw [this]; decide), fun k => if_neg (by rw [this]; decide)⟩
    · rw [h1]; exact (he.box i).names hE hH h2 h3
  · exact he.sep i j b hij (hblk i b h1) (hblk j b h2)
  · cases hl : ts.lookup t with
    | none => simp only [St.of, hl, Option.getD_none]; exact .any _
    | some x =>
      have hm := lookup_mem hl
      obtain ⟨h1, h2⟩ := hts _ hm
      simp only [St.of, hl, Option.getD_some]
      simp only at h1
      exact (h1 ▸ ht t).names hE hH h2
theorem AW.keep {n : Nat} {ts : List (Nat × A)} {bs : List (Nat × Bx)} (hk : Keeps C σ n ts bs) (h : AW P C c Q (St.of n ts bs)) : AW P C c Q σ := fun a w hR => h a w (hR.keep hk)

/-- A list is no longer than lists may be. -/
theorem AW.bound {x : Operand} {es : List (List D)} (hx : aev σ x = .d (.row es)) (h : es.length ≤ 9223372036854775807 → AW P C c Q σ) : AW P C c Q σ := fun a w hR => by
  obtain ⟨F, E, H, hR'⟩ := hR.e
  have hd := hR'.ev x
  rw [hx] at hd
  refine h ?_ a w hR
  replace hd := den_d hd
  generalize a.eval x = v at hd
  cases hd with
  | emp => exact Nat.zero_le _
  | row sz b o cap n _ vs hF hn hcap hmax => unfold maxLen at hmax; omega
/-- A loop: what its head finds, told by something that falls. -/
theorem AW.loop {α : Type} (inv : α → St) (ok : α → Prop) (m : α → Nat) (k0 : α) (h0 : ok k0) (hs : ∀ a w, Rel C σ a w → Rel C (inv k0) a w)
    (round : ∀ k, ok k → AW P C c (Exit.thenA (fun σ' => ∃ k', ok k' ∧ m k' < m k ∧ ∀ a w, Rel C σ' a w → Rel C (inv k') a w) Q) (inv k)) : AW P C (.loop c) Q σ := fun a w hR => by
  intro b kk cs
  have key : ∀ n k a w, m k = n → ok k → Rel C (inv k) a w →
      ∃ e a' w', (∃ σ', Q e σ' ∧ Rel C σ' a' w') ∧ Arrives P (lone (b.at a (.code c :: .inLoop c :: kk)) cs w) b kk cs e a' w' := by
    intro n
    induction n using Nat.strongRecOn with
    | _ n ih =>
      intro k a w hn hok hR
      obtain ⟨e, a1, w1, hq, harr⟩ := round k hok a w hR b (.inLoop c :: kk) cs
      cases e with
      | normal =>
        obtain ⟨σ', ⟨k', hok', hlt, hto⟩, hR'⟩ := hq
        obtain ⟨e2, a2, w2, hq2, harr2⟩ := ih (m k') (hn ▸ hlt) k' a1 w1 rfl hok' (hto a1 w1 hR')
        exact ⟨e2, a2, w2, hq2, .of_steps (Steps.trans harr (.one step_inLoop)) harr2⟩
      | exit id => exact ⟨_, a1, w1, hq, .pass (x := .inLoop c) rfl (fun _ _ => .inl (by simp)) harr⟩
      | goto l => exact ⟨_, a1, w1, hq, .pass (x := .inLoop c) rfl (fun _ _ => .inl (by simp)) harr⟩
      | ret => exact ⟨_, a1, w1, hq, .pass (x := .inLoop c) rfl (fun _ _ => .inl (by simp)) harr⟩
      | panic ch => exact ⟨_, a1, w1, hq, .pass (x := .inLoop c) rfl (fun _ _ => .inl (by simp)) harr⟩
      | outgrown => exact ⟨_, a1, w1, hq, .pass (x := .inLoop c) rfl (fun _ _ => .inl (by simp)) harr⟩
  obtain ⟨e, a', w', hq, harr⟩ := key _ k0 a w rfl h0 (hs a w hR)
  exact ⟨e, a', w', hq, .of_steps (.one step_loop) harr⟩
end

/-! Functions. -/
/-- What one result reads as. -/
def resOne (P : Program) (σ : St) : ResultVar → A → Prop
  | .tmp t, r => σ.t t = r
  | .cell t ty, r => ∃ i o cs n row, σ.t t = .ptr i o ∧ σ.b i = .var cs ∧ tyOf P ty = some (n, row) ∧ partA cs o n row = some r
inductive ResAll (P : Program) (σ : St) : List ResultVar → List A → Prop
  | nil : ResAll P σ [] []
  | cons {v : ResultVar} {r : A} {vs : List ResultVar} {rs : List A} (h : resOne P σ v r) (t : ResAll P σ vs rs) : ResAll P σ (v :: vs) (r :: rs)
def tupA : List A → A
  | [r] => r
  | rs => .tup rs

theorem run_mapM_list {α β : Type} {P : Program} {f : α → Sem β} {w : World} : ∀ {l : List α} {xs : List β}, l.length = xs.length → (∀ (i : Nat) (x : α) (y : β), l[i]? = some x → xs[i]? = some y → (f x).run P w = .ok y w) → (l.mapM f).run P w = .ok xs w
  | [], [], _, _ => by simp
  | [], _ :: _, h, _ => by cases h
  | _ :: _, [], h, _ => by cases h
  | x :: l, y :: xs, hl, h => by
    have h1 := h 0 x y rfl rfl
    have h2 := run_mapM_list (f := f) (l := l) (xs := xs) (by simpa using hl) (fun i a b ha hb => h (i + 1) a b (by simpa using ha) (by simpa using hb))
    simp [List.mapM_cons, h1, h2]

theorem run_results {P : Program} {C : Ctx} {σ : St} {a : Act} {w : World} {F : Nat → Prop} {E : Nat → Option Nat} {H : Nat → Nat → Option Value} {fn : Func} {rs : List A} (hR : RelE C σ a w F E H) (h : ResAll P σ fn.results.toList rs) :
    ∃ v, (results fn a.tmps).run P w = .ok v w ∧ Den w F E H (tupA rs) v := by
  have key : ∀ (vs : List ResultVar) (rs : List A), ResAll P σ vs rs → ∃ xs : List Value, xs.length = vs.length ∧ xs.length = rs.length ∧ (∀ (i : Nat) (v : ResultVar) (y : Value), vs[i]? = some v → xs[i]? = some y →
      (match v with | .tmp t => (pure (a.tmps.getD t undef) : Sem Value) | .cell t ty => do loadVar ty (← asAddr (a.tmps.getD t undef))).run P w = .ok y w) ∧ ∀ (i : Nat) (r : A) (y : Value), rs[i]? = some r → xs[i]? = some y → Den w F E H r y := by
    intro vs rs h
    induction h with
    | nil => exact ⟨[], rfl, rfl, fun i v y h => by simp at h, fun i v y h => by simp at h⟩
    | @cons v r vs rs h t ih =>
      obtain ⟨xs, h1, h2, h3, h4⟩ := ih
      have one : ∃ y, (match v with | .tmp t => (pure (a.tmps.getD t undef) : Sem Value) | .cell t ty => do loadVar ty (← asAddr (a.tmps.getD t undef))).run P w = .ok y w ∧ Den w F E H r y := by
        cases v with
        | tmp t => exact ⟨_, rfl, h ▸ hR.den t⟩
        | cell t ty =>
          obtain ⟨i, o, cs, n, row, e1, e2, e3, e4⟩ := h
          have hd := hR.den t
          rw [e1] at hd
          obtain ⟨b, hE, hv⟩ := den_ptr hd
          have hbox := hR.env.box i
          rw [e2] at hbox
          obtain ⟨b', ct, tt, hE', hh, hp⟩ := hbox
          obtain rfl := Option.some.inj (hE'.symm.trans hE)
          obtain ⟨y, y1, y2⟩ := run_load_cells (b := b') (o := 0) e3 hp (fun j v hj => by
            rw [Nat.zero_add]
            simp only [World.cell?, hh]
            rw [← Array.getElem?_toList, hj]
            rfl) e4
          rw [Nat.zero_add] at y1
          refine ⟨y, ?_, y2⟩
          simp only [hv, asAddr, Sem.run_bind, Sem.run_pure, Result.andThen_ok, y1]
      obtain ⟨y, hy1, hy2⟩ := one
      refine ⟨y :: xs, by simp [h1], by simp [h2], fun i v' y' hv' hy' => ?_, fun i r' y' hr' hy' => ?_⟩
      · cases i with
        | zero => simp only [List.getElem?_cons_zero, Option.some.injEq] at hv' hy'; subst hv'; subst hy'; exact hy1
        | succ i => exact h3 i v' y' (by simpa using hv') (by simpa using hy')
      · cases i with
        | zero => simp only [List.getElem?_cons_zero, Option.some.injEq] at hr' hy'; subst hr'; subst hy'; exact hy2
        | succ i => exact h4 i r' y' (by simpa using hr') (by simpa using hy')
  obtain ⟨xs, h1, h2, h3, h4⟩ := key _ _ h
  have hm := run_mapM_list (P := P) (w := w) (l := fn.results.toList) (xs := xs) h1.symm h3
  have hrun : (results fn a.tmps).run P w = .ok (if h : xs.toArray.size = 1 then xs.toArray[0] else .tuple xs.toArray) w := by
    unfold results
    rw [Array.mapM_eq_mapM_toList]
    simp only [Sem.run_bind, Sem.run_map]
    erw [hm]
    rfl
  refine ⟨_, hrun, ?_⟩
  match rs, xs, h2, h4 with
  | [], [], _, _ => exact .tup [] #[] rfl (fun i a h => by simp at h)
  | [r], [x], _, h4 => exact h4 0 r x rfl rfl
  | r :: r' :: rs, x :: x' :: xs, h2, h4 =>
    rw [dif_neg (by simp)]
    refine .tup _ _ (by simpa using h2) (fun i a ha => ?_)
    have hi : i < (x :: x' :: xs).length := by rw [h2]; exact (List.getElem?_eq_some_iff.1 ha).1
    have := h4 i a _ ha (List.getElem?_eq_getElem hi)
    simpa [Array.getD_eq_getD_getElem?, List.getElem?_eq_getElem hi] using this
end Go.Proofs.Ytdjadeegjbhihaa

/- What a function answers, over what values read as; its call as one operation. -/
namespace Go.Proofs.Ytdjadeegjbhihaa
open Go

section
variable (w : World) (F : Nat → Prop) (E : Nat → Option Nat) (H : Nat → Nat → Option Value) (bs : List (Nat × Bx))
/-- What a call is handed. -/
structure PreOk : Prop where
  Flt : ∀ b, F b → b < w.heap.size
  box : ∀ i x, bs.lookup i = some x → BoxOk w F E H i x
  nf : ∀ i x b, bs.lookup i = some x → blk E H i x = some b → ¬ F b
  sep : ∀ i j x y b, i ≠ j → bs.lookup i = some x → bs.lookup j = some y → blk E H i x = some b → blk E H j y ≠ some b
  out : ∀ i, bs.lookup i = none → E i = none ∧ ∀ k, H i k = none
/-- What it leaves. -/
structure PostOk (w' : World) (F' : Nat → Prop) (E' : Nat → Option Nat) (H' : Nat → Nat → Option Value) (bs' : List (Nat × Bx)) : Prop where
  os : w'.os = w.os
  tape : w'.tape = w.tape
  output : w'.output = w.output
  size : w.heap.size ≤ w'.heap.size
  old : ∀ b, b < w.heap.size → (∀ i x, bs.lookup i = some x → blk E H i x ≠ some b) → w'.heap[b]? = w.heap[b]?
  fr : ∀ b, F b → F' b
  Flt : ∀ b, F' b → b < w'.heap.size
  Fnew : ∀ b, F' b → F b ∨ w.heap.size ≤ b
  en : ∀ i b, E i = some b → E' i = some b
  hn : ∀ i k v, H i k = some v → H' i k = some v
  box : ∀ i x, bs'.lookup i = some x → BoxOk w' F' E' H' i x
  nf : ∀ i x b, bs'.lookup i = some x → blk E' H' i x = some b → ¬ F' b
  sep : ∀ i j x y b, i ≠ j → bs'.lookup i = some x → bs'.lookup j = some y → blk E' H' i x = some b → blk E' H' j y ≠ some b
  live : ∀ i x b, bs'.lookup i = some x → blk E' H' i x = some b → (∃ j y, bs.lookup j = some y ∧ blk E H j y = some b) ∨ w.heap.size ≤ b
end

def Spec (P : Program) (f : FuncId) (aas : List A) (bs : List (Nat × Bx)) (post : A → List (Nat × Bx) → Prop) : Prop :=
  ∀ (w : World) (F : Nat → Prop) (E : Nat → Option Nat) (H : Nat → Nat → Option Value) (args : Array Value), PreOk w F E H bs → args.size = aas.length → (∀ (i : Nat) (a : A), aas[i]? = some a → Den w F E H a (args.getD i undef)) →
    Calls P f args w fun e w' => ∃ v r bs' F' E' H', e = .returned v ∧ post r bs' ∧ PostOk w F E H bs w' F' E' H' bs' ∧ Den w' F' E' H' r v

/-- The same in one world alone. -/
def SpecAt (P : Program) (w : World) (f : FuncId) (aas : List A) (bs : List (Nat × Bx)) (post : A → List (Nat × Bx) → Prop) : Prop :=
  ∀ (F : Nat → Prop) (E : Nat → Option Nat) (H : Nat → Nat → Option Value) (args : Array Value), PreOk w F E H bs → args.size = aas.length → (∀ (i : Nat) (a : A), aas[i]? = some a → Den w F E H a (args.getD i undef)) →
    Calls P f args w fun e w' => ∃ v r bs' F' E' H', e = .returned v ∧ post r bs' ∧ PostOk w F E H bs w' F' E' H' bs' ∧ Den w' F' E' H' r v

theorem lt_of_ble {a b : Nat} (h : Nat.ble (a + 1) b = true) : a < b := Nat.le_of_ble_eq_true h
/-- The state at a function's beginning. -/
def St.arg (n : Nat) (aas : List A) (bs : List (Nat × Bx)) : St := ⟨n, fun t => aas.getD t .any, fun i => (bs.lookup i).getD .fresh⟩
/-- The blocks that the caller lets be turned are those of the boxes that it hands. -/
def XB (C : Ctx) (bs : List (Nat × Bx)) : Prop := ∀ b, C.X b → ∃ j x, bs.lookup j = some x ∧ blk C.E0 C.H0 j x = some b
theorem XB.none {C : Ctx} {i : Nat} {σ : St} (h : XB C []) : ∀ b, C.X b → ∃ j cs, j ≠ i ∧ C.E0 j = some b ∧ σ.b j = .var cs := fun b hb => by
  obtain ⟨j, x, hx, _⟩ := h b hb
  cases hx
theorem XB.one {C : Ctx} {i q : Nat} {σ : St} {cs0 cs : List A} (h : XB C [(q, .var cs0)]) (hne : q ≠ i) (hb : σ.b q = .var cs) : ∀ b, C.X b → ∃ j cs, j ≠ i ∧ C.E0 j = some b ∧ σ.b j = .var cs := fun b hx => by
  obtain ⟨j, x, hx, hbk⟩ := h b hx
  rw [List.lookup_cons] at hx
  split at hx
  · rename_i he
    obtain rfl := eq_of_beq he
    obtain rfl := Option.some.inj hx
    exact ⟨j, cs, hne, hbk, hb⟩
  · cases hx
/-- What a function's end must show. -/
def RetQ (P : Program) (rv : List ResultVar) (post : A → List (Nat × Bx) → Prop) : Exit → St → Prop
  | .ret, σ | .normal, σ => ∃ rs bs', ResAll P σ rv rs ∧ post (tupA rs) bs' ∧ ∀ i x, bs'.lookup i = some x → σ.b i = x
  | _, _ => False

theorem RetQ.ret {P : Program} {rv : List ResultVar} {post : A → List (Nat × Bx) → Prop} {σ : St} {rs : List A} (bs' : List (Nat × Bx)) (h1 : ResAll P σ rv rs) (h2 : post (tupA rs) bs') (h3 : ∀ i x, bs'.lookup i = some x → σ.b i = x) : RetQ P rv post .ret σ := ⟨rs, bs', h1, h2, h3⟩
theorem none_kept {σ : St} : ∀ (i : Nat) (x : Bx), ([] : List (Nat × Bx)).lookup i = some x → σ.b i = x := fun _ _ h => by cases h
theorem Spec.intro_at {P : Program} {w : World} {f : FuncId} {fn : Func} {c : Code} {n : Nat} {rv : List ResultVar} {aas : List A} {bs : List (Nat × Bx)} {post : A → List (Nat × Bx) → Prop} (hf : P.funcs[f]? = some fn) (hb : fn.body = some c) (hn : fn.ntmps = n) (hrv : fn.results.toList = rv)
    (hl : aas.length ≤ n) (h : ∀ C : Ctx, C.w0 = w → Names C (keys bs) → XB C bs → AW P C c (RetQ P rv post) (St.arg n aas bs)) : SpecAt P w f aas bs post := by
  intro F E H args hp hs hd
  let C : Ctx := ⟨w, fun b => ∃ i x, bs.lookup i = some x ∧ blk E H i x = some b, F, E, H⟩
  have hkey : ∀ i, i ∉ keys bs → bs.lookup i = none := fun i hi => by
    cases hl : bs.lookup i with
    | none => rfl
    | some x => exact absurd (List.mem_map.2 ⟨_, lookup_mem hl, rfl⟩) hi
  have hbx : ∀ i, (bs.lookup i).getD .fresh = .fresh ∧ bs.lookup i = none ∨ ∃ x, bs.lookup i = some x ∧ (bs.lookup i).getD .fresh = x := fun i => by
    cases hl : bs.lookup i with
    | none => exact .inl ⟨rfl, rfl⟩
    | some x => exact .inr ⟨x, rfl, rfl⟩
  have hblk : ∀ i b, blk E H i ((bs.lookup i).getD .fresh) = some b → ∃ x, bs.lookup i = some x ∧ blk E H i x = some b := fun i b hb => by
    rcases hbx i with ⟨h1, _⟩ | ⟨x, h1, h2⟩
    · rw [h1] at hb; cases hb
    · rw [h2] at hb; exact ⟨x, h1, hb⟩
  have env0 : Env C w F E H (fun i => (bs.lookup i).getD .fresh) := by
    refine ⟨rfl, rfl, rfl, Nat.le_refl _, fun _ _ _ => rfl, fun _ h => h, hp.Flt, fun _ h => .inl h, fun _ _ h => h, fun _ _ _ h => h, fun i => ?_, fun i j b hij h1 h2 => ?_, fun i b hb => ?_⟩
    · rcases hbx i with ⟨h1, h2⟩ | ⟨x, h1, h2⟩
      · rw [h1]; exact hp.out i h2
      · rw [h2]; exact hp.box i x h1
    · obtain ⟨x, hx, e1⟩ := hblk i b h1
      obtain ⟨y, hy, e2⟩ := hblk j b h2
      exact hp.sep i j x y b hij hx hy e1 e2
    · obtain ⟨x, hx, e1⟩ := hblk i b hb
      exact ⟨hp.nf i x b hx e1, .inl ⟨i, x, hx, e1⟩⟩
  refine calls_of_wp hf hb ?_
  have hR : Rel C (St.arg n aas bs) { tmps := args ++ Array.replicate (fn.ntmps - args.size) undef, defers := [] } w := by
    refine ⟨rfl, ?_, F, E, H, env0, fun t => ?_⟩
    · simp only [Array.size_append, Array.size_replicate, St.arg]
      omega
    · have e : (args ++ Array.replicate (fn.ntmps - args.size) undef).getD t undef = args.getD t undef := by
        simp only [Array.getD_eq_getD_getElem?]
        by_cases ht : t < args.size
        · rw [Array.getElem?_append_left ht]
        · rw [Array.getElem?_append_right (by omega), show args[t]? = none from Array.getElem?_eq_none (by omega), Array.getElem?_replicate]
          split <;> rfl
      show Den w F E H (aas.getD t .any) ((args ++ Array.replicate (fn.ntmps - args.size) undef).getD t undef)
      rw [e]
      cases ha : aas[t]? with
      | none => simp only [List.getD_eq_getElem?_getD, ha, Option.getD_none]; exact .any _
      | some a => simp only [List.getD_eq_getElem?_getD, ha, Option.getD_some]; exact hd t a ha
  refine Code.wp_mono ?_ (h C rfl ⟨fun i b hb => Classical.byContradiction (fun hi => by have := (hp.out i (hkey i hi)).1; change E i = some b at hb; rw [this] at hb; cases hb), fun i k v hv => Classical.byContradiction (fun hi => by have := (hp.out i (hkey i hi)).2 k; change H i k = some v at hv; rw [this] at hv; cases hv)⟩ (fun _ h => h) _ w hR)
  have fin : ∀ σ' a w', (∃ rs bs', ResAll P σ' rv rs ∧ post (tupA rs) bs' ∧ ∀ i x, bs'.lookup i = some x → σ'.b i = x) → Rel C σ' a w' → a.defers = [] ∧ ∃ v, (results fn a.tmps).run P w' = .ok v w' ∧
      ∃ v' r bs' F' E' H', Ending.returned v = .returned v' ∧ post r bs' ∧ PostOk w F E H bs w' F' E' H' bs' ∧ Den w' F' E' H' r v' := by
    rintro σ' a w' ⟨rs, bs', hres, hpost, hbs⟩ hR'
    obtain ⟨F', E', H', hR'⟩ := hR'.e
    obtain ⟨v, hv, hden⟩ := run_results (fn := fn) hR' (by rw [hrv]; exact hres)
    have he := hR'.env
    refine ⟨hR'.dfr, v, hv, v, tupA rs, bs', F', E', H', rfl, hpost, ⟨he.os, he.tape, he.output, he.size, fun b hb hx => he.old b hb (fun ⟨i, x, h1, h2⟩ => hx i x h1 h2), he.F0, he.Flt, he.Fnew, he.E0, he.H0, fun i x hx => ?_, fun i x b hx hb => ?_, fun i j x y b hij hx hy h1 h2 => ?_, fun i x b hx hb => ?_⟩, hden⟩
    · have := he.box i; rwa [hbs i x hx] at this
    · have := he.live i b; rw [hbs i x hx] at this; exact (this hb).1
    · have := he.sep i j b hij; rw [hbs i x hx, hbs j y hy] at this; exact this h1 h2
    · have := he.live i b; rw [hbs i x hx] at this
      rcases (this hb).2 with h | h
      · exact .inl h
      · exact .inr h
  rintro e a w' ⟨σ', hq, hR'⟩
  cases e with
  | ret => exact fin σ' a w' hq hR'
  | normal => exact fin σ' a w' hq hR'
  | _ => exact hq.elim
theorem Spec.intro {P : Program} {f : FuncId} {fn : Func} {c : Code} {n : Nat} {rv : List ResultVar} {aas : List A} {bs : List (Nat × Bx)} {post : A → List (Nat × Bx) → Prop} (hf : P.funcs[f]? = some fn) (hb : fn.body = some c) (hn : fn.ntmps = n) (hrv : fn.results.toList = rv)
    (hl : aas.length ≤ n) (h : ∀ C : Ctx, Names C (keys bs) → XB C bs → AW P C c (RetQ P rv post) (St.arg n aas bs)) : Spec P f aas bs post :=
  fun _ => Spec.intro_at hf hb hn hrv hl fun C _ => h C
end Go.Proofs.Ytdjadeegjbhihaa

/- A call as one operation; operations behind a guard. -/
namespace Go.Proofs.Ytdjadeegjbhihaa
open Go

/-! The nil list is the empty list. -/
mutual
def nrm : A → A
  | .d (.v (.slice none 0 0)) => .d (.row [])
  | .agg cs => .agg (nrms cs)
  | .tup cs => .tup (nrms cs)
  | .ifc t a => .ifc t (nrm a)
  | a => a
def nrms : List A → List A
  | [] => []
  | a :: aas => nrm a :: nrms aas
end
theorem nrms_length : ∀ (aas : List A), (nrms aas).length = aas.length
  | [] => rfl
  | _ :: aas => by simp [nrms, nrms_length aas]
theorem nrms_get : ∀ {aas : List A} {i : Nat} {b : A}, (nrms aas)[i]? = some b → ∃ a, aas[i]? = some a ∧ b = nrm a
  | [], i, b, h => by simp [nrms] at h
  | a :: aas, 0, b, h => by
    simp only [nrms, List.getElem?_cons_zero, Option.some.injEq] at h
    exact ⟨a, rfl, h.symm⟩
  | a :: aas, i + 1, b, h => by
    simp only [nrms, List.getElem?_cons_succ] at h
    obtain ⟨c, h1, h2⟩ := nrms_get h
    exact ⟨c, by simpa using h1, h2⟩
theorem Den.nrm {w : World} {F : Nat → Prop} {E : Nat → Option Nat} {H : Nat → Nat → Option Value} {x : A} {v : Value} (h : Den w F E H x v) : Den w F E H (nrm x) v := by
  induction h with
  | any x => exact .any x
  | d x v h =>
    unfold Go.Proofs.Ytdjadeegjbhihaa.nrm
    split
    · rename_i heq
      simp only [A.d.injEq] at heq
      subst heq
      rw [den_v (.d _ _ h : Den w F E H _ v)]
      exact .d _ _ .nil
    · rename_i heq; cases heq
    · rename_i heq; cases heq
    · rename_i heq; cases heq
    · exact .d x v h
  | agg aas cs hs h1 h ih =>
    simp only [Go.Proofs.Ytdjadeegjbhihaa.nrm]
    refine .agg _ cs (by rw [nrms_length]; exact hs) (fun i hi => h1 i (by rw [nrms_length] at hi; exact hi)) (fun i b hb => ?_)
    obtain ⟨a, ha, rfl⟩ := nrms_get hb
    exact ih i a ha
  | tup aas cs hs h ih =>
    simp only [Go.Proofs.Ytdjadeegjbhihaa.nrm]
    refine .tup _ cs (by rw [nrms_length]; exact hs) (fun i b hb => ?_)
    obtain ⟨a, ha, rfl⟩ := nrms_get hb
    exact ih i a ha
  | ifc t a v h ih => simp only [Go.Proofs.Ytdjadeegjbhihaa.nrm]; exact .ifc t _ v ih
  | ptr i o b h => exact .ptr i o b h
  | own i k v h h1 => exact .own i k v h h1
  | optr i k o b n c h => exact .optr i k o b n c h
  | rptr sz b o cap n es i j h hi hz => exact .rptr sz b o cap n es i j h hi hz
  | fn f aas bs cs ds hs ht h h' => exact .fn f aas bs cs ds hs ht h h'

/-! Calls. -/
structure Con where
  pre : List A → List (Nat × Bx) → Prop
  post : List A → List (Nat × Bx) → A → List (Nat × Bx) → Prop
def Con.ok (P : Program) (f : FuncId) (G : Con) (L : List Nat) : Prop :=
  ∀ aas bs, G.pre aas bs → Spec P f aas bs (G.post aas bs) ∧ ∀ r bs', G.post aas bs r bs' → r.within L = true ∧ ∀ i x, bs'.lookup i = some x → i ∈ L ∧ x.within L = true
def Con.okAt (P : Program) (w : World) (f : FuncId) (G : Con) (L : List Nat) : Prop :=
  ∀ aas bs, G.pre aas bs → SpecAt P w f aas bs (G.post aas bs) ∧ ∀ r bs', G.post aas bs r bs' → r.within L = true ∧ ∀ i x, bs'.lookup i = some x → i ∈ L ∧ x.within L = true
/-- The contract at what is handed here alone. -/
def Con.at (aas : List A) (bs : List (Nat × Bx)) (post : A → List (Nat × Bx) → Prop) : Con := ⟨fun aas' bs' => aas' = aas ∧ bs' = bs, fun _ _ => post⟩

def argsA (σ : St) (xs : List Operand) : List A := xs.map fun x => nrm (aev σ x)
def boxesA (σ : St) (L : List Nat) : List (Nat × Bx) := L.map fun i => (i, σ.b i)
/-- L: the boxes handed; M: the names that come. -/
def behCall (G : Con) (xs : List Operand) (L M : List Nat) (d : Nat) : St → Prop × (List V → Prop) := fun σ =>
  (d < σ.n ∧ (∀ i ∈ M, σ.b i = .fresh) ∧ A.withins L (argsA σ xs) = true ∧ (∀ i ∈ L, (σ.b i).within L = true) ∧ G.pre (argsA σ xs) (boxesA σ L) ∧ ∃ r bs', G.post (argsA σ xs) (boxesA σ L) r bs',
   fun us => ∃ r bs', G.post (argsA σ xs) (boxesA σ L) r bs' ∧ us = .a r :: (L ++ M).map fun i => .b ((bs'.lookup i).getD .none))

theorem boxesA_lookup (σ : St) : ∀ (L : List Nat) (i : Nat), (boxesA σ L).lookup i = if i ∈ L then some (σ.b i) else none
  | [], i => rfl
  | j :: L, i => by
    show (((j, σ.b j) :: boxesA σ L).lookup i) = _
    rw [List.lookup_cons, boxesA_lookup σ L i]
    by_cases h : i = j
    · subst h; simp
    · have : (i == j) = false := by simp [h]
      rw [this]
      simp [h]
theorem puts_boxes (g : Nat → Bx) : ∀ (L : List Nat) (σ : St), σ.puts (L.map B) (L.map fun i => .b (g i)) = ⟨σ.n, σ.t, fun i => if i ∈ L then g i else σ.b i⟩
  | [], σ => by simp [St.puts]
  | j :: L, σ => by
    rw [List.map_cons, List.map_cons, St.puts, puts_boxes g L]
    simp only [St.put]
    congr 1
    funext i
    by_cases h : i ∈ L
    · simp [h]
    · by_cases hj : i = j
      · subst hj; simp [h, upd]
      · simp [h, hj, upd]

section
variable {P : Program} {C : Ctx} {ops : Array Oper} {os : List Oper} {cs : List Cert} {σ : St} {K : St → Prop} {d : Nat} {ty : TypeId} {pos : String} {af : Array Edge}

theorem ok_call_at {f : FuncId} {fn : Func} {at_ : Array TypeId} {xs : List Operand} {G : Con} (L M : List Nat) (hf : P.funcs[f]? = some fn) (hbody : fn.body.isSome = true) (hname : (fn.name == "runtime.NumGoroutine") = false) (hG : ∀ w F E H bx, Env C w F E H bx → G.okAt P w f (L ++ M)) :
    OpOk P C ops ⟨some d, .call { callee := .value (.func f), args := xs.toArray, argTypes := at_ }, ty, pos, af, none⟩ ⟨xs.flatMap kof ++ (L ++ M).map B, T d :: (L ++ M).map B, behCall G xs L M d⟩ := by
  refine OpOk.of rfl (by simp [dstIn]) (fun σ h => ?_) (fun σ => ?_) (fun σ a w F E H K Q hR hsafe hK => ?_)
  · obtain ⟨r, bs', h⟩ := h.2.2.2.2.2
    exact ⟨_, r, bs', h, rfl⟩
  · have e1 : argsA (σ.mask (xs.flatMap kof ++ (L ++ M).map B)) xs = argsA σ xs := by
      unfold argsA
      refine List.map_congr_left fun x hx => ?_
      rw [aev_mask fun k hk => List.mem_append_left _ (List.mem_flatMap.2 ⟨x, hx, hk⟩)]
    have e3 : ∀ i ∈ L ++ M, (σ.mask (xs.flatMap kof ++ (L ++ M).map B)).b i = σ.b i := fun i hi => bx_mask (List.mem_append_right _ (List.mem_map.2 ⟨i, hi, rfl⟩))
    have e2 : boxesA (σ.mask (xs.flatMap kof ++ (L ++ M).map B)) L = boxesA σ L := by
      unfold boxesA
      refine List.map_congr_left fun i hi => ?_
      rw [e3 i (List.mem_append_left _ hi)]
    have e4 : (∀ i ∈ M, (σ.mask (xs.flatMap kof ++ (L ++ M).map B)).b i = .fresh) ↔ ∀ i ∈ M, σ.b i = .fresh := by
      constructor
      · intro h i hi; rw [← e3 i (List.mem_append_right _ hi)]; exact h i hi
      · intro h i hi; rw [e3 i (List.mem_append_right _ hi)]; exact h i hi
    have e5 : (∀ i ∈ L, ((σ.mask (xs.flatMap kof ++ (L ++ M).map B)).b i).within L = true) ↔ ∀ i ∈ L, (σ.b i).within L = true := by
      constructor
      · intro h i hi; rw [← e3 i (List.mem_append_left _ hi)]; exact h i hi
      · intro h i hi; rw [e3 i (List.mem_append_left _ hi)]; exact h i hi
    unfold behCall
    simp only [e1, e2, e4, e5]
    rfl
  · obtain ⟨hd, hM, hwa, hwb, hpre, _⟩ := hsafe
    obtain ⟨hspec, hwith⟩ := hG _ _ _ _ _ hR.env _ _ hpre
    let E1 : Nat → Option Nat := fun i => if L.contains i then E i else none
    let H1 : Nat → Nat → Option Value := fun i k => if L.contains i then H i k else none
    have hE1 : ∀ i ∈ L, E1 i = E i := fun i hi => if_pos (by simpa using hi)
    have hH1 : ∀ i ∈ L, ∀ k, H1 i k = H i k := fun i hi k => if_pos (by simpa using hi)
    have hlk : ∀ i x, (boxesA σ L).lookup i = some x → i ∈ L ∧ σ.b i = x := fun i x h => by
      rw [boxesA_lookup] at h
      split at h
      · rename_i hi; exact ⟨hi, Option.some.inj h⟩
      · cases h
    have hpo : PreOk w F E1 H1 (boxesA σ L) := by
      refine ⟨hR.env.Flt, fun i x h => ?_, fun i x b h hb => ?_, fun i j x y b hij hx hy h1 h2 => ?_, fun i h => ?_⟩
      · obtain ⟨hi, rfl⟩ := hlk i x h
        exact (hR.env.box i).names hE1 hH1 hi (hwb i hi)
      · obtain ⟨hi, rfl⟩ := hlk i x h
        rw [blk_names (hE1 i hi) (hH1 i hi)] at hb
        exact (hR.env.live i b hb).1
      · obtain ⟨hi, rfl⟩ := hlk i x hx
        obtain ⟨hj, rfl⟩ := hlk j y hy
        rw [blk_names (hE1 i hi) (hH1 i hi)] at h1
        rw [blk_names (hE1 j hj) (hH1 j hj)] at h2
        exact hR.env.sep i j b hij h1 h2
      · rw [boxesA_lookup] at h
        split at h
        · cases h
        · rename_i hi
          have : L.contains i = false := by simpa using hi
          exact ⟨if_neg (by rw [this]; decide), fun k => if_neg (by rw [this]; decide)⟩
    have hrun : (execOp a.eval ⟨some d, .call { callee := .value (.func f), args := xs.toArray, argTypes := at_ }, ty, pos, af, none⟩).run P w = .ok (.enter f (xs.map a.eval).toArray) w := by
      have hn : ¬ fn.name = "runtime.NumGoroutine" := by simpa using hname
      have hb2 : fn.body ≠ none := by intro e; rw [e] at hbody; cases hbody
      simp [execOp, resolve, Deferred.ofValue, invoke, callFunc, Act.eval, hf, hn, hb2]
    unfold Oper.wp
    rw [hrun, Oper.upon_enter]
    refine (hspec F E1 H1 (xs.map a.eval).toArray hpo (by simp [argsA]) (fun i x hx => ?_)).mono ?_
    · simp only [argsA, List.getElem?_map, Option.map_eq_some_iff] at hx
      obtain ⟨q, hq, rfl⟩ := hx
      have e : (xs.map a.eval).toArray.getD i undef = a.eval q := by simp [Array.getD_eq_getD_getElem?, hq]
      rw [e]
      refine (hR.ev q).nrm.names hE1 hH1 (withins_get hwa i _ ?_)
      simp [argsA, hq]
    · rintro e w' ⟨v, r, bs', F', E', H', rfl, hpost, hp, hden⟩
      obtain ⟨hwr, hwx⟩ := hwith r bs' hpost
      let E2 : Nat → Option Nat := fun i => if (L ++ M).contains i then E' i else E i
      let H2 : Nat → Nat → Option Value := fun i k => if (L ++ M).contains i then H' i k else H i k
      have hE2 : ∀ i ∈ L ++ M, E2 i = E' i := fun i hi => if_pos (by simpa using hi)
      have hH2 : ∀ i ∈ L ++ M, ∀ k, H2 i k = H' i k := fun i hi k => if_pos (by simpa using hi)
      have hE3 : ∀ i, i ∉ L ++ M → E2 i = E i := fun i hi => if_neg (by simpa using hi)
      have hH3 : ∀ i k, i ∉ L ++ M → H2 i k = H i k := fun i k hi => if_neg (by simpa using hi)
      have hfr : ∀ i ∈ M, E i = none ∧ ∀ k, H i k = none := fun i hi => by
        have := hR.env.box i
        rw [hM i hi] at this
        exact this
      have hEm : ∀ i b, E i = some b → E2 i = some b := fun i b hb => by
        by_cases hi : i ∈ L ++ M
        · rw [hE2 i hi]
          rcases List.mem_append.1 hi with h | h
          · exact hp.en i b (by rw [hE1 i h]; exact hb)
          · rw [(hfr i h).1] at hb; cases hb
        · rw [hE3 i hi]; exact hb
      have hHm : ∀ i k v, H i k = some v → H2 i k = some v := fun i k v hv => by
        by_cases hi : i ∈ L ++ M
        · rw [hH2 i hi]
          rcases List.mem_append.1 hi with h | h
          · exact hp.hn i k v (by rw [hH1 i h]; exact hv)
          · rw [(hfr i h).2 k] at hv; cases hv
        · rw [hH3 i k hi]; exact hv
      have hold : ∀ b, b < w.heap.size → (∀ i, i ∈ L ++ M → blk E H i (σ.b i) ≠ some b) → w'.heap[b]? = w.heap[b]? := fun b hb hn => hp.old b hb fun i x hx hxb => by
        obtain ⟨hi, rfl⟩ := hlk i x hx
        rw [blk_names (hE1 i hi) (hH1 i hi)] at hxb
        exact hn i (List.mem_append_left _ hi) hxb
      let bx' : Nat → Bx := fun i => if i ∈ L ++ M then (bs'.lookup i).getD .none else σ.b i
      have hb1 : ∀ i ∈ L ++ M, bx' i = (bs'.lookup i).getD .none := fun i hi => if_pos hi
      have hbk : ∀ i ∈ L ++ M, ∀ b, blk E2 H2 i (bx' i) = some b → ∃ x, bs'.lookup i = some x ∧ blk E' H' i x = some b := fun i hi b hb => by
        rw [hb1 i hi, blk_names (hE2 i hi) (hH2 i hi)] at hb
        cases hl : bs'.lookup i with
        | none => rw [hl] at hb; cases hb
        | some x => rw [hl] at hb; exact ⟨x, rfl, hb⟩
      have env : Env C w' F' E2 H2 bx' := hR.env.step (· ∈ L ++ M) hp.os hp.tape hp.output hp.size hold hp.fr
        (fun b hb => by
          rcases hp.Fnew b hb with h | h
          · exact .inl h
          · exact .inr ⟨hp.Flt b hb, .inl h⟩) hEm hHm hE3 hH3 (fun i hi => if_neg hi)
        (fun i hi => by
          rw [hb1 i hi]
          cases hl : bs'.lookup i with
          | none => trivial
          | some x => exact (hp.box i x hl).names hE2 hH2 hi (hwx i x hl).2)
        (fun i hi b hb => by
          obtain ⟨x, hx, hxb⟩ := hbk i hi b hb
          refine ⟨hp.nf i x b hx hxb, ?_⟩
          rcases hp.live i x b hx hxb with ⟨j, y, hy, hyb⟩ | h
          · obtain ⟨hj, rfl⟩ := hlk j y hy
            rw [blk_names (hE1 j hj) (hH1 j hj)] at hyb
            exact .inr ⟨j, List.mem_append_left _ hj, hyb⟩
          · exact .inl h)
        (fun i j b hi hj hij h1 h2 => by
          obtain ⟨x, hx, hxb⟩ := hbk i hi b h1
          obtain ⟨y, hy, hyb⟩ := hbk j hj b h2
          exact hp.sep i j x y b hij hx hy hxb hyb)
      have hFw : ∀ b, F b → w'.heap[b]? = w.heap[b]? := fun b hb => hold b (hR.env.Flt b hb) fun i _ e => hR.env.frozen hb i e
      have hnew : RelE C ⟨σ.n, σ.t, bx'⟩ a w' F' E2 H2 := hR.move env hp.fr hFw hEm hHm
      have hput := hnew.put (d := d) (r := r) hd (hden.names hE2 hH2 hwr)
      refine hK _ _ _ ⟨r, bs', hpost, rfl⟩ ?_
      have : σ.puts (T d :: (L ++ M).map B) (.a r :: (L ++ M).map fun i => .b ((bs'.lookup i).getD .none)) = (⟨σ.n, σ.t, bx'⟩ : St).put (T d) (.a r) := by
        rw [St.puts, puts_boxes (fun i => (bs'.lookup i).getD .none)]
        rfl
      rw [this]
      exact hput.r
theorem ok_call {f : FuncId} {fn : Func} {at_ : Array TypeId} {xs : List Operand} {G : Con} (L M : List Nat) (hf : P.funcs[f]? = some fn) (hbody : fn.body.isSome = true) (hname : (fn.name == "runtime.NumGoroutine") = false) (hG : G.ok P f (L ++ M)) :
    OpOk P C ops ⟨some d, .call { callee := .value (.func f), args := xs.toArray, argTypes := at_ }, ty, pos, af, none⟩ ⟨xs.flatMap kof ++ (L ++ M).map B, T d :: (L ++ M).map B, behCall G xs L M d⟩ :=
  ok_call_at L M hf hbody hname fun w _ _ _ _ _ aas bs hpre => ⟨(hG aas bs hpre).1 w, (hG aas bs hpre).2⟩
end
end Go.Proofs.Ytdjadeegjbhihaa

/- Literals, lists that grow; operations behind a guard, choices, pointers that are there. -/
namespace Go.Proofs.Ytdjadeegjbhihaa
open Go

section
variable {P : Program} {C : Ctx} {ops : Array Oper} {os : List Oper} {cs : List Cert} {σ : St} {K : St → Prop} {d : Nat} {ty : TypeId} {pos : String} {af : Array Edge}
variable {a : Act} {w w' : World} {F : Nat → Prop} {E : Nat → Option Nat} {H : Nat → Nat → Option Value}

/-! A pointer that is there. -/
def rNil (x : Operand) (σ : St) : Option A := match aev σ x with | .ptr i o => some (.ptr i o) | .optr i k o => some (.optr i k o) | .rptr sz es i j => some (.rptr sz es i j) | .ifc t a => some (.ifc t a) | _ => none
theorem ok_nil (x : Operand) : OpOk P C ops ⟨some d, .nilCheck x, ty, pos, af, none⟩ ⟨kof x, [T d], beh1 (rNil x) d⟩ :=
  OpOk.read rfl rfl (fun σ => by unfold rNil; rw [aev_mask (fun k h => h)]) fun σ a w F E H r hR h => by
    have hd := hR.ev x
    unfold rNil at h
    split at h
    all_goals
      first
      | (rename_i he
         obtain rfl := Option.some.inj h
         rw [he] at hd
         have : ∃ v, a.eval x = v := ⟨_, rfl⟩
         obtain ⟨v, hv⟩ := this
         rw [hv] at hd
         refine ⟨v, ?_, hd⟩
         simp only [execOp, hv]
         generalize v = u at hd
         cases hd <;> rfl)
      | cases h
theorem Wk.nilc {x : Operand} {r : A} (hr : rNil x σ = some r) (hd : d < σ.n) (h : Wk P C ops os cs (σ.put (T d) (.a r)) K) :
    Wk P C ops (⟨some d, .nilCheck x, ty, pos, af, none⟩ :: os) (⟨kof x, [T d], beh1 (rNil x) d⟩ :: cs) σ K := Wk.read (ok_nil x) r hd hr h

/-! One of two. -/
def rPick (x y z : Operand) (σ : St) : Option A := match aev σ x with | .d (.v (.bool true)) => some (aev σ y) | .d (.v (.bool false)) => some (aev σ z) | _ => none
theorem ok_pick (x y z : Operand) : OpOk P C ops ⟨some d, .pick x y z, ty, pos, af, none⟩ ⟨kof x ++ (kof y ++ kof z), [T d], beh1 (rPick x y z) d⟩ :=
  OpOk.read rfl rfl (fun σ => by unfold rPick; rw [aev_mask (fun k h => List.mem_append_left _ h), aev_mask (fun k h => List.mem_append_right _ (List.mem_append_left _ h)), aev_mask (fun k h => List.mem_append_right _ (List.mem_append_right _ h))]) fun σ a w F E H r hR h => by
    have hd := hR.ev x
    unfold rPick at h
    split at h
    · rename_i he
      obtain rfl := Option.some.inj h
      rw [he] at hd
      exact ⟨a.eval y, by simp [execOp, den_v hd, asBool], hR.ev y⟩
    · rename_i he
      obtain rfl := Option.some.inj h
      rw [he] at hd
      exact ⟨a.eval z, by simp [execOp, den_v hd, asBool], hR.ev z⟩
    · cases h
theorem Wk.pckT {x y z : Operand} {r : A} (hx : aev σ x = .d (.v (.bool true))) (hr : aev σ y = r) (hd : d < σ.n) (h : Wk P C ops os cs (σ.put (T d) (.a r)) K) :
    Wk P C ops (⟨some d, .pick x y z, ty, pos, af, none⟩ :: os) (⟨kof x ++ (kof y ++ kof z), [T d], beh1 (rPick x y z) d⟩ :: cs) σ K := Wk.read (ok_pick x y z) r hd (by simp only [rPick, hx, hr]) h
theorem Wk.pckF {x y z : Operand} {r : A} (hx : aev σ x = .d (.v (.bool false))) (hr : aev σ z = r) (hd : d < σ.n) (h : Wk P C ops os cs (σ.put (T d) (.a r)) K) :
    Wk P C ops (⟨some d, .pick x y z, ty, pos, af, none⟩ :: os) (⟨kof x ++ (kof y ++ kof z), [T d], beh1 (rPick x y z) d⟩ :: cs) σ K := Wk.read (ok_pick x y z) r hd (by simp only [rPick, hx, hr]) h

/-! Behind a guard. -/
/-- What a slot reads as behind an operation that was passed by. -/
def skipA (dst : Option Nat) (t : Nat) : A := if dst = some t then .d (.v undef) else .any
def skipped (dst : Option Nat) (σ : St) : Key → V
  | (true, t) => .a (skipA dst t)
  | (false, i) => .b (σ.b i)
/-- Whether an operation behind a guard is done. -/
def gval (want : Bool) : A → Option Bool
  | .d (.v (.bool b)) => some (b == want)
  | .d (.v _) => some false
  | _ => none
def gCert (g : Nat) (want : Bool) (dst : Option Nat) (c : Cert) : Cert :=
  ⟨T g :: (c.rd ++ c.wr), c.wr, fun σ => match gval want (σ.t g) with | some true => c.beh σ | some false => (True, fun us => us = c.wr.map (skipped dst σ)) | none => (False, fun _ => False)⟩
theorem puts_skipped (dst : Option Nat) : ∀ (ks : List Key) (σ σ0 : St), (∀ i, (false, i) ∈ ks → σ.b i = σ0.b i) → (σ.puts ks (ks.map (skipped dst σ0))).n = σ.n ∧ (σ.puts ks (ks.map (skipped dst σ0))).b = σ.b ∧ ∀ t, (σ.puts ks (ks.map (skipped dst σ0))).t t = if (true, t) ∈ ks then skipA dst t else σ.t t
  | [], σ, _, _ => ⟨rfl, rfl, fun t => by simp [St.puts]⟩
  | (true, i) :: ks, σ, σ0, h => by
    obtain ⟨h1, h2, h3⟩ := puts_skipped dst ks (σ.put (T i) (.a (skipA dst i))) σ0 (fun j hj => h j (List.mem_cons_of_mem _ hj))
    refine ⟨h1, h2, fun t => ?_⟩
    show (St.puts (σ.put (T i) (.a (skipA dst i))) ks (ks.map (skipped dst σ0))).t t = _
    rw [h3]
    by_cases e : t = i
    · subst e; simp [St.put, upd]
    · simp [St.put, upd, e]
  | (false, i) :: ks, σ, σ0, h => by
    have e0 : σ.put (B i) (.b (σ0.b i)) = σ := by
      have : upd σ.b i (σ0.b i) = σ.b := by
        funext j
        by_cases hj : j = i
        · subst hj; simp [upd, h j List.mem_cons_self]
        · simp [upd, hj]
      show St.mk σ.n σ.t (upd σ.b i (σ0.b i)) = σ
      rw [this]
    obtain ⟨h1, h2, h3⟩ := puts_skipped dst ks σ σ0 (fun j hj => h j (List.mem_cons_of_mem _ hj))
    have : σ.puts ((false, i) :: ks) (((false, i) :: ks).map (skipped dst σ0)) = σ.puts ks (ks.map (skipped dst σ0)) := by
      show St.puts (σ.put (B i) (.b (σ0.b i))) ks _ = _
      rw [e0]
    rw [this]
    exact ⟨h1, h2, fun t => by rw [h3]; simp⟩
theorem gval_wanted {a : Act} {x : A} {w : World} {F : Nat → Prop} {E : Nat → Option Nat} {H : Nat → Nat → Option Value} {dst : Option Nat} {op : Op} {j g : Nat} {want r : Bool} (hj : (ops[j]?).bind (·.dst) = some g) (hd : Den w F E H x (a.tmps.getD g undef)) (h : gval want x = some r) :
    Region.wanted ⟨dst, op, ty, pos, af, some (j, want)⟩ (yielded ops a.tmps) = r := by
  have key : ∀ b : Bool, a.tmps.getD g undef = .bool b → yielded ops a.tmps j = some b := by
    intro b hv
    have hgs : g < a.tmps.size := by
      refine Classical.byContradiction fun hn => ?_
      rw [Array.getD_eq_getD_getElem?, Array.getElem?_eq_none (by omega)] at hv
      cases hv
    unfold yielded
    rw [hj]
    have : a.tmps[g]? = some (.bool b) := by
      rw [Array.getD_eq_getD_getElem?, Array.getElem?_eq_getElem hgs] at hv
      rw [Array.getElem?_eq_getElem hgs]
      simpa using hv
    simp [this]
  have key2 : (∀ b : Bool, a.tmps.getD g undef ≠ .bool b) → yielded ops a.tmps j = none := by
    intro hv
    cases hy : yielded ops a.tmps j with
    | none => rfl
    | some b =>
      exfalso
      unfold yielded at hy
      rw [hj] at hy
      refine hv b ?_
      rw [Array.getD_eq_getD_getElem?]
      cases ht : a.tmps[g]? with
      | none => simp [ht] at hy
      | some u =>
        simp only [Option.getD_some]
        cases u <;> simp [ht] at hy
        rw [hy]
  unfold gval at h
  split at h
  · have hv := den_v hd
    obtain rfl := Option.some.inj h
    simp [Region.wanted, key _ hv]
  · rename_i v hnb
    have hv := den_v hd
    obtain rfl := Option.some.inj h
    have := key2 (fun b e => hnb b (hv.symm.trans e))
    simp [Region.wanted, this]
  · cases h
theorem ok_guard {dst : Option Nat} {op : Op} {j g : Nat} {want : Bool} {c : Cert} (ho : OpOk P C ops ⟨dst, op, ty, pos, af, none⟩ c) (hj : (ops[j]?).bind (·.dst) = some g) :
    OpOk P C ops ⟨dst, op, ty, pos, af, some (j, want)⟩ (gCert g want dst c) := by
  obtain ⟨⟨ht, hl⟩, hdst, hs⟩ := ho
  replace hdst : dstIn dst c.wr = true := hdst
  refine ⟨⟨fun σ h => ?_, fun σ => ?_⟩, hdst, fun σ a w K Q hR hsafe hK => ?_⟩
  · unfold gCert at h ⊢
    simp only at h ⊢
    cases hgv : gval want (σ.t g) with
    | none => rw [hgv] at h; exact h.elim
    | some r =>
      rw [hgv] at h
      cases r with
      | true => exact ht σ h
      | false => exact ⟨_, rfl⟩
  · have e1 : (σ.mask (T g :: (c.rd ++ c.wr))).t g = σ.t g := by simp [St.mask]
    have e3 : c.wr.map (skipped dst (σ.mask (T g :: (c.rd ++ c.wr)))) = c.wr.map (skipped dst σ) := by
      refine List.map_congr_left fun k hk => ?_
      obtain ⟨p, i⟩ := k
      cases p with
      | true => rfl
      | false => simp only [skipped]; rw [bx_mask (List.mem_cons_of_mem _ (List.mem_append_right _ hk))]
    have mm : ∀ (l l' : List Key), (∀ k ∈ l, k ∈ l') → (σ.mask l').mask l = σ.mask l := fun l l' hll => by
      unfold St.mask
      congr 1
      · funext i
        split
        · rename_i hi; exact if_pos (by simpa using hll _ (by simpa using hi))
        · rfl
      · funext i
        split
        · rename_i hi; exact if_pos (by simpa using hll _ (by simpa using hi))
        · rfl
    have e2 : c.beh (σ.mask (T g :: (c.rd ++ c.wr))) = c.beh σ := by
      rw [← hl (σ.mask _), mm c.rd _ (fun k hk => List.mem_cons_of_mem _ (List.mem_append_left _ hk)), hl]
    unfold gCert
    simp only [e1, e2, e3]
  · obtain ⟨F, E, H, hR'⟩ := hR.e
    unfold Cert.safe gCert at hsafe
    simp only at hsafe
    cases hgv : gval want (σ.t g) with
    | none => rw [hgv] at hsafe; exact hsafe.elim
    | some r =>
      have hw := gval_wanted (dst := dst) (op := op) (ty := ty) (pos := pos) (af := af) hj (hR'.den g) hgv
      rw [hgv] at hsafe
      cases r with
      | true =>
        rw [if_pos hw]
        have := hs σ a w K Q hR hsafe (fun us a' w' hus hR'' => hK us a' w' (by unfold Cert.rel gCert; simp only [hgv]; exact hus) hR'')
        rw [if_pos (by simp [Region.wanted])] at this
        exact this
      | false =>
        rw [if_neg (by rw [hw]; simp)]
        refine hK (c.wr.map (skipped dst σ)) _ _ (by unfold Cert.rel gCert; simp only [hgv]) ?_
        obtain ⟨h1, h2, h3⟩ := puts_skipped dst c.wr σ σ (fun _ _ => rfl)
        refine ⟨(dfr_put _ _ _).trans hR'.dfr, (size_putA _ _ _).trans (hR'.n.trans h1.symm), F, E, H, by rw [show (σ.puts (gCert g want dst c).wr (c.wr.map (skipped dst σ))).b = σ.b from h2]; exact hR'.env, fun t => ?_⟩
        rw [show (σ.puts (gCert g want dst c).wr (c.wr.map (skipped dst σ))).t t = if (true, t) ∈ c.wr then skipA dst t else σ.t t from h3 t]
        have hput : ∀ d, (a.put (some d) undef).tmps.getD d undef = undef := fun d => by
          simp only [Act.put, Array.getD_eq_getD_getElem?]
          by_cases hlt : d < a.tmps.size
          · simp [hlt]
          · rw [Array.getElem?_eq_none (by simpa using hlt)]; rfl
        split
        · unfold skipA
          split
          · rename_i e
            subst e
            rw [hput t]
            exact .d _ _ (.v _)
          · exact .any _
        · rename_i hnt
          cases dst with
          | none => exact hR'.den t
          | some d =>
            have htd : t ≠ d := fun e => hnt (by subst e; simpa [dstIn] using hdst)
            have : (a.put (some d) undef).tmps.getD t undef = a.tmps.getD t undef := by
              simp only [Act.put, Array.getD_eq_getD_getElem?]
              rw [Array.getElem?_setIfInBounds_ne (Ne.symm htd)]
            show Den w F E H (σ.t t) ((a.put (some d) undef).tmps.getD t undef)
            rw [this]
            exact hR'.den t
/-- It is done. -/
theorem Wk.gon {dst : Option Nat} {op : Op} {j : Nat} (g : Nat) {want : Bool} {c : Cert} (hj : (ops[j]?).bind (·.dst) = some g) (hg : σ.t g = .d (.v (.bool want)))
    (h : Wk P C ops (⟨dst, op, ty, pos, af, none⟩ :: os) (c :: cs) σ K) : Wk P C ops (⟨dst, op, ty, pos, af, some (j, want)⟩ :: os) (gCert g want dst c :: cs) σ K := by
  obtain ⟨⟨ho, hos⟩, hsafe, hr⟩ := h
  have hgv : gval want (σ.t g) = some true := by rw [hg]; simp [gval]
  refine ⟨⟨ok_guard ho hj, hos⟩, ?_, fun us hus => hr us ?_⟩
  · unfold Cert.safe gCert; simp only [hgv]; exact hsafe
  · unfold Cert.rel gCert at hus; simp only [hgv] at hus; exact hus
/-- It is passed by. -/
theorem Wk.gskip {dst : Option Nat} {op : Op} {j : Nat} (g : Nat) {want : Bool} {c : Cert} (ho : OpOk P C ops ⟨dst, op, ty, pos, af, none⟩ c) (hj : (ops[j]?).bind (·.dst) = some g)
    (hgv : gval want (σ.t g) = some false) (h : Wk P C ops os cs (σ.puts c.wr (c.wr.map (skipped dst σ))) K) : Wk P C ops (⟨dst, op, ty, pos, af, some (j, want)⟩ :: os) (gCert g want dst c :: cs) σ K :=
  Wk.det (ok_guard ho hj) (by unfold Cert.safe gCert; simp only [hgv]) _ (fun us' hus => by unfold Cert.rel gCert at hus; simp only [hgv] at hus; exact hus) h
theorem Wk.goff {dst : Option Nat} {op : Op} {j : Nat} (g : Nat) {want b : Bool} {c : Cert} (ho : OpOk P C ops ⟨dst, op, ty, pos, af, none⟩ c) (hj : (ops[j]?).bind (·.dst) = some g)
    (hg : σ.t g = .d (.v (.bool b))) (hb : b ≠ want) (h : Wk P C ops os cs (σ.puts c.wr (c.wr.map (skipped dst σ))) K) : Wk P C ops (⟨dst, op, ty, pos, af, some (j, want)⟩ :: os) (gCert g want dst c :: cs) σ K :=
  Wk.gskip g ho hj (by rw [hg]; simp [gval, hb]) h
/-- It is passed by, as what it hangs on was passed by. -/
theorem Wk.goffu {dst : Option Nat} {op : Op} {j : Nat} (g : Nat) {want : Bool} {c : Cert} (ho : OpOk P C ops ⟨dst, op, ty, pos, af, none⟩ c) (hj : (ops[j]?).bind (·.dst) = some g)
    (hg : σ.t g = .d (.v undef)) (h : Wk P C ops os cs (σ.puts c.wr (c.wr.map (skipped dst σ))) K) : Wk P C ops (⟨dst, op, ty, pos, af, some (j, want)⟩ :: os) (gCert g want dst c :: cs) σ K :=
  Wk.gskip g ho hj (by rw [hg]; rfl) h
end
end Go.Proofs.Ytdjadeegjbhihaa

/- Struct literals, list literals, append. -/
namespace Go.Proofs.Ytdjadeegjbhihaa
open Go

theorem foldl_put (off : Nat) : ∀ (l : List Value) (k : Nat) (cs : Array Value), off + k + l.length ≤ cs.size →
    ((l.zipIdx k).foldl (fun (cs : Array Value) (x : Value × Nat) => cs.setIfInBounds (off + x.2) x.1) cs).toList = cs.toList.take (off + k) ++ l ++ cs.toList.drop (off + k + l.length)
  | [], k, cs, _ => by simp
  | v :: l, k, cs, h => by
    rw [List.length_cons] at h
    rw [List.zipIdx_cons, List.foldl_cons, foldl_put off l (k + 1) _ (by simp; omega)]
    have hk : off + k < cs.toList.length := by simp; omega
    have e : (cs.setIfInBounds (off + k) v).toList = cs.toList.take (off + k) ++ v :: cs.toList.drop (off + k + 1) := by
      rw [Array.toList_setIfInBounds, List.set_eq_take_append_cons_drop, if_pos hk]
    have hl : (cs.toList.take (off + k)).length = off + k := by rw [List.length_take]; omega
    rw [e, ← Nat.add_assoc, List.take_append, List.drop_append, hl]
    have e1 : (cs.toList.take (off + k)).take (off + k + 1) = cs.toList.take (off + k) := by rw [List.take_take]; congr 1; omega
    have e2 : off + k + 1 - (off + k) = 1 := by omega
    have e3 : (cs.toList.take (off + k)).drop (off + k + 1 + l.length) = [] := List.drop_eq_nil_of_le (by rw [hl]; omega)
    have e4 : off + k + 1 + l.length - (off + k) = l.length + 1 := by omega
    rw [e1, e2, e3, e4]
    simp [List.drop_drop, Nat.add_assoc, Nat.add_comm 1]

/-- Parts put into cells. -/
def fillA (place : Nat → Option (Nat × Nat)) (cells : List A) : List (Nat × A) → Option (List A)
  | [] => some cells
  | (i, a) :: rest =>
    match place i, cellsA a with
    | some (off, size), some aas => if aas.length = size ∧ off + size ≤ cells.length then fillA place (setA cells off aas) rest else none
    | _, _ => none

section
variable {w : World} {F : Nat → Prop} {E : Nat → Option Nat} {H : Nat → Nat → Option Value}
theorem fill_den {place : Nat → Option (Nat × Nat)} : ∀ (ps : List (Nat × A)) (qs : List (Nat × Value)) (cells : List A) (vs : Array Value) (r : List A), Pw (CellOk w F E H) cells vs.toList → Pw (fun (p : Nat × A) (q : Nat × Value) => p.1 = q.1 ∧ Den w F E H p.2 q.2) ps qs → fillA place cells ps = some r →
    ∃ vs', Instr.fill place vs qs = some vs' ∧ Pw (CellOk w F E H) r vs'.toList
  | [], [], cells, vs, r, hc, _, h => by
    obtain rfl := Option.some.inj h
    exact ⟨vs, rfl, hc⟩
  | [], _ :: _, _, _, _, _, hp, _ => by cases hp.1
  | _ :: _, [], _, _, _, _, hp, _ => by cases hp.1
  | (i, a) :: ps, (j, v) :: qs, cells, vs, r, hc, hp, h => by
    obtain ⟨hij, hd⟩ := hp.2 0 (i, a) (j, v) rfl rfl
    simp only at hij hd
    subst hij
    have hp' : Pw (fun (p : Nat × A) (q : Nat × Value) => p.1 = q.1 ∧ Den w F E H p.2 q.2) ps qs := ⟨by simpa using hp.1, fun k x y hx hy => hp.2 (k + 1) x y (by simpa using hx) (by simpa using hy)⟩
    simp only [fillA] at h
    split at h
    · rename_i off size aas hpl has
      split at h
      · rename_i hcond
        obtain ⟨h1, h2⟩ := hcond
        have hca := den_cellsA has hd
        have hl := hca.1
        have hl2 := hc.1
        simp only [Array.length_toList] at hl hl2
        have hfold : ((v.cells.zipIdx.foldl (fun cs (c, j) => cs.setIfInBounds (off + j) c) vs)).toList = vs.toList.take off ++ v.cells.toList ++ vs.toList.drop (off + v.cells.toList.length) := by
          have := foldl_put off v.cells.toList 0 vs (by simp; omega)
          simp only [Nat.add_zero] at this
          rw [← this, ← Array.foldl_toList, Array.toList_zipIdx]
        obtain ⟨vs', e1, e2⟩ := fill_den ps qs (setA cells off aas) (v.cells.zipIdx.foldl (fun cs (c, j) => cs.setIfInBounds (off + j) c) vs) r (by
          rw [hfold, setA, ← hca.1]
          exact ((hc.take off).append hca).append (hc.drop _)) hp' h
        refine ⟨vs', ?_, e2⟩
        simp only [Instr.fill, hpl]
        rw [if_neg (by simp; omega)]
        exact e1
      · cases h
    · cases h
end

/-- A struct's zero, and where its fields lie. -/
def builtOf (P : Program) (t : TypeId) : Option (List Value × List (Nat × Nat)) :=
  match P.info? t, P.underlying t with
  | some it, some (.struct fields) =>
    match it.zero, fields.toList.mapM (fun f => (P.info? f.type).map fun i => (f.offset, i.size)) with
    | some z, some places => some (z.cells.toList, places)
    | _, _ => none
  | _, _ => none
theorem builtOf_built {P : Program} {t : TypeId} {zs : List Value} {pl : List (Nat × Nat)} (h : builtOf P t = some (zs, pl)) (parts : List (Nat × Value)) : P.built t parts = Instr.fill (pl[·]?) zs.toArray parts := by
  unfold builtOf at h
  unfold Program.built
  split at h
  · rename_i it fields h1 h2
    split at h
    · rename_i z places h3 h4
      simp only [Option.some.injEq, Prod.mk.injEq] at h
      obtain ⟨rfl, rfl⟩ := h
      simp [h1, h2, h3, h4]
    · cases h
  · cases h

section
variable {P : Program} {C : Ctx} {ops : Array Oper} {os : List Oper} {cs : List Cert} {σ : St} {K : St → Prop} {d : Nat} {ty : TypeId} {pos : String} {af : Array Edge}

def partsA (σ : St) (ps : List (Nat × Operand)) : List (Nat × A) := ps.map fun p => (p.1, aev σ p.2)
theorem partsA_mask {rd : List Key} {ps : List (Nat × Operand)} (h : ∀ k ∈ ps.flatMap (fun p => kof p.2), k ∈ rd) : partsA (σ.mask rd) ps = partsA σ ps := by
  unfold partsA
  refine List.map_congr_left fun p hp => ?_
  rw [aev_mask fun k hk => h k (List.mem_flatMap.2 ⟨p, hp, hk⟩)]
theorem partsA_den {a : Act} {w : World} {F : Nat → Prop} {E : Nat → Option Nat} {H : Nat → Nat → Option Value} (hR : RelE C σ a w F E H) (ps : List (Nat × Operand)) :
    Pw (fun (p : Nat × A) (q : Nat × Value) => p.1 = q.1 ∧ Den w F E H p.2 q.2) (partsA σ ps) (ps.map fun p => (p.1, a.eval p.2)) := by
  refine ⟨by simp [partsA], fun j x y hx hy => ?_⟩
  simp only [partsA, List.getElem?_map, Option.map_eq_some_iff] at hx hy
  obtain ⟨p, hp, rfl⟩ := hx
  obtain ⟨q, hq, rfl⟩ := hy
  obtain rfl := Option.some.inj (hp.symm.trans hq)
  exact ⟨rfl, hR.ev _⟩
def rBuild (zs : List Value) (pl : List (Nat × Nat)) (ps : List (Nat × Operand)) (σ : St) : Option A := (fillA (pl[·]?) (zs.map fun x => .d (.v x)) (partsA σ ps)).map .agg
theorem ok_build {t : TypeId} {zs : List Value} {pl : List (Nat × Nat)} {ps : List (Nat × Operand)} (hb : builtOf P t = some (zs, pl)) (h1 : zs.all (·.oneCell') = true) :
    OpOk P C ops ⟨some d, .build t ps.toArray, ty, pos, af, none⟩ ⟨ps.flatMap fun p => kof p.2, [T d], beh1 (rBuild zs pl ps) d⟩ :=
  OpOk.read rfl rfl (fun σ => by unfold rBuild; rw [partsA_mask fun k h => h]) fun σ a w F E H r hR h => by
    simp only [rBuild, Option.map_eq_some_iff] at h
    obtain ⟨aas, has, rfl⟩ := h
    obtain ⟨vs, e1, e2⟩ := fill_den _ _ _ zs.toArray aas (by simpa using pw_zero h1) (partsA_den hR ps) has
    refine ⟨.agg vs, ?_, by have := agg_den e2; simpa using this⟩
    have := run_build (P := P) w t (ps.toArray.map fun (i, x) => (i, a.eval x)) vs (by
      rw [builtOf_built hb]
      simpa using e1)
    simp only [execOp, Sem.run_bind, this, Result.andThen_ok, Sem.run_pure]
theorem Wk.bld {t : TypeId} (zs : List Value) (pl : List (Nat × Nat)) {ps : List (Nat × Operand)} {aas : List A} (hb : builtOf P t = some (zs, pl)) (h1 : zs.all (·.oneCell') = true) (hr : fillA (pl[·]?) (zs.map fun x => .d (.v x)) (partsA σ ps) = some aas) (hd : d < σ.n)
    (h : Wk P C ops os cs (σ.put (T d) (.a (.agg aas))) K) : Wk P C ops (⟨some d, .build t ps.toArray, ty, pos, af, none⟩ :: os) (⟨ps.flatMap fun p => kof p.2, [T d], beh1 (rBuild zs pl ps) d⟩ :: cs) σ K :=
  Wk.read (ok_build hb h1) _ hd (by simp only [rBuild, hr, Option.map_some]) h

/-! Lists: by their elements, each so many cells. -/
theorem flatten_at {α : Type} {sz : Nat} : ∀ {L : List (List α)}, (∀ l ∈ L, l.length = sz) → ∀ (q : Nat) (x : α), L.flatten[q]? = some x → ∃ l, L[q / sz]? = some l ∧ l[q % sz]? = some x
  | [], _, q, x, h => by simp at h
  | l :: L, hL, q, x, h => by
    have hl : l.length = sz := hL l List.mem_cons_self
    rw [List.flatten_cons] at h
    by_cases hq : q < sz
    · rw [List.getElem?_append_left (by omega)] at h
      rw [Nat.div_eq_of_lt hq, Nat.mod_eq_of_lt hq]
      exact ⟨l, rfl, h⟩
    · rw [List.getElem?_append_right (by omega), hl] at h
      obtain ⟨m, h1, h2⟩ := flatten_at (fun m hm => hL m (List.mem_cons_of_mem _ hm)) (q - sz) x h
      have hsz : 0 < sz := by
        rcases Nat.eq_zero_or_pos sz with h0 | h0
        · subst h0
          have : m.length = 0 := hL m (List.mem_cons_of_mem _ (List.mem_of_getElem? h1))
          rw [List.length_eq_zero_iff.1 this] at h2
          simp at h2
        · exact h0
      have e : q = q - sz + sz := by omega
      rw [e, Nat.add_div_right _ hsz, Nat.add_mod_right]
      exact ⟨m, by simpa using h1, h2⟩
theorem flatten_len {α : Type} {sz : Nat} : ∀ {L : List (List α)}, (∀ l ∈ L, l.length = sz) → L.flatten.length = L.length * sz
  | [], _ => by simp
  | l :: L, hL => by
    rw [List.flatten_cons, List.length_append, flatten_len (fun m hm => hL m (List.mem_cons_of_mem _ hm)), hL l List.mem_cons_self, List.length_cons, Nat.add_mul, Nat.one_mul, Nat.add_comm]
/-- The cells of a list that nobody turns. -/
theorem row_cells {w : World} {F : Nat → Prop} {E : Nat → Option Nat} {H : Nat → Nat → Option Value} {es : List (List D)} {sz : Nat} {v : Value} (h : FDen w F (.row es) v) (hz : ∀ e ∈ es, e.length = sz) :
    (es = [] ∧ v = .slice none 0 0) ∨ ∃ (a : Addr) (c : Nat) (news : List Value), v = .slice (some a) es.length c ∧ news.length = es.length * sz ∧ (∀ j u, news[j]? = some u → w.cell? (a.add j) = some u) ∧ Pw (CellOk w F E H) (es.map (·.map A.d)).flatten news := by
  cases h with
  | emp a c h0 =>
    cases a with
    | none => rw [h0 rfl]; exact .inl ⟨rfl, rfl⟩
    | some a => exact .inr ⟨a, c, [], rfl, by simp, (fun j u hu => by simp at hu), Pw.nil⟩
  | row sz' b o cap n _ vs hF hn hcap hmax hsz hc h1 hd =>
    have hsz' : es = [] ∨ sz' = sz := by
      cases es with
      | nil => exact .inl rfl
      | cons e es => exact .inr ((hsz e List.mem_cons_self).symm.trans (hz e List.mem_cons_self))
    have hlen : ∀ l ∈ es.map (·.map A.d), l.length = sz := by
      intro l hl
      obtain ⟨e, he, rfl⟩ := List.mem_map.1 hl
      simp [hz e he]
    refine .inr ⟨⟨b, o, none⟩, cap, (List.range (es.length * sz)).map fun q => vs (q / sz) (q % sz), by rw [hn], by simp, fun j u hu => ?_, ?_⟩
    · simp only [List.getElem?_map, Option.map_eq_some_iff] at hu
      obtain ⟨q, hq, rfl⟩ := hu
      have hj : j < es.length * sz := by
        have := (List.getElem?_eq_some_iff.1 hq).1
        simpa using this
      rw [List.getElem?_range hj] at hq
      obtain rfl := Option.some.inj hq
      have hsp : 0 < sz := by
        rcases Nat.eq_zero_or_pos sz with h0 | h0
        · subst h0; omega
        · exact h0
      have hi : j / sz < es.length := (Nat.div_lt_iff_lt_mul hsp).2 hj
      have he : es[j / sz]? = some es[j / sz] := List.getElem?_eq_getElem hi
      have hm : j % sz < (es[j / sz]).length := by rw [hz _ (List.getElem_mem hi)]; exact Nat.mod_lt _ hsp
      have := hc (j / sz) (j % sz) _ _ he (List.getElem?_eq_getElem hm)
      rw [add_at']
      rcases hsz' with h0 | h0
      · subst h0; simp at hi
      · rw [h0, Nat.mul_comm (j / sz) sz, Nat.div_add_mod] at this
        exact this
    · refine ⟨by rw [flatten_len hlen]; simp, fun q x u hx hu => ?_⟩
      obtain ⟨l, hl1, hl2⟩ := flatten_at hlen q x hx
      simp only [List.getElem?_map, Option.map_eq_some_iff] at hl1
      obtain ⟨e, he, rfl⟩ := hl1
      simp only [List.getElem?_map, Option.map_eq_some_iff] at hl2 hu
      obtain ⟨dd, hdd, rfl⟩ := hl2
      obtain ⟨q', hq', rfl⟩ := hu
      have hql : q < es.length * sz := by
        have := (List.getElem?_eq_some_iff.1 hq').1
        simpa using this
      rw [List.getElem?_range hql] at hq'
      obtain rfl := Option.some.inj hq'
      exact ⟨h1 _ _ e dd he hdd, .d _ _ (hd _ _ e dd he hdd)⟩
end
end Go.Proofs.Ytdjadeegjbhihaa

/- List literals; append. -/
namespace Go.Proofs.Ytdjadeegjbhihaa
open Go

def allCells (σ : St) : List Operand → Option (List (List A))
  | [] => some []
  | x :: xs => match cellsA (aev σ x), allCells σ xs with | some c, some r => some (c :: r) | _, _ => none
theorem fillA_dense {sz : Nat} {σ : St} : ∀ (xs : List Operand) (k : Nat) (es : List (List A)) (cells : List A), allCells σ xs = some es → (∀ e ∈ es, e.length = sz) → (k + xs.length) * sz ≤ cells.length →
    fillA (fun i => some (i * sz, sz)) cells ((xs.zipIdx k).map fun x => (x.2, aev σ x.1)) = some (cells.take (k * sz) ++ es.flatten ++ cells.drop ((k + xs.length) * sz))
  | [], k, es, cells, h, _, _ => by
    obtain rfl := Option.some.inj h
    simp [fillA]
  | x :: xs, k, es, cells, h, hz, hl => by
    simp only [allCells] at h
    split at h
    · rename_i c r hc hr
      obtain rfl := Option.some.inj h
      have hcl : c.length = sz := hz c List.mem_cons_self
      have e0 : (k + (x :: xs).length) * sz = k * sz + sz + xs.length * sz := by rw [List.length_cons, Nat.add_mul, Nat.add_mul]; omega
      rw [e0] at hl ⊢
      rw [List.zipIdx_cons, List.map_cons, fillA]
      simp only [hc]
      rw [if_pos ⟨hcl, by omega⟩]
      have hsl : (setA cells (k * sz) c).length = cells.length := by
        simp only [setA, List.length_append, List.length_take, List.length_drop]
        omega
      have e5 : (k + 1 + xs.length) * sz = k * sz + sz + xs.length * sz := by rw [Nat.add_mul, Nat.add_mul]; omega
      rw [fillA_dense xs (k + 1) r _ hr (fun e he => hz e (List.mem_cons_of_mem _ he)) (by rw [hsl, e5]; omega)]
      have e1 : (k + 1) * sz = k * sz + sz := by rw [Nat.add_mul]; omega
      have hX : (cells.take (k * sz) ++ c).length = k * sz + sz := by rw [List.length_append, List.length_take]; omega
      rw [e5, e1]
      simp only [setA, List.flatten_cons, Option.some.injEq]
      rw [List.take_append_of_le_length (by omega), List.take_of_length_le (by omega), List.drop_append, hX]
      have t2 : (cells.take (k * sz) ++ c).drop (k * sz + sz + xs.length * sz) = [] := List.drop_eq_nil_of_le (by omega)
      have t4 : k * sz + c.length + (k * sz + sz + xs.length * sz - (k * sz + sz)) = k * sz + sz + xs.length * sz := by omega
      rw [t2, List.nil_append, List.drop_drop, t4]
      simp [List.append_assoc]
    · cases h

section
variable {P : Program} {C : Ctx} {ops : Array Oper} {os : List Oper} {cs : List Cert} {σ : St} {K : St → Prop} {d : Nat} {ty : TypeId} {pos : String} {af : Array Edge}

/-- A list literal: the call's own. -/
def rBuildS (i : Nat) (e : TypeId) (sz : Nat) (xs : List Operand) (σ : St) : Option (List V) :=
  match σ.b i, allCells σ xs with
  | .fresh, some es => if ∀ c ∈ es, c.length = sz then some [.a (.own i 0), .b (.own 0 e sz es)] else none
  | _, _ => none
theorem allCells_mask {rd : List Key} : ∀ {xs : List Operand}, (∀ k ∈ xs.flatMap kof, k ∈ rd) → allCells (σ.mask rd) xs = allCells σ xs
  | [], _ => rfl
  | x :: xs, h => by
    simp only [allCells]
    rw [aev_mask fun k hk => h k (by simp [hk]), allCells_mask fun k hk => h k (by simp only [List.flatMap_cons, List.mem_append]; exact .inr hk)]
theorem allCells_len : ∀ {xs : List Operand} {es : List (List A)}, allCells σ xs = some es → es.length = xs.length
  | [], es, h => by obtain rfl := Option.some.inj h; rfl
  | x :: xs, es, h => by
    simp only [allCells] at h
    split at h
    · rename_i c r hc hr
      obtain rfl := Option.some.inj h
      simp [allCells_len hr]
    · cases h
theorem run_buildS {t e : TypeId} {n sz : Nat} {row : Bool} {w : World} {z : Value} {parts : Array (Nat × Value)} {vs : Array Value} (hu : P.underlying t = some (.slice e)) (ht : tyOf P e = some (sz, row)) (hz : (zeroValue e).run P w = .ok z w) (hs : n * sz ≤ 16777216)
    (hf : Instr.fill (fun i => some (i * sz, sz)) ((Array.range (n * sz)).map (fun q => (if n * sz = 0 then #[] else z.cells)[q % (if n * sz = 0 then #[] else z.cells).size]!)) parts.toList = some vs) :
    (Instr.buildSlice t n parts).run P w = .ok (.slice (some ⟨w.heap.size, 0, none⟩) n n) (w.alloc (.cells vs e)) := by
  have hsz' : ¬ (n * sz > 2 ^ 24) := by omega
  unfold Instr.buildSlice
  rw [Sem.run_bind, run_underlying hu, Result.andThen_ok]
  simp only
  rw [Sem.run_bind, run_size ht, Result.andThen_ok]
  simp only [hsz', if_false]
  by_cases h0 : n * sz = 0
  · simp only [h0, if_true] at hf ⊢
    rw [show Array.map (fun q => (#[] : Array Value)[q % (#[] : Array Value).size]!) (Array.range 0) = #[] from by simp] at hf
    simp [hf, newRow, go_sem]
  · simp only [h0, if_false] at hf ⊢
    simp only [Value.cells] at hf
    simp [hf, newRow, hz, go_sem]
theorem ok_buildS {t e : TypeId} {n sz : Nat} {row : Bool} {zs : List Value} {ps : List (Nat × Operand)} (i : Nat) (hu : P.underlying t = some (.slice e)) (ht : tyOf P e = some (sz, row)) (hz : zeroOf P e = some zs) (h1 : zs.all (·.oneCell') = true) (hzl : zs.length = sz)
    (hps : ps = ((ps.map (·.2)).zipIdx.map fun x => (x.2, x.1))) (hn : n = ps.length) (hs : n * sz ≤ 16777216) (hn2 : n ≤ 16777216) :
    OpOk P C ops ⟨some d, .buildSlice t n ps.toArray, ty, pos, af, none⟩ ⟨(ps.map (·.2)).flatMap kof ++ [B i], [T d, B i], behs (rBuildS i e sz (ps.map (·.2))) d⟩ :=
  OpOk.turn rfl (by simp [dstIn]) (fun σ => by unfold rBuildS; rw [bx_mask (by simp), allCells_mask fun k hk => List.mem_append_left _ hk]) fun σ a w F E H K Q us hR hd h hK => by
    unfold rBuildS at h
    split at h
    · rename_i es hb hes
      split at h
      · rename_i hlen
        obtain rfl := Option.some.inj h
        have hel := allCells_len hes
        rw [List.length_map] at hel
        obtain ⟨z, hz1, hz2⟩ := run_zero hz w
        -- the cells that a literal begins with
        obtain ⟨c0, hc0, hc1, hc2⟩ : ∃ c0 : Array Value, c0.size = n * sz ∧ (∀ u ∈ c0.toList, u.oneCell' = true) ∧ c0 = (Array.range (n * sz)).map (fun q => (if n * sz = 0 then #[] else z.cells)[q % (if n * sz = 0 then #[] else z.cells).size]!) := by
          refine ⟨_, by simp, fun u hu => ?_, rfl⟩
          simp only [Array.toList_map, Array.toList_range, List.mem_map, List.mem_range] at hu
          obtain ⟨q, hq, rfl⟩ := hu
          rw [if_neg (by omega)]
          have hzs : z.cells.size = sz := by rw [← hzl, ← hz2]; simp
          have hsp : 0 < sz := by
            rcases Nat.eq_zero_or_pos sz with h0 | h0
            · subst h0; omega
            · exact h0
          have hqs : q % z.cells.size < z.cells.size := Nat.mod_lt _ (by omega)
          have hx : z.cells[q % z.cells.size]! = z.cells[q % z.cells.size] := by simp [hqs]
          rw [hx]
          exact List.all_eq_true.1 h1 _ (by rw [← hz2]; simp)
        have hfa := fillA_dense (σ := σ) (ps.map (·.2)) 0 es (List.replicate (n * sz) .any) hes hlen (by simp [hn])
        have hpw0 : Pw (CellOk w F E H) (List.replicate (n * sz) A.any) c0.toList := ⟨by simp [hc0], fun j a v ha hv => by
          have : a = .any := (List.mem_replicate.1 (List.mem_of_getElem? ha)).2
          rw [this]
          exact ⟨hc1 v (List.mem_of_getElem? hv), .any _⟩⟩
        have hpd : Pw (fun (p : Nat × A) (q : Nat × Value) => p.1 = q.1 ∧ Den w F E H p.2 q.2) (((ps.map (·.2)).zipIdx 0).map fun x => (x.2, aev σ x.1)) (ps.map fun p => (p.1, a.eval p.2)) := by
          have := partsA_den hR ps
          have e : partsA σ ps = ((ps.map (·.2)).zipIdx 0).map fun x => (x.2, aev σ x.1) := by
            unfold partsA
            conv => lhs; rw [hps]
            simp [List.map_map, Function.comp_def]
          rwa [e] at this
        obtain ⟨vs, e1, e2⟩ := fill_den _ _ _ c0 _ hpw0 hpd hfa
        have hsimp : (List.replicate (n * sz) A.any).take (0 * sz) ++ es.flatten ++ (List.replicate (n * sz) A.any).drop ((0 + (ps.map (·.2)).length) * sz) = es.flatten := by
          simp [hn]
        rw [hsimp] at e2
        have hfl := flatten_len hlen
        have hvs : vs.size = n * sz := by have := e2.1; simp only [Array.length_toList] at this; rw [← this, hfl, hel, hn]
        have hrun : (execOp a.eval ⟨some d, .buildSlice t n ps.toArray, ty, pos, af, none⟩).run P w = .ok (.value (.slice (some ⟨w.heap.size, 0, none⟩) n n)) (w.alloc (.cells vs e)) := by
          have hpa : (ps.toArray.map fun (i, x) => (i, a.eval x)).toList = ps.map fun p => (p.1, a.eval p.2) := by simp
          rw [hc2, ← hpa] at e1
          simp only [execOp, Sem.run_bind, run_buildS hu ht hz1 hs e1, Result.andThen_ok, Sem.run_pure]
        unfold Oper.wp
        rw [hrun, Oper.upon_value]
        have hfr := hR.env.box i
        rw [hb] at hfr
        have hset := hR.setown (i := i) (k := 0) (sz := sz) (e := e) (es := es) (v := .slice (some ⟨w.heap.size, 0, none⟩) n n) (xs := vs.toList) (w' := w.alloc (.cells vs e)) (fun b hbk => by rw [hb] at hbk; cases hbk) (fun q _ => hfr.2 q) (World.grownBy_alloc w _ _)
          (by
            have := World.ownsRow_lit (base := 0) (e := e) (size := sz) w vs n (Nat.zero_le _) (by unfold maxLen; omega) hvs
            rw [hel, ← hn]
            exact this) hlen e2 (.inr (.inr rfl))
        refine hK _ _ ?_
        exact (RelE.put (d := d) (r := .own i 0) hset hd (.own i 0 _ (upd2_same _ _ _ _) rfl)).r
      · cases h
    · cases h
theorem Wk.lst {t e : TypeId} {n : Nat} {ps : List (Nat × Operand)} (i sz : Nat) (row : Bool) (zs : List Value) {es : List (List A)} (hu : P.underlying t = some (.slice e)) (ht : tyOf P e = some (sz, row)) (hz : zeroOf P e = some zs) (h1 : zs.all (·.oneCell') = true) (hzl : zs.length = sz)
    (hps : ps = ((ps.map (·.2)).zipIdx.map fun x => (x.2, x.1))) (hn : n = ps.length) (hs : n * sz ≤ 16777216) (hn2 : n ≤ 16777216) (hb : σ.b i = .fresh) (hes : allCells σ (ps.map (·.2)) = some es) (hlen : ∀ c ∈ es, c.length = sz) (hd : d < σ.n)
    (h : Wk P C ops os cs ((σ.put (T d) (.a (.own i 0))).put (B i) (.b (.own 0 e sz es))) K) :
    Wk P C ops (⟨some d, .buildSlice t n ps.toArray, ty, pos, af, none⟩ :: os) (⟨(ps.map (·.2)).flatMap kof ++ [B i], [T d, B i], behs (rBuildS i e sz (ps.map (·.2))) d⟩ :: cs) σ K :=
  Wk.turn (ok_buildS i hu ht hz h1 hzl hps hn hs hn2) [.a (.own i 0), .b (.own 0 e sz es)] hd (by simp only [rBuildS, hb, hes]; rw [if_pos hlen]) h

/-! append -/
/-- The list that is appended to: nothing yet, or the call's own. -/
def dest (σ : St) (s : Operand) (i : Nat) : Option (Nat × List (List A)) :=
  match aev σ s, σ.b i with
  | .d (.v (.slice none 0 0)), .fresh => some (0, [])
  | .own i' k', .own k _ _ es => if i' = i ∧ k' = k then some (k + 1, es) else none
  | _, _ => none
/-- What is appended: a list that nobody turns, or the call's own. -/
def srcA (σ : St) (x : Operand) (j : Nat) : Option (List (List A)) :=
  match asRow (aev σ x) with
  | some ds => some (ds.map (·.map A.d))
  | none => match aev σ x, σ.b j with
    | .own j' k', .own k _ _ es => if j' = j ∧ k' = k then some es else none
    | _, _ => none
def sameRow (i : Nat) (e : TypeId) (sz : Nat) (σ : St) : Bool := match σ.b i with | .own _ e' sz' _ => e' == e && sz' == sz | _ => true
def rAppend (s x : Operand) (i j : Nat) (e : TypeId) (sz : Nat) (σ : St) : Option (List V) :=
  match dest σ s i, srcA σ x j with
  | some (k, es), some fs => if sameRow i e sz σ = true ∧ sameRow j e sz σ = true ∧ i ≠ j ∧ (∀ c ∈ fs, c.length = sz) ∧ (∀ c ∈ es, c.length = sz) ∧ es.length + fs.length ≤ 1000000 then some [.a (.own i k), .b (.own k e sz (es ++ fs))] else none
  | _, _ => none

theorem srcA_cells {a : Act} {w : World} {F : Nat → Prop} {E : Nat → Option Nat} {H : Nat → Nat → Option Value} {x : Operand} {i j : Nat} {e : TypeId} {sz : Nat} {fs : List (List A)} (hR : RelE C σ a w F E H) (h : srcA σ x j = some fs) (hz : ∀ c ∈ fs, c.length = sz) (hs : sameRow j e sz σ = true) (_hij : i ≠ j) :
    (fs = [] ∧ a.eval x = .slice none 0 0) ∨ ∃ (ad : Addr) (c : Nat) (news : List Value), a.eval x = .slice (some ad) fs.length c ∧ news.length = fs.length * sz ∧ (∀ q u, news[q]? = some u → w.cell? (ad.add q) = some u) ∧ Pw (CellOk w F E H) fs.flatten news := by
  unfold srcA at h
  split at h
  · rename_i ds hds
    obtain rfl := Option.some.inj h
    have hrow := den_asRow hds (hR.ev x)
    have hz' : ∀ e ∈ ds, e.length = sz := fun e he => by
      have := hz (e.map A.d) (List.mem_map.2 ⟨e, he, rfl⟩)
      simpa using this
    rcases row_cells (H := H) (E := E) hrow hz' with ⟨h1, h2⟩ | ⟨ad, c, news, h1, h2, h3, h4⟩
    · exact .inl ⟨by simp [h1], h2⟩
    · exact .inr ⟨ad, c, news, by simpa using h1, by simpa using h2, h3, h4⟩
  · split at h
    · rename_i j' k' k e' sz' es he hb
      split at h
      · rename_i hc
        obtain ⟨rfl, rfl⟩ := hc
        obtain rfl := Option.some.inj h
        have hbox := hR.env.box j'
        rw [hb] at hbox
        obtain ⟨v, xs, hv, _, ho, hzz, hp⟩ := hbox
        have hd := hR.ev x
        rw [he] at hd
        have hx : a.eval x = v := by
          have := den_own hd
          rw [hv] at this
          exact (Option.some.inj this).symm
        have hsz : sz' = sz := by simp only [sameRow, hb, Bool.and_eq_true, beq_iff_eq] at hs; exact hs.2
        subst hsz
        rcases ho.2 with ⟨h1, h2⟩ | ⟨g, cap, cur, h1, _⟩
        · exact .inl ⟨List.length_eq_zero_iff.1 h2, by rw [hx, h1]⟩
        · refine .inr ⟨⟨g, 0, none⟩, cap, xs, by rw [hx, h1], ho.1, fun q u hq => ?_, hp⟩
          exact ho.cells (g := g) (by rw [h1]; rfl) q u hq
      · cases h
    · cases h

theorem ok_append {t e : TypeId} {s x : Operand} {sz : Nat} {ti : TypeInfo} {z : Value} (i j : Nat) (hu : P.underlying t = some (.slice e)) (hi : P.info? e = some ti) (hz : ti.zero = some z) (hsz : ti.size = sz) (hzs : z.cells.size = sz) (hpos : 0 < sz) (hby : ti.bytes ≤ 100000000) :
    OpOk P C ops ⟨some d, .call { callee := .builtin .append, args := #[s, x], argTypes := #[t, t] }, ty, pos, af, none⟩ ⟨kof s ++ (kof x ++ [B i, B j]), [T d, B i], behs (rAppend s x i j e sz) d⟩ :=
  OpOk.turn rfl (by simp [dstIn]) (fun σ => by
    have e1 : aev (σ.mask (kof s ++ (kof x ++ [B i, B j]))) s = aev σ s := aev_mask fun k h => List.mem_append_left _ h
    have e2 : aev (σ.mask (kof s ++ (kof x ++ [B i, B j]))) x = aev σ x := aev_mask fun k h => List.mem_append_right _ (List.mem_append_left _ h)
    have e3 : (σ.mask (kof s ++ (kof x ++ [B i, B j]))).b i = σ.b i := bx_mask (by simp)
    have e4 : (σ.mask (kof s ++ (kof x ++ [B i, B j]))).b j = σ.b j := bx_mask (by simp)
    unfold rAppend dest srcA sameRow
    rw [e1, e2, e3, e4]) fun σ a w F E H K Q us hR hd h hK => by
    unfold rAppend at h
    split at h
    · rename_i k es fs hdst hsrc
      split at h
      · rename_i hc
        obtain ⟨hsi, hsj, hij, hfz, hez, hlen⟩ := hc
        obtain rfl := Option.some.inj h
        -- what is appended to
        obtain ⟨v, xs, hv, hown, hpx, hH, hbk⟩ : ∃ v xs, a.eval s = v ∧ w.ownsRow 0 e sz v es.length xs ∧ Pw (CellOk w F E H) es.flatten xs ∧ (∀ q, k ≤ q → H i q = none) ∧ v.ownBlock = blk E H i (σ.b i) := by
          unfold dest at hdst
          split at hdst
          · rename_i he hb
            simp only [Option.some.injEq, Prod.mk.injEq] at hdst
            obtain ⟨rfl, rfl⟩ := hdst
            have hds := hR.ev s
            rw [he] at hds
            have hbox := hR.env.box i
            rw [hb] at hbox
            exact ⟨_, [], den_v hds, World.ownsRow_nil w 0 e sz, Pw.nil, fun q _ => hbox.2 q, by rw [hb]; rfl⟩
          · rename_i i' k' k0 e' sz' es' he hb
            split at hdst
            · rename_i hc
              obtain ⟨rfl, rfl⟩ := hc
              simp only [Option.some.injEq, Prod.mk.injEq] at hdst
              obtain ⟨rfl, rfl⟩ := hdst
              have hbox := hR.env.box i'
              rw [hb] at hbox
              obtain ⟨v, xs, hv, hk, ho, hzz, hp⟩ := hbox
              have hds := hR.ev s
              rw [he] at hds
              have hx : a.eval s = v := by
                have := den_own hds
                rw [hv] at this
                exact (Option.some.inj this).symm
              simp only [sameRow, hb, Bool.and_eq_true, beq_iff_eq] at hsi
              obtain ⟨rfl, rfl⟩ := hsi
              exact ⟨v, xs, hx, ho, hp, fun q hq => hk q (by omega), by rw [hb]; simp only [blk, hv, Option.bind_some]⟩
            · cases hdst
          · cases hdst
        have hall : ∀ c ∈ es ++ fs, c.length = sz := fun c hc => by
          rcases List.mem_append.1 hc with h | h
          · exact hez c h
          · exact hfz c h
        have fin : ∀ v' w' news, (Builtin.append_ #[t, t] ty #[a.eval s, a.eval x]).run P w = .ok v' w' → w'.ownsRow 0 e sz v' (es.length + fs.length) (xs ++ news) → w.grownBy w' v.ownBlock → (v'.ownBlock = v.ownBlock ∨ v'.ownBlock = some w.heap.size) → v'.oneCell' = true → Pw (CellOk w F E H) fs.flatten news →
            Oper.wp P ⟨some d, .call { callee := .builtin .append, args := #[s, x], argTypes := #[t, t] }, ty, pos, af, none⟩ a w K Q := by
          intro v' w' news hrun ho hg hat h1 hpn
          have hset := hR.setown (i := i) (k := k) (sz := sz) (e := e) (es := es ++ fs) (v := v') (xs := xs ++ news) (w' := w') (fun b hb => (hR.env.box i).lt hb) hH (by rw [← hbk]; exact hg) (by rw [List.length_append]; exact ho) hall (by rw [List.flatten_append]; exact hpx.append hpn)
            (by rcases hat with h | h
                · exact .inr (.inl (by rw [h, hbk]))
                · exact .inr (.inr h))
          unfold Oper.wp
          have hex : (execOp a.eval ⟨some d, .call { callee := .builtin .append, args := #[s, x], argTypes := #[t, t] }, ty, pos, af, none⟩).run P w = .ok (.value v') w' := by
            simp only [execOp, resolve, invoke, builtin, Sem.run_bind, Sem.run_pure, Result.andThen_ok, List.map_toArray, List.map_cons, List.map_nil, hrun]
          rw [hex, Oper.upon_value]
          refine hK _ _ ?_
          exact (RelE.put (d := d) (r := .own i k) hset hd (.own i k _ (upd2_same _ _ _ _) h1)).r
        rcases srcA_cells (i := i) hR hsrc hfz hsj hij with ⟨h1, h2⟩ | ⟨ad, c, news, h1, h2, h3, h4⟩
        · subst h1
          have hr := run_append_owned_none (P := P) (w := w) 0 t ty e ti sz hu hi v es.length xs hown
          refine fin v w [] (by rw [hv, h2]; exact hr) (by simpa using hown) ⟨rfl, rfl, rfl, Nat.le_refl _, fun _ _ _ => rfl⟩ (.inl rfl) ?_ Pw.nil
          rcases hown.2 with ⟨h, _⟩ | ⟨g, cap, cur, h, _⟩ <;> rw [h] <;> rfl
        · obtain ⟨v', w', hr, ho, hg, _, hat⟩ := run_append_own_at (P := P) w 0 t ty e ti z sz ti.bytes hu hi hz hsz rfl hzs hpos v es.length xs hown ad fs.length c news h2 h3 (h4.all fun _ _ h => h.1) (by unfold maxLen; omega)
            (by
              have h5 : (es.length + fs.length) * ti.bytes ≤ 1000000 * 100000000 := Nat.mul_le_mul hlen hby
              omega) (Nat.zero_le _)
          refine fin v' w' news (by rw [hv, h1]; exact hr) ho hg hat ?_ h4
          rcases ho.2 with ⟨h, _⟩ | ⟨g, cap, cur, h, _⟩ <;> rw [h] <;> rfl
      · cases h
    · cases h
/-- A type of which lists may grow. -/
def appOf (P : Program) (e : TypeId) (sz : Nat) : Bool := match P.info? e with
  | some i => (match i.zero with | some z => z.cells.size == sz | none => false) && i.size == sz && decide (0 < sz) && decide (i.bytes ≤ 100000000)
  | none => false
theorem ok_app {t e : TypeId} {s x : Operand} {sz : Nat} (i j : Nat) (hu : P.underlying t = some (.slice e)) (ha : appOf P e sz = true) :
    OpOk P C ops ⟨some d, .call { callee := .builtin .append, args := #[s, x], argTypes := #[t, t] }, ty, pos, af, none⟩ ⟨kof s ++ (kof x ++ [B i, B j]), [T d, B i], behs (rAppend s x i j e sz) d⟩ := by
  unfold appOf at ha
  split at ha
  · rename_i ti hi
    simp only [Bool.and_eq_true, beq_iff_eq, decide_eq_true_eq] at ha
    obtain ⟨⟨⟨h1, h2⟩, h3⟩, h4⟩ := ha
    split at h1
    · rename_i z hz
      exact ok_append i j hu hi hz h2 (by simpa using h1) h3 h4
    · cases h1
  · cases ha
theorem all_len {α : Type} {es : List (List α)} {sz : Nat} (h : es.all (fun c => c.length == sz) = true) : ∀ c ∈ es, c.length = sz := fun c hc => by simpa using List.all_eq_true.1 h c hc
theorem Wk.app {t e : TypeId} {s x : Operand} (i j sz : Nat) (hu : P.underlying t = some (.slice e)) (ha : appOf P e sz = true)
    {k : Nat} {es fs : List (List A)} (hdst : dest σ s i = some (k, es)) (hsrc : srcA σ x j = some fs) (hc : sameRow i e sz σ = true ∧ sameRow j e sz σ = true ∧ i ≠ j ∧ (∀ c ∈ fs, c.length = sz) ∧ (∀ c ∈ es, c.length = sz) ∧ es.length + fs.length ≤ 1000000) (hd : d < σ.n)
    (h : Wk P C ops os cs ((σ.put (T d) (.a (.own i k))).put (B i) (.b (.own k e sz (es ++ fs)))) K) :
    Wk P C ops (⟨some d, .call { callee := .builtin .append, args := #[s, x], argTypes := #[t, t] }, ty, pos, af, none⟩ :: os) (⟨kof s ++ (kof x ++ [B i, B j]), [T d, B i], behs (rAppend s x i j e sz) d⟩ :: cs) σ K :=
  Wk.turn (ok_app i j hu ha) [.a (.own i k), .b (.own k e sz (es ++ fs))] hd (by simp only [rAppend, hdst, hsrc]; rw [if_pos hc]) h
section
variable {t e : TypeId} {s x : Operand}
theorem Wk.appOO (i j sz : Nat) (hu : P.underlying t = some (.slice e)) (ha : appOf P e sz = true) {k q : Nat} {es fs : List (List A)} (hs : aev σ s = .own i k) (hb : σ.b i = .own k e sz es) (hx : aev σ x = .own j q) (hbj : σ.b j = .own q e sz fs) (hij : i ≠ j)
    (hfz : ∀ c ∈ fs, c.length = sz) (hez : ∀ c ∈ es, c.length = sz) (hl : es.length + fs.length ≤ 1000000) (hd : d < σ.n) (h : Wk P C ops os cs ((σ.put (T d) (.a (.own i (k + 1)))).put (B i) (.b (.own (k + 1) e sz (es ++ fs)))) K) :
    Wk P C ops (⟨some d, .call { callee := .builtin .append, args := #[s, x], argTypes := #[t, t] }, ty, pos, af, none⟩ :: os) (⟨kof s ++ (kof x ++ [B i, B j]), [T d, B i], behs (rAppend s x i j e sz) d⟩ :: cs) σ K :=
  Wk.app i j sz hu ha (k := k + 1) (es := es) (fs := fs) (by simp only [dest, hs, hb]; rw [if_pos ⟨trivial, trivial⟩]) (by simp only [srcA, hx, asRow, hbj]; rw [if_pos ⟨trivial, trivial⟩])
    ⟨by simp [sameRow, hb], by simp [sameRow, hbj], hij, hfz, hez, hl⟩ hd h
theorem Wk.appOR (i j sz : Nat) (hu : P.underlying t = some (.slice e)) (ha : appOf P e sz = true) {k : Nat} {es : List (List A)} {ds : List (List D)} (hs : aev σ s = .own i k) (hb : σ.b i = .own k e sz es) (hx : asRow (aev σ x) = some ds) (hbj : σ.b j = .none ∨ σ.b j = .fresh) (hij : i ≠ j)
    (hfz : ∀ c ∈ ds, c.length = sz) (hez : ∀ c ∈ es, c.length = sz) (hl : es.length + ds.length ≤ 1000000) (hd : d < σ.n) (h : Wk P C ops os cs ((σ.put (T d) (.a (.own i (k + 1)))).put (B i) (.b (.own (k + 1) e sz (es ++ ds.map (·.map A.d))))) K) :
    Wk P C ops (⟨some d, .call { callee := .builtin .append, args := #[s, x], argTypes := #[t, t] }, ty, pos, af, none⟩ :: os) (⟨kof s ++ (kof x ++ [B i, B j]), [T d, B i], behs (rAppend s x i j e sz) d⟩ :: cs) σ K :=
  Wk.app i j sz hu ha (k := k + 1) (es := es) (fs := ds.map (·.map A.d)) (by simp only [dest, hs, hb]; rw [if_pos ⟨trivial, trivial⟩]) (by simp only [srcA, hx])
    ⟨by simp [sameRow, hb], by rcases hbj with h | h <;> simp [sameRow, h], hij, fun c hc => by obtain ⟨q, hq, rfl⟩ := List.mem_map.1 hc; simp [hfz q hq], hez, by simpa using hl⟩ hd h
theorem Wk.appNR (i j sz : Nat) (hu : P.underlying t = some (.slice e)) (ha : appOf P e sz = true) {ds : List (List D)} (hs : aev σ s = .d (.v (.slice none 0 0))) (hb : σ.b i = .fresh) (hx : asRow (aev σ x) = some ds) (hbj : σ.b j = .none ∨ σ.b j = .fresh) (hij : i ≠ j)
    (hfz : ∀ c ∈ ds, c.length = sz) (hl : ds.length ≤ 1000000) (hd : d < σ.n) (h : Wk P C ops os cs ((σ.put (T d) (.a (.own i 0))).put (B i) (.b (.own 0 e sz (ds.map (·.map A.d))))) K) :
    Wk P C ops (⟨some d, .call { callee := .builtin .append, args := #[s, x], argTypes := #[t, t] }, ty, pos, af, none⟩ :: os) (⟨kof s ++ (kof x ++ [B i, B j]), [T d, B i], behs (rAppend s x i j e sz) d⟩ :: cs) σ K :=
  Wk.app i j sz hu ha (k := 0) (es := []) (fs := ds.map (·.map A.d)) (by simp only [dest, hs, hb]) (by simp only [srcA, hx])
    ⟨by simp [sameRow, hb], by rcases hbj with h | h <;> simp [sameRow, h], hij, fun c hc => by obtain ⟨q, hq, rfl⟩ := List.mem_map.1 hc; simp [hfz q hq], (fun c hc => by cases hc), by simpa using hl⟩ hd (by simpa using h)
theorem Wk.appNO (i j sz : Nat) (hu : P.underlying t = some (.slice e)) (ha : appOf P e sz = true) {k : Nat} {fs : List (List A)} (hs : aev σ s = .d (.v (.slice none 0 0))) (hb : σ.b i = .fresh) (hx : aev σ x = .own j k) (hbj : σ.b j = .own k e sz fs) (hij : i ≠ j)
    (hfz : ∀ c ∈ fs, c.length = sz) (hl : fs.length ≤ 1000000) (hd : d < σ.n) (h : Wk P C ops os cs ((σ.put (T d) (.a (.own i 0))).put (B i) (.b (.own 0 e sz fs))) K) :
    Wk P C ops (⟨some d, .call { callee := .builtin .append, args := #[s, x], argTypes := #[t, t] }, ty, pos, af, none⟩ :: os) (⟨kof s ++ (kof x ++ [B i, B j]), [T d, B i], behs (rAppend s x i j e sz) d⟩ :: cs) σ K :=
  Wk.app i j sz hu ha (k := 0) (es := []) (fs := fs) (by simp only [dest, hs, hb]) (by simp only [srcA, hx, asRow, hbj]; rw [if_pos ⟨trivial, trivial⟩])
    ⟨by simp [sameRow, hb], by simp [sameRow, hbj], hij, hfz, (fun c hc => by cases hc), by simpa using hl⟩ hd (by simpa using h)
end
end
end Go.Proofs.Ytdjadeegjbhihaa

/- Elements of a call's own lists; a call's own list is read by itself from then on. -/
namespace Go.Proofs.Ytdjadeegjbhihaa
open Go

section
variable {P : Program} {C : Ctx} {ops : Array Oper} {os : List Oper} {cs : List Cert} {σ : St} {K : St → Prop} {d : Nat} {ty : TypeId} {pos : String} {af : Array Edge}

/-- An element's address in the call's own list. -/
def rIAddrO (x y : Operand) (i sz : Nat) (σ : St) : Option A :=
  match aev σ x, aev σ y, σ.b i with
  | .own i' k', .d (.v (.int _ q)), .own k _ sz' es => if i' = i ∧ k' = k ∧ sz' = sz ∧ 0 ≤ q ∧ q < es.length then some (.optr i k (q.toNat * sz)) else none
  | _, _, _ => none
theorem ok_iaddro {xt e : TypeId} {x y : Operand} (i : Nat) {sz : Nat} {row : Bool} (hu : P.underlying xt = some (.slice e)) (ht : tyOf P e = some (sz, row)) :
    OpOk P C ops ⟨some d, .indexAddr xt x y, ty, pos, af, none⟩ ⟨kof x ++ (kof y ++ [B i]), [T d], beh1 (rIAddrO x y i sz) d⟩ :=
  OpOk.read rfl rfl (fun σ => by unfold rIAddrO; rw [aev_mask (fun k h => List.mem_append_left _ h), aev_mask (fun k h => List.mem_append_right _ (List.mem_append_left _ h)), bx_mask (by simp)]) fun σ a w F E H r hR h => by
    unfold rIAddrO at h
    split at h
    · rename_i i' k' kd q k e' sz' es he hq hb
      split at h
      · rename_i hc
        obtain ⟨rfl, rfl, rfl, h0, hlt⟩ := hc
        obtain rfl := Option.some.inj h
        have hbox := hR.env.box i'
        rw [hb] at hbox
        obtain ⟨v, xs, hv, _, ho, hzz, hp⟩ := hbox
        have hd := hR.ev x
        rw [he] at hd
        have hx : a.eval x = v := by
          have := den_own hd
          rw [hv] at this
          exact (Option.some.inj this).symm
        have hd2 := hR.ev y
        rw [hq] at hd2
        have e2 := den_v hd2
        rcases ho.2 with ⟨_, h2⟩ | ⟨g, cap, cur, h1, _⟩
        · omega
        · subst h1
          refine ⟨.pointer (some ⟨g, q.toNat * sz', none⟩), ?_, .optr i' k' _ g _ _ hv⟩
          have hin : 0 ≤ q ∧ q < (es.length : Int) := ⟨h0, hlt⟩
          simp [execOp, hx, e2, Instr.indexAt, asIntOf, run_underlying hu, run_size ht, hin, add_at']
      · cases h
    · cases h
theorem Wk.iado {xt e : TypeId} {x y : Operand} {e' : TypeId} (i sz : Nat) (row : Bool) {kd : IntKind} {k q : Nat} {es : List (List A)} (hu : P.underlying xt = some (.slice e)) (ht : tyOf P e = some (sz, row)) (hx : aev σ x = .own i k) (hy : aev σ y = .d (.v (.int kd (q : Int))))
    (hb : σ.b i = .own k e' sz es) (hq : q < es.length) (hd : d < σ.n) (h : Wk P C ops os cs (σ.put (T d) (.a (.optr i k (q * sz)))) K) :
    Wk P C ops (⟨some d, .indexAddr xt x y, ty, pos, af, none⟩ :: os) (⟨kof x ++ (kof y ++ [B i]), [T d], beh1 (rIAddrO x y i sz) d⟩ :: cs) σ K :=
  Wk.read (ok_iaddro i hu ht) _ hd (by simp only [rIAddrO, hx, hy, hb]; rw [if_pos ⟨trivial, trivial, trivial, by omega, by omega⟩]; simp) h

/-- A load out of the call's own list. -/
def rLoadO (x : Operand) (i n : Nat) (row : Bool) (σ : St) : Option A :=
  match aev σ x, σ.b i with
  | .optr i' k' o, .own k _ _ es => if i' = i ∧ k' = k then partA es.flatten o n row else none
  | _, _ => none
theorem ok_loado {t : TypeId} {x : Operand} (i : Nat) {n : Nat} {row : Bool} (ht : tyOf P t = some (n, row)) :
    OpOk P C ops ⟨some d, .load t x, ty, pos, af, none⟩ ⟨kof x ++ [B i], [T d], beh1 (rLoadO x i n row) d⟩ :=
  OpOk.read rfl rfl (fun σ => by unfold rLoadO; rw [aev_mask (fun k h => List.mem_append_left _ h), bx_mask (by simp)]) fun σ a w F E H r hR h => by
    unfold rLoadO at h
    split at h
    · rename_i i' k' o k e sz es he hb
      split at h
      · rename_i hc
        obtain ⟨rfl, rfl⟩ := hc
        have hbox := hR.env.box i'
        rw [hb] at hbox
        obtain ⟨v, xs, hv, _, ho, hzz, hp⟩ := hbox
        have hd := hR.ev x
        rw [he] at hd
        obtain ⟨b, m, c, hH, hx⟩ := den_optr hd
        rw [hv] at hH
        obtain rfl := Option.some.inj hH
        obtain ⟨u, h1, h2⟩ := run_load_cells (b := b) (o := 0) ht hp (fun j q hj => by
          have := ho.cells (g := b) rfl j q hj
          rw [add_at'] at this
          exact this) h
        rw [Nat.zero_add] at h1
        exact ⟨u, by simp [execOp, hx, Instr.loadAt, Instr.sureAddr, h1], h2⟩
      · cases h
    · cases h
theorem Wk.ldo {t : TypeId} {x : Operand} {i k o : Nat} {e : TypeId} {sz : Nat} {es : List (List A)} (n : Nat) (row : Bool) (ht : tyOf P t = some (n, row)) {r : A} (hx : aev σ x = .optr i k o) (hb : σ.b i = .own k e sz es) (hr : partA es.flatten o n row = some r) (hd : d < σ.n)
    (h : Wk P C ops os cs (σ.put (T d) (.a r)) K) : Wk P C ops (⟨some d, .load t x, ty, pos, af, none⟩ :: os) (⟨kof x ++ [B i], [T d], beh1 (rLoadO x i n row) d⟩ :: cs) σ K :=
  Wk.read (ok_loado i ht) r hd (by simp only [rLoadO, hx, hb]; rw [if_pos ⟨trivial, trivial⟩]; exact hr) h

/-- How many elements the call's own list has. -/
def rLenO (x : Operand) (i : Nat) (σ : St) : Option A := match aev σ x, σ.b i with | .own i' k', .own k _ _ es => if i' = i ∧ k' = k then some (.d (.v (.int .i64 (es.length : Int)))) else none | _, _ => none
theorem ok_leno {t e : TypeId} {x : Operand} (i : Nat) (hu : P.underlying t = some (.slice e)) :
    OpOk P C ops ⟨some d, .call { callee := .builtin .len, args := #[x], argTypes := #[t] }, ty, pos, af, none⟩ ⟨kof x ++ [B i], [T d], beh1 (rLenO x i) d⟩ :=
  OpOk.read rfl rfl (fun σ => by unfold rLenO; rw [aev_mask (fun k h => List.mem_append_left _ h), bx_mask (by simp)]) fun σ a w F E H r hR h => by
    unfold rLenO at h
    split at h
    · rename_i i' k' k e' sz es he hb
      split at h
      · rename_i hc
        obtain ⟨rfl, rfl⟩ := hc
        obtain rfl := Option.some.inj h
        have hbox := hR.env.box i'
        rw [hb] at hbox
        obtain ⟨v, xs, hv, _, ho, hzz, hp⟩ := hbox
        have hd := hR.ev x
        rw [he] at hd
        have hx : a.eval x = v := by
          have := den_own hd
          rw [hv] at this
          exact (Option.some.inj this).symm
        refine ⟨.int .i64 (es.length : Int), ?_, .d _ _ (.v _)⟩
        rcases ho.2 with ⟨h1, h2⟩ | ⟨g, cap, cur, h1, _⟩
        · simp [execOp, resolve, invoke, builtin, hx, h1, Builtin.len_, run_underlying hu, goInt, h2]
        · simp [execOp, resolve, invoke, builtin, hx, h1, Builtin.len_, run_underlying hu, goInt]
      · cases h
    · cases h
theorem Wk.leno {t e : TypeId} {x : Operand} {i k : Nat} {e' : TypeId} {sz : Nat} {es : List (List A)} (hu : P.underlying t = some (.slice e)) (hx : aev σ x = .own i k) (hb : σ.b i = .own k e' sz es) (hd : d < σ.n) (h : Wk P C ops os cs (σ.put (T d) (.a (.d (.v (.int .i64 (es.length : Int)))))) K) :
    Wk P C ops (⟨some d, .call { callee := .builtin .len, args := #[x], argTypes := #[t] }, ty, pos, af, none⟩ :: os) (⟨kof x ++ [B i], [T d], beh1 (rLenO x i) d⟩ :: cs) σ K :=
  Wk.read (ok_leno i hu) _ hd (by simp only [rLenO, hx, hb]; rw [if_pos ⟨trivial, trivial⟩]) h
end

/-! A list of the call's own that nobody turns any more. -/
section
variable {P : Program} {C : Ctx} {c c' : Code} {Q : Exit → St → Prop} {σ : St}
/-- The elements of a list read as data. -/
def asData (es : List (List A)) (ds : List (List D)) : Prop := es.map nrms = ds.map (·.map A.d)
theorem nrm_cell {w : World} {F : Nat → Prop} {E : Nat → Option Nat} {H : Nat → Nat → Option Value} : ∀ {aas : List A} {vs : List Value}, Pw (CellOk w F E H) aas vs → Pw (CellOk w F E H) (nrms aas) vs := by
  intro aas vs h
  refine ⟨by rw [nrms_length]; exact h.1, fun j a v ha hv => ?_⟩
  obtain ⟨b, hb, rfl⟩ := nrms_get ha
  have := h.2 j b v hb hv
  exact ⟨this.1, this.2.nrm⟩
theorem nrms_append : ∀ (aas bs : List A), nrms (aas ++ bs) = nrms aas ++ nrms bs
  | [], bs => rfl
  | a :: aas, bs => by simp [nrms, nrms_append aas bs]
theorem nrms_flatten : ∀ (es : List (List A)), nrms es.flatten = (es.map nrms).flatten
  | [] => rfl
  | e :: es => by rw [List.flatten_cons, nrms_append, nrms_flatten es]; rfl
theorem own_rowA {w : World} {F : Nat → Prop} {E : Nat → Option Nat} {H : Nat → Nat → Option Value} {e : TypeId} {sz : Nat} {es : List (List A)} {ds : List (List D)} {v : Value} {xs : List Value} (ho : w.ownsRow 0 e sz v es.length xs) (hz : ∀ c ∈ es, c.length = sz) (hp : Pw (CellOk w F E H) es.flatten xs) (hd : asData es ds) :
    FDen w (fun b => F b ∨ v.ownBlock = some b) (.row ds) v := by
  have hlen : es.length = ds.length := by have := congrArg List.length hd; simpa using this
  have hz' : ∀ l ∈ ds, l.length = sz := fun l hl => by
    have : l.map A.d ∈ es.map nrms := by rw [hd]; exact List.mem_map.2 ⟨l, hl, rfl⟩
    obtain ⟨c, hc, hcl⟩ := List.mem_map.1 this
    have h1 := congrArg List.length hcl
    rw [nrms_length, List.length_map, hz c hc] at h1
    exact h1.symm
  have hpn : Pw (CellOk w F E H) (ds.map (·.map A.d)).flatten xs := by
    have := nrm_cell hp
    rwa [nrms_flatten, hd] at this
  rcases ho.2 with ⟨h1, h2⟩ | ⟨g, cap, cur, h1, _, hg, hnc, hm, hcs, htake⟩
  · have : ds = [] := List.length_eq_zero_iff.1 (by omega)
    rw [this, h1]
    exact .nil
  · have hcell : ∀ j u, xs[j]? = some u → w.cell? ⟨g, j, none⟩ = some u := fun j u hj => by
      have := ho.cells (g := g) (by rw [h1]; rfl) j u hj
      rwa [add_at', Nat.zero_add] at this
    have key : ∀ i j l x, ds[i]? = some l → l[j]? = some x → ∃ u, xs[i * sz + j]? = some u ∧ CellOk w F E H (.d x) u := by
      intro i j l x hl hx
      have hi := (List.getElem?_eq_some_iff.1 hl).1
      have hjl := (List.getElem?_eq_some_iff.1 hx).1
      have hll := hz' l (List.mem_of_getElem? hl)
      have hm2 : ∀ m ∈ ds.map (·.map A.d), m.length = sz := fun m hm => by
        obtain ⟨q, hq, rfl⟩ := List.mem_map.1 hm
        simp [hz' q hq]
      have hfl := flatten_len hm2
      rw [List.length_map] at hfl
      have hlt : i * sz + j < (ds.map (·.map A.d)).flatten.length := by
        rw [hfl]
        have : (i + 1) * sz ≤ ds.length * sz := Nat.mul_le_mul_right _ hi
        rw [Nat.add_mul] at this
        omega
      obtain ⟨m, h1, h2⟩ := flatten_at hm2 (i * sz + j) _ (List.getElem?_eq_getElem hlt)
      have hsp : 0 < sz := by omega
      have e1 : (i * sz + j) / sz = i := by rw [Nat.add_comm, Nat.add_mul_div_right _ _ hsp, Nat.div_eq_of_lt (by omega)]; omega
      have e2 : (i * sz + j) % sz = j := by rw [Nat.add_comm, Nat.add_mul_mod_self_right, Nat.mod_eq_of_lt (by omega)]
      rw [e1] at h1
      rw [e2] at h2
      simp only [List.getElem?_map, hl, Option.map_some, Option.some.injEq] at h1
      subst h1
      simp only [List.getElem?_map, hx, Option.map_some, Option.some.injEq] at h2
      obtain ⟨u, hu, hc⟩ := hpn.get (List.getElem?_eq_getElem hlt)
      exact ⟨u, hu, h2 ▸ hc⟩
    rw [h1]
    refine .row sz g 0 cap es.length ds (fun i j => xs.getD (i * sz + j) undef) (.inr (by rfl)) hlen.symm hnc hm hz' (fun i j l x hl hx => ?_) (fun i j l x hl hx => ?_) (fun i j l x hl hx => ?_)
    · obtain ⟨u, hu, _⟩ := key i j l x hl hx
      rw [Nat.zero_add, hcell _ u hu]
      simp [List.getD_eq_getElem?_getD, hu]
    · obtain ⟨u, hu, hc⟩ := key i j l x hl hx
      simpa [List.getD_eq_getElem?_getD, hu] using hc.1
    · obtain ⟨u, hu, hc⟩ := key i j l x hl hx
      have := (den_d hc.2).mono (F' := fun b => F b ∨ (Value.slice (some ⟨g, 0, none⟩) es.length cap).ownBlock = some b) (w' := w) (fun b hb => .inl hb) (fun _ _ => rfl)
      simpa [List.getD_eq_getElem?_getD, hu] using this

/-- The list that slot t holds is read by itself from now on. -/
theorem Rel.thaw {t i k : Nat} {e : TypeId} {sz : Nat} {es : List (List A)} (ds : List (List D)) (ht : σ.t t = .own i k) (hb : σ.b i = .own k e sz es) (hd : asData es ds) (hX : ∀ b, C.X b → ∃ j cs, j ≠ i ∧ C.E0 j = some b ∧ σ.b j = .var cs) {a : Act} {w : World} (hR : Rel C σ a w) : Rel C ((σ.put (T t) (.a (.d (.row ds)))).put (B i) (.b .none)) a w := by
  obtain ⟨F, E, H, hR⟩ := hR.e
  have hbox := hR.env.box i
  rw [hb] at hbox
  obtain ⟨v, xs, hv, hk, ho, hz, hp⟩ := hbox
  have hrow := own_rowA ho hz hp hd
  have hblk : blk E H i (σ.b i) = v.ownBlock := by rw [hb]; simp only [blk, hv, Option.bind_some]
  have hslot := hR.den t
  rw [ht] at hslot
  have hval : a.tmps.getD t undef = v := by
    have := den_own hslot
    rw [hv] at this
    exact (Option.some.inj this).symm
  have hlt : ∀ b, v.ownBlock = some b → b < w.heap.size := fun b hb2 => (World.ownsRow.lt ho b hb2).2
  have env : Env C w (fun b => F b ∨ v.ownBlock = some b) E H (upd σ.b i .none) := hR.env.step (· = i) rfl rfl rfl (Nat.le_refl _) (fun b _ _ => rfl) (fun b hb => .inl hb)
    (fun b hb2 => by
      rcases hb2 with h1 | h1
      · exact .inl h1
      · refine .inr ⟨hlt b h1, .inr ⟨?_, i, rfl, hblk.trans h1⟩⟩
        rcases (hR.env.live i b (hblk.trans h1)).2 with hx | hx
        · obtain ⟨j, cs, hj, hE, hbj⟩ := hX b hx
          exact absurd (by rw [hbj]; exact hR.env.E0 j b hE) (hR.env.sep i j b (Ne.symm hj) (hblk.trans h1))
        · exact hx)
    (fun _ _ h => h) (fun _ _ _ h => h) (fun _ _ => rfl) (fun _ _ _ => rfl) (fun j hj => upd_ne _ _ hj)
    (fun j hj => by subst hj; rw [upd_same]; trivial) (fun j hj b hb2 => by subst hj; rw [upd_same] at hb2; cases hb2) (fun j q b hj hq hjq => by subst hj; subst hq; exact absurd rfl hjq)
  have hmove := hR.move env (fun b hb => .inl hb) (fun _ _ => rfl) (fun _ _ h => h) (fun _ _ _ h => h)
  refine (RelE.r (F := fun b => F b ∨ v.ownBlock = some b) (E := E) (H := H) ⟨hmove.dfr, hmove.n, hmove.env, fun q => ?_⟩)
  show Den w _ E H (upd σ.t t (.d (.row ds)) q) _
  by_cases hq : q = t
  · subst hq
    rw [upd_same, hval]
    exact .d _ _ hrow
  · rw [upd_ne _ _ hq]
    exact hmove.den q
theorem AW.thaw {t i k : Nat} {e : TypeId} {sz : Nat} {es : List (List A)} (ds : List (List D)) (ht : σ.t t = .own i k) (hb : σ.b i = .own k e sz es) (hd : asData es ds) (hX : ∀ b, C.X b → ∃ j cs, j ≠ i ∧ C.E0 j = some b ∧ σ.b j = .var cs) (h : AW P C c Q ((σ.put (T t) (.a (.d (.row ds)))).put (B i) (.b .none))) : AW P C c Q σ := fun a w hR => h a w (Rel.thaw ds ht hb hd hX hR)
/-- The same of a list that a variable holds. -/
theorem Rel.thawc {j c i k : Nat} {e : TypeId} {sz : Nat} {es : List (List A)} {aas : List A} (ds : List (List D)) (hj : σ.b j = .var aas) (hc : aas[c]? = some (.own i k)) (hb : σ.b i = .own k e sz es) (hd : asData es ds) (hX : ∀ b, C.X b → ∃ j cs, j ≠ i ∧ C.E0 j = some b ∧ σ.b j = .var cs) {a : Act} {w : World} (hR : Rel C σ a w) : Rel C ((σ.put (B j) (.b (.var (aas.set c (.d (.row ds)))))).put (B i) (.b .none)) a w := by
  obtain ⟨F, E, H, hR⟩ := hR.e
  have hji : j ≠ i := fun e => by subst e; rw [hj] at hb; cases hb
  have hbox := hR.env.box i
  rw [hb] at hbox
  obtain ⟨v, xs, hv, hk, ho, hz, hp⟩ := hbox
  have hrow := own_rowA ho hz hp hd
  have hblk : blk E H i (σ.b i) = v.ownBlock := by rw [hb]; simp only [blk, hv, Option.bind_some]
  have hbj := hR.env.box j
  rw [hj] at hbj
  obtain ⟨bj, ct, tt, hE, hh, hpj⟩ := hbj
  have hlt : ∀ b, v.ownBlock = some b → b < w.heap.size := fun b hb2 => (World.ownsRow.lt ho b hb2).2
  have hFm : ∀ b, F b → (F b ∨ v.ownBlock = some b) := fun b hb => .inl hb
  have env : Env C w (fun b => F b ∨ v.ownBlock = some b) E H (upd (upd σ.b j (.var (aas.set c (.d (.row ds))))) i .none) := by
    refine hR.env.step (fun q => q = i ∨ q = j) rfl rfl rfl (Nat.le_refl _) (fun b _ _ => rfl) hFm ?_ (fun _ _ h => h) (fun _ _ _ h => h) (fun _ _ => rfl) (fun _ _ _ => rfl) ?_ ?_ ?_ ?_
    · intro b hb2
      rcases hb2 with h1 | h1
      · exact .inl h1
      · refine .inr ⟨hlt b h1, .inr ⟨?_, i, .inl rfl, hblk.trans h1⟩⟩
        rcases (hR.env.live i b (hblk.trans h1)).2 with hx | hx
        · obtain ⟨q, cs, hq, hEq, hbq⟩ := hX b hx
          exact absurd (by rw [hbq]; exact hR.env.E0 q b hEq) (hR.env.sep i q b (Ne.symm hq) (hblk.trans h1))
        · exact hx
    · intro q hq
      rw [upd_ne _ _ (fun e => hq (.inl e)), upd_ne _ _ (fun e => hq (.inr e))]
    · rintro q (rfl | rfl)
      · rw [upd_same]; trivial
      · rw [upd_ne _ _ hji, upd_same]
        refine ⟨bj, ct, tt, hE, hh, by simp [hpj.1], fun n x u hx hu => ?_⟩
        by_cases hn : n = c
        · subst hn
          have hlt2 : n < aas.length := (List.getElem?_eq_some_iff.1 hc).1
          rw [List.getElem?_set_self hlt2] at hx
          obtain rfl := Option.some.inj hx
          have h1 := hpj.2 n _ u hc hu
          have h2 := den_own h1.2
          rw [hv] at h2
          obtain rfl := Option.some.inj h2
          exact ⟨h1.1, .d _ _ hrow⟩
        · rw [List.getElem?_set_ne (Ne.symm hn)] at hx
          have h1 := hpj.2 n x u hx hu
          exact ⟨h1.1, h1.2.mono hFm (fun _ _ => rfl) (fun _ _ h => h) (fun _ _ _ h => h)⟩
    · rintro q (rfl | rfl) b hb2
      · rw [upd_same] at hb2; cases hb2
      · rw [upd_ne _ _ hji, upd_same] at hb2
        have h3 : blk E H q (σ.b q) = some b := by rw [hj]; exact hb2
        refine ⟨fun hf => ?_, .inr ⟨q, .inr rfl, h3⟩⟩
        rcases hf with hf | hf
        · exact (hR.env.live q b h3).1 hf
        · exact hR.env.sep q i b hji h3 (hblk.trans hf)
    · rintro q r b (rfl | rfl) (rfl | rfl) hqr h1 h2
      · exact hqr rfl
      · rw [upd_same] at h1; cases h1
      · rw [upd_same] at h2; cases h2
      · exact hqr rfl
  have hmove := hR.move env hFm (fun _ _ => rfl) (fun _ _ h => h) (fun _ _ _ h => h)
  exact hmove.r
theorem AW.thawc {j c i k : Nat} {e : TypeId} {sz : Nat} {es : List (List A)} {aas : List A} (ds : List (List D)) (hj : σ.b j = .var aas) (hc : aas[c]? = some (.own i k)) (hb : σ.b i = .own k e sz es) (hd : asData es ds) (hX : ∀ b, C.X b → ∃ j cs, j ≠ i ∧ C.E0 j = some b ∧ σ.b j = .var cs) (h : AW P C c' Q ((σ.put (B j) (.b (.var (aas.set c (.d (.row ds)))))).put (B i) (.b .none))) : AW P C c' Q σ := fun a w hR => h a w (Rel.thawc ds hj hc hb hd hX hR)
/-- Nil lists that a variable holds read as empty ones. -/
theorem Rel.nrmb {j : Nat} {aas : List A} (hj : σ.b j = .var aas) {a : Act} {w : World} (hR : Rel C σ a w) : Rel C (σ.put (B j) (.b (.var (nrms aas)))) a w := by
  obtain ⟨F, E, H, hR⟩ := hR.e
  have hbj := hR.env.box j
  rw [hj] at hbj
  obtain ⟨bj, ct, tt, hE, hh, hp⟩ := hbj
  have env : Env C w F E H (upd σ.b j (.var (nrms aas))) := hR.env.step (· = j) rfl rfl rfl (Nat.le_refl _) (fun b _ _ => rfl) (fun b hb => hb)
    (fun b hb => .inl hb) (fun _ _ h => h) (fun _ _ _ h => h) (fun _ _ => rfl) (fun _ _ _ => rfl) (fun q hq => upd_ne _ _ hq)
    (fun q hq => by subst hq; rw [upd_same]; exact ⟨bj, ct, tt, hE, hh, nrm_cell hp⟩)
    (fun q hq b hb => by
      subst hq
      rw [upd_same] at hb
      have h3 : blk E H q (σ.b q) = some b := by rw [hj]; exact hb
      exact ⟨(hR.env.live q b h3).1, .inr ⟨q, rfl, h3⟩⟩)
    (fun q r b hq hr hqr => by subst hq; subst hr; exact absurd rfl hqr)
  have hmove := hR.move env (fun b hb => hb) (fun _ _ => rfl) (fun _ _ h => h) (fun _ _ _ h => h)
  exact RelE.r hmove
theorem AW.nrmb {j : Nat} {aas : List A} (hj : σ.b j = .var aas) (h : AW P C c Q (σ.put (B j) (.b (.var (nrms aas))))) : AW P C c Q σ := fun a w hR => h a w (Rel.nrmb hj hR)
/-- A part that leaves one of some states, and what comes behind it from each of them. -/
theorem AW.via {α : Type} (inv : α → St) (ok : α → Prop) (h1 : AW P C c (Exit.thenA (fun σ' => ∃ k, ok k ∧ ∀ a w, Rel C σ' a w → Rel C (inv k) a w) Q) σ) (h2 : ∀ k, ok k → AW P C c' Q (inv k)) : AW P C (.seq c c') Q σ :=
  AW.seq (h1.mono fun e σ' h => by
    cases e with
    | normal =>
      obtain ⟨k, hk, hr⟩ := h
      exact fun a w hR => h2 k hk a w (hr a w hR)
    | _ => exact h)
end
end Go.Proofs.Ytdjadeegjbhihaa
