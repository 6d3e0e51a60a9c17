/- What a function answers, over what values read as; its call as one operation. -/
import Derived.Test.YtpdndapegiglcaaAbsCode
namespace Go.Proofs.Ytpdndapegiglcaa
open Go

section
variable (w : World) (F : Nat → Prop) (E : Nat → Option Nat) (H : Nat → Nat → Option Value) (bs : List (Nat × Bx))
/-- What a call is handed. -/
structure PreOk : Prop where
  Flt : ∀ b, F b → b < w.heap.size
  box : ∀ i x, bs.lookup i = some x → BoxOk w F E H i x
  nf : ∀ i x b, bs.lookup i = some x → blk E H i x = some b → ¬ F b
  sep : ∀ i j x y b, i ≠ j → bs.lookup i = some x → bs.lookup j = some y → blk E H i x = some b → blk E H j y ≠ some b
  out : ∀ i, bs.lookup i = none → E i = none ∧ ∀ k, H i k = none
/-- What it leaves. -/
structure PostOk (w' : World) (F' : Nat → Prop) (E' : Nat → Option Nat) (H' : Nat → Nat → Option Value) (bs' : List (Nat × Bx)) : Prop where
  os : w'.os = w.os
  tape : w'.tape = w.tape
  output : w'.output = w.output
  size : w.heap.size ≤ w'.heap.size
  old : ∀ b, b < w.heap.size → (∀ i x, bs.lookup i = some x → blk E H i x ≠ some b) → w'.heap[b]? = w.heap[b]?
  fr : ∀ b, F b → F' b
  Flt : ∀ b, F' b → b < w'.heap.size
  Fnew : ∀ b, F' b → F b ∨ w.heap.size ≤ b
  en : ∀ i b, E i = some b → E' i = some b
  hn : ∀ i k v, H i k = some v → H' i k = some v
  box : ∀ i x, bs'.lookup i = some x → BoxOk w' F' E' H' i x
  nf : ∀ i x b, bs'.lookup i = some x → blk E' H' i x = some b → ¬ F' b
  sep : ∀ i j x y b, i ≠ j → bs'.lookup i = some x → bs'.lookup j = some y → blk E' H' i x = some b → blk E' H' j y ≠ some b
  live : ∀ i x b, bs'.lookup i = some x → blk E' H' i x = some b → (∃ j y, bs.lookup j = some y ∧ blk E H j y = some b) ∨ w.heap.size ≤ b
end

def Spec (P : Program) (f : FuncId) (as : List A) (bs : List (Nat × Bx)) (post : A → List (Nat × Bx) → Prop) : Prop :=
  ∀ (w : World) (F : Nat → Prop) (E : Nat → Option Nat) (H : Nat → Nat → Option Value) (args : Array Value), PreOk w F E H bs → args.size = as.length → (∀ (i : Nat) (a : A), as[i]? = some a → Den w F E H a (args.getD i undef)) →
    Calls P f args w fun e w' => ∃ v r bs' F' E' H', e = .returned v ∧ post r bs' ∧ PostOk w F E H bs w' F' E' H' bs' ∧ Den w' F' E' H' r v

theorem lt_of_ble {a b : Nat} (h : Nat.ble (a + 1) b = true) : a < b := Nat.le_of_ble_eq_true h
/-- The state at a function's beginning. -/
def St.arg (n : Nat) (as : List A) (bs : List (Nat × Bx)) : St := ⟨n, fun t => as.getD t .any, fun i => (bs.lookup i).getD .fresh⟩
/-- The blocks that the caller lets be turned are those of the boxes that it hands. -/
def XB (C : Ctx) (bs : List (Nat × Bx)) : Prop := ∀ b, C.X b → ∃ j x, bs.lookup j = some x ∧ blk C.E0 C.H0 j x = some b
theorem XB.none {C : Ctx} {i : Nat} {σ : St} (h : XB C []) : ∀ b, C.X b → ∃ j cs, j ≠ i ∧ C.E0 j = some b ∧ σ.b j = .var cs := fun b hb => by
  obtain ⟨j, x, hx, _⟩ := h b hb
  cases hx
theorem XB.one {C : Ctx} {i q : Nat} {σ : St} {cs0 cs : List A} (h : XB C [(q, .var cs0)]) (hne : q ≠ i) (hb : σ.b q = .var cs) : ∀ b, C.X b → ∃ j cs, j ≠ i ∧ C.E0 j = some b ∧ σ.b j = .var cs := fun b hx => by
  obtain ⟨j, x, hx, hbk⟩ := h b hx
  rw [List.lookup_cons] at hx
  split at hx
  · rename_i he
    obtain rfl := eq_of_beq he
    obtain rfl := Option.some.inj hx
    exact ⟨j, cs, hne, hbk, hb⟩
  · cases hx
/-- What a function's end must show. -/
def RetQ (P : Program) (rv : List ResultVar) (post : A → List (Nat × Bx) → Prop) : Exit → St → Prop
  | .ret, σ | .normal, σ => ∃ rs bs', ResAll P σ rv rs ∧ post (tupA rs) bs' ∧ ∀ i x, bs'.lookup i = some x → σ.b i = x
  | _, _ => False

theorem RetQ.ret {P : Program} {rv : List ResultVar} {post : A → List (Nat × Bx) → Prop} {σ : St} {rs : List A} (bs' : List (Nat × Bx)) (h1 : ResAll P σ rv rs) (h2 : post (tupA rs) bs') (h3 : ∀ i x, bs'.lookup i = some x → σ.b i = x) : RetQ P rv post .ret σ := ⟨rs, bs', h1, h2, h3⟩
theorem none_kept {σ : St} : ∀ (i : Nat) (x : Bx), ([] : List (Nat × Bx)).lookup i = some x → σ.b i = x := fun _ _ h => by cases h
theorem Spec.intro {P : Program} {f : FuncId} {fn : Func} {c : Code} {n : Nat} {rv : List ResultVar} {as : List A} {bs : List (Nat × Bx)} {post : A → List (Nat × Bx) → Prop} (hf : P.funcs[f]? = some fn) (hb : fn.body = some c) (hn : fn.ntmps = n) (hrv : fn.results.toList = rv)
    (hl : as.length ≤ n) (h : ∀ C : Ctx, Names C (keys bs) → XB C bs → AW P C c (RetQ P rv post) (St.arg n as bs)) : Spec P f as bs post := by
  intro w F E H args hp hs hd
  let C : Ctx := ⟨w, fun b => ∃ i x, bs.lookup i = some x ∧ blk E H i x = some b, F, E, H⟩
  have hkey : ∀ i, i ∉ keys bs → bs.lookup i = none := fun i hi => by
    cases hl : bs.lookup i with
    | none => rfl
    | some x => exact absurd (List.mem_map.2 ⟨_, lookup_mem hl, rfl⟩) hi
  have hbx : ∀ i, (bs.lookup i).getD .fresh = .fresh ∧ bs.lookup i = none ∨ ∃ x, bs.lookup i = some x ∧ (bs.lookup i).getD .fresh = x := fun i => by
    cases hl : bs.lookup i with
    | none => exact .inl ⟨rfl, rfl⟩
    | some x => exact .inr ⟨x, rfl, rfl⟩
  have hblk : ∀ i b, blk E H i ((bs.lookup i).getD .fresh) = some b → ∃ x, bs.lookup i = some x ∧ blk E H i x = some b := fun i b hb => by
    rcases hbx i with ⟨h1, _⟩ | ⟨x, h1, h2⟩
    · rw [h1] at hb; cases hb
    · rw [h2] at hb; exact ⟨x, h1, hb⟩
  have env0 : Env C w F E H (fun i => (bs.lookup i).getD .fresh) := by
    refine ⟨rfl, rfl, rfl, Nat.le_refl _, fun _ _ _ => rfl, fun _ h => h, hp.Flt, fun _ h => .inl h, fun _ _ h => h, fun _ _ _ h => h, fun i => ?_, fun i j b hij h1 h2 => ?_, fun i b hb => ?_⟩
    · rcases hbx i with ⟨h1, h2⟩ | ⟨x, h1, h2⟩
      · rw [h1]; exact hp.out i h2
      · rw [h2]; exact hp.box i x h1
    · obtain ⟨x, hx, e1⟩ := hblk i b h1
      obtain ⟨y, hy, e2⟩ := hblk j b h2
      exact hp.sep i j x y b hij hx hy e1 e2
    · obtain ⟨x, hx, e1⟩ := hblk i b hb
      exact ⟨hp.nf i x b hx e1, .inl ⟨i, x, hx, e1⟩⟩
  refine calls_of_wp hf hb ?_
  have hR : Rel C (St.arg n as bs) { tmps := args ++ Array.replicate (fn.ntmps - args.size) undef, defers := [] } w := by
    refine ⟨rfl, ?_, F, E, H, env0, fun t => ?_⟩
    · simp only [Array.size_append, Array.size_replicate, St.arg]
      omega
    · have e : (args ++ Array.replicate (fn.ntmps - args.size) undef).getD t undef = args.getD t undef := by
        simp only [Array.getD_eq_getD_getElem?]
        by_cases ht : t < args.size
        · rw [Array.getElem?_append_left ht]
        · rw [Array.getElem?_append_right (by omega), show args[t]? = none from Array.getElem?_eq_none (by omega), Array.getElem?_replicate]
          split <;> rfl
      show Den w F E H (as.getD t .any) ((args ++ Array.replicate (fn.ntmps - args.size) undef).getD t undef)
      rw [e]
      cases ha : as[t]? with
      | none => simp only [List.getD_eq_getElem?_getD, ha, Option.getD_none]; exact .any _
      | some a => simp only [List.getD_eq_getElem?_getD, ha, Option.getD_some]; exact hd t a ha
  refine Code.wp_mono ?_ (h C ⟨fun i b hb => Classical.byContradiction (fun hi => by have := (hp.out i (hkey i hi)).1; change E i = some b at hb; rw [this] at hb; cases hb), fun i k v hv => Classical.byContradiction (fun hi => by have := (hp.out i (hkey i hi)).2 k; change H i k = some v at hv; rw [this] at hv; cases hv)⟩ (fun _ h => h) _ w hR)
  have fin : ∀ σ' a w', (∃ rs bs', ResAll P σ' rv rs ∧ post (tupA rs) bs' ∧ ∀ i x, bs'.lookup i = some x → σ'.b i = x) → Rel C σ' a w' → a.defers = [] ∧ ∃ v, (results fn a.tmps).run P w' = .ok v w' ∧
      ∃ v' r bs' F' E' H', Ending.returned v = .returned v' ∧ post r bs' ∧ PostOk w F E H bs w' F' E' H' bs' ∧ Den w' F' E' H' r v' := by
    rintro σ' a w' ⟨rs, bs', hres, hpost, hbs⟩ hR'
    obtain ⟨F', E', H', hR'⟩ := hR'.e
    obtain ⟨v, hv, hden⟩ := run_results (fn := fn) hR' (by rw [hrv]; exact hres)
    have he := hR'.env
    refine ⟨hR'.dfr, v, hv, v, tupA rs, bs', F', E', H', rfl, hpost, ⟨he.os, he.tape, he.output, he.size, fun b hb hx => he.old b hb (fun ⟨i, x, h1, h2⟩ => hx i x h1 h2), he.F0, he.Flt, he.Fnew, he.E0, he.H0, fun i x hx => ?_, fun i x b hx hb => ?_, fun i j x y b hij hx hy h1 h2 => ?_, fun i x b hx hb => ?_⟩, hden⟩
    · have := he.box i; rwa [hbs i x hx] at this
    · have := he.live i b; rw [hbs i x hx] at this; exact (this hb).1
    · have := he.sep i j b hij; rw [hbs i x hx, hbs j y hy] at this; exact this h1 h2
    · have := he.live i b; rw [hbs i x hx] at this
      rcases (this hb).2 with h | h
      · exact .inl h
      · exact .inr h
  rintro e a w' ⟨σ', hq, hR'⟩
  cases e with
  | ret => exact fin σ' a w' hq hR'
  | normal => exact fin σ' a w' hq hR'
  | _ => exact hq.elim
end Go.Proofs.Ytpdndapegiglcaa
