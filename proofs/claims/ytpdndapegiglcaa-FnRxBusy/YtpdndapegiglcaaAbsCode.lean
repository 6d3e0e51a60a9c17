/- Statements, loops, functions and their calls, over what values read as. -/
import Derived.Test.YtpdndapegiglcaaAbsWr
namespace Go.Proofs.Ytpdndapegiglcaa
open Go

/-! Names that a reading speaks of. -/
mutual
def A.within (K : List Nat) : A → Bool
  | .any => true
  | .d _ => true
  | .ptr i _ => K.contains i
  | .own i _ => K.contains i
  | .optr i _ _ => K.contains i
  | .rptr _ _ _ _ => true
  | .agg cs => A.withins K cs
  | .tup cs => A.withins K cs
  | .fn _ as bs => A.withins K as && A.withins K bs
  | .ifc _ a => A.within K a
def A.withins (K : List Nat) : List A → Bool
  | [] => true
  | a :: as => A.within K a && A.withins K as
end
def Bx.within (K : List Nat) : Bx → Bool
  | .none => true
  | .fresh => true
  | .var cs => A.withins K cs
  | .own _ _ _ es => es.all (A.withins K)
theorem withins_get {K : List Nat} : ∀ {as : List A}, A.withins K as = true → ∀ (i : Nat) (a : A), as[i]? = some a → a.within K = true
  | [], _, i, a, h => by simp at h
  | b :: bs, hw, i, a, h => by
    simp only [A.withins, Bool.and_eq_true] at hw
    cases i with
    | zero => simp only [List.getElem?_cons_zero, Option.some.injEq] at h; exact h ▸ hw.1
    | succ i => exact withins_get hw.2 i a (by simpa using h)
theorem withins_map {α : Type} {K : List Nat} {f : α → A} (h : ∀ x, (f x).within K = true) : ∀ (l : List α), A.withins K (l.map f) = true
  | [] => rfl
  | x :: l => by simp [A.withins, h x, withins_map h l]

section
variable {w : World} {F : Nat → Prop} {E E' : Nat → Option Nat} {H H' : Nat → Nat → Option Value}
theorem Den.names {K : List Nat} (hE : ∀ i ∈ K, E' i = E i) (hH : ∀ i ∈ K, ∀ k, H' i k = H i k) {x : A} {v : Value} (h : Den w F E H x v) : x.within K = true → Den w F E' H' x v := by
  induction h with
  | any x => exact fun _ => .any x
  | d x v h => exact fun _ => .d x v h
  | ptr i o b h => exact fun hw => .ptr i o b ((hE i (by simpa [A.within] using hw)).trans h)
  | own i k v h h1 => exact fun hw => .own i k v ((hH i (by simpa [A.within] using hw) k).trans h) h1
  | optr i k o b n c h => exact fun hw => .optr i k o b n c ((hH i (by simpa [A.within] using hw) k).trans h)
  | rptr sz b o cap n es i j h hi hz => exact fun _ => .rptr sz b o cap n es i j h hi hz
  | agg as cs hs h1 h ih => exact fun hw => .agg as cs hs h1 fun i a ha => ih i a ha (withins_get (by simpa [A.within] using hw) i a ha)
  | tup as cs hs h ih => exact fun hw => .tup as cs hs fun i a ha => ih i a ha (withins_get (by simpa [A.within] using hw) i a ha)
  | fn f as bs cs ds hs ht h h' ih ih' =>
    intro hw
    simp only [A.within, Bool.and_eq_true] at hw
    exact .fn f as bs cs ds hs ht (fun i a ha => ih i a ha (withins_get hw.1 i a ha)) (fun i a ha => ih' i a ha (withins_get hw.2 i a ha))
  | ifc t a v h ih => exact fun hw => .ifc t a v (ih (by simpa [A.within] using hw))
theorem BoxOk.names {K : List Nat} (hE : ∀ i ∈ K, E' i = E i) (hH : ∀ i ∈ K, ∀ k, H' i k = H i k) {i : Nat} (hi : i ∈ K) {x : Bx} (h : BoxOk w F E H i x) (hw : x.within K = true) : BoxOk w F E' H' i x := by
  cases x with
  | none => trivial
  | fresh => exact ⟨(hE i hi).trans h.1, fun k => (hH i hi k).trans (h.2 k)⟩
  | var cs =>
    obtain ⟨b, ct, t, e, hh, hp⟩ := h
    refine ⟨b, ct, t, (hE i hi).trans e, hh, hp.1, fun j a v ha hv => ?_⟩
    have := hp.2 j a v ha hv
    exact ⟨this.1, this.2.names hE hH (withins_get hw j a ha)⟩
  | own k e sz es =>
    obtain ⟨v, xs, hv, hk, ho, hz, hp⟩ := h
    refine ⟨v, xs, (hH i hi k).trans hv, fun k' hk' => (hH i hi k').trans (hk k' hk'), ho, hz, hp.1, fun j a v ha hv => ?_⟩
    have := hp.2 j a v ha hv
    have hm : a.within K = true := by
      obtain ⟨l, hl, hal⟩ := List.mem_flatten.1 (List.mem_of_getElem? ha)
      obtain ⟨q, hq, hqa⟩ := List.getElem_of_mem hal
      exact withins_get (List.all_eq_true.1 (show es.all (A.withins K) = true from hw) l hl) q a (by rw [← hqa]; exact List.getElem?_eq_getElem hq)
    exact ⟨this.1, this.2.names hE hH hm⟩
theorem blk_names {i : Nat} {x : Bx} (hE : E' i = E i) (hH : ∀ k, H' i k = H i k) : blk E' H' i x = blk E H i x := by
  cases x with
  | var cs => exact hE
  | own k e sz es => simp only [blk, hH k]
  | _ => rfl
end

/-! Statements. -/
def AW (P : Program) (C : Ctx) (c : Code) (Q : Exit → St → Prop) (σ : St) : Prop := ∀ a w, Rel C σ a w → c.wp P (fun e a w => ∃ σ', Q e σ' ∧ Rel C σ' a w) a w
section
variable {P : Program} {C : Ctx} {σ : St} {Q Q' : Exit → St → Prop} {c c' : Code}
theorem AW.mono (hq : ∀ e σ, Q e σ → Q' e σ) (h : AW P C c Q σ) : AW P C c Q' σ := fun a w hR => Code.wp_mono (fun _ _ _ ⟨σ', h1, h2⟩ => ⟨σ', hq _ _ h1, h2⟩) (h a w hR)
theorem AW.skip (h : Q .normal σ) : AW P C .skip Q σ := fun _ _ hR => wp_skip ⟨σ, h, hR⟩
theorem AW.ret (h : Q .ret σ) : AW P C .ret Q σ := fun _ _ hR => wp_ret ⟨σ, h, hR⟩
theorem AW.exit {id : Nat} (h : Q (.exit id) σ) : AW P C (.exit id) Q σ := fun _ _ hR => wp_exit ⟨σ, h, hR⟩
def Exit.thenA (next : St → Prop) (Q : Exit → St → Prop) : Exit → St → Prop
  | .normal, σ => next σ
  | e, σ => Q e σ
theorem thenA_ret {next : St → Prop} (h : Q .ret σ) : Exit.thenA next Q .ret σ := h
theorem thenA_exit {next : St → Prop} {id : Nat} (h : Q (.exit id) σ) : Exit.thenA next Q (.exit id) σ := h
theorem thenA_normal {next : St → Prop} (h : next σ) : Exit.thenA next Q .normal σ := h
theorem AW.seq (h : AW P C c (Exit.thenA (AW P C c' Q) Q) σ) : AW P C (.seq c c') Q σ := fun a w hR =>
  wp_seq (Code.wp_mono (fun e a w ⟨σ', h1, h2⟩ => by
    cases e with
    | normal => exact h1 a w h2
    | _ => exact ⟨σ', h1, h2⟩) (h a w hR))
theorem AW.cond {x : Operand} {t : Bool} (hx : aev σ x = .d (.v (.bool t))) (h1 : t = true → AW P C c Q σ) (h2 : t = false → AW P C c' Q σ) : AW P C (.cond x c c') Q σ := fun a w hR => by
  obtain ⟨F, E, H, hR'⟩ := hR.e
  have hd := hR'.ev x
  rw [hx] at hd
  exact wp_cond_split (den_v hd) (fun ht => h1 ht a w hR) (fun ht => h2 ht a w hR)
def Exit.inBlockA (id : Nat) (Q : Exit → St → Prop) : Exit → St → Prop
  | .exit id', σ => if id' = id then Q .normal σ else Q (.exit id') σ
  | e, σ => Q e σ
theorem inBlockA_ret {id : Nat} (h : Q .ret σ) : Exit.inBlockA id Q .ret σ := h
theorem inBlockA_normal {id : Nat} (h : Q .normal σ) : Exit.inBlockA id Q .normal σ := h
theorem inBlockA_same {id : Nat} (h : Q .normal σ) : Exit.inBlockA id Q (.exit id) σ := by
  simp only [Exit.inBlockA, if_true]
  exact h
theorem inBlockA_other {id id' : Nat} (hne : id' ≠ id) (h : Q (.exit id') σ) : Exit.inBlockA id Q (.exit id') σ := by
  simp only [Exit.inBlockA]
  rw [if_neg hne]
  exact h
theorem AW.block {id : Nat} (h : AW P C c (Exit.inBlockA id Q) σ) : AW P C (.block id c) Q σ := fun a w hR =>
  wp_block (Code.wp_mono (fun e _ _ ⟨σ', h1, h2⟩ => by
    cases e with
    | exit id' =>
      simp only [Exit.inBlockA] at h1
      simp only [Exit.inBlock]
      split
      · rename_i hi; rw [if_pos hi] at h1; exact ⟨σ', h1, h2⟩
      · rename_i hi; rw [if_neg hi] at h1; exact ⟨σ', h1, h2⟩
    | _ => exact ⟨σ', h1, h2⟩) (h a w hR))
theorem AW.list {id : Nat} {l : List Oper} {cs : List Cert} (h : Wk P C l.toArray l cs σ (Q .normal)) : AW P C (.region id l.toArray false) Q σ := fun a w hR =>
  wp_region_lit (wk_list l cs σ a w h hR fun σ' _ _ hq hR' => ⟨σ', hq, hR'⟩)
theorem AW.draw {id : Nat} {l : List Oper} (cs : List Cert) (hm : P.follows .mixedOrders = true) (h : Wk P C l.toArray l cs σ (Q .normal)) (hed : edgesOk l = true) (hap : apartOk l cs = true) : AW P C (.region id l.toArray true) Q σ := fun a w hR => by
  obtain ⟨h1, h2⟩ := h.1.get
  refine wp_draw hm cs (by simp [h1]) hR (fun i o c ho hc => h2 i o c (by simpa using ho) hc) ?_ (by simpa using hed) (by simpa using hap)
  have mono : ∀ (cs : List Cert) (σ : St) (K K' : St → Prop), (∀ σ, K σ → K' σ) → Wc cs σ K → Wc cs σ K' := by
    intro cs
    induction cs with
    | nil => exact fun σ K K' hk h => hk σ h
    | cons c cs ih => exact fun σ K K' hk h => ⟨h.1, fun us hus => ih _ K K' hk (h.2 us hus)⟩
  exact mono cs σ _ _ (fun σ' hq a w hR' => ⟨σ', hq, hR'⟩) h.2

/-- The same, where what is left is told. -/
theorem AW.drawk {id : Nat} {l : List Oper} (cs : List Cert) (K : St → Prop) (hm : P.follows .mixedOrders = true) (h : Wk P C l.toArray l cs σ K) (hed : edgesOk l = true) (hap : apartOk l cs = true) (hk : ∀ σ', K σ' → Q .normal σ') : AW P C (.region id l.toArray true) Q σ := by
  refine AW.draw cs hm ⟨h.1, ?_⟩ hed hap
  have mono : ∀ (cs : List Cert) (σ : St) (K K' : St → Prop), (∀ σ, K σ → K' σ) → Wc cs σ K → Wc cs σ K' := by
    intro cs
    induction cs with
    | nil => exact fun σ K K' hk h => hk σ h
    | cons c cs ih => exact fun σ K K' hk h => ⟨h.1, fun us hus => ih _ K K' hk (h.2 us hus)⟩
  exact mono cs σ _ _ hk h.2
theorem AW.drawd {id : Nat} {l : List Oper} (cs : List Cert) (σ1 : St) (hm : P.follows .mixedOrders = true) (h : Wk P C l.toArray l cs σ (· = σ1)) (hed : edgesOk l = true) (hap : apartOk l cs = true) (hk : Q .normal σ1) : AW P C (.region id l.toArray true) Q σ :=
  AW.drawk cs _ hm h hed hap fun _ e => e ▸ hk

/-! Forgetting. -/
/-- A state by what its slots and boxes read as; all other slots are anything, all other names name nothing. -/
def St.of (n : Nat) (ts : List (Nat × A)) (bs : List (Nat × Bx)) : St := ⟨n, fun t => (ts.lookup t).getD .any, fun i => (bs.lookup i).getD .fresh⟩
def keys {α : Type} (l : List (Nat × α)) : List Nat := l.map (·.1)
theorem lookup_mem {α : Type} : ∀ {l : List (Nat × α)} {k : Nat} {x : α}, l.lookup k = some x → (k, x) ∈ l
  | [], _, _, h => by cases h
  | (q, y) :: l, k, x, h => by
    rw [List.lookup_cons] at h
    split at h
    · rename_i he
      obtain rfl := Option.some.inj h
      rw [eq_of_beq he]
      exact List.mem_cons_self
    · exact List.mem_cons_of_mem _ (lookup_mem h)
theorem lookup_none {α : Type} : ∀ {l : List (Nat × α)} {k : Nat}, l.lookup k = none → k ∉ keys l
  | [], _, _ => by simp [keys]
  | (q, y) :: l, k, h => by
    rw [List.lookup_cons] at h
    split at h
    · cases h
    · rename_i he
      have := lookup_none h
      simp only [keys, List.map_cons, List.mem_cons, not_or]
      exact ⟨fun e => by simp [e] at he, this⟩

/-- What is kept of a state: it holds of it, and speaks of names that are kept alone. -/
inductive KT (σ : St) (K : List Nat) : List (Nat × A) → Prop
  | nil : KT σ K []
  | cons {k : Nat} {x : A} {ts : List (Nat × A)} (h : σ.t k = x) (hw : x.within K = true) (t : KT σ K ts) : KT σ K ((k, x) :: ts)
inductive KB (σ : St) (K : List Nat) : List (Nat × Bx) → Prop
  | nil : KB σ K []
  | cons {k : Nat} {x : Bx} {ts : List (Nat × Bx)} (h : σ.b k = x) (hw : x.within K = true) (t : KB σ K ts) : KB σ K ((k, x) :: ts)
theorem KT.mem {σ : St} {K : List Nat} {ts : List (Nat × A)} (h : KT σ K ts) : ∀ p ∈ ts, σ.t p.1 = p.2 ∧ p.2.within K = true := by
  induction h with
  | nil => intro p hp; cases hp
  | cons h hw t ih =>
    intro p hp
    rcases List.mem_cons.1 hp with rfl | hp
    · exact ⟨h, hw⟩
    · exact ih p hp
theorem KB.mem {σ : St} {K : List Nat} {ts : List (Nat × Bx)} (h : KB σ K ts) : ∀ p ∈ ts, σ.b p.1 = p.2 ∧ p.2.within K = true := by
  induction h with
  | nil => intro p hp; cases hp
  | cons h hw t ih =>
    intro p hp
    rcases List.mem_cons.1 hp with rfl | hp
    · exact ⟨h, hw⟩
    · exact ih p hp
/-- The names that the caller handed are among those. -/
def Names (C : Ctx) (K : List Nat) : Prop := (∀ i b, C.E0 i = some b → i ∈ K) ∧ ∀ i k v, C.H0 i k = some v → i ∈ K
theorem Names.mono {C : Ctx} {K K' : List Nat} (h : Names C K) (hs : ∀ i, i ∈ K → i ∈ K') : Names C K' := ⟨fun i b hb => hs i (h.1 i b hb), fun i k v hv => hs i (h.2 i k v hv)⟩
def Keeps (C : Ctx) (σ : St) (n : Nat) (ts : List (Nat × A)) (bs : List (Nat × Bx)) : Prop := n = σ.n ∧ KT σ (keys bs) ts ∧ KB σ (keys bs) bs ∧ Names C (keys bs)
theorem Rel.keep {n : Nat} {ts : List (Nat × A)} {bs : List (Nat × Bx)} (hk : Keeps C σ n ts bs) {a : Act} {w : World} (h : Rel C σ a w) : Rel C (St.of n ts bs) a w := by
  obtain ⟨hd, hn, F, E, H, he, ht⟩ := h
  obtain ⟨rfl, hts, hbs, hC1, hC2⟩ := hk
  replace hts := hts.mem
  replace hbs := hbs.mem
  let E' : Nat → Option Nat := fun i => if (keys bs).contains i then E i else none
  let H' : Nat → Nat → Option Value := fun i k => if (keys bs).contains i then H i k else none
  have hE : ∀ i ∈ keys bs, E' i = E i := fun i hi => if_pos (by simpa using hi)
  have hH : ∀ i ∈ keys bs, ∀ k, H' i k = H i k := fun i hi k => if_pos (by simpa using hi)
  have hbx : ∀ i, (St.of σ.n ts bs).b i = .fresh ∧ i ∉ keys bs ∨ ((St.of σ.n ts bs).b i = σ.b i ∧ i ∈ keys bs ∧ (σ.b i).within (keys bs) = true) := by
    intro i
    cases hl : bs.lookup i with
    | none => exact .inl ⟨by simp [St.of, hl], lookup_none hl⟩
    | some x =>
      have hm := lookup_mem hl
      obtain ⟨h1, h2⟩ := hbs _ hm
      refine .inr ⟨by simp [St.of, hl, h1], ?_, by rw [h1]; exact h2⟩
      exact List.mem_map.2 ⟨_, hm, rfl⟩
  have hblk : ∀ i b, blk E' H' i ((St.of σ.n ts bs).b i) = some b → blk E H i (σ.b i) = some b := by
    intro i b hb
    rcases hbx i with ⟨h1, _⟩ | ⟨h1, h2, _⟩
    · rw [h1] at hb; cases hb
    · rw [h1, blk_names (hE i h2) (hH i h2)] at hb; exact hb
  refine ⟨hd, hn, F, E', H', ⟨he.os, he.tape, he.output, he.size, he.old, he.F0, he.Flt, he.Fnew, fun i b hb => ?_, fun i k v hv => ?_, fun i => ?_, fun i j b hij h1 h2 => ?_, fun i b hb => he.live i b (hblk i b hb)⟩, fun t => ?_⟩
  · rw [hE i (hC1 i b hb)]; exact he.E0 i b hb
  · rw [hH i (hC2 i k v hv)]; exact he.H0 i k v hv
  · rcases hbx i with ⟨h1, h2⟩ | ⟨h1, h2, h3⟩
    · rw [h1]
      have : (keys bs).contains i = false := by simpa using h2
      exact ⟨if_neg (by rw [this]; decide), fun k => if_neg (by rw [this]; decide)⟩
    · rw [h1]; exact (he.box i).names hE hH h2 h3
  · exact he.sep i j b hij (hblk i b h1) (hblk j b h2)
  · cases hl : ts.lookup t with
    | none => simp only [St.of, hl, Option.getD_none]; exact .any _
    | some x =>
      have hm := lookup_mem hl
      obtain ⟨h1, h2⟩ := hts _ hm
      simp only [St.of, hl, Option.getD_some]
      simp only at h1
      exact (h1 ▸ ht t).names hE hH h2
theorem AW.keep {n : Nat} {ts : List (Nat × A)} {bs : List (Nat × Bx)} (hk : Keeps C σ n ts bs) (h : AW P C c Q (St.of n ts bs)) : AW P C c Q σ := fun a w hR => h a w (hR.keep hk)

/-- A list is no longer than lists may be. -/
theorem AW.bound {x : Operand} {es : List (List D)} (hx : aev σ x = .d (.row es)) (h : es.length ≤ 9223372036854775807 → AW P C c Q σ) : AW P C c Q σ := fun a w hR => by
  obtain ⟨F, E, H, hR'⟩ := hR.e
  have hd := hR'.ev x
  rw [hx] at hd
  refine h ?_ a w hR
  replace hd := den_d hd
  generalize a.eval x = v at hd
  cases hd with
  | emp => exact Nat.zero_le _
  | row sz b o cap n _ vs hF hn hcap hmax => unfold maxLen at hmax; omega
/-- A loop: what its head finds, told by something that falls. -/
theorem AW.loop {α : Type} (inv : α → St) (ok : α → Prop) (m : α → Nat) (k0 : α) (h0 : ok k0) (hs : ∀ a w, Rel C σ a w → Rel C (inv k0) a w)
    (round : ∀ k, ok k → AW P C c (Exit.thenA (fun σ' => ∃ k', ok k' ∧ m k' < m k ∧ ∀ a w, Rel C σ' a w → Rel C (inv k') a w) Q) (inv k)) : AW P C (.loop c) Q σ := fun a w hR => by
  intro b kk cs
  have key : ∀ n k a w, m k = n → ok k → Rel C (inv k) a w →
      ∃ e a' w', (∃ σ', Q e σ' ∧ Rel C σ' a' w') ∧ Arrives P (lone (b.at a (.code c :: .inLoop c :: kk)) cs w) b kk cs e a' w' := by
    intro n
    induction n using Nat.strongRecOn with
    | _ n ih =>
      intro k a w hn hok hR
      obtain ⟨e, a1, w1, hq, harr⟩ := round k hok a w hR b (.inLoop c :: kk) cs
      cases e with
      | normal =>
        obtain ⟨σ', ⟨k', hok', hlt, hto⟩, hR'⟩ := hq
        obtain ⟨e2, a2, w2, hq2, harr2⟩ := ih (m k') (hn ▸ hlt) k' a1 w1 rfl hok' (hto a1 w1 hR')
        exact ⟨e2, a2, w2, hq2, .of_steps (Steps.trans harr (.one step_inLoop)) harr2⟩
      | exit id => exact ⟨_, a1, w1, hq, .pass (x := .inLoop c) rfl (fun _ _ => .inl (by simp)) harr⟩
      | goto l => exact ⟨_, a1, w1, hq, .pass (x := .inLoop c) rfl (fun _ _ => .inl (by simp)) harr⟩
      | ret => exact ⟨_, a1, w1, hq, .pass (x := .inLoop c) rfl (fun _ _ => .inl (by simp)) harr⟩
      | panic ch => exact ⟨_, a1, w1, hq, .pass (x := .inLoop c) rfl (fun _ _ => .inl (by simp)) harr⟩
      | outgrown => exact ⟨_, a1, w1, hq, .pass (x := .inLoop c) rfl (fun _ _ => .inl (by simp)) harr⟩
  obtain ⟨e, a', w', hq, harr⟩ := key _ k0 a w rfl h0 (hs a w hR)
  exact ⟨e, a', w', hq, .of_steps (.one step_loop) harr⟩
end

/-! Functions. -/
/-- What one result reads as. -/
def resOne (P : Program) (σ : St) : ResultVar → A → Prop
  | .tmp t, r => σ.t t = r
  | .cell t ty, r => ∃ i o cs n row, σ.t t = .ptr i o ∧ σ.b i = .var cs ∧ tyOf P ty = some (n, row) ∧ partA cs o n row = some r
inductive ResAll (P : Program) (σ : St) : List ResultVar → List A → Prop
  | nil : ResAll P σ [] []
  | cons {v : ResultVar} {r : A} {vs : List ResultVar} {rs : List A} (h : resOne P σ v r) (t : ResAll P σ vs rs) : ResAll P σ (v :: vs) (r :: rs)
def tupA : List A → A
  | [r] => r
  | rs => .tup rs

theorem run_mapM_list {α β : Type} {P : Program} {f : α → Sem β} {w : World} : ∀ {l : List α} {xs : List β}, l.length = xs.length → (∀ (i : Nat) (x : α) (y : β), l[i]? = some x → xs[i]? = some y → (f x).run P w = .ok y w) → (l.mapM f).run P w = .ok xs w
  | [], [], _, _ => by simp
  | [], _ :: _, h, _ => by cases h
  | _ :: _, [], h, _ => by cases h
  | x :: l, y :: xs, hl, h => by
    have h1 := h 0 x y rfl rfl
    have h2 := run_mapM_list (f := f) (l := l) (xs := xs) (by simpa using hl) (fun i a b ha hb => h (i + 1) a b (by simpa using ha) (by simpa using hb))
    simp [List.mapM_cons, h1, h2]

theorem run_results {P : Program} {C : Ctx} {σ : St} {a : Act} {w : World} {F : Nat → Prop} {E : Nat → Option Nat} {H : Nat → Nat → Option Value} {fn : Func} {rs : List A} (hR : RelE C σ a w F E H) (h : ResAll P σ fn.results.toList rs) :
    ∃ v, (results fn a.tmps).run P w = .ok v w ∧ Den w F E H (tupA rs) v := by
  have key : ∀ (vs : List ResultVar) (rs : List A), ResAll P σ vs rs → ∃ xs : List Value, xs.length = vs.length ∧ xs.length = rs.length ∧ (∀ (i : Nat) (v : ResultVar) (y : Value), vs[i]? = some v → xs[i]? = some y →
      (match v with | .tmp t => (pure (a.tmps.getD t undef) : Sem Value) | .cell t ty => do loadVar ty (← asAddr (a.tmps.getD t undef))).run P w = .ok y w) ∧ ∀ (i : Nat) (r : A) (y : Value), rs[i]? = some r → xs[i]? = some y → Den w F E H r y := by
    intro vs rs h
    induction h with
    | nil => exact ⟨[], rfl, rfl, fun i v y h => by simp at h, fun i v y h => by simp at h⟩
    | @cons v r vs rs h t ih =>
      obtain ⟨xs, h1, h2, h3, h4⟩ := ih
      have one : ∃ y, (match v with | .tmp t => (pure (a.tmps.getD t undef) : Sem Value) | .cell t ty => do loadVar ty (← asAddr (a.tmps.getD t undef))).run P w = .ok y w ∧ Den w F E H r y := by
        cases v with
        | tmp t => exact ⟨_, rfl, h ▸ hR.den t⟩
        | cell t ty =>
          obtain ⟨i, o, cs, n, row, e1, e2, e3, e4⟩ := h
          have hd := hR.den t
          rw [e1] at hd
          obtain ⟨b, hE, hv⟩ := den_ptr hd
          have hbox := hR.env.box i
          rw [e2] at hbox
          obtain ⟨b', ct, tt, hE', hh, hp⟩ := hbox
          obtain rfl := Option.some.inj (hE'.symm.trans hE)
          obtain ⟨y, y1, y2⟩ := run_load_cells (b := b') (o := 0) e3 hp (fun j v hj => by
            rw [Nat.zero_add]
            simp only [World.cell?, hh]
            rw [← Array.getElem?_toList, hj]
            rfl) e4
          rw [Nat.zero_add] at y1
          refine ⟨y, ?_, y2⟩
          simp only [hv, asAddr, Sem.run_bind, Sem.run_pure, Result.andThen_ok, y1]
      obtain ⟨y, hy1, hy2⟩ := one
      refine ⟨y :: xs, by simp [h1], by simp [h2], fun i v' y' hv' hy' => ?_, fun i r' y' hr' hy' => ?_⟩
      · cases i with
        | zero => simp only [List.getElem?_cons_zero, Option.some.injEq] at hv' hy'; subst hv'; subst hy'; exact hy1
        | succ i => exact h3 i v' y' (by simpa using hv') (by simpa using hy')
      · cases i with
        | zero => simp only [List.getElem?_cons_zero, Option.some.injEq] at hr' hy'; subst hr'; subst hy'; exact hy2
        | succ i => exact h4 i r' y' (by simpa using hr') (by simpa using hy')
  obtain ⟨xs, h1, h2, h3, h4⟩ := key _ _ h
  have hm := run_mapM_list (P := P) (w := w) (l := fn.results.toList) (xs := xs) h1.symm h3
  have hrun : (results fn a.tmps).run P w = .ok (if h : xs.toArray.size = 1 then xs.toArray[0] else .tuple xs.toArray) w := by
    unfold results
    rw [Array.mapM_eq_mapM_toList]
    simp only [Sem.run_bind, Sem.run_map]
    erw [hm]
    rfl
  refine ⟨_, hrun, ?_⟩
  match rs, xs, h2, h4 with
  | [], [], _, _ => exact .tup [] #[] rfl (fun i a h => by simp at h)
  | [r], [x], _, h4 => exact h4 0 r x rfl rfl
  | r :: r' :: rs, x :: x' :: xs, h2, h4 =>
    rw [dif_neg (by simp)]
    refine .tup _ _ (by simpa using h2) (fun i a ha => ?_)
    have hi : i < (x :: x' :: xs).length := by rw [h2]; exact (List.getElem?_eq_some_iff.1 ha).1
    have := h4 i a _ ha (List.getElem?_eq_getElem hi)
    simpa [Array.getD_eq_getD_getElem?, List.getElem?_eq_getElem hi] using this
end Go.Proofs.Ytpdndapegiglcaa
