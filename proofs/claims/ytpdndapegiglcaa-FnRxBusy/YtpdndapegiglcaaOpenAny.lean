/- A statement whose order is open, by what each of its operations leaves: whatever comes up next finds what it waits for, and leaves what the others found. -/
import Derived.Test.YtpdndapegiglcaaOpenRead
namespace Go.Proofs.Ytpdndapegiglcaa
section
variable {P : Program} {Q : Exit → Act → World → Prop}

/-- Where an operation's value goes. -/
def dstOf (l : List Oper) (j : Nat) : Option Tmp := (l[j]?).bind (·.dst)
/-- All values of the first n, laid in their order. -/
def puts (a : Act) (l : List Oper) (vals : Nat → Value) : Nat → Act
  | 0 => a
  | n + 1 => (puts a l vals n).put (dstOf l n) (vals n)
/-- The first n: each has a place of its own for its value, and no guard; those behind wait for all of them. -/
def openB (l : List Oper) (n : Nat) : Bool :=
  decide (n ≤ l.length) && tailB .any l.toArray n &&
  ((List.range n).all fun i => match l[i]? with
    | some o => o.guard.isNone && o.dst.isSome && ((List.range n).all fun j => i == j || dstOf l i != dstOf l j) && o.after.all fun e => !Region.binds .any e || decide (e.on < i)
    | none => false)
/-- What is known where an operation comes up: what was there before the statement, and what those that it waits for left. -/
structure Known (l : List Oper) (n : Nat) (PR : Nat → Value → World → Prop) (a0 a : Act) (w : World) (o : Oper) : Prop where
  size : a.tmps.size = a0.tmps.size
  old : ∀ k, (∀ j, j < n → dstOf l j ≠ some k) → a.eval (.tmp k) = a0.eval (.tmp k)
  new : ∀ j d, j < n → (o.after.any fun e => Region.binds .any e && e.on == j) = true → dstOf l j = some d → d < a0.tmps.size → PR j (a.eval (.tmp d)) w

theorem eval_put_same (a : Act) (d : Tmp) (v : Value) (h : d < a.tmps.size) : (a.put (some d) v).eval (.tmp d) = v := by
  simp [Act.put, Act.eval, h]
theorem eval_put_ne (a : Act) (x : Option Tmp) (k : Tmp) (v : Value) (h : x ≠ some k) : (a.put x v).eval (.tmp k) = a.eval (.tmp k) := by
  cases x with
  | none => rfl
  | some d =>
    have : d ≠ k := fun e => h (by rw [e])
    simp [Act.put, Act.eval, Array.getElem?_setIfInBounds_ne this]
theorem size_put (a : Act) (x : Option Tmp) (v : Value) : (a.put x v).tmps.size = a.tmps.size := by
  cases x <;> simp [Act.put]
theorem defers_put (a : Act) (x : Option Tmp) (v : Value) : (a.put x v).defers = a.defers := by
  cases x <;> simp [Act.put]
theorem size_puts (a : Act) (l : List Oper) (vals : Nat → Value) (n : Nat) : (puts a l vals n).tmps.size = a.tmps.size := by
  induction n with
  | zero => rfl
  | succ n ih => rw [puts, size_put, ih]
theorem defers_puts (a : Act) (l : List Oper) (vals : Nat → Value) (n : Nat) : (puts a l vals n).defers = a.defers := by
  induction n with
  | zero => rfl
  | succ n ih => rw [puts, defers_put, ih]
theorem eval_puts_old (a : Act) (l : List Oper) (vals : Nat → Value) (k : Tmp) : ∀ n, (∀ j, j < n → dstOf l j ≠ some k) → (puts a l vals n).eval (.tmp k) = a.eval (.tmp k)
  | 0, _ => rfl
  | n + 1, h => by rw [puts, eval_put_ne _ _ _ _ (h n (Nat.lt_succ_self n)), eval_puts_old a l vals k n (fun j hj => h j (by omega))]
theorem eval_puts_new (a : Act) (l : List Oper) (vals : Nat → Value) (j k : Nat) (hk : k < a.tmps.size) (hd : dstOf l j = some k) : ∀ n, j < n → (∀ i, i < n → i ≠ j → dstOf l i ≠ dstOf l j) → (puts a l vals n).eval (.tmp k) = vals j
  | 0, h, _ => absurd h (by omega)
  | n + 1, h, hne => by
    rw [puts]
    by_cases hj : n = j
    · subst hj; rw [hd]; exact eval_put_same _ _ _ (by rw [size_puts]; exact hk)
    · rw [eval_put_ne _ _ _ _ (by rw [← hd]; exact hne n (Nat.lt_succ_self n) hj)]
      exact eval_puts_new a l vals j k hk hd n (by omega) (fun i hi h => hne i (by omega) h)
theorem act_ext {a b : Act} (hs : a.tmps.size = b.tmps.size) (hd : a.defers = b.defers) (h : ∀ k, k < b.tmps.size → a.eval (.tmp k) = b.eval (.tmp k)) : a = b := by
  obtain ⟨t, d⟩ := a
  obtain ⟨t', d'⟩ := b
  simp only at hs hd
  subst hd
  have : t = t' := by
    apply Array.ext hs
    intro i h1 h2
    have := h i (by simpa using h2)
    simpa [Act.eval, h1, h2] using this
  rw [this]

theorem openB_spec {l : List Oper} {n : Nat} (h : openB l n = true) : n ≤ l.length ∧ tailB .any l.toArray n = true ∧ ∀ i, i < n → ∃ o d, l[i]? = some o ∧ o.guard = none ∧ o.dst = some d ∧ (∀ j, j < n → j ≠ i → dstOf l j ≠ some d) ∧ ∀ e ∈ o.after, Region.binds .any e = true → e.on < i := by
  simp only [openB, Bool.and_eq_true, decide_eq_true_eq] at h
  obtain ⟨⟨h1, h2⟩, h3⟩ := h
  refine ⟨h1, h2, fun i hi => ?_⟩
  have h4 := List.all_eq_true.1 h3 i (List.mem_range.2 hi)
  cases ho : l[i]? with
  | none => rw [ho] at h4; cases h4
  | some o =>
    rw [ho] at h4
    simp only [Bool.and_eq_true, Option.isNone_iff_eq_none, Option.isSome_iff_exists] at h4
    obtain ⟨⟨⟨hg, d, hd⟩, ha⟩, haf⟩ := h4
    refine ⟨o, d, rfl, hg, hd, fun j hj hne he => ?_, fun e he hb => by simpa [hb] using Array.all_eq_true'.1 haf e he⟩
    have h5 := List.all_eq_true.1 ha j (List.mem_range.2 hj)
    simp only [Bool.or_eq_true, beq_iff_eq, bne_iff_ne, ne_eq] at h5
    rcases h5 with h5 | h5
    · exact hne h5.symm
    · exact h5 (by rw [he]; simp [dstOf, ho, hd])

theorem binds_of {o : Oper} {j : Nat} (h : (o.after.any fun e => Region.binds .any e && e.on == j) = true) : ∃ e ∈ o.after, Region.binds .any e = true ∧ e.on = j := by
  obtain ⟨e, he, hb⟩ := Array.any_eq_true'.1 h
  simp only [Bool.and_eq_true, beq_iff_eq] at hb
  exact ⟨e, he, hb.1, hb.2⟩

/-- How many have come up, of the first n. -/
def cnt (listed : Array Bool) : Nat → Nat
  | 0 => 0
  | n + 1 => cnt listed n + if listed.getD n false = true then 1 else 0
theorem cnt_le (listed : Array Bool) : ∀ n, cnt listed n ≤ n
  | 0 => Nat.le_refl _
  | n + 1 => by have := cnt_le listed n; unfold cnt; split <;> omega
theorem cnt_set {listed : Array Bool} {i : Nat} (hi : listed.getD i true = false) : ∀ n, i < n → cnt (listed.setIfInBounds i true) n = cnt listed n + 1
  | 0, h => absurd h (by omega)
  | n + 1, h => by
    have hlt : i < listed.size := by
      rcases Nat.lt_or_ge i listed.size with h' | h'
      · exact h'
      · simp [Array.getElem?_eq_none h'] at hi
    unfold cnt
    by_cases hn : i = n
    · subst hn
      have e1 : (listed.setIfInBounds i true).getD i false = true := by simp [hlt]
      have e2 : listed.getD i false = false := by simp [hlt] at hi ⊢; exact hi
      have e3 : ∀ m, m ≤ i → cnt (listed.setIfInBounds i true) m = cnt listed m := by
        intro m
        induction m with
        | zero => intro _; rfl
        | succ m ih => intro hm; unfold cnt; rw [ih (by omega), getD_set_ne false (by omega)]
      rw [e1, e2, e3 i (Nat.le_refl _)]
      simp
    · rw [cnt_set hi n (by omega), getD_set_ne false hn]
      omega
theorem cnt_full {listed : Array Bool} : ∀ {n : Nat}, cnt listed n = n → ∀ i, i < n → listed.getD i false = true
  | 0, _, i, hi => absurd hi (by omega)
  | n + 1, h, i, hi => by
    unfold cnt at h
    have h1 := cnt_le listed n
    have h2 : cnt listed n = n ∧ listed.getD n false = true := by
      by_cases hh : listed.getD n false = true
      · rw [if_pos hh] at h; exact ⟨by omega, hh⟩
      · rw [if_neg hh] at h; omega
    by_cases hn : i = n
    · subst hn; exact h2.2
    · exact cnt_full h2.1 i (by omega)

theorem open_go {l : List Oper} {a0 : Act} (n : Nat) (PR : Nat → Value → World → Prop) (G : Nat → World → Prop) (T : World → World → Prop)
    (hB : openB l n = true) (hd0 : ∀ j d, j < n → dstOf l j = some d → d < a0.tmps.size)
    (hT : ∀ j v w w', PR j v w → T w w' → PR j v w')
    (step : ∀ i o, i < n → l[i]? = some o → ∀ (a : Act) (w : World) (c : Nat), c < n → G c w → Known l n PR a0 a w o → o.wp P a w (fun a' w' => ∃ v, a' = a.put o.dst v ∧ PR i v w' ∧ G (c + 1) w' ∧ T w w') Q)
    (fin : ∀ (vals : Nat → Value) (w : World), G n w → (∀ j, j < n → PR j (vals j) w) → wpAny P .any l.toArray Q (l.length - n) (markL (Array.replicate l.length false) ((List.range n).map fun i => (i, true))) (puts a0 l vals n) w) :
    ∀ (f : Nat) (listed : Array Bool) (a : Act) (w : World), listed.size = l.length → (∀ i, n ≤ i → i < l.length → listed.getD i true = false) → f + cnt listed n = l.length → G (cnt listed n) w → a.tmps.size = a0.tmps.size → a.defers = a0.defers →
      (∀ k, (∀ j, j < n → dstOf l j ≠ some k) → a.eval (.tmp k) = a0.eval (.tmp k)) → (∀ j, j < n → listed.getD j false = false → ∀ d, dstOf l j = some d → a.eval (.tmp d) = a0.eval (.tmp d)) →
      (∀ j d, j < n → listed.getD j false = true → dstOf l j = some d → PR j (a.eval (.tmp d)) w) → wpAny P .any l.toArray Q f listed a w := by
  obtain ⟨hn, ht, hop⟩ := openB_spec hB
  have done : ∀ (f : Nat) (listed : Array Bool) (a : Act) (w : World), cnt listed n = n → listed.size = l.length → (∀ i, n ≤ i → i < l.length → listed.getD i true = false) → f + cnt listed n = l.length → G (cnt listed n) w → a.tmps.size = a0.tmps.size → a.defers = a0.defers →
      (∀ k, (∀ j, j < n → dstOf l j ≠ some k) → a.eval (.tmp k) = a0.eval (.tmp k)) →
      (∀ j d, j < n → listed.getD j false = true → dstOf l j = some d → PR j (a.eval (.tmp d)) w) → wpAny P .any l.toArray Q f listed a w := by
    intro f listed a w hc hsz hbeh hf hG hs hdf hold hnew
    have hall := cnt_full hc
    have hfull : listed = markL (Array.replicate l.length false) ((List.range n).map fun i => (i, true)) := by
      have hm : ∀ m, m ≤ n → (markL (Array.replicate l.length false) ((List.range m).map fun i => (i, true))).size = l.length ∧ ∀ k, k < l.length → (markL (Array.replicate l.length false) ((List.range m).map fun i => (i, true))).getD k false = decide (k < m) := by
        intro m
        induction m with
        | zero => intro _; exact ⟨by simp [markL], fun k hk => by simp [markL, hk]⟩
        | succ m ih =>
          intro hmn
          obtain ⟨h1, h2⟩ := ih (by omega)
          have e : markL (Array.replicate l.length false) ((List.range (m + 1)).map fun i => (i, true)) = (markL (Array.replicate l.length false) ((List.range m).map fun i => (i, true))).setIfInBounds m true := by
            simp [markL, List.range_succ, List.map_append, List.foldl_append]
          rw [e]
          refine ⟨by simp [h1], fun k hk => ?_⟩
          by_cases hmk : m = k
          · subst hmk; simp [h1, hk]
          · rw [getD_set_ne false hmk, h2 k hk]
            by_cases hkm : k < m
            · simp [hkm]; omega
            · simp [hkm]; omega
      obtain ⟨h1, h2⟩ := hm n (Nat.le_refl n)
      apply Array.ext (by rw [hsz, h1])
      intro k hk1 hk2
      have h3 := h2 k (by omega)
      have h4 : listed.getD k false = decide (k < n) := by
        by_cases hkn : k < n
        · rw [hall k hkn]; simp [hkn]
        · have := hbeh k (by omega) (by omega)
          simp [hk1] at this ⊢
          rw [this]; simp [hkn]
      simpa [hk1, hk2] using h4.trans h3.symm
    let vals : Nat → Value := fun j => match dstOf l j with
      | some d => a.eval (.tmp d)
      | none => undef
    have hvals : ∀ j d, dstOf l j = some d → vals j = a.eval (.tmp d) := fun j d h => by simp [vals, h]
    have ha : a = puts a0 l vals n := by
      apply act_ext (by rw [hs, size_puts]) (by rw [hdf, defers_puts])
      intro k hk
      rw [size_puts] at hk
      by_cases hex : ∃ j, j < n ∧ dstOf l j = some k
      · obtain ⟨j, hj, hdj⟩ := hex
        obtain ⟨o, d, ho, _, hd, hne, _⟩ := hop j hj
        have hdk : dstOf l j = some d := by simp [dstOf, ho, hd]
        rw [eval_puts_new a0 l vals j k hk hdj n hj (fun i hi hij => by rw [hdk]; exact hne i hi hij), hvals j k hdj]
      · rw [eval_puts_old a0 l vals k n (fun j hj he => hex ⟨j, hj, he⟩)]
        exact hold k (fun j hj he => hex ⟨j, hj, he⟩)
    have hfn : f = l.length - n := by omega
    rw [hfn, hfull, ha]
    refine fin vals w (by rw [hc] at hG; exact hG) (fun j hj => ?_)
    obtain ⟨o, d, ho, _, hd, _, _⟩ := hop j hj
    have hdk : dstOf l j = some d := by simp [dstOf, ho, hd]
    rw [hvals j d hdk]
    exact hnew j d hj (hall j hj) hdk
  intro f
  induction f with
  | zero =>
    intro listed a w hsz hbeh hf hG hs hdf hold hun hnew
    have := cnt_le listed n
    exact done 0 listed a w (by omega) hsz hbeh hf hG hs hdf hold hnew
  | succ f ih =>
    intro listed a w hsz hbeh hf hG hs hdf hold hun hnew
    by_cases hc : cnt listed n = n
    · exact done (f + 1) listed a w hc hsz hbeh hf hG hs hdf hold hnew
    have hcl := cnt_le listed n
    -- one of the first is missing: so what comes up is one of them
    obtain ⟨m, hm, hmun⟩ : ∃ m, m < n ∧ listed.getD m true = false := by
      refine Classical.byContradiction fun hno => hc ?_
      have : ∀ k, k ≤ n → cnt listed k = k := by
        intro k
        induction k with
        | zero => intro _; rfl
        | succ k ihk =>
          intro hk
          unfold cnt
          rw [ihk (by omega)]
          have hkl : k < listed.size := by omega
          have : listed.getD k false = true := by
            refine Classical.byContradiction fun h => hno ⟨k, by omega, ?_⟩
            simp [hkl] at h ⊢; exact h
          rw [this]; simp
      exact this n (Nat.le_refl n)
    have hnon : ∀ i ∈ Region.ready .any l.toArray listed, i < n := fun i hi => tailB_waits ht hm hmun hi
    refine ⟨fun h0 => ?_, fun i hi => ?_⟩
    · exfalso
      have : ∀ k, k < n → listed.getD k false = true := by
        intro k
        induction k using Nat.strongRecOn with
        | ind k ihk =>
          intro hk
          refine Classical.byContradiction fun hkf => ?_
          obtain ⟨o, d, ho, _, _, _, haf⟩ := hop k hk
          have hkl : k < listed.size := by omega
          have : k ∈ Region.ready .any l.toArray listed := mem_ready.2 ⟨by simp [hkl] at hkf ⊢; exact hkf, o, by simpa using ho, fun e he hb => ihk e.on (haf e he hb) (by have := haf e he hb; omega)⟩
          rw [h0] at this
          cases this
      have h1 := this m hm
      have hml : m < listed.size := by omega
      simp [hml] at h1 hmun
      rw [h1] at hmun
      cases hmun
    · have hin := hnon i hi
      obtain ⟨hiun, o', ho', hall⟩ := mem_ready.1 hi
      obtain ⟨o, d, ho, hg, hd, hne, haf⟩ := hop i hin
      obtain rfl : o' = o := by
        have : l[i]? = some o' := by simpa using ho'
        rw [ho] at this; exact (Option.some.inj this).symm
      have hdi : dstOf l i = some d := by simp [dstOf, ho, hd]
      have hil : i < listed.size := by omega
      have hknown : Known l n PR a0 a w o' := ⟨hs, hold, fun j dj hj hw hdj _ => by
        obtain ⟨e, he, hb, hej⟩ := binds_of hw
        have h3 := hall e he hb
        rw [hej] at h3
        exact hnew j dj hj h3 hdj⟩
      have hst := step i o' hin ho a w (cnt listed n) (by omega) hG hknown
      unfold wpOp
      simp only [ho']
      rw [if_pos (by simp [Region.wanted, hg])]
      refine .inl (Oper.wp_mono (fun a' w' h' => ?_) hst)
      obtain ⟨v, rfl, hp, hG', hT'⟩ := h'
      have hcs := cnt_set hiun n hin
      refine ih (listed.setIfInBounds i true) _ w' (by simp [hsz]) (fun k hk1 hk2 => by rw [getD_set_ne true (by omega)]; exact hbeh k hk1 hk2) (by rw [hcs]; omega) (by rw [hcs]; exact hG') (by rw [size_put, hs]) (by rw [defers_put, hdf]) (fun k hk => ?_) (fun j hj hjf dj hdj => ?_) (fun j dj hj hjt hdj => ?_)
      · rw [eval_put_ne _ _ _ _ (by rw [hd, ← hdi]; exact hk i hin)]
        exact hold k hk
      · by_cases hij : i = j
        · subst hij; simp [hil] at hjf
        · rw [getD_set_ne false hij] at hjf
          rw [eval_put_ne _ _ _ _ (by rw [hd]; intro e; exact hne j hj (Ne.symm hij) (by rw [hdj, ← e]))]
          exact hun j hj hjf dj hdj
      · by_cases hij : i = j
        · subst hij
          rw [hdi] at hdj
          obtain rfl := Option.some.inj hdj
          rw [hd, eval_put_same _ _ _ (by rw [hs]; exact hd0 i _ hin hdi)]
          exact hp
        · rw [getD_set_ne false hij] at hjt
          rw [eval_put_ne _ _ _ _ (by rw [hd]; intro e; exact hne j hj (Ne.symm hij) (by rw [hdj, ← e]))]
          exact hT j _ w w' (hnew j dj hj hjt hdj) hT'
/-- THE REGION, by what each operation leaves. -/
theorem region_open {id : Nat} {a0 : Act} {w : World} {l : List Oper} (n : Nat) (PR : Nat → Value → World → Prop) (G : Nat → World → Prop) (T : World → World → Prop) (hm : P.follows .mixedOrders = true)
    (hB : openB l n = true) (hd0 : ∀ j d, j < n → dstOf l j = some d → d < a0.tmps.size) (hG : G 0 w.drew)
    (hT : ∀ j v w w', PR j v w → T w w' → PR j v w')
    (step : ∀ i o, i < n → l[i]? = some o → ∀ (a : Act) (w : World) (c : Nat), c < n → G c w → Known l n PR a0 a w o → o.wp P a w (fun a' w' => ∃ v, a' = a.put o.dst v ∧ PR i v w' ∧ G (c + 1) w' ∧ T w w') Q)
    (fin : ∀ (vals : Nat → Value) (w : World), G n w → (∀ j, j < n → PR j (vals j) w) → wpAny P .any l.toArray Q (l.length - n) (markL (Array.replicate l.length false) ((List.range n).map fun i => (i, true))) (puts a0 l vals n) w) :
    (Code.region id l.toArray true).wp P Q a0 w := by
  refine wp_region_any hm ?_
  have hz : ∀ m, cnt (Array.replicate l.toArray.size false) m = 0 := by
    intro m
    induction m with
    | zero => rfl
    | succ m ih =>
      unfold cnt
      rw [ih]
      by_cases h : m < l.length <;> simp [h]
  have hf : ∀ k, (Array.replicate l.toArray.size false).getD k false = false := by
    intro k
    by_cases h : k < l.length <;> simp [h]
  refine open_go n PR G T hB hd0 hT step fin _ _ a0 _ (by simp) (fun i _ hi => by simp [hi]) (by rw [hz]; simp) (by rw [hz]; exact hG) rfl rfl (fun _ _ => rfl) (fun _ _ _ _ _ => rfl) (fun j d _ h => ?_)
  rw [hf] at h
  cases h
/-- Nothing of the first n goes to k. -/
theorem Known.was {l : List Oper} {n : Nat} {PR : Nat → Value → World → Prop} {a0 a : Act} {w : World} {o : Oper} (h : Known l n PR a0 a w o) (k : Tmp) (hB : ((List.range n).all fun j => dstOf l j != some k) = true) : a.eval (.tmp k) = a0.eval (.tmp k) :=
  h.old k (fun j hj e => by
    have := List.all_eq_true.1 hB j (List.mem_range.2 hj)
    rw [e] at this
    simp at this)
theorem Known.has {l : List Oper} {n : Nat} {PR : Nat → Value → World → Prop} {a0 a : Act} {w : World} {o : Oper} (h : Known l n PR a0 a w o) (j d : Nat) (hB : (decide (j < n) && (o.after.any fun e => Region.binds .any e && e.on == j) && (dstOf l j == some d)) = true) (hd : d < a0.tmps.size) : PR j (a.eval (.tmp d)) w := by
  simp only [Bool.and_eq_true, decide_eq_true_eq, beq_iff_eq] at hB
  exact h.new j d hB.1.1 hB.1.2 hB.2 hd
theorem dsts_in {l : List Oper} {n sz : Nat} (h : ((List.range n).all fun j => match dstOf l j with | some d => decide (d < sz) | none => true) = true) (j d : Nat) (hj : j < n) (hd : dstOf l j = some d) : d < sz := by
  have := List.all_eq_true.1 h j (List.mem_range.2 hj)
  rw [hd] at this
  simpa using this
/-- Values laid at places, one behind the other. -/
def putsL (a : Act) (vals : Nat → Value) : Nat → List Tmp → Act
  | _, [] => a
  | j, d :: ds => putsL (a.put (some d) (vals j)) vals (j + 1) ds
theorem putsL_snoc (vals : Nat → Value) (d : Tmp) : ∀ (ds : List Tmp) (a : Act) (j : Nat), putsL a vals j (ds ++ [d]) = (putsL a vals j ds).put (some d) (vals (j + ds.length))
  | [], a, j => rfl
  | x :: ds, a, j => by
    rw [List.cons_append, putsL, putsL, putsL_snoc vals d ds, List.length_cons]
    congr 2
    omega
theorem puts_list (a : Act) (l : List Oper) (vals : Nat → Value) : ∀ (n : Nat) (ds : List Tmp), (List.range n).map (dstOf l) = ds.map some → puts a l vals n = putsL a vals 0 ds
  | 0, ds, h => by
    cases ds with
    | nil => rfl
    | cons _ _ => simp at h
  | n + 1, ds, h => by
    rw [List.range_succ, List.map_append] at h
    rcases List.eq_nil_or_concat ds with rfl | ⟨ds', d, rfl⟩
    · simp at h
    · rw [List.concat_eq_append, List.map_append] at h
      obtain ⟨h1, h2⟩ := List.append_inj' h (by simp)
      have hd : dstOf l n = some d := by simpa using h2
      have hl : ds'.length = n := by
        have := congrArg List.length h1
        simpa using this.symm
      rw [List.concat_eq_append, putsL_snoc, puts, puts_list a l vals n ds' h1, hd, hl, Nat.zero_add]
def seqB (ops : Array Oper) : List Nat → Array Bool → Bool
  | [], listed => decide (Region.ready .any ops listed = [])
  | i :: rest, listed => decide (Region.ready .any ops listed = [i]) && seqB ops rest (listed.setIfInBounds i true)
theorem any_seq {ops : Array Oper} : ∀ (p : List Nat) (listed : Array Bool) (a : Act) (w : World), seqB ops p listed = true → wpOps P ops Q p a w → wpAny P .any ops Q p.length listed a w
  | [], listed, a, w, hB, h => by
    simp only [seqB, decide_eq_true_eq] at hB
    exact ⟨hB, by simpa [wpOps] using h⟩
  | i :: rest, listed, a, w, hB, h => by
    simp only [seqB, Bool.and_eq_true, decide_eq_true_eq] at hB
    rw [wpOps_cons] at h
    refine ⟨fun h0 => (by rw [hB.1] at h0; cases h0), fun j hj => ?_⟩
    rw [hB.1] at hj
    have hji : j = i := by simpa using hj
    subst hji
    exact wpOp_mono (fun a' w' h' => any_seq rest _ a' w' hB.2 h') h
/-- THE REGION, by what each operation leaves; then the last ones, in their order. -/
theorem region_tail {id : Nat} {a0 : Act} {w : World} {l : List Oper} (n : Nat) (ds : List Tmp) (tl : List Nat) (PR : Nat → Value → World → Prop) (G : Nat → World → Prop) (T : World → World → Prop) (hm : P.follows .mixedOrders = true)
    (hB : (openB l n && decide (n + tl.length = l.length) && decide ((List.range n).map (dstOf l) = ds.map some) && seqB l.toArray tl (markL (Array.replicate l.length false) ((List.range n).map fun i => (i, true)))) = true)
    (hd0 : ∀ j d, j < n → dstOf l j = some d → d < a0.tmps.size) (hG : G 0 w.drew)
    (hT : ∀ j v w w', PR j v w → T w w' → PR j v w')
    (step : ∀ i o, i < n → l[i]? = some o → ∀ (a : Act) (w : World) (c : Nat), c < n → G c w → Known l n PR a0 a w o → o.wp P a w (fun a' w' => ∃ v, a' = a.put o.dst v ∧ PR i v w' ∧ G (c + 1) w' ∧ T w w') Q)
    (fin : ∀ (vals : Nat → Value) (w : World), G n w → (∀ j, j < n → PR j (vals j) w) → wpOps P l.toArray Q tl (putsL a0 vals 0 ds) w) :
    (Code.region id l.toArray true).wp P Q a0 w := by
  simp only [Bool.and_eq_true, decide_eq_true_eq] at hB
  obtain ⟨⟨⟨h1, h2⟩, h3⟩, h4⟩ := hB
  refine region_open n PR G T hm h1 hd0 hG hT step (fun vals w hG' hv => ?_)
  rw [puts_list a0 l vals n ds h3, show l.length - n = tl.length by omega]
  exact any_seq tl _ _ _ h4 (fin vals w hG' hv)
theorem tail_cons {l : List Oper} {i : Nat} {rest : List Nat} {o : Oper} {a : Act} {w : World} (ho : l[i]? = some o) (hg : o.guard = none) (h : o.wp P a w (wpOps P l.toArray Q rest) Q) : wpOps P l.toArray Q (i :: rest) a w := by
  rw [wpOps_cons]
  unfold wpOp
  have : l.toArray[i]? = some o := by simpa using ho
  simp only [this]
  rw [if_pos (by simp [Region.wanted, hg])]
  exact .inl h
theorem tail_nil {ops : Array Oper} {a : Act} {w : World} (h : Q .normal a w) : wpOps P ops Q [] a w := by simpa [wpOps] using h
theorem tail_one {l : List Oper} {i : Nat} {o : Oper} {a : Act} {w : World} (ho : l[i]? = some o) (hg : o.guard = none) (h : o.wp P a w (fun a w => Q .normal a w) Q) : wpOps P l.toArray Q [i] a w :=
  tail_cons ho hg (Oper.wp_mono (fun _ _ h => tail_nil h) h)
end
end Go.Proofs.Ytpdndapegiglcaa
