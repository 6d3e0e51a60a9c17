/- A statement whose order is open, by what each of its operations leaves, where some of the first ones, that only compute, are not waited for by all that come last. -/
import Derived.Test.YtkogmnjgpaocbaaOpenAny
namespace Go.Proofs.Ytkogmnjgpaocbaa
section
variable {P : Program} {Q : Exit → Act → World → Prop}
theorem wpAny_C {md : Region.Mode} {ops : Array Oper} {n : Nat} : ∀ (f : Nat) (listed : Array Bool) (a : Act) (w : World), wpAny P md ops Q f listed a w → wpAnyC P md ops (fun _ => True) n Q f listed a w
  | 0, _, _, _, h => h
  | f + 1, _, _, _, h => ⟨h.1, fun i hi => wpOp_mono (fun a' w' h' => ⟨fun _ => trivial, wpAny_C f _ a' w' h'⟩) (h.2 i hi)⟩
theorem tailB_all (md : Region.Mode) (ops : Array Oper) : tailB md ops ops.size = true := by
  unfold tailB
  rw [List.all_eq_true]
  intro t ht
  have := List.mem_range.1 ht
  simp [this]
theorem take_any {md : Region.Mode} {ops : Array Oper} {i : Nat} {oi : Oper} {v : Value} (hi : ops[i]? = some oi) (hs : Region.noSelect ops = true) (hQ : ∀ c a w, Q (.panic c) (Act.put a oi.dst v) w → Q (.panic c) a w) (f : Nat) (listed : Array Bool) (a : Act) (w : World)
    (hfree : ∀ j oj, ops[j]? = some oj → j ≠ i → listed.getD j true = false → (∀ e ∈ oj.after, Region.binds md e = true → e.on ≠ i) → oi.apart ops oj = true) (hr : i ∈ Region.ready md ops listed) (hy : ReadsAs P ops (fun _ => True) oi v a)
    (H : wpAny P md ops Q f (listed.setIfInBounds i true) (a.put oi.dst v) w) : wpAny P md ops Q (f + 1) listed a w :=
  wpAnyC.plain _ _ _ _ (take_first (C := fun _ => True) (n := ops.size) hi (Region.noSelect_spec hs) hQ (Array.getElem?_eq_some_iff.1 hi).1 (tailB_all md ops) f listed a w trivial hfree hr hy (wpAny_C f _ _ w H))
def mark0 (l : List Oper) (n : Nat) (late : List Nat) : Array Bool := ((List.range l.length).map fun i => decide (i < n) && !late.contains i).toArray
def lateB (l : List Oper) (n : Nat) (late : List Nat) : Bool :=
  decide (n ≤ l.length) && Region.noSelect l.toArray &&
  ((List.range l.length).all fun t => decide (t < n) || (List.range n).all fun i => late.contains i || match l[t]? with
    | some o => o.after.any fun e => Region.binds .any e && e.on == i
    | none => false) &&
  ((List.range n).all fun i => match l[i]? with
    | some o => o.guard.isNone && o.dst.isSome && ((List.range n).all fun j => i == j || dstOf l i != dstOf l j) && o.after.all fun e => !Region.binds .any e || decide (e.on < i)
    | none => false) &&
  (late.all fun i => match l[i]? with
    | some o => (o.after.all fun e => !Region.binds .any e || !late.contains e.on) && Region.free .any l.toArray (mark0 l n late) i
    | none => true)
theorem lateB_spec {l : List Oper} {n : Nat} {late : List Nat} (h : lateB l n late = true) : n ≤ l.length ∧ Region.noSelect l.toArray = true ∧
    (∀ t o i, n ≤ t → l[t]? = some o → i < n → i ∉ late → ∃ e ∈ o.after, Region.binds .any e = true ∧ e.on = i) ∧
    (∀ i, i < n → ∃ o d, l[i]? = some o ∧ o.guard = none ∧ o.dst = some d ∧ (∀ j, j < n → j ≠ i → dstOf l j ≠ some d) ∧ ∀ e ∈ o.after, Region.binds .any e = true → e.on < i) ∧
    ∀ i, i ∈ late → ∀ o, l[i]? = some o → (∀ e ∈ o.after, Region.binds .any e = true → e.on ∉ late) ∧ Region.free .any l.toArray (mark0 l n late) i = true := by
  simp only [lateB, Bool.and_eq_true, decide_eq_true_eq] at h
  obtain ⟨⟨⟨⟨h1, h2⟩, h3⟩, h4⟩, h5⟩ := h
  refine ⟨h1, h2, fun t o i ht ho hi hl => ?_, fun i hi => ?_, fun i hi o ho => ?_⟩
  · have htl : t < l.length := (List.getElem?_eq_some_iff.1 ho).1
    have h6 := List.all_eq_true.1 h3 t (List.mem_range.2 htl)
    simp only [Bool.or_eq_true, decide_eq_true_eq] at h6
    have h7 := List.all_eq_true.1 (h6.resolve_left (by omega)) i (List.mem_range.2 hi)
    rw [ho] at h7
    simp only [Bool.or_eq_true, List.contains_eq_mem, decide_eq_true_eq] at h7
    exact binds_of (h7.resolve_left hl)
  · have h6 := List.all_eq_true.1 h4 i (List.mem_range.2 hi)
    cases ho : l[i]? with
    | none => rw [ho] at h6; cases h6
    | some o =>
      rw [ho] at h6
      simp only [Bool.and_eq_true, Option.isNone_iff_eq_none, Option.isSome_iff_exists] at h6
      obtain ⟨⟨⟨hg, d, hd⟩, ha⟩, haf⟩ := h6
      refine ⟨o, d, rfl, hg, hd, fun j hj hne he => ?_, fun e he hb => by simpa [hb] using Array.all_eq_true'.1 haf e he⟩
      have h7 := List.all_eq_true.1 ha j (List.mem_range.2 hj)
      simp only [Bool.or_eq_true, beq_iff_eq, bne_iff_ne, ne_eq] at h7
      rcases h7 with h7 | h7
      · exact hne h7.symm
      · exact h7 (by rw [he]; simp [dstOf, ho, hd])
  · have h6 := List.all_eq_true.1 h5 i hi
    rw [ho] at h6
    simp only [Bool.and_eq_true] at h6
    refine ⟨fun e he hb => ?_, h6.2⟩
    have := Array.all_eq_true'.1 h6.1 e he
    simpa [hb] using this

theorem late_go {l : List Oper} {a0 : Act} (n : Nat) (PR : Nat → Value → World → Prop) (G : Nat → World → Prop) (T : World → World → Prop)
    (late : List Nat) (hB : lateB l n late = true) (hQ : ∀ x v c a w, Q (.panic c) (Act.put a x v) w → Q (.panic c) a w) (hd0 : ∀ j d, j < n → dstOf l j = some d → d < a0.tmps.size)
    (hT : ∀ j v w w', PR j v w → T w w' → PR j v w')
    (step : ∀ i o, i < n → l[i]? = some o → ∀ (a : Act) (w : World) (c : Nat), c < n → G c w → Known l n PR a0 a w o → o.wp P a w (fun a' w' => ∃ v, a' = a.put o.dst v ∧ PR i v w' ∧ G (c + 1) w' ∧ T w w') Q)
    (lst : ∀ i o, i ∈ late → l[i]? = some o → ∀ (a : Act) (w : World) (c : Nat), G c w → Known l n PR a0 a w o → ∃ v, (∀ w', (execOp a.eval o).run P w' = .ok (.value v) w') ∧ PR i v w ∧ G (c + 1) w)
    (fin : ∀ (vals : Nat → Value) (w : World), G n w → (∀ j, j < n → PR j (vals j) w) → wpAny P .any l.toArray Q (l.length - n) (markL (Array.replicate l.length false) ((List.range n).map fun i => (i, true))) (puts a0 l vals n) w) :
    ∀ (f : Nat) (listed : Array Bool) (a : Act) (w : World), listed.size = l.length → (∀ i, n ≤ i → i < l.length → listed.getD i true = false) → f + cnt listed n = l.length → G (cnt listed n) w → a.tmps.size = a0.tmps.size → a.defers = a0.defers →
      (∀ k, (∀ j, j < n → dstOf l j ≠ some k) → a.eval (.tmp k) = a0.eval (.tmp k)) → (∀ j, j < n → listed.getD j false = false → ∀ d, dstOf l j = some d → a.eval (.tmp d) = a0.eval (.tmp d)) →
      (∀ j d, j < n → listed.getD j false = true → dstOf l j = some d → PR j (a.eval (.tmp d)) w) → wpAny P .any l.toArray Q f listed a w := by
  obtain ⟨hn, hns, ht, hop, hlt⟩ := lateB_spec hB
  have done : ∀ (f : Nat) (listed : Array Bool) (a : Act) (w : World), cnt listed n = n → listed.size = l.length → (∀ i, n ≤ i → i < l.length → listed.getD i true = false) → f + cnt listed n = l.length → G (cnt listed n) w → a.tmps.size = a0.tmps.size → a.defers = a0.defers →
      (∀ k, (∀ j, j < n → dstOf l j ≠ some k) → a.eval (.tmp k) = a0.eval (.tmp k)) →
      (∀ j d, j < n → listed.getD j false = true → dstOf l j = some d → PR j (a.eval (.tmp d)) w) → wpAny P .any l.toArray Q f listed a w := by
    intro f listed a w hc hsz hbeh hf hG hs hdf hold hnew
    have hall := cnt_full hc
    have hfull : listed = markL (Array.replicate l.length false) ((List.range n).map fun i => (i, true)) := by
      have hm : ∀ m, m ≤ n → (markL (Array.replicate l.length false) ((List.range m).map fun i => (i, true))).size = l.length ∧ ∀ k, k < l.length → (markL (Array.replicate l.length false) ((List.range m).map fun i => (i, true))).getD k false = decide (k < m) := by
        intro m
        induction m with
        | zero => intro _; exact ⟨by simp [markL], fun k hk => by simp [markL, hk]⟩
        | succ m ih =>
          intro hmn
          obtain ⟨h1, h2⟩ := ih (by omega)
          have e : markL (Array.replicate l.length false) ((List.range (m + 1)).map fun i => (i, true)) = (markL (Array.replicate l.length false) ((List.range m).map fun i => (i, true))).setIfInBounds m true := by
            simp [markL, List.range_succ, List.map_append, List.foldl_append]
          rw [e]
          refine ⟨by simp [h1], fun k hk => ?_⟩
          by_cases hmk : m = k
          · subst hmk; simp [h1, hk]
          · rw [getD_set_ne false hmk, h2 k hk]
            by_cases hkm : k < m
            · simp [hkm]; omega
            · simp [hkm]; omega
      obtain ⟨h1, h2⟩ := hm n (Nat.le_refl n)
      apply Array.ext (by rw [hsz, h1])
      intro k hk1 hk2
      have h3 := h2 k (by omega)
      have h4 : listed.getD k false = decide (k < n) := by
        by_cases hkn : k < n
        · rw [hall k hkn]; simp [hkn]
        · have := hbeh k (by omega) (by omega)
          simp [hk1] at this ⊢
          rw [this]; simp [hkn]
      simpa [hk1, hk2] using h4.trans h3.symm
    let vals : Nat → Value := fun j => match dstOf l j with
      | some d => a.eval (.tmp d)
      | none => undef
    have hvals : ∀ j d, dstOf l j = some d → vals j = a.eval (.tmp d) := fun j d h => by simp [vals, h]
    have ha : a = puts a0 l vals n := by
      apply act_ext (by rw [hs, size_puts]) (by rw [hdf, defers_puts])
      intro k hk
      rw [size_puts] at hk
      by_cases hex : ∃ j, j < n ∧ dstOf l j = some k
      · obtain ⟨j, hj, hdj⟩ := hex
        obtain ⟨o, d, ho, _, hd, hne, _⟩ := hop j hj
        have hdk : dstOf l j = some d := by simp [dstOf, ho, hd]
        rw [eval_puts_new a0 l vals j k hk hdj n hj (fun i hi hij => by rw [hdk]; exact hne i hi hij), hvals j k hdj]
      · rw [eval_puts_old a0 l vals k n (fun j hj he => hex ⟨j, hj, he⟩)]
        exact hold k (fun j hj he => hex ⟨j, hj, he⟩)
    have hfn : f = l.length - n := by omega
    rw [hfn, hfull, ha]
    refine fin vals w (by rw [hc] at hG; exact hG) (fun j hj => ?_)
    obtain ⟨o, d, ho, _, hd, _, _⟩ := hop j hj
    have hdk : dstOf l j = some d := by simp [dstOf, ho, hd]
    rw [hvals j d hdk]
    exact hnew j d hj (hall j hj) hdk
  intro f
  induction f with
  | zero =>
    intro listed a w hsz hbeh hf hG hs hdf hold hun hnew
    have := cnt_le listed n
    exact done 0 listed a w (by omega) hsz hbeh hf hG hs hdf hold hnew
  | succ f ih =>
    intro listed a w hsz hbeh hf hG hs hdf hold hun hnew
    by_cases hc : cnt listed n = n
    · exact done (f + 1) listed a w hc hsz hbeh hf hG hs hdf hold hnew
    have hcl := cnt_le listed n
    -- one of the first is missing: so what comes up is one of them
    obtain ⟨m, hm, hmun⟩ : ∃ m, m < n ∧ listed.getD m true = false := by
      refine Classical.byContradiction fun hno => hc ?_
      have : ∀ k, k ≤ n → cnt listed k = k := by
        intro k
        induction k with
        | zero => intro _; rfl
        | succ k ihk =>
          intro hk
          unfold cnt
          rw [ihk (by omega)]
          have hkl : k < listed.size := by omega
          have : listed.getD k false = true := by
            refine Classical.byContradiction fun h => hno ⟨k, by omega, ?_⟩
            simp [hkl] at h ⊢; exact h
          rw [this]; simp
      exact this n (Nat.le_refl n)
    by_cases hnon : ∀ i ∈ Region.ready .any l.toArray listed, i < n
    case neg =>
      -- one of the last ones is ready: all but late ones are there, so a late one is missing, and is ready
      obtain ⟨t, htr, htn⟩ : ∃ t, t ∈ Region.ready .any l.toArray listed ∧ n ≤ t := by
        refine Classical.byContradiction fun hno => hnon fun i hi => ?_
        refine Classical.byContradiction fun hin => hno ⟨i, hi, by omega⟩
      obtain ⟨_, ot, hot, hall⟩ := mem_ready.1 htr
      have hot' : l[t]? = some ot := by simpa using hot
      have hlisted : ∀ i, i < n → i ∉ late → listed.getD i false = true := fun i hi hl => by
        obtain ⟨e, he, hb, heq⟩ := ht t ot i htn hot' hi hl
        have := hall e he hb
        rwa [heq] at this
      have hmlate : m ∈ late := by
        refine Classical.byContradiction fun hl => ?_
        have h1 := hlisted m hm hl
        have hml : m < listed.size := by omega
        simp [hml] at h1 hmun
        rw [h1] at hmun
        cases hmun
      obtain ⟨o, d, ho, hg, hd, hne, haf⟩ := hop m hm
      have hdi : dstOf l m = some d := by simp [dstOf, ho, hd]
      obtain ⟨hlaf, hfr⟩ := hlt m hmlate o ho
      have hmr : m ∈ Region.ready .any l.toArray listed := mem_ready.2 ⟨hmun, o, by simpa using ho, fun e he hb => hlisted e.on (by have := haf e he hb; omega) (hlaf e he hb)⟩
      have hknown : Known l n PR a0 a w o := ⟨hs, hold, fun j dj hj hw hdj _ => by
        obtain ⟨e, he, hb, hej⟩ := binds_of hw
        have h3 := hlisted e.on (by rw [hej]; exact hj) (hlaf e he hb)
        rw [hej] at h3
        exact hnew j dj hj h3 hdj⟩
      obtain ⟨v, hrun, hp, hG'⟩ := lst m o hmlate ho a w (cnt listed n) hG hknown
      have hil : m < listed.size := by omega
      have hcs := cnt_set hmun n hm
      refine take_any (ops := l.toArray) (i := m) (oi := o) (v := v) (by simpa using ho) hns (hQ _ _) f listed a w ?_ hmr (.inl ⟨by simp [Region.wanted, hg], fun w' _ => .inl (hrun w')⟩) ?_
      · intro j oj hoj hji hjun hno
        refine Region.free_spec (by simpa using ho) hfr j oj hoj hji ?_ hno
        have hoj' : l[j]? = some oj := by simpa using hoj
        have hjl : j < l.length := (List.getElem?_eq_some_iff.1 hoj').1
        have hjs : j < listed.size := by omega
        simp only [mark0, Array.getD_eq_getD_getElem?, List.getElem?_toArray, List.getElem?_map, List.getElem?_range hjl, Option.map_some, Option.getD_some, Bool.and_eq_false_iff, decide_eq_false_iff_not, Bool.not_eq_false', List.contains_eq_mem, decide_eq_true_eq]
        refine Classical.byContradiction fun hno2 => ?_
        have hjn : j < n := Classical.byContradiction fun h => hno2 (.inl h)
        have hjl2 : j ∉ late := fun h => hno2 (.inr h)
        have h1 := hlisted j hjn hjl2
        simp [hjs] at h1 hjun
        rw [h1] at hjun
        cases hjun
      refine ih (listed.setIfInBounds m true) _ w (by simp [hsz]) (fun k hk1 hk2 => by rw [getD_set_ne true (by omega)]; exact hbeh k hk1 hk2) (by rw [hcs]; omega) (by rw [hcs]; exact hG') (by rw [size_put, hs]) (by rw [defers_put, hdf]) (fun k hk => ?_) (fun j hj hjf dj hdj => ?_) (fun j dj hj hjt hdj => ?_)
      · rw [eval_put_ne _ _ _ _ (by rw [hd, ← hdi]; exact hk m hm)]
        exact hold k hk
      · by_cases hij : m = j
        · subst hij; simp [hil] at hjf
        · rw [getD_set_ne false hij] at hjf
          rw [eval_put_ne _ _ _ _ (by rw [hd]; intro e; exact hne j hj (Ne.symm hij) (by rw [hdj, ← e]))]
          exact hun j hj hjf dj hdj
      · by_cases hij : m = j
        · subst hij
          rw [hdi] at hdj
          obtain rfl := Option.some.inj hdj
          rw [hd, eval_put_same _ _ _ (by rw [hs]; exact hd0 m _ hm hdi)]
          exact hp
        · rw [getD_set_ne false hij] at hjt
          rw [eval_put_ne _ _ _ _ (by rw [hd]; intro e; exact hne j hj (Ne.symm hij) (by rw [hdj, ← e]))]
          exact hnew j dj hj hjt hdj
    refine ⟨fun h0 => ?_, fun i hi => ?_⟩
    · exfalso
      have : ∀ k, k < n → listed.getD k false = true := by
        intro k
        induction k using Nat.strongRecOn with
        | ind k ihk =>
          intro hk
          refine Classical.byContradiction fun hkf => ?_
          obtain ⟨o, d, ho, _, _, _, haf⟩ := hop k hk
          have hkl : k < listed.size := by omega
          have : k ∈ Region.ready .any l.toArray listed := mem_ready.2 ⟨by simp [hkl] at hkf ⊢; exact hkf, o, by simpa using ho, fun e he hb => ihk e.on (haf e he hb) (by have := haf e he hb; omega)⟩
          rw [h0] at this
          cases this
      have h1 := this m hm
      have hml : m < listed.size := by omega
      simp [hml] at h1 hmun
      rw [h1] at hmun
      cases hmun
    · have hin := hnon i hi
      obtain ⟨hiun, o', ho', hall⟩ := mem_ready.1 hi
      obtain ⟨o, d, ho, hg, hd, hne, haf⟩ := hop i hin
      obtain rfl : o' = o := by
        have : l[i]? = some o' := by simpa using ho'
        rw [ho] at this; exact (Option.some.inj this).symm
      have hdi : dstOf l i = some d := by simp [dstOf, ho, hd]
      have hil : i < listed.size := by omega
      have hknown : Known l n PR a0 a w o' := ⟨hs, hold, fun j dj hj hw hdj _ => by
        obtain ⟨e, he, hb, hej⟩ := binds_of hw
        have h3 := hall e he hb
        rw [hej] at h3
        exact hnew j dj hj h3 hdj⟩
      have hst := step i o' hin ho a w (cnt listed n) (by omega) hG hknown
      unfold wpOp
      simp only [ho']
      rw [if_pos (by simp [Region.wanted, hg])]
      refine .inl (Oper.wp_mono (fun a' w' h' => ?_) hst)
      obtain ⟨v, rfl, hp, hG', hT'⟩ := h'
      have hcs := cnt_set hiun n hin
      refine ih (listed.setIfInBounds i true) _ w' (by simp [hsz]) (fun k hk1 hk2 => by rw [getD_set_ne true (by omega)]; exact hbeh k hk1 hk2) (by rw [hcs]; omega) (by rw [hcs]; exact hG') (by rw [size_put, hs]) (by rw [defers_put, hdf]) (fun k hk => ?_) (fun j hj hjf dj hdj => ?_) (fun j dj hj hjt hdj => ?_)
      · rw [eval_put_ne _ _ _ _ (by rw [hd, ← hdi]; exact hk i hin)]
        exact hold k hk
      · by_cases hij : i = j
        · subst hij; simp [hil] at hjf
        · rw [getD_set_ne false hij] at hjf
          rw [eval_put_ne _ _ _ _ (by rw [hd]; intro e; exact hne j hj (Ne.symm hij) (by rw [hdj, ← e]))]
          exact hun j hj hjf dj hdj
      · by_cases hij : i = j
        · subst hij
          rw [hdi] at hdj
          obtain rfl := Option.some.inj hdj
          rw [hd, eval_put_same _ _ _ (by rw [hs]; exact hd0 i _ hin hdi)]
          exact hp
        · rw [getD_set_ne false hij] at hjt
          rw [eval_put_ne _ _ _ _ (by rw [hd]; intro e; exact hne j hj (Ne.symm hij) (by rw [hdj, ← e]))]
          exact hT j _ w w' (hnew j dj hj hjt hdj) hT'
/-- THE REGION, by what each operation leaves. -/
theorem region_late {id : Nat} {a0 : Act} {w : World} {l : List Oper} (n : Nat) (PR : Nat → Value → World → Prop) (G : Nat → World → Prop) (T : World → World → Prop) (hm : P.follows .mixedOrders = true)
    (late : List Nat) (hB : lateB l n late = true) (hQ : ∀ x v c a w, Q (.panic c) (Act.put a x v) w → Q (.panic c) a w) (hd0 : ∀ j d, j < n → dstOf l j = some d → d < a0.tmps.size) (hG : G 0 w.drew)
    (hT : ∀ j v w w', PR j v w → T w w' → PR j v w')
    (step : ∀ i o, i < n → l[i]? = some o → ∀ (a : Act) (w : World) (c : Nat), c < n → G c w → Known l n PR a0 a w o → o.wp P a w (fun a' w' => ∃ v, a' = a.put o.dst v ∧ PR i v w' ∧ G (c + 1) w' ∧ T w w') Q)
    (lst : ∀ i o, i ∈ late → l[i]? = some o → ∀ (a : Act) (w : World) (c : Nat), G c w → Known l n PR a0 a w o → ∃ v, (∀ w', (execOp a.eval o).run P w' = .ok (.value v) w') ∧ PR i v w ∧ G (c + 1) w)
    (fin : ∀ (vals : Nat → Value) (w : World), G n w → (∀ j, j < n → PR j (vals j) w) → wpAny P .any l.toArray Q (l.length - n) (markL (Array.replicate l.length false) ((List.range n).map fun i => (i, true))) (puts a0 l vals n) w) :
    (Code.region id l.toArray true).wp P Q a0 w := by
  refine wp_region_any hm ?_
  have hz : ∀ m, cnt (Array.replicate l.toArray.size false) m = 0 := by
    intro m
    induction m with
    | zero => rfl
    | succ m ih =>
      unfold cnt
      rw [ih]
      by_cases h : m < l.length <;> simp [h]
  have hf : ∀ k, (Array.replicate l.toArray.size false).getD k false = false := by
    intro k
    by_cases h : k < l.length <;> simp [h]
  refine late_go n PR G T late hB hQ hd0 hT step lst fin _ _ a0 _ (by simp) (fun i _ hi => by simp [hi]) (by rw [hz]; simp) (by rw [hz]; exact hG) rfl rfl (fun _ _ => rfl) (fun _ _ _ _ _ => rfl) (fun j d _ h => ?_)
  rw [hf] at h
  cases h
/-- THE REGION, by what each operation leaves; then the last ones, in their order. -/
theorem region_lates {id : Nat} {a0 : Act} {w : World} {l : List Oper} (n : Nat) (ds : List Tmp) (tl : List Nat) (PR : Nat → Value → World → Prop) (G : Nat → World → Prop) (T : World → World → Prop) (hm : P.follows .mixedOrders = true)
    (late : List Nat) (hB : (lateB l n late && decide (n + tl.length = l.length) && decide ((List.range n).map (dstOf l) = ds.map some) && seqB l.toArray tl (markL (Array.replicate l.length false) ((List.range n).map fun i => (i, true)))) = true)
    (hQ : ∀ x v c a w, Q (.panic c) (Act.put a x v) w → Q (.panic c) a w)
    (hd0 : ∀ j d, j < n → dstOf l j = some d → d < a0.tmps.size) (hG : G 0 w.drew)
    (hT : ∀ j v w w', PR j v w → T w w' → PR j v w')
    (step : ∀ i o, i < n → l[i]? = some o → ∀ (a : Act) (w : World) (c : Nat), c < n → G c w → Known l n PR a0 a w o → o.wp P a w (fun a' w' => ∃ v, a' = a.put o.dst v ∧ PR i v w' ∧ G (c + 1) w' ∧ T w w') Q)
    (lst : ∀ i o, i ∈ late → l[i]? = some o → ∀ (a : Act) (w : World) (c : Nat), G c w → Known l n PR a0 a w o → ∃ v, (∀ w', (execOp a.eval o).run P w' = .ok (.value v) w') ∧ PR i v w ∧ G (c + 1) w)
    (fin : ∀ (vals : Nat → Value) (w : World), G n w → (∀ j, j < n → PR j (vals j) w) → wpOps P l.toArray Q tl (putsL a0 vals 0 ds) w) :
    (Code.region id l.toArray true).wp P Q a0 w := by
  simp only [Bool.and_eq_true, decide_eq_true_eq] at hB
  obtain ⟨⟨⟨h1, h2⟩, h3⟩, h4⟩ := hB
  refine region_late n PR G T hm late h1 hQ hd0 hG hT step lst (fun vals w hG' hv => ?_)
  rw [puts_list a0 l vals n ds h3, show l.length - n = tl.length by omega]
  exact any_seq tl _ _ _ h4 (fin vals w hG' hv)
end
end Go.Proofs.Ytkogmnjgpaocbaa
