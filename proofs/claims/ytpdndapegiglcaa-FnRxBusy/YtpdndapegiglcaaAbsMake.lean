/- Struct literals, list literals, append. -/
import Derived.Test.YtpdndapegiglcaaAbsGrow
namespace Go.Proofs.Ytpdndapegiglcaa
open Go

theorem foldl_put (off : Nat) : ∀ (l : List Value) (k : Nat) (cs : Array Value), off + k + l.length ≤ cs.size →
    ((l.zipIdx k).foldl (fun (cs : Array Value) (x : Value × Nat) => cs.setIfInBounds (off + x.2) x.1) cs).toList = cs.toList.take (off + k) ++ l ++ cs.toList.drop (off + k + l.length)
  | [], k, cs, _ => by simp
  | v :: l, k, cs, h => by
    rw [List.length_cons] at h
    rw [List.zipIdx_cons, List.foldl_cons, foldl_put off l (k + 1) _ (by simp; omega)]
    have hk : off + k < cs.toList.length := by simp; omega
    have e : (cs.setIfInBounds (off + k) v).toList = cs.toList.take (off + k) ++ v :: cs.toList.drop (off + k + 1) := by
      rw [Array.toList_setIfInBounds, List.set_eq_take_append_cons_drop, if_pos hk]
    have hl : (cs.toList.take (off + k)).length = off + k := by rw [List.length_take]; omega
    rw [e, ← Nat.add_assoc, List.take_append, List.drop_append, hl]
    have e1 : (cs.toList.take (off + k)).take (off + k + 1) = cs.toList.take (off + k) := by rw [List.take_take]; congr 1; omega
    have e2 : off + k + 1 - (off + k) = 1 := by omega
    have e3 : (cs.toList.take (off + k)).drop (off + k + 1 + l.length) = [] := List.drop_eq_nil_of_le (by rw [hl]; omega)
    have e4 : off + k + 1 + l.length - (off + k) = l.length + 1 := by omega
    rw [e1, e2, e3, e4]
    simp [List.drop_drop, Nat.add_assoc, Nat.add_comm 1]

/-- Parts put into cells. -/
def fillA (place : Nat → Option (Nat × Nat)) (cells : List A) : List (Nat × A) → Option (List A)
  | [] => some cells
  | (i, a) :: rest =>
    match place i, cellsA a with
    | some (off, size), some as => if as.length = size ∧ off + size ≤ cells.length then fillA place (setA cells off as) rest else none
    | _, _ => none

section
variable {w : World} {F : Nat → Prop} {E : Nat → Option Nat} {H : Nat → Nat → Option Value}
theorem fill_den {place : Nat → Option (Nat × Nat)} : ∀ (ps : List (Nat × A)) (qs : List (Nat × Value)) (cells : List A) (vs : Array Value) (r : List A), Pw (CellOk w F E H) cells vs.toList → Pw (fun (p : Nat × A) (q : Nat × Value) => p.1 = q.1 ∧ Den w F E H p.2 q.2) ps qs → fillA place cells ps = some r →
    ∃ vs', Instr.fill place vs qs = some vs' ∧ Pw (CellOk w F E H) r vs'.toList
  | [], [], cells, vs, r, hc, _, h => by
    obtain rfl := Option.some.inj h
    exact ⟨vs, rfl, hc⟩
  | [], _ :: _, _, _, _, _, hp, _ => by cases hp.1
  | _ :: _, [], _, _, _, _, hp, _ => by cases hp.1
  | (i, a) :: ps, (j, v) :: qs, cells, vs, r, hc, hp, h => by
    obtain ⟨hij, hd⟩ := hp.2 0 (i, a) (j, v) rfl rfl
    simp only at hij hd
    subst hij
    have hp' : Pw (fun (p : Nat × A) (q : Nat × Value) => p.1 = q.1 ∧ Den w F E H p.2 q.2) ps qs := ⟨by simpa using hp.1, fun k x y hx hy => hp.2 (k + 1) x y (by simpa using hx) (by simpa using hy)⟩
    simp only [fillA] at h
    split at h
    · rename_i off size as hpl has
      split at h
      · rename_i hcond
        obtain ⟨h1, h2⟩ := hcond
        have hca := den_cellsA has hd
        have hl := hca.1
        have hl2 := hc.1
        simp only [Array.length_toList] at hl hl2
        have hfold : ((v.cells.zipIdx.foldl (fun cs (c, j) => cs.setIfInBounds (off + j) c) vs)).toList = vs.toList.take off ++ v.cells.toList ++ vs.toList.drop (off + v.cells.toList.length) := by
          have := foldl_put off v.cells.toList 0 vs (by simp; omega)
          simp only [Nat.add_zero] at this
          rw [← this, ← Array.foldl_toList, Array.toList_zipIdx]
        obtain ⟨vs', e1, e2⟩ := fill_den ps qs (setA cells off as) (v.cells.zipIdx.foldl (fun cs (c, j) => cs.setIfInBounds (off + j) c) vs) r (by
          rw [hfold, setA, ← hca.1]
          exact ((hc.take off).append hca).append (hc.drop _)) hp' h
        refine ⟨vs', ?_, e2⟩
        simp only [Instr.fill, hpl]
        rw [if_neg (by simp; omega)]
        exact e1
      · cases h
    · cases h
end

/-- A struct's zero, and where its fields lie. -/
def builtOf (P : Program) (t : TypeId) : Option (List Value × List (Nat × Nat)) :=
  match P.info? t, P.underlying t with
  | some it, some (.struct fields) =>
    match it.zero, fields.toList.mapM (fun f => (P.info? f.type).map fun i => (f.offset, i.size)) with
    | some z, some places => some (z.cells.toList, places)
    | _, _ => none
  | _, _ => none
theorem builtOf_built {P : Program} {t : TypeId} {zs : List Value} {pl : List (Nat × Nat)} (h : builtOf P t = some (zs, pl)) (parts : List (Nat × Value)) : P.built t parts = Instr.fill (pl[·]?) zs.toArray parts := by
  unfold builtOf at h
  unfold Program.built
  split at h
  · rename_i it fields h1 h2
    split at h
    · rename_i z places h3 h4
      simp only [Option.some.injEq, Prod.mk.injEq] at h
      obtain ⟨rfl, rfl⟩ := h
      simp [h1, h2, h3, h4]
    · cases h
  · cases h

section
variable {P : Program} {C : Ctx} {ops : Array Oper} {os : List Oper} {cs : List Cert} {σ : St} {K : St → Prop} {d : Nat} {ty : TypeId} {pos : String} {af : Array Edge}

def partsA (σ : St) (ps : List (Nat × Operand)) : List (Nat × A) := ps.map fun p => (p.1, aev σ p.2)
theorem partsA_mask {rd : List Key} {ps : List (Nat × Operand)} (h : ∀ k ∈ ps.flatMap (fun p => kof p.2), k ∈ rd) : partsA (σ.mask rd) ps = partsA σ ps := by
  unfold partsA
  refine List.map_congr_left fun p hp => ?_
  rw [aev_mask fun k hk => h k (List.mem_flatMap.2 ⟨p, hp, hk⟩)]
theorem partsA_den {a : Act} {w : World} {F : Nat → Prop} {E : Nat → Option Nat} {H : Nat → Nat → Option Value} (hR : RelE C σ a w F E H) (ps : List (Nat × Operand)) :
    Pw (fun (p : Nat × A) (q : Nat × Value) => p.1 = q.1 ∧ Den w F E H p.2 q.2) (partsA σ ps) (ps.map fun p => (p.1, a.eval p.2)) := by
  refine ⟨by simp [partsA], fun j x y hx hy => ?_⟩
  simp only [partsA, List.getElem?_map, Option.map_eq_some_iff] at hx hy
  obtain ⟨p, hp, rfl⟩ := hx
  obtain ⟨q, hq, rfl⟩ := hy
  obtain rfl := Option.some.inj (hp.symm.trans hq)
  exact ⟨rfl, hR.ev _⟩
def rBuild (zs : List Value) (pl : List (Nat × Nat)) (ps : List (Nat × Operand)) (σ : St) : Option A := (fillA (pl[·]?) (zs.map fun x => .d (.v x)) (partsA σ ps)).map .agg
theorem ok_build {t : TypeId} {zs : List Value} {pl : List (Nat × Nat)} {ps : List (Nat × Operand)} (hb : builtOf P t = some (zs, pl)) (h1 : zs.all (·.oneCell') = true) :
    OpOk P C ops ⟨some d, .build t ps.toArray, ty, pos, af, none⟩ ⟨ps.flatMap fun p => kof p.2, [T d], beh1 (rBuild zs pl ps) d⟩ :=
  OpOk.read rfl rfl (fun σ => by unfold rBuild; rw [partsA_mask fun k h => h]) fun σ a w F E H r hR h => by
    simp only [rBuild, Option.map_eq_some_iff] at h
    obtain ⟨as, has, rfl⟩ := h
    obtain ⟨vs, e1, e2⟩ := fill_den _ _ _ zs.toArray as (by simpa using pw_zero h1) (partsA_den hR ps) has
    refine ⟨.agg vs, ?_, by have := agg_den e2; simpa using this⟩
    have := run_build (P := P) w t (ps.toArray.map fun (i, x) => (i, a.eval x)) vs (by
      rw [builtOf_built hb]
      simpa using e1)
    simp only [execOp, Sem.run_bind, this, Result.andThen_ok, Sem.run_pure]
theorem Wk.bld {t : TypeId} (zs : List Value) (pl : List (Nat × Nat)) {ps : List (Nat × Operand)} {as : List A} (hb : builtOf P t = some (zs, pl)) (h1 : zs.all (·.oneCell') = true) (hr : fillA (pl[·]?) (zs.map fun x => .d (.v x)) (partsA σ ps) = some as) (hd : d < σ.n)
    (h : Wk P C ops os cs (σ.put (T d) (.a (.agg as))) K) : Wk P C ops (⟨some d, .build t ps.toArray, ty, pos, af, none⟩ :: os) (⟨ps.flatMap fun p => kof p.2, [T d], beh1 (rBuild zs pl ps) d⟩ :: cs) σ K :=
  Wk.read (ok_build hb h1) _ hd (by simp only [rBuild, hr, Option.map_some]) h

/-! Lists: by their elements, each so many cells. -/
theorem flatten_at {α : Type} {sz : Nat} : ∀ {L : List (List α)}, (∀ l ∈ L, l.length = sz) → ∀ (q : Nat) (x : α), L.flatten[q]? = some x → ∃ l, L[q / sz]? = some l ∧ l[q % sz]? = some x
  | [], _, q, x, h => by simp at h
  | l :: L, hL, q, x, h => by
    have hl : l.length = sz := hL l List.mem_cons_self
    rw [List.flatten_cons] at h
    by_cases hq : q < sz
    · rw [List.getElem?_append_left (by omega)] at h
      rw [Nat.div_eq_of_lt hq, Nat.mod_eq_of_lt hq]
      exact ⟨l, rfl, h⟩
    · rw [List.getElem?_append_right (by omega), hl] at h
      obtain ⟨m, h1, h2⟩ := flatten_at (fun m hm => hL m (List.mem_cons_of_mem _ hm)) (q - sz) x h
      have hsz : 0 < sz := by
        rcases Nat.eq_zero_or_pos sz with h0 | h0
        · subst h0
          have : m.length = 0 := hL m (List.mem_cons_of_mem _ (List.mem_of_getElem? h1))
          rw [List.length_eq_zero_iff.1 this] at h2
          simp at h2
        · exact h0
      have e : q = q - sz + sz := by omega
      rw [e, Nat.add_div_right _ hsz, Nat.add_mod_right]
      exact ⟨m, by simpa using h1, h2⟩
theorem flatten_len {α : Type} {sz : Nat} : ∀ {L : List (List α)}, (∀ l ∈ L, l.length = sz) → L.flatten.length = L.length * sz
  | [], _ => by simp
  | l :: L, hL => by
    rw [List.flatten_cons, List.length_append, flatten_len (fun m hm => hL m (List.mem_cons_of_mem _ hm)), hL l List.mem_cons_self, List.length_cons, Nat.add_mul, Nat.one_mul, Nat.add_comm]
/-- The cells of a list that nobody turns. -/
theorem row_cells {w : World} {F : Nat → Prop} {E : Nat → Option Nat} {H : Nat → Nat → Option Value} {es : List (List D)} {sz : Nat} {v : Value} (h : FDen w F (.row es) v) (hz : ∀ e ∈ es, e.length = sz) :
    (es = [] ∧ v = .slice none 0 0) ∨ ∃ (a : Addr) (c : Nat) (news : List Value), v = .slice (some a) es.length c ∧ news.length = es.length * sz ∧ (∀ j u, news[j]? = some u → w.cell? (a.add j) = some u) ∧ Pw (CellOk w F E H) (es.map (·.map A.d)).flatten news := by
  cases h with
  | emp a c h0 =>
    cases a with
    | none => rw [h0 rfl]; exact .inl ⟨rfl, rfl⟩
    | some a => exact .inr ⟨a, c, [], rfl, by simp, (fun j u hu => by simp at hu), Pw.nil⟩
  | row sz' b o cap n _ vs hF hn hcap hmax hsz hc h1 hd =>
    have hsz' : es = [] ∨ sz' = sz := by
      cases es with
      | nil => exact .inl rfl
      | cons e es => exact .inr ((hsz e List.mem_cons_self).symm.trans (hz e List.mem_cons_self))
    have hlen : ∀ l ∈ es.map (·.map A.d), l.length = sz := by
      intro l hl
      obtain ⟨e, he, rfl⟩ := List.mem_map.1 hl
      simp [hz e he]
    refine .inr ⟨⟨b, o, none⟩, cap, (List.range (es.length * sz)).map fun q => vs (q / sz) (q % sz), by rw [hn], by simp, fun j u hu => ?_, ?_⟩
    · simp only [List.getElem?_map, Option.map_eq_some_iff] at hu
      obtain ⟨q, hq, rfl⟩ := hu
      have hj : j < es.length * sz := by
        have := (List.getElem?_eq_some_iff.1 hq).1
        simpa using this
      rw [List.getElem?_range hj] at hq
      obtain rfl := Option.some.inj hq
      have hsp : 0 < sz := by
        rcases Nat.eq_zero_or_pos sz with h0 | h0
        · subst h0; omega
        · exact h0
      have hi : j / sz < es.length := (Nat.div_lt_iff_lt_mul hsp).2 hj
      have he : es[j / sz]? = some es[j / sz] := List.getElem?_eq_getElem hi
      have hm : j % sz < (es[j / sz]).length := by rw [hz _ (List.getElem_mem hi)]; exact Nat.mod_lt _ hsp
      have := hc (j / sz) (j % sz) _ _ he (List.getElem?_eq_getElem hm)
      rw [add_at']
      rcases hsz' with h0 | h0
      · subst h0; simp at hi
      · rw [h0, Nat.mul_comm (j / sz) sz, Nat.div_add_mod] at this
        exact this
    · refine ⟨by rw [flatten_len hlen]; simp, fun q x u hx hu => ?_⟩
      obtain ⟨l, hl1, hl2⟩ := flatten_at hlen q x hx
      simp only [List.getElem?_map, Option.map_eq_some_iff] at hl1
      obtain ⟨e, he, rfl⟩ := hl1
      simp only [List.getElem?_map, Option.map_eq_some_iff] at hl2 hu
      obtain ⟨dd, hdd, rfl⟩ := hl2
      obtain ⟨q', hq', rfl⟩ := hu
      have hql : q < es.length * sz := by
        have := (List.getElem?_eq_some_iff.1 hq').1
        simpa using this
      rw [List.getElem?_range hql] at hq'
      obtain rfl := Option.some.inj hq'
      exact ⟨h1 _ _ e dd he hdd, .d _ _ (hd _ _ e dd he hdd)⟩
end
end Go.Proofs.Ytpdndapegiglcaa
