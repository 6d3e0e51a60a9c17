/- A call as one operation; operations behind a guard. -/
import Derived.Test.YtpdndapegiglcaaAbsFn
namespace Go.Proofs.Ytpdndapegiglcaa
open Go

/-! The nil list is the empty list. -/
mutual
def nrm : A → A
  | .d (.v (.slice none 0 0)) => .d (.row [])
  | .agg cs => .agg (nrms cs)
  | .tup cs => .tup (nrms cs)
  | .ifc t a => .ifc t (nrm a)
  | a => a
def nrms : List A → List A
  | [] => []
  | a :: as => nrm a :: nrms as
end
theorem nrms_length : ∀ (as : List A), (nrms as).length = as.length
  | [] => rfl
  | _ :: as => by simp [nrms, nrms_length as]
theorem nrms_get : ∀ {as : List A} {i : Nat} {b : A}, (nrms as)[i]? = some b → ∃ a, as[i]? = some a ∧ b = nrm a
  | [], i, b, h => by simp [nrms] at h
  | a :: as, 0, b, h => by
    simp only [nrms, List.getElem?_cons_zero, Option.some.injEq] at h
    exact ⟨a, rfl, h.symm⟩
  | a :: as, i + 1, b, h => by
    simp only [nrms, List.getElem?_cons_succ] at h
    obtain ⟨c, h1, h2⟩ := nrms_get h
    exact ⟨c, by simpa using h1, h2⟩
theorem Den.nrm {w : World} {F : Nat → Prop} {E : Nat → Option Nat} {H : Nat → Nat → Option Value} {x : A} {v : Value} (h : Den w F E H x v) : Den w F E H (nrm x) v := by
  induction h with
  | any x => exact .any x
  | d x v h =>
    unfold Go.Proofs.Ytpdndapegiglcaa.nrm
    split
    · rename_i heq
      simp only [A.d.injEq] at heq
      subst heq
      rw [den_v (.d _ _ h : Den w F E H _ v)]
      exact .d _ _ .nil
    · rename_i heq; cases heq
    · rename_i heq; cases heq
    · rename_i heq; cases heq
    · exact .d x v h
  | agg as cs hs h1 h ih =>
    simp only [Go.Proofs.Ytpdndapegiglcaa.nrm]
    refine .agg _ cs (by rw [nrms_length]; exact hs) (fun i hi => h1 i (by rw [nrms_length] at hi; exact hi)) (fun i b hb => ?_)
    obtain ⟨a, ha, rfl⟩ := nrms_get hb
    exact ih i a ha
  | tup as cs hs h ih =>
    simp only [Go.Proofs.Ytpdndapegiglcaa.nrm]
    refine .tup _ cs (by rw [nrms_length]; exact hs) (fun i b hb => ?_)
    obtain ⟨a, ha, rfl⟩ := nrms_get hb
    exact ih i a ha
  | ifc t a v h ih => simp only [Go.Proofs.Ytpdndapegiglcaa.nrm]; exact .ifc t _ v ih
  | ptr i o b h => exact .ptr i o b h
  | own i k v h h1 => exact .own i k v h h1
  | optr i k o b n c h => exact .optr i k o b n c h
  | rptr sz b o cap n es i j h hi hz => exact .rptr sz b o cap n es i j h hi hz
  | fn f as bs cs ds hs ht h h' => exact .fn f as bs cs ds hs ht h h'

/-! Calls. -/
structure Con where
  pre : List A → List (Nat × Bx) → Prop
  post : List A → List (Nat × Bx) → A → List (Nat × Bx) → Prop
def Con.ok (P : Program) (f : FuncId) (G : Con) (L : List Nat) : Prop :=
  ∀ as bs, G.pre as bs → Spec P f as bs (G.post as bs) ∧ ∀ r bs', G.post as bs r bs' → r.within L = true ∧ ∀ i x, bs'.lookup i = some x → i ∈ L ∧ x.within L = true
/-- The contract at what is handed here alone. -/
def Con.at (as : List A) (bs : List (Nat × Bx)) (post : A → List (Nat × Bx) → Prop) : Con := ⟨fun as' bs' => as' = as ∧ bs' = bs, fun _ _ => post⟩

def argsA (σ : St) (xs : List Operand) : List A := xs.map fun x => nrm (aev σ x)
def boxesA (σ : St) (L : List Nat) : List (Nat × Bx) := L.map fun i => (i, σ.b i)
/-- L: the boxes handed; M: the names that come. -/
def behCall (G : Con) (xs : List Operand) (L M : List Nat) (d : Nat) : St → Prop × (List V → Prop) := fun σ =>
  (d < σ.n ∧ (∀ i ∈ M, σ.b i = .fresh) ∧ A.withins L (argsA σ xs) = true ∧ (∀ i ∈ L, (σ.b i).within L = true) ∧ G.pre (argsA σ xs) (boxesA σ L) ∧ ∃ r bs', G.post (argsA σ xs) (boxesA σ L) r bs',
   fun us => ∃ r bs', G.post (argsA σ xs) (boxesA σ L) r bs' ∧ us = .a r :: (L ++ M).map fun i => .b ((bs'.lookup i).getD .none))

theorem boxesA_lookup (σ : St) : ∀ (L : List Nat) (i : Nat), (boxesA σ L).lookup i = if i ∈ L then some (σ.b i) else none
  | [], i => rfl
  | j :: L, i => by
    show (((j, σ.b j) :: boxesA σ L).lookup i) = _
    rw [List.lookup_cons, boxesA_lookup σ L i]
    by_cases h : i = j
    · subst h; simp
    · have : (i == j) = false := by simp [h]
      rw [this]
      simp [h]
theorem puts_boxes (g : Nat → Bx) : ∀ (L : List Nat) (σ : St), σ.puts (L.map B) (L.map fun i => .b (g i)) = ⟨σ.n, σ.t, fun i => if i ∈ L then g i else σ.b i⟩
  | [], σ => by simp [St.puts]
  | j :: L, σ => by
    rw [List.map_cons, List.map_cons, St.puts, puts_boxes g L]
    simp only [St.put]
    congr 1
    funext i
    by_cases h : i ∈ L
    · simp [h]
    · by_cases hj : i = j
      · subst hj; simp [h, upd]
      · simp [h, hj, upd]

section
variable {P : Program} {C : Ctx} {ops : Array Oper} {os : List Oper} {cs : List Cert} {σ : St} {K : St → Prop} {d : Nat} {ty : TypeId} {pos : String} {af : Array Edge}

theorem ok_call {f : FuncId} {fn : Func} {at_ : Array TypeId} {xs : List Operand} {G : Con} (L M : List Nat) (hf : P.funcs[f]? = some fn) (hbody : fn.body.isSome = true) (hname : (fn.name == "runtime.NumGoroutine") = false) (hG : G.ok P f (L ++ M)) :
    OpOk P C ops ⟨some d, .call { callee := .value (.func f), args := xs.toArray, argTypes := at_ }, ty, pos, af, none⟩ ⟨xs.flatMap kof ++ (L ++ M).map B, T d :: (L ++ M).map B, behCall G xs L M d⟩ := by
  refine OpOk.of rfl (by simp [dstIn]) (fun σ h => ?_) (fun σ => ?_) (fun σ a w F E H K Q hR hsafe hK => ?_)
  · obtain ⟨r, bs', h⟩ := h.2.2.2.2.2
    exact ⟨_, r, bs', h, rfl⟩
  · have e1 : argsA (σ.mask (xs.flatMap kof ++ (L ++ M).map B)) xs = argsA σ xs := by
      unfold argsA
      refine List.map_congr_left fun x hx => ?_
      rw [aev_mask fun k hk => List.mem_append_left _ (List.mem_flatMap.2 ⟨x, hx, hk⟩)]
    have e3 : ∀ i ∈ L ++ M, (σ.mask (xs.flatMap kof ++ (L ++ M).map B)).b i = σ.b i := fun i hi => bx_mask (List.mem_append_right _ (List.mem_map.2 ⟨i, hi, rfl⟩))
    have e2 : boxesA (σ.mask (xs.flatMap kof ++ (L ++ M).map B)) L = boxesA σ L := by
      unfold boxesA
      refine List.map_congr_left fun i hi => ?_
      rw [e3 i (List.mem_append_left _ hi)]
    have e4 : (∀ i ∈ M, (σ.mask (xs.flatMap kof ++ (L ++ M).map B)).b i = .fresh) ↔ ∀ i ∈ M, σ.b i = .fresh := by
      constructor
      · intro h i hi; rw [← e3 i (List.mem_append_right _ hi)]; exact h i hi
      · intro h i hi; rw [e3 i (List.mem_append_right _ hi)]; exact h i hi
    have e5 : (∀ i ∈ L, ((σ.mask (xs.flatMap kof ++ (L ++ M).map B)).b i).within L = true) ↔ ∀ i ∈ L, (σ.b i).within L = true := by
      constructor
      · intro h i hi; rw [← e3 i (List.mem_append_left _ hi)]; exact h i hi
      · intro h i hi; rw [e3 i (List.mem_append_left _ hi)]; exact h i hi
    unfold behCall
    simp only [e1, e2, e4, e5]
    rfl
  · obtain ⟨hd, hM, hwa, hwb, hpre, _⟩ := hsafe
    obtain ⟨hspec, hwith⟩ := hG _ _ hpre
    let E1 : Nat → Option Nat := fun i => if L.contains i then E i else none
    let H1 : Nat → Nat → Option Value := fun i k => if L.contains i then H i k else none
    have hE1 : ∀ i ∈ L, E1 i = E i := fun i hi => if_pos (by simpa using hi)
    have hH1 : ∀ i ∈ L, ∀ k, H1 i k = H i k := fun i hi k => if_pos (by simpa using hi)
    have hlk : ∀ i x, (boxesA σ L).lookup i = some x → i ∈ L ∧ σ.b i = x := fun i x h => by
      rw [boxesA_lookup] at h
      split at h
      · rename_i hi; exact ⟨hi, Option.some.inj h⟩
      · cases h
    have hpo : PreOk w F E1 H1 (boxesA σ L) := by
      refine ⟨hR.env.Flt, fun i x h => ?_, fun i x b h hb => ?_, fun i j x y b hij hx hy h1 h2 => ?_, fun i h => ?_⟩
      · obtain ⟨hi, rfl⟩ := hlk i x h
        exact (hR.env.box i).names hE1 hH1 hi (hwb i hi)
      · obtain ⟨hi, rfl⟩ := hlk i x h
        rw [blk_names (hE1 i hi) (hH1 i hi)] at hb
        exact (hR.env.live i b hb).1
      · obtain ⟨hi, rfl⟩ := hlk i x hx
        obtain ⟨hj, rfl⟩ := hlk j y hy
        rw [blk_names (hE1 i hi) (hH1 i hi)] at h1
        rw [blk_names (hE1 j hj) (hH1 j hj)] at h2
        exact hR.env.sep i j b hij h1 h2
      · rw [boxesA_lookup] at h
        split at h
        · cases h
        · rename_i hi
          have : L.contains i = false := by simpa using hi
          exact ⟨if_neg (by rw [this]; decide), fun k => if_neg (by rw [this]; decide)⟩
    have hrun : (execOp a.eval ⟨some d, .call { callee := .value (.func f), args := xs.toArray, argTypes := at_ }, ty, pos, af, none⟩).run P w = .ok (.enter f (xs.map a.eval).toArray) w := by
      have hn : ¬ fn.name = "runtime.NumGoroutine" := by simpa using hname
      have hb2 : fn.body ≠ none := by intro e; rw [e] at hbody; cases hbody
      simp [execOp, resolve, Deferred.ofValue, invoke, callFunc, Act.eval, hf, hn, hb2]
    unfold Oper.wp
    rw [hrun, Oper.upon_enter]
    refine (hspec w F E1 H1 (xs.map a.eval).toArray hpo (by simp [argsA]) (fun i x hx => ?_)).mono ?_
    · simp only [argsA, List.getElem?_map, Option.map_eq_some_iff] at hx
      obtain ⟨q, hq, rfl⟩ := hx
      have e : (xs.map a.eval).toArray.getD i undef = a.eval q := by simp [Array.getD_eq_getD_getElem?, hq]
      rw [e]
      refine (hR.ev q).nrm.names hE1 hH1 (withins_get hwa i _ ?_)
      simp [argsA, hq]
    · rintro e w' ⟨v, r, bs', F', E', H', rfl, hpost, hp, hden⟩
      obtain ⟨hwr, hwx⟩ := hwith r bs' hpost
      let E2 : Nat → Option Nat := fun i => if (L ++ M).contains i then E' i else E i
      let H2 : Nat → Nat → Option Value := fun i k => if (L ++ M).contains i then H' i k else H i k
      have hE2 : ∀ i ∈ L ++ M, E2 i = E' i := fun i hi => if_pos (by simpa using hi)
      have hH2 : ∀ i ∈ L ++ M, ∀ k, H2 i k = H' i k := fun i hi k => if_pos (by simpa using hi)
      have hE3 : ∀ i, i ∉ L ++ M → E2 i = E i := fun i hi => if_neg (by simpa using hi)
      have hH3 : ∀ i k, i ∉ L ++ M → H2 i k = H i k := fun i k hi => if_neg (by simpa using hi)
      have hfr : ∀ i ∈ M, E i = none ∧ ∀ k, H i k = none := fun i hi => by
        have := hR.env.box i
        rw [hM i hi] at this
        exact this
      have hEm : ∀ i b, E i = some b → E2 i = some b := fun i b hb => by
        by_cases hi : i ∈ L ++ M
        · rw [hE2 i hi]
          rcases List.mem_append.1 hi with h | h
          · exact hp.en i b (by rw [hE1 i h]; exact hb)
          · rw [(hfr i h).1] at hb; cases hb
        · rw [hE3 i hi]; exact hb
      have hHm : ∀ i k v, H i k = some v → H2 i k = some v := fun i k v hv => by
        by_cases hi : i ∈ L ++ M
        · rw [hH2 i hi]
          rcases List.mem_append.1 hi with h | h
          · exact hp.hn i k v (by rw [hH1 i h]; exact hv)
          · rw [(hfr i h).2 k] at hv; cases hv
        · rw [hH3 i k hi]; exact hv
      have hold : ∀ b, b < w.heap.size → (∀ i, i ∈ L ++ M → blk E H i (σ.b i) ≠ some b) → w'.heap[b]? = w.heap[b]? := fun b hb hn => hp.old b hb fun i x hx hxb => by
        obtain ⟨hi, rfl⟩ := hlk i x hx
        rw [blk_names (hE1 i hi) (hH1 i hi)] at hxb
        exact hn i (List.mem_append_left _ hi) hxb
      let bx' : Nat → Bx := fun i => if i ∈ L ++ M then (bs'.lookup i).getD .none else σ.b i
      have hb1 : ∀ i ∈ L ++ M, bx' i = (bs'.lookup i).getD .none := fun i hi => if_pos hi
      have hbk : ∀ i ∈ L ++ M, ∀ b, blk E2 H2 i (bx' i) = some b → ∃ x, bs'.lookup i = some x ∧ blk E' H' i x = some b := fun i hi b hb => by
        rw [hb1 i hi, blk_names (hE2 i hi) (hH2 i hi)] at hb
        cases hl : bs'.lookup i with
        | none => rw [hl] at hb; cases hb
        | some x => rw [hl] at hb; exact ⟨x, rfl, hb⟩
      have env : Env C w' F' E2 H2 bx' := hR.env.step (· ∈ L ++ M) hp.os hp.tape hp.output hp.size hold hp.fr
        (fun b hb => by
          rcases hp.Fnew b hb with h | h
          · exact .inl h
          · exact .inr ⟨hp.Flt b hb, .inl h⟩) hEm hHm hE3 hH3 (fun i hi => if_neg hi)
        (fun i hi => by
          rw [hb1 i hi]
          cases hl : bs'.lookup i with
          | none => trivial
          | some x => exact (hp.box i x hl).names hE2 hH2 hi (hwx i x hl).2)
        (fun i hi b hb => by
          obtain ⟨x, hx, hxb⟩ := hbk i hi b hb
          refine ⟨hp.nf i x b hx hxb, ?_⟩
          rcases hp.live i x b hx hxb with ⟨j, y, hy, hyb⟩ | h
          · obtain ⟨hj, rfl⟩ := hlk j y hy
            rw [blk_names (hE1 j hj) (hH1 j hj)] at hyb
            exact .inr ⟨j, List.mem_append_left _ hj, hyb⟩
          · exact .inl h)
        (fun i j b hi hj hij h1 h2 => by
          obtain ⟨x, hx, hxb⟩ := hbk i hi b h1
          obtain ⟨y, hy, hyb⟩ := hbk j hj b h2
          exact hp.sep i j x y b hij hx hy hxb hyb)
      have hFw : ∀ b, F b → w'.heap[b]? = w.heap[b]? := fun b hb => hold b (hR.env.Flt b hb) fun i _ e => hR.env.frozen hb i e
      have hnew : RelE C ⟨σ.n, σ.t, bx'⟩ a w' F' E2 H2 := hR.move env hp.fr hFw hEm hHm
      have hput := hnew.put (d := d) (r := r) hd (hden.names hE2 hH2 hwr)
      refine hK _ _ _ ⟨r, bs', hpost, rfl⟩ ?_
      have : σ.puts (T d :: (L ++ M).map B) (.a r :: (L ++ M).map fun i => .b ((bs'.lookup i).getD .none)) = (⟨σ.n, σ.t, bx'⟩ : St).put (T d) (.a r) := by
        rw [St.puts, puts_boxes (fun i => (bs'.lookup i).getD .none)]
        rfl
      rw [this]
      exact hput.r
end
end Go.Proofs.Ytpdndapegiglcaa
