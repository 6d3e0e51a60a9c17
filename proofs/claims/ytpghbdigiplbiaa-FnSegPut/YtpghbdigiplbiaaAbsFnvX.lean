/- Calls of whatever kind as one operation: of a function value, of a method behind an interface; function values made. -/
import Derived.Test.YtpghbdigiplbiaaMa
import Derived.Test.YtpghbdigiplbiaaMb
import Derived.Test.YtpghbdigiplbiaaMc
import Derived.Test.YtpghbdigiplbiaaMd
namespace Go.Proofs.Ytpghbdigiplbiaa
open Go

/-- A call whose arguments are told by ar. -/
def behCallG (G : Con) (ar : St → Option (List A)) (L M : List Nat) (d : Nat) : St → Prop × (List V → Prop) := fun σ =>
  (∃ ls, ar σ = some ls ∧ d < σ.n ∧ (∀ i ∈ M, σ.b i = .fresh) ∧ A.withins L ls = true ∧ (∀ i ∈ L, (σ.b i).within L = true) ∧ G.pre ls (boxesA σ L) ∧ ∃ r bs', G.post ls (boxesA σ L) r bs',
   fun us => ∃ ls, ar σ = some ls ∧ ∃ r bs', G.post ls (boxesA σ L) r bs' ∧ us = .a r :: (L ++ M).map fun i => .b ((bs'.lookup i).getD .none))

section
variable {P : Program} {C : Ctx} {ops : Array Oper} {os : List Oper} {cs : List Cert} {σ : St} {K : St → Prop} {d : Nat} {ty : TypeId} {pos : String} {af : Array Edge}

theorem ok_callG {op : Op} {f : FuncId} {G : Con} {rd0 : List Key} {ar : St → Option (List A)} (L M : List Nat) (hG : G.ok P f (L ++ M)) (hm : ∀ (σ : St) (rd : List Key), (∀ k ∈ rd0, k ∈ rd) → ar (σ.mask rd) = ar σ)
    (hcall : ∀ (σ : St) (a : Act) (w : World) (F : Nat → Prop) (E : Nat → Option Nat) (H : Nat → Nat → Option Value) (ls : List A), RelE C σ a w F E H → ar σ = some ls → ∃ vs : Array Value, vs.size = ls.length ∧ (∀ (i : Nat) (x : A), ls[i]? = some x → Den w F E H x (vs.getD i undef)) ∧ (execOp a.eval ⟨some d, op, ty, pos, af, none⟩).run P w = .ok (.enter f vs) w) :
    OpOk P C ops ⟨some d, op, ty, pos, af, none⟩ ⟨rd0 ++ (L ++ M).map B, T d :: (L ++ M).map B, behCallG G ar L M d⟩ := by
  refine OpOk.of rfl (by simp [dstIn]) (fun σ h => ?_) (fun σ => ?_) (fun σ a w F E H K Q hR hsafe hK => ?_)
  · obtain ⟨ls, e, _, _, _, _, _, r, bs', h⟩ := h
    exact ⟨_, ls, e, r, bs', h, rfl⟩
  · have e1 : ar (σ.mask (rd0 ++ (L ++ M).map B)) = ar σ := hm σ _ fun k hk => List.mem_append_left _ hk
    have e3 : ∀ i ∈ L ++ M, (σ.mask (rd0 ++ (L ++ M).map B)).b i = σ.b i := fun i hi => bx_mask (List.mem_append_right _ (List.mem_map.2 ⟨i, hi, rfl⟩))
    have e2 : boxesA (σ.mask (rd0 ++ (L ++ M).map B)) L = boxesA σ L := by
      unfold boxesA
      refine List.map_congr_left fun i hi => ?_
      rw [e3 i (List.mem_append_left _ hi)]
    have e4 : (∀ i ∈ M, (σ.mask (rd0 ++ (L ++ M).map B)).b i = .fresh) ↔ ∀ i ∈ M, σ.b i = .fresh := by
      constructor
      · intro h i hi; rw [← e3 i (List.mem_append_right _ hi)]; exact h i hi
      · intro h i hi; rw [e3 i (List.mem_append_right _ hi)]; exact h i hi
    have e5 : (∀ i ∈ L, ((σ.mask (rd0 ++ (L ++ M).map B)).b i).within L = true) ↔ ∀ i ∈ L, (σ.b i).within L = true := by
      constructor
      · intro h i hi; rw [← e3 i (List.mem_append_left _ hi)]; exact h i hi
      · intro h i hi; rw [e3 i (List.mem_append_left _ hi)]; exact h i hi
    unfold behCallG
    simp only [e1, e2, e4, e5]
    rfl
  · obtain ⟨ls, har, hd, hM, hwa, hwb, hpre, _⟩ := hsafe
    obtain ⟨vs, hvs, hden, hrun⟩ := hcall σ a w F E H ls hR har
    obtain ⟨hspec, hwith⟩ := hG _ _ hpre
    let E1 : Nat → Option Nat := fun i => if L.contains i then E i else none
    let H1 : Nat → Nat → Option Value := fun i k => if L.contains i then H i k else none
    have hE1 : ∀ i ∈ L, E1 i = E i := fun i hi => if_pos (by simpa using hi)
    have hH1 : ∀ i ∈ L, ∀ k, H1 i k = H i k := fun i hi k => if_pos (by simpa using hi)
    have hlk : ∀ i x, (boxesA σ L).lookup i = some x → i ∈ L ∧ σ.b i = x := fun i x h => by
      rw [boxesA_lookup] at h
      split at h
      · rename_i hi; exact ⟨hi, Option.some.inj h⟩
      · cases h
    have hpo : PreOk w F E1 H1 (boxesA σ L) := by
      refine ⟨hR.env.Flt, fun i x h => ?_, fun i x b h hb => ?_, fun i j x y b hij hx hy h1 h2 => ?_, fun i h => ?_⟩
      · obtain ⟨hi, rfl⟩ := hlk i x h
        exact (hR.env.box i).names hE1 hH1 hi (hwb i hi)
      · obtain ⟨hi, rfl⟩ := hlk i x h
        rw [blk_names (hE1 i hi) (hH1 i hi)] at hb
        exact (hR.env.live i b hb).1
      · obtain ⟨hi, rfl⟩ := hlk i x hx
        obtain ⟨hj, rfl⟩ := hlk j y hy
        rw [blk_names (hE1 i hi) (hH1 i hi)] at h1
        rw [blk_names (hE1 j hj) (hH1 j hj)] at h2
        exact hR.env.sep i j b hij h1 h2
      · rw [boxesA_lookup] at h
        split at h
        · cases h
        · rename_i hi
          have : L.contains i = false := by simpa using hi
          exact ⟨if_neg (by rw [this]; decide), fun k => if_neg (by rw [this]; decide)⟩
    unfold Oper.wp
    rw [hrun, Oper.upon_enter]
    refine (hspec w F E1 H1 vs hpo hvs (fun i x hx => (hden i x hx).names hE1 hH1 (withins_get hwa i _ hx))).mono ?_
    · rintro e w' ⟨v, r, bs', F', E', H', rfl, hpost, hp, hden'⟩
      obtain ⟨hwr, hwx⟩ := hwith r bs' hpost
      let E2 : Nat → Option Nat := fun i => if (L ++ M).contains i then E' i else E i
      let H2 : Nat → Nat → Option Value := fun i k => if (L ++ M).contains i then H' i k else H i k
      have hE2 : ∀ i ∈ L ++ M, E2 i = E' i := fun i hi => if_pos (by simpa using hi)
      have hH2 : ∀ i ∈ L ++ M, ∀ k, H2 i k = H' i k := fun i hi k => if_pos (by simpa using hi)
      have hE3 : ∀ i, i ∉ L ++ M → E2 i = E i := fun i hi => if_neg (by simpa using hi)
      have hH3 : ∀ i k, i ∉ L ++ M → H2 i k = H i k := fun i k hi => if_neg (by simpa using hi)
      have hfr : ∀ i ∈ M, E i = none ∧ ∀ k, H i k = none := fun i hi => by
        have := hR.env.box i
        rw [hM i hi] at this
        exact this
      have hEm : ∀ i b, E i = some b → E2 i = some b := fun i b hb => by
        by_cases hi : i ∈ L ++ M
        · rw [hE2 i hi]
          rcases List.mem_append.1 hi with h | h
          · exact hp.en i b (by rw [hE1 i h]; exact hb)
          · rw [(hfr i h).1] at hb; cases hb
        · rw [hE3 i hi]; exact hb
      have hHm : ∀ i k v, H i k = some v → H2 i k = some v := fun i k v hv => by
        by_cases hi : i ∈ L ++ M
        · rw [hH2 i hi]
          rcases List.mem_append.1 hi with h | h
          · exact hp.hn i k v (by rw [hH1 i h]; exact hv)
          · rw [(hfr i h).2 k] at hv; cases hv
        · rw [hH3 i k hi]; exact hv
      have hold : ∀ b, b < w.heap.size → (∀ i, i ∈ L ++ M → blk E H i (σ.b i) ≠ some b) → w'.heap[b]? = w.heap[b]? := fun b hb hn => hp.old b hb fun i x hx hxb => by
        obtain ⟨hi, rfl⟩ := hlk i x hx
        rw [blk_names (hE1 i hi) (hH1 i hi)] at hxb
        exact hn i (List.mem_append_left _ hi) hxb
      let bx' : Nat → Bx := fun i => if i ∈ L ++ M then (bs'.lookup i).getD .none else σ.b i
      have hb1 : ∀ i ∈ L ++ M, bx' i = (bs'.lookup i).getD .none := fun i hi => if_pos hi
      have hbk : ∀ i ∈ L ++ M, ∀ b, blk E2 H2 i (bx' i) = some b → ∃ x, bs'.lookup i = some x ∧ blk E' H' i x = some b := fun i hi b hb => by
        rw [hb1 i hi, blk_names (hE2 i hi) (hH2 i hi)] at hb
        cases hl : bs'.lookup i with
        | none => rw [hl] at hb; cases hb
        | some x => rw [hl] at hb; exact ⟨x, rfl, hb⟩
      have env : Env C w' F' E2 H2 bx' := hR.env.step (· ∈ L ++ M) hp.os hp.tape hp.output hp.size hold hp.fr
        (fun b hb => by
          rcases hp.Fnew b hb with h | h
          · exact .inl h
          · exact .inr ⟨hp.Flt b hb, .inl h⟩) hEm hHm hE3 hH3 (fun i hi => if_neg hi)
        (fun i hi => by
          rw [hb1 i hi]
          cases hl : bs'.lookup i with
          | none => trivial
          | some x => exact (hp.box i x hl).names hE2 hH2 hi (hwx i x hl).2)
        (fun i hi b hb => by
          obtain ⟨x, hx, hxb⟩ := hbk i hi b hb
          refine ⟨hp.nf i x b hx hxb, ?_⟩
          rcases hp.live i x b hx hxb with ⟨j, y, hy, hyb⟩ | h
          · obtain ⟨hj, rfl⟩ := hlk j y hy
            rw [blk_names (hE1 j hj) (hH1 j hj)] at hyb
            exact .inr ⟨j, List.mem_append_left _ hj, hyb⟩
          · exact .inl h)
        (fun i j b hi hj hij h1 h2 => by
          obtain ⟨x, hx, hxb⟩ := hbk i hi b h1
          obtain ⟨y, hy, hyb⟩ := hbk j hj b h2
          exact hp.sep i j x y b hij hx hy hxb hyb)
      have hFw : ∀ b, F b → w'.heap[b]? = w.heap[b]? := fun b hb => hold b (hR.env.Flt b hb) fun i _ e => hR.env.frozen hb i e
      have hnew : RelE C ⟨σ.n, σ.t, bx'⟩ a w' F' E2 H2 := hR.move env hp.fr hFw hEm hHm
      have hput := hnew.put (d := d) (r := r) hd (hden'.names hE2 hH2 hwr)
      refine hK _ _ _ ⟨ls, har, r, bs', hpost, rfl⟩ ?_
      have : σ.puts (T d :: (L ++ M).map B) (.a r :: (L ++ M).map fun i => .b ((bs'.lookup i).getD .none)) = (⟨σ.n, σ.t, bx'⟩ : St).put (T d) (.a r) := by
        rw [St.puts, puts_boxes (fun i => (bs'.lookup i).getD .none)]
        rfl
      rw [this]
      exact hput.r

/-! Function values. -/
def rFunc (fn : Fn) (fs gs : List Operand) (σ : St) : Option A := some (.fn fn (fs.map (aev σ)) (gs.map (aev σ)))
theorem ok_mkf (fn : Fn) (fs gs : List Operand) : OpOk P C ops ⟨some d, .makeFunc fn fs.toArray gs.toArray, ty, pos, af, none⟩ ⟨fs.flatMap kof ++ gs.flatMap kof, [T d], beh1 (rFunc fn fs gs) d⟩ :=
  OpOk.read rfl rfl (fun σ => by
    have e : ∀ (ys : List Operand), (∀ k ∈ ys.flatMap kof, k ∈ fs.flatMap kof ++ gs.flatMap kof) → ys.map (aev (σ.mask (fs.flatMap kof ++ gs.flatMap kof))) = ys.map (aev σ) := fun ys h =>
      List.map_congr_left fun y hy => aev_mask fun k hk => h k (List.mem_flatMap.2 ⟨y, hy, hk⟩)
    unfold rFunc
    rw [e fs (fun k h => List.mem_append_left _ h), e gs (fun k h => List.mem_append_right _ h)]) fun σ a w F E H r hR h => by
    obtain rfl := Option.some.inj h
    have key : ∀ (ys : List Operand) (i : Nat) (x : A), (ys.map (aev σ))[i]? = some x → Den w F E H x ((ys.map a.eval).toArray.getD i undef) := fun ys i x hx => by
      simp only [List.getElem?_map, Option.map_eq_some_iff] at hx
      obtain ⟨q, hq, rfl⟩ := hx
      have e : (ys.map a.eval).toArray.getD i undef = a.eval q := by simp [Array.getD_eq_getD_getElem?, hq]
      rw [e]
      exact hR.ev q
    refine ⟨.func fn (fs.map a.eval).toArray (gs.map a.eval).toArray, ?_, .fn fn _ _ _ _ (by simp) (by simp) (key fs) (key gs)⟩
    simp [execOp, Instr.makeFunc]
theorem Wk.mkf {fn : Fn} {fs gs : List Operand} (hd : d < σ.n) (h : Wk P C ops os cs (σ.put (T d) (.a (.fn fn (fs.map (aev σ)) (gs.map (aev σ))))) K) :
    Wk P C ops (⟨some d, .makeFunc fn fs.toArray gs.toArray, ty, pos, af, none⟩ :: os) (⟨fs.flatMap kof ++ gs.flatMap kof, [T d], beh1 (rFunc fn fs gs) d⟩ :: cs) σ K := Wk.read (ok_mkf fn fs gs) _ hd rfl h
/-- The arguments of a call of a function value. -/
def argsF (f : FuncId) (x : Operand) (xs : List Operand) (σ : St) : Option (List A) :=
  match aev σ x with
  | .fn (.func f') fs gs => if f' = f then some ((fs ++ (xs.map (aev σ) ++ gs)).map nrm) else none
  | _ => none
theorem dens_append {w : World} {F : Nat → Prop} {E : Nat → Option Nat} {H : Nat → Nat → Option Value} {xs ys : List A} {us vs : Array Value} (hs : us.size = xs.length) (hx : ∀ (i : Nat) (x : A), xs[i]? = some x → Den w F E H x (us.getD i undef)) (hy : ∀ (i : Nat) (x : A), ys[i]? = some x → Den w F E H x (vs.getD i undef)) :
    ∀ (i : Nat) (x : A), (xs ++ ys)[i]? = some x → Den w F E H x ((us ++ vs).getD i undef) := fun i x h => by
  by_cases hi : i < xs.length
  · rw [List.getElem?_append_left hi] at h
    have e : (us ++ vs).getD i undef = us.getD i undef := by simp [Array.getD_eq_getD_getElem?, Array.getElem?_append_left (hs.symm ▸ hi : i < us.size)]
    rw [e]; exact hx i x h
  · rw [List.getElem?_append_right (by omega)] at h
    have e : (us ++ vs).getD i undef = vs.getD (i - xs.length) undef := by simp [Array.getD_eq_getD_getElem?, Array.getElem?_append_right (by omega : us.size ≤ i), hs]
    rw [e]; exact hy _ x h
theorem den_fnc {w : World} {F : Nat → Prop} {E : Nat → Option Nat} {H : Nat → Nat → Option Value} {fn : Fn} {fs gs : List A} {v : Value} (h : Den w F E H (.fn fn fs gs) v) :
    ∃ cs ds : Array Value, v = .func fn cs ds ∧ cs.size = fs.length ∧ ds.size = gs.length ∧ (∀ (i : Nat) (x : A), fs[i]? = some x → Den w F E H x (cs.getD i undef)) ∧ ∀ (i : Nat) (x : A), gs[i]? = some x → Den w F E H x (ds.getD i undef) := by
  cases h with | fn _ _ _ cs ds hs ht h h' => exact ⟨cs, ds, rfl, hs, ht, h, h'⟩
theorem ok_clf {f : FuncId} {fn : Func} {at_ : Array TypeId} {x : Operand} {xs : List Operand} {G : Con} (L M : List Nat) (hf : P.funcs[f]? = some fn) (hbody : fn.body.isSome = true) (hname : (fn.name == "runtime.NumGoroutine") = false) (hG : G.ok P f (L ++ M)) :
    OpOk P C ops ⟨some d, .call { callee := .value x, args := xs.toArray, argTypes := at_ }, ty, pos, af, none⟩ ⟨(kof x ++ xs.flatMap kof) ++ (L ++ M).map B, T d :: (L ++ M).map B, behCallG G (argsF f x xs) L M d⟩ :=
  ok_callG L M hG (fun σ rd h => by
    unfold argsF
    rw [aev_mask fun k hk => h k (List.mem_append_left _ hk), List.map_congr_left fun y hy => aev_mask (σ := σ) (rd := rd) fun k hk => h k (List.mem_append_right _ (List.mem_flatMap.2 ⟨y, hy, hk⟩))]) fun σ a w F E H ls hR har => by
    unfold argsF at har
    split at har
    · rename_i f' fs gs he
      split at har
      · rename_i hff
        subst hff
        obtain rfl := Option.some.inj har
        have hd := hR.ev x
        rw [he] at hd
        obtain ⟨cs, ds, hv, hs, ht, h1, h2⟩ := den_fnc hd
        have hn : ¬ fn.name = "runtime.NumGoroutine" := by simpa using hname
        have hb2 : fn.body ≠ none := by intro e; rw [e] at hbody; cases hbody
        have hx : ∀ (i : Nat) (y : A), (xs.map (aev σ))[i]? = some y → Den w F E H y ((xs.map a.eval).toArray.getD i undef) := fun i y hy => by
          simp only [List.getElem?_map, Option.map_eq_some_iff] at hy
          obtain ⟨q, hq, rfl⟩ := hy
          have e : (xs.map a.eval).toArray.getD i undef = a.eval q := by simp [Array.getD_eq_getD_getElem?, hq]
          rw [e]; exact hR.ev q
        refine ⟨cs ++ ((xs.map a.eval).toArray ++ ds), by simp [hs, ht], fun i y hy => ?_, ?_⟩
        · simp only [List.getElem?_map, Option.map_eq_some_iff] at hy
          obtain ⟨z, hz, rfl⟩ := hy
          exact (dens_append hs h1 (dens_append (by simp) hx h2) i z hz).nrm
        · simp only [execOp, resolve]
          rw [hv]
          simp [Deferred.ofValue, invoke, callFunc, hf, hn, hb2]
      · cases har
    · cases har
/-- What comes of a call hangs on the boxes that it was handed, and on those that it made. -/
def PostIn (L : List Nat) (post : A → List (Nat × Bx) → Prop) : Prop := ∀ r bs', post r bs' → r.within L = true ∧ ∀ i x, bs'.lookup i = some x → i ∈ L ∧ x.within L = true
theorem Con.at_ok {f : FuncId} {ls : List A} {bs : List (Nat × Bx)} {post : A → List (Nat × Bx) → Prop} {L : List Nat} (h : Spec P f ls bs post) (hp : PostIn L post) : (Con.at ls bs post).ok P f L := by
  rintro aas' bs' ⟨rfl, rfl⟩
  exact ⟨h, hp⟩
/-- A call of a function value. -/
theorem Wk.clf {f : FuncId} {fn : Func} {at_ : Array TypeId} {x : Operand} {xs : List Operand} {ls : List A} {bs : List (Nat × Bx)} {post : A → List (Nat × Bx) → Prop} (L M : List Nat) (h : Spec P f ls bs post) (hp : PostIn (L ++ M) post) (hex : ∃ r bs', post r bs')
    (hf : P.funcs[f]? = some fn) (hbody : fn.body.isSome = true) (hname : (fn.name == "runtime.NumGoroutine") = false) (hargs : argsF f x xs σ = some ls) (hbx : boxesA σ L = bs) (hM : ∀ i ∈ M, σ.b i = .fresh) (hw : A.withins L ls = true) (hwb : ∀ i ∈ L, (σ.b i).within L = true) (hd : d < σ.n)
    (hk : ∀ r bs', post r bs' → Wk P C ops os cs (σ.puts (T d :: (L ++ M).map B) (.a r :: (L ++ M).map fun i => .b ((bs'.lookup i).getD .none))) K) :
    Wk P C ops (⟨some d, .call { callee := .value x, args := xs.toArray, argTypes := at_ }, ty, pos, af, none⟩ :: os) (⟨(kof x ++ xs.flatMap kof) ++ (L ++ M).map B, T d :: (L ++ M).map B, behCallG (Con.at ls bs post) (argsF f x xs) L M d⟩ :: cs) σ K := by
  refine Wk.cons (ok_clf L M hf hbody hname (Con.at_ok h hp)) ?_ ?_
  · exact ⟨ls, hargs, hd, hM, hw, hwb, ⟨rfl, hbx⟩, hex⟩
  · rintro us ⟨_, _, r, bs', hpost, rfl⟩
    exact hk r bs' hpost
/-- A call by its contract at what it is handed. -/
theorem Wk.cal {f : FuncId} {fn : Func} {at_ : Array TypeId} {xs : List Operand} {ls : List A} {bs : List (Nat × Bx)} {post : A → List (Nat × Bx) → Prop} (L M : List Nat) (h : Spec P f ls bs post) (hp : PostIn (L ++ M) post) (hex : ∃ r bs', post r bs')
    (hf : P.funcs[f]? = some fn) (hbody : fn.body.isSome = true) (hname : (fn.name == "runtime.NumGoroutine") = false) (hargs : argsA σ xs = ls) (hbx : boxesA σ L = bs) (hM : ∀ i ∈ M, σ.b i = .fresh) (hw : A.withins L ls = true) (hwb : ∀ i ∈ L, (σ.b i).within L = true) (hd : d < σ.n)
    (hk : ∀ r bs', post r bs' → Wk P C ops os cs (σ.puts (T d :: (L ++ M).map B) (.a r :: (L ++ M).map fun i => .b ((bs'.lookup i).getD .none))) K) :
    Wk P C ops (⟨some d, .call { callee := .value (.func f), args := xs.toArray, argTypes := at_ }, ty, pos, af, none⟩ :: os) (⟨xs.flatMap kof ++ (L ++ M).map B, T d :: (L ++ M).map B, behCall (Con.at ls bs post) xs L M d⟩ :: cs) σ K := by
  refine Wk.cons (ok_call L M hf hbody hname (Con.at_ok h hp)) ?_ ?_
  · exact ⟨hd, hM, by rw [hargs]; exact hw, hwb, ⟨hargs, hbx⟩, hex⟩
  · rintro us ⟨r, bs', hpost, rfl⟩
    exact hk r bs' hpost
end
end Go.Proofs.Ytpghbdigiplbiaa
