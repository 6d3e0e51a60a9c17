/- Laws and contracts that the proof stands on: AbsDraw, AbsTy, AbsFnv, AbsRo, AbsVar, AbsSto, AbsRen, AbsLi, AbsFnx, AbsBor, AbsLaid. -/
import Derived.Test.YthnlpdjjnfkmeaaDoorMc
import Derived.Test.YthnlpdjjnfkmeaaDoorRows
import Derived.Laws.OwnMore
import Derived.Stop.LaidErr
/- Calls by what they answer: of data alone, and of a reader of codes. -/
namespace Go.Proofs.YthnlpdjjnfkmeaaDoor
open Go

def bytesD (zs : List Nat) : D := .row (zs.map fun z : Nat => [.v (.int .u8 (z : Int))])
theorem one_bytes (zs : List Nat) : ∀ e ∈ zs.map (fun z : Nat => [D.v (.int .u8 (z : Int))]), e.length = 1 := by
  intro e he
  obtain ⟨z, _, rfl⟩ := List.mem_map.1 he
  rfl
theorem bytes_get (zs : List Nat) (k : Nat) (h : k < zs.length) : (zs.map fun z : Nat => [D.v (.int .u8 (z : Int))])[k]? = some [.v (.int .u8 ((zs.getD k 0 : Nat) : Int))] := by
  simp [List.getElem?_map, List.getElem?_eq_getElem h, List.getD_eq_getElem?_getD]

mutual
theorem within_mono {K K' : List Nat} (h : ∀ i, K.contains i = true → K'.contains i = true) : ∀ (a : A), a.within K = true → a.within K' = true
  | .any, _ => rfl
  | .d _, _ => rfl
  | .ptr i _, hw => h i hw
  | .own i _, hw => h i hw
  | .optr i _ _, hw => h i hw
  | .rptr _ _ _ _, _ => rfl
  | .agg cs, hw => withins_mono h cs hw
  | .tup cs, hw => withins_mono h cs hw
  | .fn _ aas bs, hw => by
    simp only [A.within, Bool.and_eq_true] at hw ⊢
    exact ⟨withins_mono h aas hw.1, withins_mono h bs hw.2⟩
  | .ifc _ a, hw => within_mono h a hw
theorem withins_mono {K K' : List Nat} (h : ∀ i, K.contains i = true → K'.contains i = true) : ∀ (aas : List A), A.withins K aas = true → A.withins K' aas = true
  | [], _ => rfl
  | a :: aas, hw => by
    simp only [A.withins, Bool.and_eq_true] at hw ⊢
    exact ⟨within_mono h a hw.1, withins_mono h aas hw.2⟩
end
theorem within_nil {K : List Nat} {a : A} (h : a.within [] = true) : a.within K = true := within_mono (fun i hi => by simp at hi) a h

/-- What a call answers of data alone. -/
def DataW (P : Program) (f : FuncId) (aas : List A) (post : A → Prop) : Prop :=
  Spec P f aas [] (fun r bs => post r ∧ bs = []) ∧ (∃ r, post r) ∧ ∀ r, post r → r.within [] = true
def DataOk (P : Program) (f : FuncId) (aas : List A) (r : A) : Prop := Spec P f aas [] (fun r' bs => r' = r ∧ bs = [])
/-- A reader of codes. -/
def rdr (zs : List (Fin 256)) (p : Nat) : Bx := .var [.d (bytesD (zs.map (·.val))), .d (.v (.int .i64 (p : Int)))]
def DrawOk (P : Program) (f : FuncId) (pre : List A → Prop) (post : List A → A → Prop) (n : Nat) : Prop :=
  (∀ i zs p rest, pre rest → p + n ≤ 2000000000 → Spec P f (.ptr i 0 :: rest) [(i, rdr zs p)] (fun r bs => post rest r ∧ ∃ zs' p', bs = [(i, rdr zs' p')] ∧ p' ≤ p + n)) ∧
  (∀ rest, pre rest → ∃ r, post rest r) ∧ ∀ rest r, post rest r → r.within [] = true
/-- It is enough to look at one name of the reader. -/
theorem DrawOk.zero {P : Program} {f : FuncId} {pre : List A → Prop} {post : List A → A → Prop} {n : Nat} (h : ∀ zs p rest, pre rest → p + n ≤ 2000000000 → Spec P f (.ptr 0 0 :: rest) [(0, rdr zs p)] (fun r bs => post rest r ∧ ∃ zs' p', bs = [(0, rdr zs' p')] ∧ p' ≤ p + n))
    (hw : ∀ rest, pre rest → A.withins [] rest = true) (h2 : ∀ rest, pre rest → ∃ r, post rest r) (h3 : ∀ rest r, post rest r → r.within [] = true) : DrawOk P f pre post n := by
  refine ⟨fun i zs p rest hpre hp w F E H args hpo hs hd => ?_, h2, h3⟩
  have lk : ∀ (q j : Nat) (x y : Bx), [(q, x)].lookup j = some y ↔ j = q ∧ y = x := fun q j x y => by
    by_cases e : j = q
    · subst e; simp [eq_comm]
    · have : (j == q) = false := by simp [e]
      simp [List.lookup_cons, this, e]
  let E1 : Nat → Option Nat := fun j => if j = 0 then E i else none
  let H1 : Nat → Nat → Option Value := fun j k => if j = 0 then H i k else none
  have hbox := hpo.box i (rdr zs p) ((lk _ _ _ _).2 ⟨rfl, rfl⟩)
  obtain ⟨b, ct, t, hE, hh, hpw⟩ := hbox
  have key : ∀ {w : World} {F : Nat → Prop} {E E' : Nat → Option Nat} {H H' : Nat → Nat → Option Value} (zs : List (Fin 256)) (p : Nat) {ct : Array Value}, Pw (CellOk w F E H) [.d (bytesD (zs.map (·.val))), .d (.v (.int .i64 (p : Int)))] ct.toList → Pw (CellOk w F E' H') [.d (bytesD (zs.map (·.val))), .d (.v (.int .i64 (p : Int)))] ct.toList := fun zs p _ h => ⟨h.1, fun j a v ha hv => by
    have := h.2 j a v ha hv
    refine ⟨this.1, this.2.names (K := []) (fun i hi => (List.not_mem_nil hi).elim) (fun i hi => (List.not_mem_nil hi).elim) ?_⟩
    exact withins_get (aas := [.d (bytesD (zs.map (·.val))), .d (.v (.int .i64 (p : Int)))]) rfl j a ha⟩
  have hpo1 : PreOk w F E1 H1 [(0, rdr zs p)] := by
    refine ⟨hpo.Flt, fun j x hx => ?_, fun j x b' hx hb => ?_, fun j q x y b' hjq hx hy _ _ => ?_, fun j hj => ?_⟩
    · obtain ⟨rfl, rfl⟩ := (lk _ _ _ _).1 hx
      exact ⟨b, ct, t, hE, hh, key zs p hpw⟩
    · obtain ⟨rfl, rfl⟩ := (lk _ _ _ _).1 hx
      exact hpo.nf i (rdr zs p) b' ((lk _ _ _ _).2 ⟨rfl, rfl⟩) hb
    · exact absurd (((lk _ _ _ _).1 hx).1.trans ((lk _ _ _ _).1 hy).1.symm) hjq
    · have hj0 : j ≠ 0 := fun e => by
        subst e
        rw [(lk 0 0 (rdr zs p) (rdr zs p)).2 ⟨rfl, rfl⟩] at hj
        cases hj
      exact ⟨if_neg hj0, fun k => if_neg hj0⟩
  refine (h zs p rest hpre hp w F E1 H1 args hpo1 hs (fun j a ha => ?_)).mono ?_
  · cases j with
    | zero =>
      simp only [List.getElem?_cons_zero, Option.some.injEq] at ha
      subst ha
      have := hd 0 (.ptr i 0) rfl
      obtain ⟨b', hb', hv⟩ := den_ptr this
      rw [hv]
      exact .ptr 0 0 b' hb'
    | succ j =>
      refine (hd (j + 1) a (by simpa using ha)).names (K := []) (fun i hi => (List.not_mem_nil hi).elim) (fun i hi => (List.not_mem_nil hi).elim) (withins_get (hw rest hpre) j a (by simpa using ha))
  · rintro e w' ⟨v, r, bs', F', E', H', rfl, ⟨hpost, zs', p', rfl, hp'⟩, po, hden⟩
    obtain ⟨b2, ct2, t2, hE2, hh2, hpw2⟩ := po.box 0 (rdr zs' p') ((lk _ _ _ _).2 ⟨rfl, rfl⟩)
    have hE2b : b2 = b := Option.some.inj (hE2.symm.trans (po.en 0 b hE))
    subst hE2b
    refine ⟨v, r, [(i, rdr zs' p')], F', E, H, rfl, ⟨hpost, zs', p', rfl, hp'⟩, ⟨po.os, po.tape, po.output, po.size, fun c hc hn => po.old c hc fun j x hx hb => ?_, po.fr, po.Flt, po.Fnew, fun _ _ h => h, fun _ _ _ h => h, fun j x hx => ?_, fun j x c hx hb => ?_, fun j q x y c hjq hx hy _ _ => ?_, fun j x c hx hb => ?_⟩, ?_⟩
    · obtain ⟨rfl, rfl⟩ := (lk _ _ _ _).1 hx
      exact hn i (rdr zs p) ((lk _ _ _ _).2 ⟨rfl, rfl⟩) hb
    · obtain ⟨rfl, rfl⟩ := (lk _ _ _ _).1 hx
      exact ⟨b2, ct2, t2, hE, hh2, key zs' p' hpw2⟩
    · obtain ⟨rfl, rfl⟩ := (lk _ _ _ _).1 hx
      have hcb : c = b2 := Option.some.inj (hb.symm.trans hE)
      exact po.nf 0 (rdr zs' p') c ((lk _ _ _ _).2 ⟨rfl, rfl⟩) (hcb ▸ hE2)
    · exact absurd (((lk _ _ _ _).1 hx).1.trans ((lk _ _ _ _).1 hy).1.symm) hjq
    · obtain ⟨rfl, rfl⟩ := (lk _ _ _ _).1 hx
      exact .inl ⟨j, rdr zs p, (lk _ _ _ _).2 ⟨rfl, rfl⟩, hb⟩
    · exact hden.names (K := []) (fun i hi => (List.not_mem_nil hi).elim) (fun i hi => (List.not_mem_nil hi).elim) (h3 _ _ hpost)
theorem fin_lt (zs : List (Fin 256)) (k : Nat) : (zs.map (·.val)).getD k 0 < 256 := by
  simp only [List.getD_eq_getElem?_getD, List.getElem?_map]
  cases zs[k]? with
  | none => simp
  | some z => exact z.isLt
def rdP : List (Nat × Bx) → Nat
  | (_, .var [_, .d (.v (.int _ n))]) :: _ => n.toNat
  | _ => 0
def conDraw (pre : List A → Prop) (post : List A → A → Prop) (n i : Nat) : Con :=
  ⟨fun aas bs => ∃ zs p rest, aas = .ptr i 0 :: rest ∧ bs = [(i, rdr zs p)] ∧ pre rest ∧ p + n ≤ 2000000000,
   fun aas bs r bs' => post aas.tail r ∧ ∃ zs' p', bs' = [(i, rdr zs' p')] ∧ p' ≤ rdP bs + n⟩
theorem conDraw_ok {P : Program} {f : FuncId} {pre : List A → Prop} {post : List A → A → Prop} {n : Nat} (h : DrawOk P f pre post n) (i : Nat) : (conDraw pre post n i).ok P f ([i] ++ []) := by
  rintro aas bs ⟨zs, p, rest, rfl, rfl, hpre, hp⟩
  have e : rdP [(i, rdr zs p)] = p := by simp [rdP, rdr]
  refine ⟨?_, ?_⟩
  · have := h.1 i zs p rest hpre hp
    simp only [conDraw, List.tail_cons, e]
    exact this
  · rintro r bs' ⟨hpost, zs', p', rfl, _⟩
    refine ⟨within_nil (h.2.2 _ _ hpost), fun j x hx => ?_⟩
    rw [List.lookup_cons] at hx
    split at hx
    · rename_i he
      obtain rfl := Option.some.inj hx
      refine ⟨by simp [eq_of_beq he], rfl⟩
    · cases hx

section
variable {P : Program} {C : Ctx} {ops : Array Oper} {os : List Oper} {cs : List Cert} {σ : St} {K : St → Prop} {d : Nat} {ty : TypeId} {pos : String} {af : Array Edge}

def conW (aas : List A) (post : A → Prop) : Con := Con.at aas [] (fun r bs => post r ∧ bs = [])
theorem conW_ok {f : FuncId} {aas : List A} {post : A → Prop} (h : DataW P f aas post) : (conW aas post).ok P f ([] ++ []) := by
  rintro aas' bs' ⟨rfl, rfl⟩
  refine ⟨h.1, ?_⟩
  rintro r bs' ⟨hpost, rfl⟩
  exact ⟨h.2.2 r hpost, fun i x hx => by cases hx⟩
theorem ok_datw {f : FuncId} {fn : Func} {at_ : Array TypeId} {xs : List Operand} {aas : List A} {post : A → Prop} (h : DataW P f aas post) (hf : P.funcs[f]? = some fn) (hbody : fn.body.isSome = true) (hname : (fn.name == "runtime.NumGoroutine") = false) :
    OpOk P C ops ⟨some d, .call { callee := .value (.func f), args := xs.toArray, argTypes := at_ }, ty, pos, af, none⟩ ⟨xs.flatMap kof ++ ([] ++ [] : List Nat).map B, T d :: ([] ++ [] : List Nat).map B, behCall (conW aas post) xs [] [] d⟩ :=
  ok_call [] [] hf hbody hname (conW_ok h)
theorem Wk.datw {f : FuncId} {fn : Func} {at_ : Array TypeId} {xs : List Operand} {aas : List A} {post : A → Prop} (h : DataW P f aas post) (hf : P.funcs[f]? = some fn) (hbody : fn.body.isSome = true) (hname : (fn.name == "runtime.NumGoroutine") = false)
    (hargs : argsA σ xs = aas) (hw : A.withins [] aas = true) (hd : d < σ.n) (hk : ∀ r, post r → Wk P C ops os cs (σ.put (T d) (.a r)) K) :
    Wk P C ops (⟨some d, .call { callee := .value (.func f), args := xs.toArray, argTypes := at_ }, ty, pos, af, none⟩ :: os) (⟨xs.flatMap kof ++ ([] ++ [] : List Nat).map B, T d :: ([] ++ [] : List Nat).map B, behCall (conW aas post) xs [] [] d⟩ :: cs) σ K := by
  refine Wk.cons (ok_datw h hf hbody hname) ?_ ?_
  · obtain ⟨r, hr⟩ := h.2.1
    exact ⟨hd, fun i hi => (List.not_mem_nil hi).elim, by rw [hargs]; exact hw, fun i hi => (List.not_mem_nil hi).elim, ⟨hargs, rfl⟩, r, [], hr, rfl⟩
  · rintro us ⟨r, bs', ⟨hpost, rfl⟩, rfl⟩
    exact hk r hpost
theorem DataOk.w {f : FuncId} {aas : List A} {r : A} (h : DataOk P f aas r) (hr : r.within [] = true) : DataW P f aas (· = r) := ⟨h, ⟨r, rfl⟩, fun r' e => by rw [e]; exact hr⟩
theorem Wk.dat {f : FuncId} {fn : Func} {at_ : Array TypeId} {xs : List Operand} {aas : List A} {r : A} (h : DataOk P f aas r) (hf : P.funcs[f]? = some fn) (hbody : fn.body.isSome = true) (hname : (fn.name == "runtime.NumGoroutine") = false)
    (hargs : argsA σ xs = aas) (hw : A.withins [] aas = true) (hr : r.within [] = true) (hd : d < σ.n) (hk : Wk P C ops os cs (σ.put (T d) (.a r)) K) :
    Wk P C ops (⟨some d, .call { callee := .value (.func f), args := xs.toArray, argTypes := at_ }, ty, pos, af, none⟩ :: os) (⟨xs.flatMap kof ++ ([] ++ [] : List Nat).map B, T d :: ([] ++ [] : List Nat).map B, behCall (conW aas (· = r)) xs [] [] d⟩ :: cs) σ K :=
  Wk.datw (h.w hr) hf hbody hname hargs hw hd fun _ e => e ▸ hk

theorem ok_drw {f : FuncId} {fn : Func} {at_ : Array TypeId} {xs : List Operand} {pre : List A → Prop} {post : List A → A → Prop} {n : Nat} (i : Nat) (h : DrawOk P f pre post n) (hf : P.funcs[f]? = some fn) (hbody : fn.body.isSome = true) (hname : (fn.name == "runtime.NumGoroutine") = false) :
    OpOk P C ops ⟨some d, .call { callee := .value (.func f), args := xs.toArray, argTypes := at_ }, ty, pos, af, none⟩ ⟨xs.flatMap kof ++ ([i] ++ []).map B, T d :: ([i] ++ []).map B, behCall (conDraw pre post n i) xs [i] [] d⟩ :=
  ok_call [i] [] hf hbody hname (conDraw_ok h i)
theorem Wk.drw {f : FuncId} {fn : Func} {at_ : Array TypeId} {xs : List Operand} {pre : List A → Prop} {post : List A → A → Prop} {n : Nat} (i : Nat) (h : DrawOk P f pre post n) (hf : P.funcs[f]? = some fn) (hbody : fn.body.isSome = true) (hname : (fn.name == "runtime.NumGoroutine") = false)
    {rest : List A} {zs : List (Fin 256)} {p : Nat} (hargs : argsA σ xs = .ptr i 0 :: rest) (hb : σ.b i = rdr zs p) (hpre : pre rest) (hp : p + n ≤ 2000000000) (hw : A.withins [i] rest = true) (hd : d < σ.n)
    (hk : ∀ r zs' p', post rest r → p' ≤ p + n → Wk P C ops os cs ((σ.put (T d) (.a r)).put (B i) (.b (rdr zs' p'))) K) :
    Wk P C ops (⟨some d, .call { callee := .value (.func f), args := xs.toArray, argTypes := at_ }, ty, pos, af, none⟩ :: os) (⟨xs.flatMap kof ++ ([i] ++ []).map B, T d :: ([i] ++ []).map B, behCall (conDraw pre post n i) xs [i] [] d⟩ :: cs) σ K := by
  have hbx : boxesA σ [i] = [(i, rdr zs p)] := by simp [boxesA, hb]
  have e : rdP [(i, rdr zs p)] = p := by simp [rdP, rdr]
  refine Wk.cons (ok_drw i h hf hbody hname) ?_ ?_
  · obtain ⟨r, hr⟩ := h.2.1 rest hpre
    refine ⟨hd, fun i hi => (List.not_mem_nil hi).elim, ?_, fun j hj => ?_, ⟨zs, p, rest, hargs, hbx, hpre, hp⟩, r, [(i, rdr zs p)], ?_, zs, p, rfl, by rw [hbx, e]; omega⟩
    · rw [hargs]
      simp [A.withins, A.within, hw]
    · obtain rfl : j = i := by simpa using hj
      rw [hb]; rfl
    · rw [hargs]; exact hr
  · rintro us ⟨r, bs', ⟨hpost, zs', p', rfl, hp'⟩, rfl⟩
    rw [hargs, List.tail_cons] at hpost
    rw [hbx, e] at hp'
    have := hk r zs' p' hpost hp'
    simpa [St.puts] using this
end
theorem kept1 {σ : St} {q : Nat} {y : Bx} (hb : σ.b q = y) : ∀ (i : Nat) (x : Bx), [(q, y)].lookup i = some x → σ.b i = x := fun i x hx => by
  rw [List.lookup_cons] at hx
  split at hx
  · rename_i he
    rw [eq_of_beq he, hb]
    exact Option.some.inj hx
  · cases hx
theorem kept2 {σ : St} {q r : Nat} {y z : Bx} (h1 : σ.b q = y) (h2 : σ.b r = z) : ∀ (i : Nat) (x : Bx), [(q, y), (r, z)].lookup i = some x → σ.b i = x := fun i x hx => by
  rw [List.lookup_cons] at hx
  split at hx
  · rename_i he
    rw [eq_of_beq he, h1]
    exact Option.some.inj hx
  · exact kept1 h2 i x hx
theorem kept3 {σ : St} {q r t : Nat} {y z u : Bx} (h1 : σ.b q = y) (h2 : σ.b r = z) (h3 : σ.b t = u) : ∀ (i : Nat) (x : Bx), [(q, y), (r, z), (t, u)].lookup i = some x → σ.b i = x := fun i x hx => by
  rw [List.lookup_cons] at hx
  split at hx
  · rename_i he
    rw [eq_of_beq he, h1]
    exact Option.some.inj hx
  · exact kept2 h2 h3 i x hx
theorem inAll {L : List Nat} {bs : List (Nat × Bx)} (h : bs.all (fun p => L.contains p.1 && p.2.within L) = true) : ∀ i x, bs.lookup i = some x → i ∈ L ∧ x.within L = true := by
  induction bs with
  | nil => intro i x hx; cases hx
  | cons p bs ih =>
    intro i x hx
    obtain ⟨q, y⟩ := p
    simp only [List.all_cons, Bool.and_eq_true] at h
    rw [List.lookup_cons] at hx
    split at hx
    · rename_i he
      obtain rfl := Option.some.inj hx
      refine ⟨?_, h.1.2⟩
      rw [eq_of_beq he]
      simpa using h.1.1
    · exact ih (by simpa using h.2) i x hx
/-- Opening a reader. -/
def OpenOk (P : Program) (f : FuncId) : Prop := ∀ zs : List (Fin 256), Spec P f [.d (bytesD (zs.map (·.val)))] [] (fun r bs => r = .ptr 0 0 ∧ ∃ zs', bs = [(0, rdr zs' 0)])
def conOpen (zs : List (Fin 256)) : Con := Con.at [.d (bytesD (zs.map (·.val)))] [] (fun r bs => r = .ptr 0 0 ∧ ∃ zs', bs = [(0, rdr zs' 0)])
theorem conOpen_ok {P : Program} {f : FuncId} (h : OpenOk P f) (zs : List (Fin 256)) : (conOpen zs).ok P f ([] ++ [0]) := by
  rintro aas' bs' ⟨rfl, rfl⟩
  refine ⟨h zs, ?_⟩
  rintro r bs' ⟨rfl, zs', rfl⟩
  refine ⟨rfl, fun j x hx => ?_⟩
  rw [List.lookup_cons] at hx
  split at hx
  · rename_i he
    obtain rfl := Option.some.inj hx
    exact ⟨by simp [eq_of_beq he], rfl⟩
  · cases hx
theorem Wk.opn {P : Program} {C : Ctx} {ops : Array Oper} {os : List Oper} {cs : List Cert} {σ : St} {K : St → Prop} {d : Nat} {ty : TypeId} {pos : String} {af : Array Edge} {f : FuncId} {fn : Func} {at_ : Array TypeId} {xs : List Operand} (h : OpenOk P f) (hf : P.funcs[f]? = some fn) (hbody : fn.body.isSome = true) (hname : (fn.name == "runtime.NumGoroutine") = false)
    {zs : List (Fin 256)} (hargs : argsA σ xs = [.d (bytesD (zs.map (·.val)))]) (hb : σ.b 0 = .fresh) (hd : d < σ.n)
    (hk : ∀ zs', Wk P C ops os cs ((σ.put (T d) (.a (.ptr 0 0))).put (B 0) (.b (rdr zs' 0))) K) :
    Wk P C ops (⟨some d, .call { callee := .value (.func f), args := xs.toArray, argTypes := at_ }, ty, pos, af, none⟩ :: os) (⟨xs.flatMap kof ++ ([] ++ [0]).map B, T d :: ([] ++ [0]).map B, behCall (conOpen zs) xs [] [0] d⟩ :: cs) σ K := by
  refine Wk.cons (ok_call [] [0] hf hbody hname (conOpen_ok h zs)) ?_ ?_
  · refine ⟨hd, fun i hi => ?_, by rw [hargs]; rfl, fun i hi => (List.not_mem_nil hi).elim, ⟨hargs, rfl⟩, .ptr 0 0, [(0, rdr zs 0)], rfl, zs, rfl⟩
    obtain rfl : i = 0 := by simpa using hi
    exact hb
  · rintro us ⟨r, bs', ⟨rfl, zs', rfl⟩, rfl⟩
    have := hk zs'
    simpa [St.puts] using this
theorem asData_bytes (zs : List Nat) : asData (zs.map fun z : Nat => [A.d (.v (.int .u8 (z : Int)))]) (zs.map fun z : Nat => [.v (.int .u8 (z : Int))]) := by
  simp [asData, nrms, nrm]
end Go.Proofs.YthnlpdjjnfkmeaaDoor

/- The program's types: sizes, fields, zeros. -/
namespace Go.Proofs.YthnlpdjjnfkmeaaDoor
open Go
theorem hmix : Tryd.prog.follows .mixedOrders = true := by kernel_rfl
theorem ty3 : tyOf Tryd.prog 3 = some (1, false) := by kernel_rfl
theorem ze3 : zeroOf Tryd.prog 3 = some [.int .i64 0] := by kernel_rfl
theorem ap3 : appOf Tryd.prog 3 1 = true := by kernel_rfl
theorem ui3 : Tryd.prog.underlying 3 = some (.int .i64) := by kernel_rfl
theorem ty4 : tyOf Tryd.prog 4 = some (1, false) := by kernel_rfl
theorem ze4 : zeroOf Tryd.prog 4 = some [.bool false] := by kernel_rfl
theorem ap4 : appOf Tryd.prog 4 1 = true := by kernel_rfl
theorem ty5 : tyOf Tryd.prog 5 = some (1, false) := by kernel_rfl
theorem ze5 : zeroOf Tryd.prog 5 = some [.int .u8 0] := by kernel_rfl
theorem ap5 : appOf Tryd.prog 5 1 = true := by kernel_rfl
theorem ui5 : Tryd.prog.underlying 5 = some (.int .u8) := by kernel_rfl
theorem ty22 : tyOf Tryd.prog 22 = some (1, false) := by kernel_rfl
theorem ze22 : zeroOf Tryd.prog 22 = some [.slice none 0 0] := by kernel_rfl
theorem ap22 : appOf Tryd.prog 22 1 = true := by kernel_rfl
theorem un22 : Tryd.prog.underlying 22 = some (.slice 5) := by kernel_rfl
theorem ty24 : tyOf Tryd.prog 24 = some (9, true) := by kernel_rfl
theorem fd24_0 : fieldOf Tryd.prog 24 0 = some (0, 1, false) := by kernel_rfl
theorem fd24_1 : fieldOf Tryd.prog 24 1 = some (1, 1, false) := by kernel_rfl
theorem fd24_2 : fieldOf Tryd.prog 24 2 = some (2, 1, false) := by kernel_rfl
theorem fd24_3 : fieldOf Tryd.prog 24 3 = some (3, 1, false) := by kernel_rfl
theorem fd24_4 : fieldOf Tryd.prog 24 4 = some (4, 1, false) := by kernel_rfl
theorem fd24_5 : fieldOf Tryd.prog 24 5 = some (5, 1, false) := by kernel_rfl
theorem fd24_6 : fieldOf Tryd.prog 24 6 = some (6, 1, false) := by kernel_rfl
theorem fd24_7 : fieldOf Tryd.prog 24 7 = some (7, 1, false) := by kernel_rfl
theorem fd24_8 : fieldOf Tryd.prog 24 8 = some (8, 1, false) := by kernel_rfl
theorem ze24 : zeroOf Tryd.prog 24 = some [.int .i64 0, .int .i64 0, .int .i64 0, .bool false, .bool false, .int .i64 0, .int .i64 0, .int .i64 0, .slice none 0 0] := by kernel_rfl
theorem bl24 : builtOf Tryd.prog 24 = some ([.int .i64 0, .int .i64 0, .int .i64 0, .bool false, .bool false, .int .i64 0, .int .i64 0, .int .i64 0, .slice none 0 0], [(0, 1), (1, 1), (2, 1), (3, 1), (4, 1), (5, 1), (6, 1), (7, 1), (8, 1)]) := by kernel_rfl
theorem ap24 : appOf Tryd.prog 24 9 = true := by kernel_rfl
theorem ty35 : tyOf Tryd.prog 35 = some (5, true) := by kernel_rfl
theorem fd35_0 : fieldOf Tryd.prog 35 0 = some (0, 1, false) := by kernel_rfl
theorem fd35_1 : fieldOf Tryd.prog 35 1 = some (1, 1, false) := by kernel_rfl
theorem fd35_2 : fieldOf Tryd.prog 35 2 = some (2, 1, false) := by kernel_rfl
theorem fd35_3 : fieldOf Tryd.prog 35 3 = some (3, 1, false) := by kernel_rfl
theorem fd35_4 : fieldOf Tryd.prog 35 4 = some (4, 1, false) := by kernel_rfl
theorem ze35 : zeroOf Tryd.prog 35 = some [.int .i64 0, .int .i64 0, .int .i64 0, .int .i64 0, .int .i64 0] := by kernel_rfl
theorem bl35 : builtOf Tryd.prog 35 = some ([.int .i64 0, .int .i64 0, .int .i64 0, .int .i64 0, .int .i64 0], [(0, 1), (1, 1), (2, 1), (3, 1), (4, 1)]) := by kernel_rfl
theorem ap35 : appOf Tryd.prog 35 5 = true := by kernel_rfl
theorem ty36 : tyOf Tryd.prog 36 = some (1, false) := by kernel_rfl
theorem ze36 : zeroOf Tryd.prog 36 = some [.slice none 0 0] := by kernel_rfl
theorem ap36 : appOf Tryd.prog 36 1 = true := by kernel_rfl
theorem un36 : Tryd.prog.underlying 36 = some (.slice 77) := by kernel_rfl
theorem ty38 : tyOf Tryd.prog 38 = some (5, true) := by kernel_rfl
theorem fd38_0 : fieldOf Tryd.prog 38 0 = some (0, 1, false) := by kernel_rfl
theorem fd38_1 : fieldOf Tryd.prog 38 1 = some (1, 1, false) := by kernel_rfl
theorem fd38_2 : fieldOf Tryd.prog 38 2 = some (2, 1, false) := by kernel_rfl
theorem fd38_3 : fieldOf Tryd.prog 38 3 = some (3, 1, false) := by kernel_rfl
theorem fd38_4 : fieldOf Tryd.prog 38 4 = some (4, 1, false) := by kernel_rfl
theorem ze38 : zeroOf Tryd.prog 38 = some [.int .i64 0, .slice none 0 0, .int .i64 0, .int .i64 0, .bool false] := by kernel_rfl
theorem bl38 : builtOf Tryd.prog 38 = some ([.int .i64 0, .slice none 0 0, .int .i64 0, .int .i64 0, .bool false], [(0, 1), (1, 1), (2, 1), (3, 1), (4, 1)]) := by kernel_rfl
theorem ap38 : appOf Tryd.prog 38 5 = true := by kernel_rfl
theorem ty59 : tyOf Tryd.prog 59 = some (2, true) := by kernel_rfl
theorem fd59_0 : fieldOf Tryd.prog 59 0 = some (0, 1, false) := by kernel_rfl
theorem fd59_1 : fieldOf Tryd.prog 59 1 = some (1, 1, false) := by kernel_rfl
theorem ze59 : zeroOf Tryd.prog 59 = some [.slice none 0 0, .nilIface] := by kernel_rfl
theorem bl59 : builtOf Tryd.prog 59 = some ([.slice none 0 0, .nilIface], [(0, 1), (1, 1)]) := by kernel_rfl
theorem ap59 : appOf Tryd.prog 59 2 = true := by kernel_rfl
theorem ty71 : tyOf Tryd.prog 71 = some (1, false) := by kernel_rfl
theorem ze71 : zeroOf Tryd.prog 71 = some [.int .i64 0] := by kernel_rfl
theorem ap71 : appOf Tryd.prog 71 1 = true := by kernel_rfl
theorem ui71 : Tryd.prog.underlying 71 = some (.int .i64) := by kernel_rfl
theorem ty77 : tyOf Tryd.prog 77 = some (3, true) := by kernel_rfl
theorem fd77_0 : fieldOf Tryd.prog 77 0 = some (0, 1, false) := by kernel_rfl
theorem fd77_1 : fieldOf Tryd.prog 77 1 = some (1, 1, false) := by kernel_rfl
theorem fd77_2 : fieldOf Tryd.prog 77 2 = some (2, 1, false) := by kernel_rfl
theorem ze77 : zeroOf Tryd.prog 77 = some [.int .i64 0, .int .i64 0, .slice none 0 0] := by kernel_rfl
theorem bl77 : builtOf Tryd.prog 77 = some ([.int .i64 0, .int .i64 0, .slice none 0 0], [(0, 1), (1, 1), (2, 1)]) := by kernel_rfl
theorem ap77 : appOf Tryd.prog 77 3 = true := by kernel_rfl
theorem ty80 : tyOf Tryd.prog 80 = some (1, false) := by kernel_rfl
theorem ze80 : zeroOf Tryd.prog 80 = some [.slice none 0 0] := by kernel_rfl
theorem ap80 : appOf Tryd.prog 80 1 = true := by kernel_rfl
theorem un80 : Tryd.prog.underlying 80 = some (.slice 3) := by kernel_rfl
theorem ty83 : tyOf Tryd.prog 83 = some (2, true) := by kernel_rfl
theorem fd83_0 : fieldOf Tryd.prog 83 0 = some (0, 1, false) := by kernel_rfl
theorem fd83_1 : fieldOf Tryd.prog 83 1 = some (1, 1, false) := by kernel_rfl
theorem ze83 : zeroOf Tryd.prog 83 = some [.slice none 0 0, .int .i64 0] := by kernel_rfl
theorem bl83 : builtOf Tryd.prog 83 = some ([.slice none 0 0, .int .i64 0], [(0, 1), (1, 1)]) := by kernel_rfl
theorem ap83 : appOf Tryd.prog 83 2 = true := by kernel_rfl
theorem ty89 : tyOf Tryd.prog 89 = some (3, true) := by kernel_rfl
theorem fd89_0 : fieldOf Tryd.prog 89 0 = some (0, 1, false) := by kernel_rfl
theorem fd89_1 : fieldOf Tryd.prog 89 1 = some (1, 1, false) := by kernel_rfl
theorem fd89_2 : fieldOf Tryd.prog 89 2 = some (2, 1, false) := by kernel_rfl
theorem ze89 : zeroOf Tryd.prog 89 = some [.int .i64 0, .int .i64 0, .slice none 0 0] := by kernel_rfl
theorem bl89 : builtOf Tryd.prog 89 = some ([.int .i64 0, .int .i64 0, .slice none 0 0], [(0, 1), (1, 1), (2, 1)]) := by kernel_rfl
theorem ap89 : appOf Tryd.prog 89 3 = true := by kernel_rfl
theorem ty91 : tyOf Tryd.prog 91 = some (6, true) := by kernel_rfl
theorem fd91_0 : fieldOf Tryd.prog 91 0 = some (0, 1, false) := by kernel_rfl
theorem fd91_1 : fieldOf Tryd.prog 91 1 = some (1, 1, false) := by kernel_rfl
theorem fd91_2 : fieldOf Tryd.prog 91 2 = some (2, 1, false) := by kernel_rfl
theorem fd91_3 : fieldOf Tryd.prog 91 3 = some (3, 3, true) := by kernel_rfl
theorem ze91 : zeroOf Tryd.prog 91 = some [.int .i64 0, .int .i64 0, .bool false, .int .i64 0, .int .i64 0, .slice none 0 0] := by kernel_rfl
theorem bl91 : builtOf Tryd.prog 91 = some ([.int .i64 0, .int .i64 0, .bool false, .int .i64 0, .int .i64 0, .slice none 0 0], [(0, 1), (1, 1), (2, 1), (3, 3)]) := by kernel_rfl
theorem ap91 : appOf Tryd.prog 91 6 = true := by kernel_rfl
theorem ty93 : tyOf Tryd.prog 93 = some (4, true) := by kernel_rfl
theorem fd93_0 : fieldOf Tryd.prog 93 0 = some (0, 1, false) := by kernel_rfl
theorem fd93_1 : fieldOf Tryd.prog 93 1 = some (1, 1, false) := by kernel_rfl
theorem fd93_2 : fieldOf Tryd.prog 93 2 = some (2, 1, false) := by kernel_rfl
theorem fd93_3 : fieldOf Tryd.prog 93 3 = some (3, 1, false) := by kernel_rfl
theorem ze93 : zeroOf Tryd.prog 93 = some [.int .i64 0, .bool false, .bool false, .int .i64 0] := by kernel_rfl
theorem bl93 : builtOf Tryd.prog 93 = some ([.int .i64 0, .bool false, .bool false, .int .i64 0], [(0, 1), (1, 1), (2, 1), (3, 1)]) := by kernel_rfl
theorem ap93 : appOf Tryd.prog 93 4 = true := by kernel_rfl
theorem ty95 : tyOf Tryd.prog 95 = some (3, true) := by kernel_rfl
theorem fd95_0 : fieldOf Tryd.prog 95 0 = some (0, 3, true) := by kernel_rfl
theorem ze95 : zeroOf Tryd.prog 95 = some [.int .i64 0, .int .i64 0, .slice none 0 0] := by kernel_rfl
theorem bl95 : builtOf Tryd.prog 95 = some ([.int .i64 0, .int .i64 0, .slice none 0 0], [(0, 3)]) := by kernel_rfl
theorem ap95 : appOf Tryd.prog 95 3 = true := by kernel_rfl
theorem ty97 : tyOf Tryd.prog 97 = some (1, true) := by kernel_rfl
theorem fd97_0 : fieldOf Tryd.prog 97 0 = some (0, 1, false) := by kernel_rfl
theorem ze97 : zeroOf Tryd.prog 97 = some [.int .i64 0] := by kernel_rfl
theorem bl97 : builtOf Tryd.prog 97 = some ([.int .i64 0], [(0, 1)]) := by kernel_rfl
theorem ap97 : appOf Tryd.prog 97 1 = true := by kernel_rfl
end Go.Proofs.YthnlpdjjnfkmeaaDoor

/- Calls of whatever kind as one operation: of a function value, of a method behind an interface; function values made. -/
namespace Go.Proofs.YthnlpdjjnfkmeaaDoor
open Go

/-- A call whose arguments are told by ar. -/
def behCallG (G : Con) (ar : St → Option (List A)) (L M : List Nat) (d : Nat) : St → Prop × (List V → Prop) := fun σ =>
  (∃ ls, ar σ = some ls ∧ d < σ.n ∧ (∀ i ∈ M, σ.b i = .fresh) ∧ A.withins L ls = true ∧ (∀ i ∈ L, (σ.b i).within L = true) ∧ G.pre ls (boxesA σ L) ∧ ∃ r bs', G.post ls (boxesA σ L) r bs',
   fun us => ∃ ls, ar σ = some ls ∧ ∃ r bs', G.post ls (boxesA σ L) r bs' ∧ us = .a r :: (L ++ M).map fun i => .b ((bs'.lookup i).getD .none))

section
variable {P : Program} {C : Ctx} {ops : Array Oper} {os : List Oper} {cs : List Cert} {σ : St} {K : St → Prop} {d : Nat} {ty : TypeId} {pos : String} {af : Array Edge}

theorem ok_callG {op : Op} {f : FuncId} {G : Con} {rd0 : List Key} {ar : St → Option (List A)} (L M : List Nat) (hG : G.ok P f (L ++ M)) (hm : ∀ (σ : St) (rd : List Key), (∀ k ∈ rd0, k ∈ rd) → ar (σ.mask rd) = ar σ)
    (hcall : ∀ (σ : St) (a : Act) (w : World) (F : Nat → Prop) (E : Nat → Option Nat) (H : Nat → Nat → Option Value) (ls : List A), RelE C σ a w F E H → ar σ = some ls → ∃ vs : Array Value, vs.size = ls.length ∧ (∀ (i : Nat) (x : A), ls[i]? = some x → Den w F E H x (vs.getD i undef)) ∧ (execOp a.eval ⟨some d, op, ty, pos, af, none⟩).run P w = .ok (.enter f vs) w) :
    OpOk P C ops ⟨some d, op, ty, pos, af, none⟩ ⟨rd0 ++ (L ++ M).map B, T d :: (L ++ M).map B, behCallG G ar L M d⟩ := by
  refine OpOk.of rfl (by simp [dstIn]) (fun σ h => ?_) (fun σ => ?_) (fun σ a w F E H K Q hR hsafe hK => ?_)
  · obtain ⟨ls, e, _, _, _, _, _, r, bs', h⟩ := h
    exact ⟨_, ls, e, r, bs', h, rfl⟩
  · have e1 : ar (σ.mask (rd0 ++ (L ++ M).map B)) = ar σ := hm σ _ fun k hk => List.mem_append_left _ hk
    have e3 : ∀ i ∈ L ++ M, (σ.mask (rd0 ++ (L ++ M).map B)).b i = σ.b i := fun i hi => bx_mask (List.mem_append_right _ (List.mem_map.2 ⟨i, hi, rfl⟩))
    have e2 : boxesA (σ.mask (rd0 ++ (L ++ M).map B)) L = boxesA σ L := by
      unfold boxesA
      refine List.map_congr_left fun i hi => ?_
      rw [e3 i (List.mem_append_left _ hi)]
    have e4 : (∀ i ∈ M, (σ.mask (rd0 ++ (L ++ M).map B)).b i = .fresh) ↔ ∀ i ∈ M, σ.b i = .fresh := by
      constructor
      · intro h i hi; rw [← e3 i (List.mem_append_right _ hi)]; exact h i hi
      · intro h i hi; rw [e3 i (List.mem_append_right _ hi)]; exact h i hi
    have e5 : (∀ i ∈ L, ((σ.mask (rd0 ++ (L ++ M).map B)).b i).within L = true) ↔ ∀ i ∈ L, (σ.b i).within L = true := by
      constructor
      · intro h i hi; rw [← e3 i (List.mem_append_left _ hi)]; exact h i hi
      · intro h i hi; rw [e3 i (List.mem_append_left _ hi)]; exact h i hi
    unfold behCallG
    simp only [e1, e2, e4, e5]
    rfl
  · obtain ⟨ls, har, hd, hM, hwa, hwb, hpre, _⟩ := hsafe
    obtain ⟨vs, hvs, hden, hrun⟩ := hcall σ a w F E H ls hR har
    obtain ⟨hspec, hwith⟩ := hG _ _ hpre
    let E1 : Nat → Option Nat := fun i => if L.contains i then E i else none
    let H1 : Nat → Nat → Option Value := fun i k => if L.contains i then H i k else none
    have hE1 : ∀ i ∈ L, E1 i = E i := fun i hi => if_pos (by simpa using hi)
    have hH1 : ∀ i ∈ L, ∀ k, H1 i k = H i k := fun i hi k => if_pos (by simpa using hi)
    have hlk : ∀ i x, (boxesA σ L).lookup i = some x → i ∈ L ∧ σ.b i = x := fun i x h => by
      rw [boxesA_lookup] at h
      split at h
      · rename_i hi; exact ⟨hi, Option.some.inj h⟩
      · cases h
    have hpo : PreOk w F E1 H1 (boxesA σ L) := by
      refine ⟨hR.env.Flt, fun i x h => ?_, fun i x b h hb => ?_, fun i j x y b hij hx hy h1 h2 => ?_, fun i h => ?_⟩
      · obtain ⟨hi, rfl⟩ := hlk i x h
        exact (hR.env.box i).names hE1 hH1 hi (hwb i hi)
      · obtain ⟨hi, rfl⟩ := hlk i x h
        rw [blk_names (hE1 i hi) (hH1 i hi)] at hb
        exact (hR.env.live i b hb).1
      · obtain ⟨hi, rfl⟩ := hlk i x hx
        obtain ⟨hj, rfl⟩ := hlk j y hy
        rw [blk_names (hE1 i hi) (hH1 i hi)] at h1
        rw [blk_names (hE1 j hj) (hH1 j hj)] at h2
        exact hR.env.sep i j b hij h1 h2
      · rw [boxesA_lookup] at h
        split at h
        · cases h
        · rename_i hi
          have : L.contains i = false := by simpa using hi
          exact ⟨if_neg (by rw [this]; decide), fun k => if_neg (by rw [this]; decide)⟩
    unfold Oper.wp
    rw [hrun, Oper.upon_enter]
    refine (hspec w F E1 H1 vs hpo hvs (fun i x hx => (hden i x hx).names hE1 hH1 (withins_get hwa i _ hx))).mono ?_
    · rintro e w' ⟨v, r, bs', F', E', H', rfl, hpost, hp, hden'⟩
      obtain ⟨hwr, hwx⟩ := hwith r bs' hpost
      let E2 : Nat → Option Nat := fun i => if (L ++ M).contains i then E' i else E i
      let H2 : Nat → Nat → Option Value := fun i k => if (L ++ M).contains i then H' i k else H i k
      have hE2 : ∀ i ∈ L ++ M, E2 i = E' i := fun i hi => if_pos (by simpa using hi)
      have hH2 : ∀ i ∈ L ++ M, ∀ k, H2 i k = H' i k := fun i hi k => if_pos (by simpa using hi)
      have hE3 : ∀ i, i ∉ L ++ M → E2 i = E i := fun i hi => if_neg (by simpa using hi)
      have hH3 : ∀ i k, i ∉ L ++ M → H2 i k = H i k := fun i k hi => if_neg (by simpa using hi)
      have hfr : ∀ i ∈ M, E i = none ∧ ∀ k, H i k = none := fun i hi => by
        have := hR.env.box i
        rw [hM i hi] at this
        exact this
      have hEm : ∀ i b, E i = some b → E2 i = some b := fun i b hb => by
        by_cases hi : i ∈ L ++ M
        · rw [hE2 i hi]
          rcases List.mem_append.1 hi with h | h
          · exact hp.en i b (by rw [hE1 i h]; exact hb)
          · rw [(hfr i h).1] at hb; cases hb
        · rw [hE3 i hi]; exact hb
      have hHm : ∀ i k v, H i k = some v → H2 i k = some v := fun i k v hv => by
        by_cases hi : i ∈ L ++ M
        · rw [hH2 i hi]
          rcases List.mem_append.1 hi with h | h
          · exact hp.hn i k v (by rw [hH1 i h]; exact hv)
          · rw [(hfr i h).2 k] at hv; cases hv
        · rw [hH3 i k hi]; exact hv
      have hold : ∀ b, b < w.heap.size → (∀ i, i ∈ L ++ M → blk E H i (σ.b i) ≠ some b) → w'.heap[b]? = w.heap[b]? := fun b hb hn => hp.old b hb fun i x hx hxb => by
        obtain ⟨hi, rfl⟩ := hlk i x hx
        rw [blk_names (hE1 i hi) (hH1 i hi)] at hxb
        exact hn i (List.mem_append_left _ hi) hxb
      let bx' : Nat → Bx := fun i => if i ∈ L ++ M then (bs'.lookup i).getD .none else σ.b i
      have hb1 : ∀ i ∈ L ++ M, bx' i = (bs'.lookup i).getD .none := fun i hi => if_pos hi
      have hbk : ∀ i ∈ L ++ M, ∀ b, blk E2 H2 i (bx' i) = some b → ∃ x, bs'.lookup i = some x ∧ blk E' H' i x = some b := fun i hi b hb => by
        rw [hb1 i hi, blk_names (hE2 i hi) (hH2 i hi)] at hb
        cases hl : bs'.lookup i with
        | none => rw [hl] at hb; cases hb
        | some x => rw [hl] at hb; exact ⟨x, rfl, hb⟩
      have env : Env C w' F' E2 H2 bx' := hR.env.step (· ∈ L ++ M) hp.os hp.tape hp.output hp.size hold hp.fr
        (fun b hb => by
          rcases hp.Fnew b hb with h | h
          · exact .inl h
          · exact .inr ⟨hp.Flt b hb, .inl h⟩) hEm hHm hE3 hH3 (fun i hi => if_neg hi)
        (fun i hi => by
          rw [hb1 i hi]
          cases hl : bs'.lookup i with
          | none => trivial
          | some x => exact (hp.box i x hl).names hE2 hH2 hi (hwx i x hl).2)
        (fun i hi b hb => by
          obtain ⟨x, hx, hxb⟩ := hbk i hi b hb
          refine ⟨hp.nf i x b hx hxb, ?_⟩
          rcases hp.live i x b hx hxb with ⟨j, y, hy, hyb⟩ | h
          · obtain ⟨hj, rfl⟩ := hlk j y hy
            rw [blk_names (hE1 j hj) (hH1 j hj)] at hyb
            exact .inr ⟨j, List.mem_append_left _ hj, hyb⟩
          · exact .inl h)
        (fun i j b hi hj hij h1 h2 => by
          obtain ⟨x, hx, hxb⟩ := hbk i hi b h1
          obtain ⟨y, hy, hyb⟩ := hbk j hj b h2
          exact hp.sep i j x y b hij hx hy hxb hyb)
      have hFw : ∀ b, F b → w'.heap[b]? = w.heap[b]? := fun b hb => hold b (hR.env.Flt b hb) fun i _ e => hR.env.frozen hb i e
      have hnew : RelE C ⟨σ.n, σ.t, bx'⟩ a w' F' E2 H2 := hR.move env hp.fr hFw hEm hHm
      have hput := hnew.put (d := d) (r := r) hd (hden'.names hE2 hH2 hwr)
      refine hK _ _ _ ⟨ls, har, r, bs', hpost, rfl⟩ ?_
      have : σ.puts (T d :: (L ++ M).map B) (.a r :: (L ++ M).map fun i => .b ((bs'.lookup i).getD .none)) = (⟨σ.n, σ.t, bx'⟩ : St).put (T d) (.a r) := by
        rw [St.puts, puts_boxes (fun i => (bs'.lookup i).getD .none)]
        rfl
      rw [this]
      exact hput.r

/-! Function values. -/
def rFunc (fn : Fn) (fs gs : List Operand) (σ : St) : Option A := some (.fn fn (fs.map (aev σ)) (gs.map (aev σ)))
theorem ok_mkf (fn : Fn) (fs gs : List Operand) : OpOk P C ops ⟨some d, .makeFunc fn fs.toArray gs.toArray, ty, pos, af, none⟩ ⟨fs.flatMap kof ++ gs.flatMap kof, [T d], beh1 (rFunc fn fs gs) d⟩ :=
  OpOk.read rfl rfl (fun σ => by
    have e : ∀ (ys : List Operand), (∀ k ∈ ys.flatMap kof, k ∈ fs.flatMap kof ++ gs.flatMap kof) → ys.map (aev (σ.mask (fs.flatMap kof ++ gs.flatMap kof))) = ys.map (aev σ) := fun ys h =>
      List.map_congr_left fun y hy => aev_mask fun k hk => h k (List.mem_flatMap.2 ⟨y, hy, hk⟩)
    unfold rFunc
    rw [e fs (fun k h => List.mem_append_left _ h), e gs (fun k h => List.mem_append_right _ h)]) fun σ a w F E H r hR h => by
    obtain rfl := Option.some.inj h
    have key : ∀ (ys : List Operand) (i : Nat) (x : A), (ys.map (aev σ))[i]? = some x → Den w F E H x ((ys.map a.eval).toArray.getD i undef) := fun ys i x hx => by
      simp only [List.getElem?_map, Option.map_eq_some_iff] at hx
      obtain ⟨q, hq, rfl⟩ := hx
      have e : (ys.map a.eval).toArray.getD i undef = a.eval q := by simp [Array.getD_eq_getD_getElem?, hq]
      rw [e]
      exact hR.ev q
    refine ⟨.func fn (fs.map a.eval).toArray (gs.map a.eval).toArray, ?_, .fn fn _ _ _ _ (by simp) (by simp) (key fs) (key gs)⟩
    simp [execOp, Instr.makeFunc]
theorem Wk.mkf {fn : Fn} {fs gs : List Operand} (hd : d < σ.n) (h : Wk P C ops os cs (σ.put (T d) (.a (.fn fn (fs.map (aev σ)) (gs.map (aev σ))))) K) :
    Wk P C ops (⟨some d, .makeFunc fn fs.toArray gs.toArray, ty, pos, af, none⟩ :: os) (⟨fs.flatMap kof ++ gs.flatMap kof, [T d], beh1 (rFunc fn fs gs) d⟩ :: cs) σ K := Wk.read (ok_mkf fn fs gs) _ hd rfl h
/-- The arguments of a call of a function value. -/
def argsF (f : FuncId) (x : Operand) (xs : List Operand) (σ : St) : Option (List A) :=
  match aev σ x with
  | .fn (.func f') fs gs => if f' = f then some ((fs ++ (xs.map (aev σ) ++ gs)).map nrm) else none
  | _ => none
theorem dens_append {w : World} {F : Nat → Prop} {E : Nat → Option Nat} {H : Nat → Nat → Option Value} {xs ys : List A} {us vs : Array Value} (hs : us.size = xs.length) (hx : ∀ (i : Nat) (x : A), xs[i]? = some x → Den w F E H x (us.getD i undef)) (hy : ∀ (i : Nat) (x : A), ys[i]? = some x → Den w F E H x (vs.getD i undef)) :
    ∀ (i : Nat) (x : A), (xs ++ ys)[i]? = some x → Den w F E H x ((us ++ vs).getD i undef) := fun i x h => by
  by_cases hi : i < xs.length
  · rw [List.getElem?_append_left hi] at h
    have e : (us ++ vs).getD i undef = us.getD i undef := by simp [Array.getD_eq_getD_getElem?, Array.getElem?_append_left (hs.symm ▸ hi : i < us.size)]
    rw [e]; exact hx i x h
  · rw [List.getElem?_append_right (by omega)] at h
    have e : (us ++ vs).getD i undef = vs.getD (i - xs.length) undef := by simp [Array.getD_eq_getD_getElem?, Array.getElem?_append_right (by omega : us.size ≤ i), hs]
    rw [e]; exact hy _ x h
theorem den_fnc {w : World} {F : Nat → Prop} {E : Nat → Option Nat} {H : Nat → Nat → Option Value} {fn : Fn} {fs gs : List A} {v : Value} (h : Den w F E H (.fn fn fs gs) v) :
    ∃ cs ds : Array Value, v = .func fn cs ds ∧ cs.size = fs.length ∧ ds.size = gs.length ∧ (∀ (i : Nat) (x : A), fs[i]? = some x → Den w F E H x (cs.getD i undef)) ∧ ∀ (i : Nat) (x : A), gs[i]? = some x → Den w F E H x (ds.getD i undef) := by
  cases h with | fn _ _ _ cs ds hs ht h h' => exact ⟨cs, ds, rfl, hs, ht, h, h'⟩
theorem ok_clf {f : FuncId} {fn : Func} {at_ : Array TypeId} {x : Operand} {xs : List Operand} {G : Con} (L M : List Nat) (hf : P.funcs[f]? = some fn) (hbody : fn.body.isSome = true) (hname : (fn.name == "runtime.NumGoroutine") = false) (hG : G.ok P f (L ++ M)) :
    OpOk P C ops ⟨some d, .call { callee := .value x, args := xs.toArray, argTypes := at_ }, ty, pos, af, none⟩ ⟨(kof x ++ xs.flatMap kof) ++ (L ++ M).map B, T d :: (L ++ M).map B, behCallG G (argsF f x xs) L M d⟩ :=
  ok_callG L M hG (fun σ rd h => by
    unfold argsF
    rw [aev_mask fun k hk => h k (List.mem_append_left _ hk), List.map_congr_left fun y hy => aev_mask (σ := σ) (rd := rd) fun k hk => h k (List.mem_append_right _ (List.mem_flatMap.2 ⟨y, hy, hk⟩))]) fun σ a w F E H ls hR har => by
    unfold argsF at har
    split at har
    · rename_i f' fs gs he
      split at har
      · rename_i hff
        subst hff
        obtain rfl := Option.some.inj har
        have hd := hR.ev x
        rw [he] at hd
        obtain ⟨cs, ds, hv, hs, ht, h1, h2⟩ := den_fnc hd
        have hn : ¬ fn.name = "runtime.NumGoroutine" := by simpa using hname
        have hb2 : fn.body ≠ none := by intro e; rw [e] at hbody; cases hbody
        have hx : ∀ (i : Nat) (y : A), (xs.map (aev σ))[i]? = some y → Den w F E H y ((xs.map a.eval).toArray.getD i undef) := fun i y hy => by
          simp only [List.getElem?_map, Option.map_eq_some_iff] at hy
          obtain ⟨q, hq, rfl⟩ := hy
          have e : (xs.map a.eval).toArray.getD i undef = a.eval q := by simp [Array.getD_eq_getD_getElem?, hq]
          rw [e]; exact hR.ev q
        refine ⟨cs ++ ((xs.map a.eval).toArray ++ ds), by simp [hs, ht], fun i y hy => ?_, ?_⟩
        · simp only [List.getElem?_map, Option.map_eq_some_iff] at hy
          obtain ⟨z, hz, rfl⟩ := hy
          exact (dens_append hs h1 (dens_append (by simp) hx h2) i z hz).nrm
        · simp only [execOp, resolve]
          rw [hv]
          simp [Deferred.ofValue, invoke, callFunc, hf, hn, hb2]
      · cases har
    · cases har
/-- What comes of a call hangs on the boxes that it was handed, and on those that it made. -/
def PostIn (L : List Nat) (post : A → List (Nat × Bx) → Prop) : Prop := ∀ r bs', post r bs' → r.within L = true ∧ ∀ i x, bs'.lookup i = some x → i ∈ L ∧ x.within L = true
theorem Con.at_ok {f : FuncId} {ls : List A} {bs : List (Nat × Bx)} {post : A → List (Nat × Bx) → Prop} {L : List Nat} (h : Spec P f ls bs post) (hp : PostIn L post) : (Con.at ls bs post).ok P f L := by
  rintro aas' bs' ⟨rfl, rfl⟩
  exact ⟨h, hp⟩
/-- A call of a function value. -/
theorem Wk.clf {f : FuncId} {fn : Func} {at_ : Array TypeId} {x : Operand} {xs : List Operand} {ls : List A} {bs : List (Nat × Bx)} {post : A → List (Nat × Bx) → Prop} (L M : List Nat) (h : Spec P f ls bs post) (hp : PostIn (L ++ M) post) (hex : ∃ r bs', post r bs')
    (hf : P.funcs[f]? = some fn) (hbody : fn.body.isSome = true) (hname : (fn.name == "runtime.NumGoroutine") = false) (hargs : argsF f x xs σ = some ls) (hbx : boxesA σ L = bs) (hM : ∀ i ∈ M, σ.b i = .fresh) (hw : A.withins L ls = true) (hwb : ∀ i ∈ L, (σ.b i).within L = true) (hd : d < σ.n)
    (hk : ∀ r bs', post r bs' → Wk P C ops os cs (σ.puts (T d :: (L ++ M).map B) (.a r :: (L ++ M).map fun i => .b ((bs'.lookup i).getD .none))) K) :
    Wk P C ops (⟨some d, .call { callee := .value x, args := xs.toArray, argTypes := at_ }, ty, pos, af, none⟩ :: os) (⟨(kof x ++ xs.flatMap kof) ++ (L ++ M).map B, T d :: (L ++ M).map B, behCallG (Con.at ls bs post) (argsF f x xs) L M d⟩ :: cs) σ K := by
  refine Wk.cons (ok_clf L M hf hbody hname (Con.at_ok h hp)) ?_ ?_
  · exact ⟨ls, hargs, hd, hM, hw, hwb, ⟨rfl, hbx⟩, hex⟩
  · rintro us ⟨_, _, r, bs', hpost, rfl⟩
    exact hk r bs' hpost
/-- A call by its contract at what it is handed. -/
theorem Wk.cal {f : FuncId} {fn : Func} {at_ : Array TypeId} {xs : List Operand} {ls : List A} {bs : List (Nat × Bx)} {post : A → List (Nat × Bx) → Prop} (L M : List Nat) (h : Spec P f ls bs post) (hp : PostIn (L ++ M) post) (hex : ∃ r bs', post r bs')
    (hf : P.funcs[f]? = some fn) (hbody : fn.body.isSome = true) (hname : (fn.name == "runtime.NumGoroutine") = false) (hargs : argsA σ xs = ls) (hbx : boxesA σ L = bs) (hM : ∀ i ∈ M, σ.b i = .fresh) (hw : A.withins L ls = true) (hwb : ∀ i ∈ L, (σ.b i).within L = true) (hd : d < σ.n)
    (hk : ∀ r bs', post r bs' → Wk P C ops os cs (σ.puts (T d :: (L ++ M).map B) (.a r :: (L ++ M).map fun i => .b ((bs'.lookup i).getD .none))) K) :
    Wk P C ops (⟨some d, .call { callee := .value (.func f), args := xs.toArray, argTypes := at_ }, ty, pos, af, none⟩ :: os) (⟨xs.flatMap kof ++ (L ++ M).map B, T d :: (L ++ M).map B, behCall (Con.at ls bs post) xs L M d⟩ :: cs) σ K := by
  refine Wk.cons (ok_call L M hf hbody hname (Con.at_ok h hp)) ?_ ?_
  · exact ⟨hd, hM, by rw [hargs]; exact hw, hwb, ⟨hargs, hbx⟩, hex⟩
  · rintro us ⟨r, bs', hpost, rfl⟩
    exact hk r bs' hpost
end
end Go.Proofs.YthnlpdjjnfkmeaaDoor

/- A call that leaves the boxes that it is handed as they are: what reads them need not wait for it. -/
namespace Go.Proofs.YthnlpdjjnfkmeaaDoor
open Go
def behCallR (G : Con) (xs : List Operand) (L M : List Nat) (d : Nat) : St → Prop × (List V → Prop) := fun σ =>
  ((behCall G xs L M d σ).1, fun us => ∃ r bs', G.post (argsA σ xs) (boxesA σ L) r bs' ∧ us = .a r :: M.map fun i => .b ((bs'.lookup i).getD .none))
section
variable {P : Program} {C : Ctx} {ops : Array Oper} {os : List Oper} {cs : List Cert} {σ : St} {K : St → Prop} {d : Nat} {ty : TypeId} {pos : String} {af : Array Edge}
theorem ok_callR {f : FuncId} {fn : Func} {at_ : Array TypeId} {xs : List Operand} {G : Con} (L M : List Nat) (hf : P.funcs[f]? = some fn) (hbody : fn.body.isSome = true) (hname : (fn.name == "runtime.NumGoroutine") = false) (hG : G.ok P f (L ++ M))
    (hk : ∀ aas bs r bs', G.post aas bs r bs' → G.pre aas bs → ∀ i ∈ L, ∀ x, bs.lookup i = some x → bs'.lookup i = some x) :
    OpOk P C ops ⟨some d, .call { callee := .value (.func f), args := xs.toArray, argTypes := at_ }, ty, pos, af, none⟩ ⟨xs.flatMap kof ++ (L ++ M).map B, T d :: M.map B, behCallR G xs L M d⟩ := by
  obtain ⟨⟨_, hl⟩, _, hs⟩ := ok_call (C := C) (ops := ops) (at_ := at_) (ty := ty) (pos := pos) (af := af) (d := d) (xs := xs) L M hf hbody hname hG
  refine ⟨⟨fun σ h => ?_, fun σ => ?_⟩, by simp [dstIn], fun σ a w K Q hR hsafe hK => ?_⟩
  · obtain ⟨r, bs', h⟩ := h.2.2.2.2.2
    exact ⟨_, r, bs', h, rfl⟩
  · have e1 : argsA (σ.mask (xs.flatMap kof ++ (L ++ M).map B)) xs = argsA σ xs := by
      unfold argsA
      refine List.map_congr_left fun x hx => ?_
      rw [aev_mask fun k hk => List.mem_append_left _ (List.mem_flatMap.2 ⟨x, hx, hk⟩)]
    have e2 : boxesA (σ.mask (xs.flatMap kof ++ (L ++ M).map B)) L = boxesA σ L := by
      unfold boxesA
      refine List.map_congr_left fun i hi => ?_
      rw [show (σ.mask (xs.flatMap kof ++ (L ++ M).map B)).b i = σ.b i from bx_mask (List.mem_append_right _ (List.mem_map.2 ⟨i, List.mem_append_left _ hi, rfl⟩))]
    have e3 := congrArg Prod.fst (hl σ)
    dsimp only [behCallR] at e3 ⊢
    rw [e1, e2, e3]
  · refine hs σ a w K Q hR hsafe fun us a' w' hus hR' => ?_
    obtain ⟨r, bs', hpost, rfl⟩ := hus
    refine hK _ a' w' ⟨r, bs', hpost, rfl⟩ ?_
    have hpre := hsafe.2.2.2.2.1
    have key : σ.puts (T d :: (L ++ M).map B) (.a r :: (L ++ M).map fun i => .b ((bs'.lookup i).getD .none)) = σ.puts (T d :: M.map B) (.a r :: M.map fun i => .b ((bs'.lookup i).getD .none)) := by
      rw [St.puts, St.puts, puts_boxes (fun i => (bs'.lookup i).getD .none) (L ++ M), puts_boxes (fun i => (bs'.lookup i).getD .none) M]
      congr 1
      funext i
      by_cases hM : i ∈ M
      · simp [hM]
      · by_cases hL : i ∈ L
        · have h1 := hk _ _ _ _ hpost hpre i hL (σ.b i) (by rw [boxesA_lookup, if_pos hL])
          simp only [List.mem_append, hL, hM, or_false, if_true, if_false, h1, Option.getD_some]
          rfl
        · simp [hM, hL]
    rw [← key]
    exact hR'
/-- A call by its contract at what it is handed; the boxes that it is handed stay as they are. -/
theorem Wk.calr {f : FuncId} {fn : Func} {at_ : Array TypeId} {xs : List Operand} {ls : List A} {bs : List (Nat × Bx)} {post : A → List (Nat × Bx) → Prop} (L M : List Nat) (h : Spec P f ls bs post) (hp : PostIn (L ++ M) post) (hkeep : ∀ r bs', post r bs' → ∀ i ∈ L, ∀ x, bs.lookup i = some x → bs'.lookup i = some x) (hex : ∃ r bs', post r bs')
    (hf : P.funcs[f]? = some fn) (hbody : fn.body.isSome = true) (hname : (fn.name == "runtime.NumGoroutine") = false) (hargs : argsA σ xs = ls) (hbx : boxesA σ L = bs) (hM : ∀ i ∈ M, σ.b i = .fresh) (hw : A.withins L ls = true) (hwb : ∀ i ∈ L, (σ.b i).within L = true) (hd : d < σ.n)
    (hk : ∀ r bs', post r bs' → Wk P C ops os cs (σ.puts (T d :: M.map B) (.a r :: M.map fun i => .b ((bs'.lookup i).getD .none))) K) :
    Wk P C ops (⟨some d, .call { callee := .value (.func f), args := xs.toArray, argTypes := at_ }, ty, pos, af, none⟩ :: os) (⟨xs.flatMap kof ++ (L ++ M).map B, T d :: M.map B, behCallR (Con.at ls bs post) xs L M d⟩ :: cs) σ K := by
  refine Wk.cons (ok_callR L M hf hbody hname (Con.at_ok h hp) (fun aas bs0 r bs' hpost hpre i hi x hx => ?_)) ?_ ?_
  · obtain ⟨_, rfl⟩ := hpre
    exact hkeep r bs' hpost i hi x hx
  · exact ⟨hd, hM, by rw [hargs]; exact hw, hwb, ⟨hargs, hbx⟩, hex⟩
  · rintro us ⟨r, bs', hpost, rfl⟩
    exact hk r bs' hpost
end
theorem keep2 {i j : Nat} {x y : Bx} {ex : List (Nat × Bx)} : ∀ q ∈ [i, j], ∀ z, ([(i, x), (j, y)] : List (Nat × Bx)).lookup q = some z → ([(i, x), (j, y)] ++ ex).lookup q = some z := by
  intro q _ z hz
  show (((i, x) :: (j, y) :: ex).lookup q) = some z
  rw [List.lookup_cons] at hz ⊢
  cases h1 : q == i with
  | true => rw [h1] at hz; exact hz
  | false =>
    rw [h1] at hz
    simp only [List.lookup_cons] at hz ⊢
    cases h2 : q == j with
    | true => rw [h2] at hz; exact hz
    | false => rw [h2] at hz; cases hz
end Go.Proofs.YthnlpdjjnfkmeaaDoor

/- Package variables that nobody turns: what a call answers where they hold what they hold; a load of one, and a call of what reads them. -/
namespace Go.Proofs.YthnlpdjjnfkmeaaDoor
open Go
/-- The variables (their cells' numbers) hold these values. -/
def VarsIn (V : List (Nat × Value)) (w : World) : Prop := ∀ g v, (g, v) ∈ V → (w.cell? ⟨g, 0, none⟩ = some v ∧ g < w.heap.size ∧ v.oneCell' = true) ∧ ∀ t a, v = .iface t (.pointer (some a)) → ∃ ca ta, w.heap[a.block]? = some (.cells ca ta (0, 0))
theorem VarsIn.keep {V : List (Nat × Value)} {w w' : World} (h : VarsIn V w) (hs : w.heap.size ≤ w'.heap.size) (hw : ∀ b, b < w.heap.size → w'.heap[b]? = w.heap[b]?) : VarsIn V w' := fun g v hm => by
  obtain ⟨⟨h1, h2, h3⟩, h4⟩ := h g v hm
  refine ⟨⟨?_, Nat.lt_of_lt_of_le h2 hs, h3⟩, fun t a e => ?_⟩
  · rw [World.cell?_of_block (a := ⟨g, 0, none⟩) (hw g h2)]
    exact h1
  · obtain ⟨ca, ta, hc⟩ := h4 t a e
    exact ⟨ca, ta, by rw [hw _ (Array.getElem?_eq_some_iff.1 hc).1]; exact hc⟩
theorem XB.nil {C : Ctx} (h : XB C []) (b : Nat) : ¬ C.X b := fun hb => by
  obtain ⟨j, x, hx, _⟩ := h b hb
  cases hx
theorem Env.vars {C : Ctx} {w : World} {F : Nat → Prop} {E : Nat → Option Nat} {H : Nat → Nat → Option Value} {bx : Nat → Bx} {V : List (Nat × Value)} (h : Env C w F E H bx) (hX : XB C []) (hV : VarsIn V C.w0) : VarsIn V w :=
  hV.keep h.size fun b hb => h.old b hb (hX.nil b)
/-- What a call answers where the variables hold these values: data alone. -/
def DataV (P : Program) (V : List (Nat × Value)) (f : FuncId) (aas : List A) (r : A) : Prop := ∀ w, VarsIn V w → SpecAt P w f aas [] (fun r' bs => r' = r ∧ bs = [])
theorem DataOk.v {P : Program} {V : List (Nat × Value)} {f : FuncId} {aas : List A} {r : A} (h : DataOk P f aas r) : DataV P V f aas r := fun w _ => h w
theorem DataV.intro {P : Program} {V : List (Nat × Value)} {f : FuncId} {fn : Func} {c : Code} {n : Nat} {rv : List ResultVar} {aas : List A} {r : A} (hf : P.funcs[f]? = some fn) (hb : fn.body = some c) (hn : fn.ntmps = n) (hrv : fn.results.toList = rv)
    (hl : aas.length ≤ n) (h : ∀ C : Ctx, VarsIn V C.w0 → Names C (keys ([] : List (Nat × Bx))) → XB C [] → AW P C c (RetQ P rv (fun r' bs => r' = r ∧ bs = [])) (St.arg n aas [])) : DataV P V f aas r :=
  fun _ hV => Spec.intro_at hf hb hn hrv hl fun C e hN hX => h C (e ▸ hV) hN hX
section
variable {P : Program} {C : Ctx} {ops : Array Oper} {os : List Oper} {cs : List Cert} {σ : St} {K : St → Prop} {d : Nat} {ty : TypeId} {pos : String} {af : Array Edge} {V : List (Nat × Value)}
def rVar (v : Value) (_ : St) : Option A := some (.d (.v v))
theorem ok_ldv {t : TypeId} {g : Nat} {v : Value} (hX : XB C []) (hV : VarsIn V C.w0) (ht : tyOf P t = some (1, false)) (hm : (g, v) ∈ V) : OpOk P C ops ⟨some d, .load t (.global g), ty, pos, af, none⟩ ⟨[], [T d], beh1 (rVar v) d⟩ :=
  OpOk.read rfl rfl (fun σ => rfl) fun σ a w F E H r hR h => by
    obtain rfl := Option.some.inj h
    obtain ⟨⟨hc, _, h1⟩, _⟩ := hR.env.vars hX hV g v hm
    obtain ⟨v', h2, h3⟩ := run_load_cells (w := w) (F := F) (E := E) (H := H) (b := g) (o := 0) (off := 0) ht (aas := [.d (.v v)]) (vs := [v]) (Pw.one ⟨h1, .d _ _ (.v v)⟩) (fun j u hj => by
      cases j with
      | zero => obtain rfl := Option.some.inj hj; exact hc
      | succ j => simp at hj) (r := .d (.v v)) rfl
    exact ⟨v', by simp [execOp, Act.eval, Instr.loadAt, Instr.sureAddr, h2], h3⟩
theorem Wk.ldv {t : TypeId} {g : Nat} {v : Value} (hX : XB C []) (hV : VarsIn V C.w0) (ht : tyOf P t = some (1, false)) (hm : (g, v) ∈ V) (hd : d < σ.n) (h : Wk P C ops os cs (σ.put (T d) (.a (.d (.v v)))) K) :
    Wk P C ops (⟨some d, .load t (.global g), ty, pos, af, none⟩ :: os) (⟨[], [T d], beh1 (rVar v) d⟩ :: cs) σ K := Wk.read (ok_ldv hX hV ht hm) _ hd rfl h
theorem ok_dav {f : FuncId} {fn : Func} {at_ : Array TypeId} {xs : List Operand} {aas : List A} {r : A} (h : DataV P V f aas r) (hr : r.within [] = true) (hX : XB C []) (hV : VarsIn V C.w0) (hf : P.funcs[f]? = some fn) (hbody : fn.body.isSome = true) (hname : (fn.name == "runtime.NumGoroutine") = false) :
    OpOk P C ops ⟨some d, .call { callee := .value (.func f), args := xs.toArray, argTypes := at_ }, ty, pos, af, none⟩ ⟨xs.flatMap kof ++ ([] ++ [] : List Nat).map B, T d :: ([] ++ [] : List Nat).map B, behCall (conW aas (· = r)) xs [] [] d⟩ :=
  ok_call_at [] [] hf hbody hname fun w F E H bx he aas' bs' hpre => by
    obtain ⟨rfl, rfl⟩ := hpre
    refine ⟨h w (he.vars hX hV), ?_⟩
    rintro r bs' ⟨rfl, rfl⟩
    exact ⟨hr, fun i x hx => by cases hx⟩
theorem Wk.dav {f : FuncId} {fn : Func} {at_ : Array TypeId} {xs : List Operand} {aas : List A} {r : A} (h : DataV P V f aas r) (hX : XB C []) (hV : VarsIn V C.w0) (hf : P.funcs[f]? = some fn) (hbody : fn.body.isSome = true) (hname : (fn.name == "runtime.NumGoroutine") = false)
    (hargs : argsA σ xs = aas) (hw : A.withins [] aas = true) (hr : r.within [] = true) (hd : d < σ.n) (hk : Wk P C ops os cs (σ.put (T d) (.a r)) K) :
    Wk P C ops (⟨some d, .call { callee := .value (.func f), args := xs.toArray, argTypes := at_ }, ty, pos, af, none⟩ :: os) (⟨xs.flatMap kof ++ ([] ++ [] : List Nat).map B, T d :: ([] ++ [] : List Nat).map B, behCall (conW aas (· = r)) xs [] [] d⟩ :: cs) σ K := by
  refine Wk.cons (ok_dav h hr hX hV hf hbody hname) ?_ ?_
  · exact ⟨hd, fun i hi => (List.not_mem_nil hi).elim, by rw [hargs]; exact hw, fun i hi => (List.not_mem_nil hi).elim, ⟨hargs, rfl⟩, r, [], rfl, rfl⟩
  · rintro us ⟨r', bs', ⟨rfl, rfl⟩, rfl⟩
    exact hk
end
end Go.Proofs.YthnlpdjjnfkmeaaDoor

/- A list of zeros is made; a store into a list of the call's own. -/
namespace Go.Proofs.YthnlpdjjnfkmeaaDoor
open Go
section
variable {P : Program} {C : Ctx} {ops : Array Oper} {os : List Oper} {cs : List Cert} {σ : St} {K : St → Prop} {d : Nat} {ty : TypeId} {pos : String} {af : Array Edge}
def zerosA (zs : List Value) (n : Nat) : List (List A) := List.replicate n (zs.map fun x => .d (.v x))
theorem zerosA_len (zs : List Value) (n : Nat) : (zerosA zs n).length = n := by simp [zerosA]
theorem flat_rep {α : Type} (l : List α) : ∀ (n j : Nat), j < n * l.length → (List.replicate n l).flatten[j]? = l[j % l.length]?
  | 0, j, h => by omega
  | n + 1, j, h => by
    rw [List.replicate_succ, List.flatten_cons]
    by_cases hj : j < l.length
    · rw [List.getElem?_append_left hj, Nat.mod_eq_of_lt hj]
    · rw [List.getElem?_append_right (by omega), flat_rep l n (j - l.length) (by rw [Nat.add_mul, Nat.one_mul] at h; omega), ← Nat.mod_eq_sub_mod (by omega : j ≥ l.length)]
def rMks (x y : Operand) (i : Nat) (e : TypeId) (sz : Nat) (zs : List Value) (σ : St) : Option (List V) :=
  match aev σ x, aev σ y, σ.b i with
  | .d (.v (.int .i64 m)), .d (.v (.int .i64 n)), .fresh => if m = n ∧ 0 ≤ n ∧ n ≤ 2000000 then some [.a (.own i 0), .b (.own 0 e sz (zerosA zs n.toNat))] else none
  | _, _, _ => none
theorem ok_mks {t e : TypeId} {x y : Operand} {zs : List Value} {sz : Nat} (i : Nat) (hu : P.underlying t = some (.slice e)) (ha : appOf P e sz = true) (hz : zeroOf P e = some zs) (h1 : zs.all (·.oneCell') = true) :
    OpOk P C ops ⟨some d, .makeSlice t x y, ty, pos, af, none⟩ ⟨(kof x ++ kof y) ++ [B i], [T d, B i], behs (rMks x y i e sz zs) d⟩ :=
  OpOk.turn rfl (by simp [dstIn]) (fun σ => by unfold rMks; rw [aev_mask fun k hk => List.mem_append_left _ (List.mem_append_left _ hk), aev_mask fun k hk => List.mem_append_left _ (List.mem_append_right _ hk), bx_mask (by simp)]) fun σ a w F E H K Q us hR hd h hK => by
    unfold rMks at h
    split at h
    · rename_i m n hx hy hb
      split at h
      · rename_i hn
        obtain ⟨rfl, hn0, hn1⟩ := hn
        obtain rfl := Option.some.inj h
        obtain ⟨c, rfl⟩ := Int.eq_ofNat_of_zero_le hn0
        have hvx : a.eval x = .int .i64 (c : Int) := by
          have := hR.ev x
          rw [hx] at this
          exact den_v this
        have hvy : a.eval y = .int .i64 (c : Int) := by
          have := hR.ev y
          rw [hy] at this
          exact den_v this
        unfold appOf at ha
        unfold zeroOf at hz
        split at ha
        · rename_i ti hi
          simp only [Bool.and_eq_true, beq_iff_eq, decide_eq_true_eq] at ha
          obtain ⟨⟨⟨g1, g2⟩, g3⟩, g4⟩ := ha
          split at g1
          · rename_i z hzz
            simp only [hi, Option.bind_some, hzz, Option.map_some, Option.some.injEq] at hz
            have hzl : zs.length = sz := by rw [← hz]; simpa using g1
            have hbytes : ti.bytes * c ≤ 281474976710656 := by
              have : ti.bytes * c ≤ 100000000 * 2000000 := Nat.mul_le_mul g4 (by omega)
              omega
            obtain ⟨w', hr, ho, hg⟩ := run_make_full (P := P) w 0 t e ti z sz hu hi hzz g2 .i64 .i64 c hbytes (by unfold maxLen; omega) (Nat.zero_le _)
            have hfr := hR.env.box i
            rw [hb] at hfr
            have hset := hR.setown (i := i) (k := 0) (sz := sz) (e := e) (es := zerosA zs c) (v := .slice (some ⟨w.heap.size, 0, none⟩) c c) (w' := w') (fun b hbk => by rw [hb] at hbk; cases hbk) (fun q _ => hfr.2 q) (by rw [hb]; exact hg)
              (by rw [zerosA_len]; exact ho) (by intro l hl; rw [(List.mem_replicate.1 hl).2, List.length_map]; exact hzl) (by
                have hl1 := ho.1
                refine ⟨?_, fun j q u hq hu => ?_⟩
                · rw [hl1, List.length_flatten, zerosA, List.map_replicate, List.sum_replicate_nat, List.length_map, hzl]
                · have hj : j < c * sz := by
                    have := (List.getElem?_eq_some_iff.1 hu).1
                    omega
                  rw [zerosA, flat_rep _ _ _ (by rw [List.length_map, hzl]; exact hj), List.length_map, hzl, List.getElem?_map, Option.map_eq_some_iff] at hq
                  obtain ⟨u0, hu0, rfl⟩ := hq
                  have e1 : u = u0 := by
                    simp only [madeCells, Array.toList_map, Array.toList_range, List.getElem?_map, Option.map_eq_some_iff] at hu
                    obtain ⟨y, hy, rfl⟩ := hu
                    rw [List.getElem?_range hj] at hy
                    obtain rfl := Option.some.inj hy
                    have g1' : z.cells.size = sz := by simpa using g1
                    rw [g1']
                    rw [← hz] at hu0
                    have hlt : j % sz < z.cells.size := by rw [g1']; exact Nat.mod_lt _ g3
                    rw [Array.getElem?_toList, Array.getElem?_eq_getElem hlt] at hu0
                    rw [getElem!_pos z.cells (j % sz) hlt]
                    exact Option.some.inj hu0
                  subst e1
                  exact ⟨List.all_eq_true.1 h1 u (List.mem_of_getElem? hu0), .d _ _ (.v u)⟩) (.inr (.inr rfl))
            unfold Oper.wp
            have hrun : (execOp a.eval ⟨some d, .makeSlice t x y, ty, pos, af, none⟩).run P w = .ok (.value (.slice (some ⟨w.heap.size, 0, none⟩) c c)) w' := by simp only [execOp, Sem.run_bind, hvx, hvy, hr, Result.andThen_ok, Sem.run_pure]
            rw [hrun, Oper.upon_value]
            refine hK _ _ ?_
            exact (RelE.put (d := d) (r := .own i 0) hset hd (.own i 0 _ (upd2_same _ _ _ _) rfl)).r
          · cases g1
        · cases ha
      · cases h
    · cases h
theorem Wk.mks {t e : TypeId} {x y : Operand} {zs : List Value} (i sz n : Nat) (hu : P.underlying t = some (.slice e)) (ha : appOf P e sz = true) (hz : zeroOf P e = some zs) (h1 : zs.all (·.oneCell') = true) (hx : aev σ x = .d (.v (.int .i64 (n : Int)))) (hy : aev σ y = .d (.v (.int .i64 (n : Int)))) (hb : σ.b i = .fresh) (hn : n ≤ 2000000) (hd : d < σ.n)
    (h : Wk P C ops os cs ((σ.put (T d) (.a (.own i 0))).put (B i) (.b (.own 0 e sz (zerosA zs n)))) K) :
    Wk P C ops (⟨some d, .makeSlice t x y, ty, pos, af, none⟩ :: os) (⟨(kof x ++ kof y) ++ [B i], [T d, B i], behs (rMks x y i e sz zs) d⟩ :: cs) σ K :=
  Wk.turn (ok_mks i hu ha hz h1) [.a (.own i 0), .b (.own 0 e sz (zerosA zs n))] hd (by simp only [rMks, hx, hy, hb]; rw [if_pos ⟨trivial, by omega, by omega⟩]; simp) h

/-! A store. -/
theorem flat_set {es : List (List A)} {sz : Nat} (hz : ∀ c ∈ es, c.length = sz) {j off : Nat} {c aas : List A} (hj : es[j]? = some c) (ho : off + aas.length ≤ sz) : (es.set j (setA c off aas)).flatten = setA es.flatten (j * sz + off) aas := by
  induction es generalizing j with
  | nil => simp at hj
  | cons e es ih =>
    have he : e.length = sz := hz e List.mem_cons_self
    cases j with
    | zero =>
      simp only [List.getElem?_cons_zero, Option.some.injEq] at hj
      subst hj
      simp only [List.set_cons_zero, List.flatten_cons, setA, Nat.zero_mul, Nat.zero_add]
      rw [List.take_append_of_le_length (by omega), List.drop_append_of_le_length (by omega)]
      simp
    | succ j =>
      simp only [List.getElem?_cons_succ] at hj
      simp only [List.set_cons_succ, List.flatten_cons]
      rw [ih (fun c hc => hz c (List.mem_cons_of_mem _ hc)) hj]
      simp only [setA]
      have e1 : (j + 1) * sz + off = e.length + (j * sz + off) := by rw [he, Nat.add_mul]; omega
      rw [e1, List.take_length_add_append, Nat.add_assoc e.length, List.drop_length_add_append]
      simp
theorem setA_length {c aas : List A} {off : Nat} (ho : off + aas.length ≤ c.length) : (setA c off aas).length = c.length := by
  simp only [setA, List.length_append, List.length_take, List.length_drop]
  omega
theorem take_mid {α : Type} {l c : List α} {o m : Nat} (h : o + c.length ≤ m) (hm : m ≤ l.length) : (l.take o ++ c ++ l.drop (o + c.length)).take m = (l.take m).take o ++ c ++ (l.take m).drop (o + c.length) := by
  have e1 : l.drop (o + c.length) = (l.take m).drop (o + c.length) ++ l.drop m := by
    conv => lhs; rw [← List.take_append_drop m l]
    rw [List.drop_append_of_le_length (by rw [List.length_take]; omega)]
  have e2 : (l.take m).take o = l.take o := by rw [List.take_take, Nat.min_eq_left (by omega)]
  rw [e1, e2, ← List.append_assoc]
  refine List.take_left' ?_
  simp only [List.length_append, List.length_take, List.length_drop]
  omega
/-- A list's cells turned. -/
theorem RelE.turnown {a : Act} {w : World} {F : Nat → Prop} {E : Nat → Option Nat} {H : Nat → Nat → Option Value} (h : RelE C σ a w F E H) {i k sz g cap : Nat} {e : TypeId} {es es' : List (List A)} {cur vs : Array Value} {xs : List Value} (hb : σ.b i = .own k e sz es) (hv : H i k = some (.slice (some ⟨g, 0, none⟩) es.length cap)) (hk : ∀ k', k < k' → H i k' = none)
    (hh : w.heap[g]? = some (.cells cur e (0, 0))) (hl : es'.length = es.length) (hcap : es.length ≤ cap) (hmax : cap ≤ maxLen) (hsz : vs.size = cap * sz) (hxs : xs.length = es.length * sz) (htk : vs.toList.take (es.length * sz) = xs) (hz : ∀ c ∈ es', c.length = sz) (hp : Pw (CellOk w F E H) es'.flatten xs) :
    RelE C (σ.put (B i) (.b (.own k e sz es'))) a (w.setRow g vs) F E H := by
  have hbk : blk E H i (σ.b i) = some g := by rw [hb]; simp [blk, hv, Value.ownBlock]
  have hold : ∀ q, q ≠ g → (w.setRow g vs).heap[q]? = w.heap[q]? := fun q hq => setRow_other w g q vs hq
  have hF : ∀ q, F q → (w.setRow g vs).heap[q]? = w.heap[q]? := fun q hq => hold q (fun e => h.env.frozen hq i (e ▸ hbk))
  refine h.move (b' := upd σ.b i (.own k e sz es')) (h.env.step (· = i) rfl rfl rfl (by simp [World.setRow]) (fun q hq hn => hold q (fun e => hn i rfl (e ▸ hbk))) (fun _ h => h) (fun _ h => .inl h) (fun _ _ h => h) (fun _ _ _ h => h) (fun _ _ => rfl) (fun _ _ _ => rfl) (fun j hj => upd_ne _ _ hj) ?_ ?_ ?_) (fun _ h => h) hF (fun _ _ h => h) (fun _ _ _ h => h)
  · rintro j rfl
    rw [upd_same]
    refine ⟨_, xs, hv, hk, ⟨by rw [hl]; exact hxs, .inr ⟨g, cap, vs, by rw [hl], Nat.zero_le _, setRow_heap w g cur vs e (0, 0) hh, by rw [hl]; exact hcap, hmax, hsz, by rw [hl]; exact htk⟩⟩, hz, hp.mono fun a v hc => ⟨hc.1, hc.2.mono (fun _ h => h) hF (fun _ _ h => h) (fun _ _ _ h => h)⟩⟩
  · rintro j rfl q hq
    rw [upd_same] at hq
    have : blk E H j (.own k e sz es') = blk E H j (σ.b j) := by rw [hb]; rfl
    rw [this, hbk] at hq
    obtain rfl := Option.some.inj hq
    exact ⟨(h.env.live j _ hbk).1, .inr ⟨j, rfl, hbk⟩⟩
  · rintro j k q rfl rfl hjk
    exact absurd rfl hjk
def rStoO (x y : Operand) (i j off n : Nat) (σ : St) : Option (List V) :=
  match aev σ x, σ.b i with
  | .optr i' k' o, .own k e sz es => if i' = i ∧ k' = k ∧ o = j * sz + off ∧ off + n ≤ sz then (es[j]?).bind fun c => (cellsA (aev σ y)).bind fun aas => if aas.length = n then some [.b (.own k e sz (es.set j (setA c off aas)))] else none else none
  | _, _ => none
theorem ok_stoo {t : TypeId} {x y : Operand} (i j off : Nat) {n : Nat} {row : Bool} (ht : tyOf P t = some (n, row)) :
    OpOk P C ops ⟨none, .store t x y, ty, pos, af, none⟩ ⟨kof x ++ (kof y ++ [B i]), [B i], behs (rStoO x y i j off n) 0⟩ :=
  OpOk.turn rfl (by simp [dstIn]) (fun σ => by unfold rStoO; rw [bx_mask (by simp), aev_mask (fun k h => List.mem_append_left _ h), aev_mask (fun k h => List.mem_append_right _ (List.mem_append_left _ h))]) fun σ a w F E H K Q us hR hd h hK => by
    unfold rStoO at h
    split at h
    · rename_i i' k' o k e sz es he hb
      split at h
      · rename_i hi
        obtain ⟨rfl, rfl, rfl, hon⟩ := hi
        simp only [Option.bind_eq_some_iff] at h
        obtain ⟨c, hc, aas, ha, h⟩ := h
        split at h
        · rename_i hl
          obtain rfl := Option.some.inj h
          have hdx := hR.ev x
          rw [he] at hdx
          obtain ⟨b, m, cp, hH, hv⟩ := den_optr hdx
          have hbox := hR.env.box i'
          rw [hb] at hbox
          obtain ⟨v, xs, hv', hk, ho, hzz, hp⟩ := hbox
          have hpy := den_cellsA ha (hR.ev y)
          have hjl : j < es.length := (List.getElem?_eq_some_iff.1 hc).1
          rcases ho.2 with ⟨_, h2⟩ | ⟨g, cap, cur, h1, _, hg, hcap, hmax, hcs, htk⟩
          · omega
          · subst h1
            rw [hv'] at hH
            simp only [Option.some.injEq, Value.slice.injEq, Addr.mk.injEq, and_true] at hH
            obtain ⟨hgb, _, _⟩ := hH
            subst hgb
            have hn : (a.eval y).cells.size = n := by have := hpy.1; simp only [Array.length_toList] at this; omega
            have hin : j * sz + off + n ≤ es.length * sz := by
              have : (j + 1) * sz ≤ es.length * sz := Nat.mul_le_mul_right sz hjl
              rw [Nat.add_mul] at this
              omega
            have hcn : es.length * sz ≤ cap * sz := Nat.mul_le_mul_right sz hcap
            have hrun := run_store_cells (P := P) (w := w) (o := j * sz + off) ht hg (v := a.eval y) hn (by omega) (hpy.all fun _ _ h => h.1)
            have hyl : (a.eval y).cells.toList.length = n := by rw [Array.length_toList]; exact hn
            have hset := hR.turnown (es' := es.set j (setA c off aas)) (xs := xs.take (j * sz + off) ++ (a.eval y).cells.toList ++ xs.drop (j * sz + off + n))
              (vs := (cur.toList.take (j * sz + off) ++ (a.eval y).cells.toList ++ cur.toList.drop (j * sz + off + (a.eval y).cells.toList.length)).toArray) hb hv' hk hg (by simp) hcap hmax
              (by simp only [List.size_toArray, List.length_append, List.length_take, List.length_drop, hyl, Array.length_toList]; omega)
              (by have := ho.1; simp only [List.length_append, List.length_take, List.length_drop, hyl]; omega)
              (by
                rw [← htk, hyl, ← hyl]
                exact take_mid (by rw [hyl]; omega) (by rw [show cur.toList.length = cap * sz from hcs]; exact hcn))
              (by
                intro q hq
                rcases List.mem_or_eq_of_mem_set hq with h | rfl
                · exact hzz q h
                · have hcl := hzz c (List.mem_of_getElem? hc)
                  rw [setA_length (by omega)]
                  exact hcl)
              (by
                rw [flat_set hzz hc (by omega)]
                simp only [setA]
                have e2 : aas.length = (a.eval y).cells.toList.length := hpy.1
                rw [e2, hyl]
                exact ((hp.take _).append hpy).append (hp.drop _))
            unfold Oper.wp
            have hex : (execOp a.eval ⟨none, .store t x y, ty, pos, af, none⟩).run P w = .ok .skip (w.setRow g (cur.toList.take (j * sz + off) ++ (a.eval y).cells.toList ++ cur.toList.drop (j * sz + off + (a.eval y).cells.toList.length)).toArray) := by
              simp only [execOp, hv, Instr.storeAt, Instr.sureAddr, Sem.run_bind, Sem.run_pure, Result.andThen_ok, hrun]
            rw [hex, Oper.upon_skip]
            exact hK _ _ hset.r
        · cases h
      · cases h
    · cases h
theorem Wk.stoo {t : TypeId} {x y : Operand} {k o : Nat} {e : TypeId} {sz : Nat} {es : List (List A)} (i j off n : Nat) (row : Bool) (ht : tyOf P t = some (n, row)) {c aas : List A} (hx : aev σ x = .optr i k o) (hb : σ.b i = .own k e sz es) (ho : o = j * sz + off) (hc : es[j]? = some c) (hy : cellsA (aev σ y) = some aas) (hl : aas.length = n) (hon : off + n ≤ sz) (hd : 0 < σ.n)
    (h : Wk P C ops os cs (σ.put (B i) (.b (.own k e sz (es.set j (setA c off aas))))) K) : Wk P C ops (⟨none, .store t x y, ty, pos, af, none⟩ :: os) (⟨kof x ++ (kof y ++ [B i]), [B i], behs (rStoO x y i j off n) 0⟩ :: cs) σ K :=
  Wk.turn (ok_stoo i j off ht) [.b (.own k e sz (es.set j (setA c off aas)))] hd (by simp only [rStoO, hx, hb]; rw [if_pos ⟨trivial, trivial, ho, hon⟩]; simp only [hc, Option.bind_some, hy]; rw [if_pos hl]) h
end
end Go.Proofs.YthnlpdjjnfkmeaaDoor

/- A list of the call's own under another name; a nil list as one of the call's own; draws that leave lists of the call's own. -/
namespace Go.Proofs.YthnlpdjjnfkmeaaDoor
open Go
section
variable {P : Program} {C : Ctx} {c c' : Code} {Q : Exit → St → Prop} {σ : St}
/-- The names of a list's own that are not used yet, from k' on. -/
def freeFrom (σ : St) (i' k' : Nat) : Prop := (σ.b i' = .fresh ∧ k' = 0) ∨ ∃ k e sz es, σ.b i' = .own k e sz es ∧ k' = k + 1
theorem freeFrom.none {F : Nat → Prop} {E : Nat → Option Nat} {H : Nat → Nat → Option Value} {w : World} {i' k' : Nat} (h : freeFrom σ i' k') (hb : BoxOk w F E H i' (σ.b i')) : ∀ q, k' ≤ q → H i' q = none := by
  rcases h with ⟨h1, rfl⟩ | ⟨k, e, sz, es, h1, rfl⟩
  · rw [h1] at hb; exact fun q _ => hb.2 q
  · rw [h1] at hb
    obtain ⟨v, xs, _, hk, _⟩ := hb
    exact fun q hq => hk q (by omega)
/-- A list of the call's own, held by a variable, goes by another name from now on. -/
theorem Rel.renc {j c i k i' k' : Nat} {e : TypeId} {sz : Nat} {es : List (List A)} {aas : List A} (hj : σ.b j = .var aas) (hc : aas[c]? = some (.own i k)) (hb : σ.b i = .own k e sz es) (hf : freeFrom σ i' k') (hii : i ≠ i') {a : Act} {w : World} (hR : Rel C σ a w) :
    Rel C (((σ.put (B j) (.b (.var (aas.set c (.own i' k'))))).put (B i) (.b .none)).put (B i') (.b (.own k' e sz es))) a w := by
  obtain ⟨F, E, H, hR⟩ := hR.e
  have hji : j ≠ i := fun e => by subst e; rw [hj] at hb; cases hb
  have hji' : j ≠ i' := fun e => by
    subst e
    rcases hf with ⟨h1, _⟩ | ⟨_, _, _, _, h1, _⟩ <;> rw [hj] at h1 <;> cases h1
  have hnone := hf.none (hR.env.box i')
  have hbox := hR.env.box i
  rw [hb] at hbox
  obtain ⟨v, xs, hv, hk, ho, hz, hp⟩ := hbox
  have hblk : blk E H i (σ.b i) = v.ownBlock := by rw [hb]; simp only [blk, hv, Option.bind_some]
  have hbj := hR.env.box j
  rw [hj] at hbj
  obtain ⟨bj, ct, tt, hE, hh, hpj⟩ := hbj
  have hblkj : blk E H j (σ.b j) = some bj := by rw [hj]; exact hE
  let H' : Nat → Nat → Option Value := fun x y => if x = i' ∧ y = k' then some v else H x y
  have hHs : H' i' k' = some v := if_pos ⟨rfl, rfl⟩
  have hHo : ∀ x y, ¬ (x = i' ∧ y = k') → H' x y = H x y := fun x y h => if_neg h
  have hHm : ∀ x y u, H x y = some u → H' x y = some u := fun x y u h => by
    rw [hHo x y (fun ⟨h1, h2⟩ => by subst h1; subst h2; rw [hnone y (Nat.le_refl _)] at h; cases h)]
    exact h
  have h1v : v.oneCell' = true := by
    have hlt2 : c < aas.length := (List.getElem?_eq_some_iff.1 hc).1
    obtain ⟨u, hu, h⟩ := hpj.get hc
    have h2 := den_own h.2
    rw [hv] at h2
    obtain rfl := Option.some.inj h2
    exact h.1
  have env : Env C w F E H' (upd (upd (upd σ.b j (.var (aas.set c (.own i' k')))) i .none) i' (.own k' e sz es)) := by
    refine hR.env.step (fun q => q = i ∨ q = j ∨ q = i') rfl rfl rfl (Nat.le_refl _) (fun b _ _ => rfl) (fun b hb => hb) (fun b hb => .inl hb) (fun _ _ h => h) hHm (fun _ _ => rfl) ?_ ?_ ?_ ?_ ?_
    · intro x y hx
      exact hHo x y fun ⟨h1, _⟩ => hx (.inr (.inr h1))
    · intro q hq
      rw [upd_ne _ _ (fun e => hq (.inr (.inr e))), upd_ne _ _ (fun e => hq (.inl e)), upd_ne _ _ (fun e => hq (.inr (.inl e)))]
    · rintro q (rfl | rfl | rfl)
      · rw [upd_ne _ _ hii, upd_same]; trivial
      · rw [upd_ne _ _ hji', upd_ne _ _ hji, upd_same]
        refine ⟨bj, ct, tt, hE, hh, by simp [hpj.1], fun n x u hx hu => ?_⟩
        by_cases hn : n = c
        · subst hn
          have hlt2 : n < aas.length := (List.getElem?_eq_some_iff.1 hc).1
          rw [List.getElem?_set_self hlt2] at hx
          obtain rfl := Option.some.inj hx
          have h1 := hpj.2 n _ u hc hu
          have h2 := den_own h1.2
          rw [hv] at h2
          obtain rfl := Option.some.inj h2
          exact ⟨h1.1, .own _ _ _ hHs h1.1⟩
        · rw [List.getElem?_set_ne (Ne.symm hn)] at hx
          have h1 := hpj.2 n x u hx hu
          exact ⟨h1.1, h1.2.mono (fun _ h => h) (fun _ _ => rfl) (fun _ _ h => h) hHm⟩
      · rw [upd_same]
        exact ⟨v, xs, hHs, fun y hy => by rw [hHo _ _ (fun ⟨_, h⟩ => by omega)]; exact hnone y (by omega), ho, hz, hp.mono fun x u h => ⟨h.1, h.2.mono (fun _ h => h) (fun _ _ => rfl) (fun _ _ h => h) hHm⟩⟩
    · rintro q (rfl | rfl | rfl) b hb2
      · rw [upd_ne _ _ hii, upd_same] at hb2; cases hb2
      · rw [upd_ne _ _ hji', upd_ne _ _ hji, upd_same] at hb2
        have h3 : blk E H q (σ.b q) = some b := by rw [hj]; exact hb2
        exact ⟨(hR.env.live q b h3).1, .inr ⟨q, .inr (.inl rfl), h3⟩⟩
      · rw [upd_same] at hb2
        simp only [blk, hHs, Option.bind_some] at hb2
        have h3 : blk E H i (σ.b i) = some b := hblk.trans hb2
        exact ⟨(hR.env.live i b h3).1, .inr ⟨i, .inl rfl, h3⟩⟩
    · have key : ∀ b, v.ownBlock = some b → E j ≠ some b := fun b h1 h2 => hR.env.sep i j b (Ne.symm hji) (hblk.trans h1) (by rw [hj]; exact h2)
      rintro q r b (rfl | rfl | rfl) (rfl | rfl | rfl) hqr h1 h2
      all_goals first
        | exact hqr rfl
        | (rw [upd_ne _ _ hii, upd_same] at h1; cases h1)
        | (rw [upd_ne _ _ hii, upd_same] at h2; cases h2)
        | skip
      · rw [upd_ne _ _ hji', upd_ne _ _ hji, upd_same] at h1
        rw [upd_same] at h2
        simp only [blk, hHs, Option.bind_some] at h2
        exact key b h2 h1
      · rw [upd_ne _ _ hji', upd_ne _ _ hji, upd_same] at h2
        rw [upd_same] at h1
        simp only [blk, hHs, Option.bind_some] at h1
        exact key b h1 h2
  have hmove := hR.move env (fun b hb => hb) (fun _ _ => rfl) (fun _ _ h => h) hHm
  exact hmove.r
/-- A nil list that a variable holds as one of the call's own. -/
theorem Rel.nilc {j c i' : Nat} (e : TypeId) (sz : Nat) {aas : List A} (hj : σ.b j = .var aas) (hc : aas[c]? = some (.d (.v (.slice none 0 0)))) (hf : σ.b i' = .fresh) {a : Act} {w : World} (hR : Rel C σ a w) :
    Rel C ((σ.put (B j) (.b (.var (aas.set c (.own i' 0))))).put (B i') (.b (.own 0 e sz []))) a w := by
  obtain ⟨F, E, H, hR⟩ := hR.e
  have hji' : j ≠ i' := fun e => by subst e; rw [hj] at hf; cases hf
  have hbi := hR.env.box i'
  rw [hf] at hbi
  have hbj := hR.env.box j
  rw [hj] at hbj
  obtain ⟨bj, ct, tt, hE, hh, hpj⟩ := hbj
  let v : Value := .slice none 0 0
  let H' : Nat → Nat → Option Value := fun x y => if x = i' ∧ y = 0 then some v else H x y
  have hHs : H' i' 0 = some v := if_pos ⟨rfl, rfl⟩
  have hHo : ∀ x y, ¬ (x = i' ∧ y = 0) → H' x y = H x y := fun x y h => if_neg h
  have hHm : ∀ x y u, H x y = some u → H' x y = some u := fun x y u h => by
    rw [hHo x y (fun ⟨h1, h2⟩ => by subst h1; rw [hbi.2 y] at h; cases h)]
    exact h
  have env : Env C w F E H' (upd (upd σ.b j (.var (aas.set c (.own i' 0)))) i' (.own 0 e sz [])) := by
    refine hR.env.step (fun q => q = j ∨ q = i') rfl rfl rfl (Nat.le_refl _) (fun b _ _ => rfl) (fun b hb => hb) (fun b hb => .inl hb) (fun _ _ h => h) hHm (fun _ _ => rfl) ?_ ?_ ?_ ?_ ?_
    · intro x y hx
      exact hHo x y fun ⟨h1, _⟩ => hx (.inr h1)
    · intro q hq
      rw [upd_ne _ _ (fun e => hq (.inr e)), upd_ne _ _ (fun e => hq (.inl e))]
    · rintro q (rfl | rfl)
      · rw [upd_ne _ _ hji', upd_same]
        refine ⟨bj, ct, tt, hE, hh, by simp [hpj.1], fun n x u hx hu => ?_⟩
        by_cases hn : n = c
        · subst hn
          have hlt2 : n < aas.length := (List.getElem?_eq_some_iff.1 hc).1
          rw [List.getElem?_set_self hlt2] at hx
          obtain rfl := Option.some.inj hx
          have h1 := hpj.2 n _ u hc hu
          obtain rfl := den_v h1.2
          exact ⟨h1.1, .own _ _ _ hHs h1.1⟩
        · rw [List.getElem?_set_ne (Ne.symm hn)] at hx
          have h1 := hpj.2 n x u hx hu
          exact ⟨h1.1, h1.2.mono (fun _ h => h) (fun _ _ => rfl) (fun _ _ h => h) hHm⟩
      · rw [upd_same]
        exact ⟨v, [], hHs, fun y hy => by rw [hHo _ _ (fun ⟨_, h⟩ => by omega)]; exact hbi.2 y, World.ownsRow_nil w 0 e sz, by simp, Pw.nil⟩
    · rintro q (rfl | rfl) b hb2
      · rw [upd_ne _ _ hji', upd_same] at hb2
        have h3 : blk E H q (σ.b q) = some b := by rw [hj]; exact hb2
        exact ⟨(hR.env.live q b h3).1, .inr ⟨q, .inl rfl, h3⟩⟩
      · rw [upd_same] at hb2
        simp only [blk, hHs, Option.bind_some] at hb2
        cases hb2
    · rintro q r b (rfl | rfl) (rfl | rfl) hqr h1 h2
      · exact hqr rfl
      · rw [upd_same] at h2
        simp only [blk, hHs, Option.bind_some] at h2
        cases h2
      · rw [upd_same] at h1
        simp only [blk, hHs, Option.bind_some] at h1
        cases h1
      · exact hqr rfl
  have hmove := hR.move env (fun b hb => hb) (fun _ _ => rfl) (fun _ _ h => h) hHm
  exact hmove.r
theorem AW.renc {j n i k i' k' : Nat} {e : TypeId} {sz : Nat} {es : List (List A)} {aas : List A} (hj : σ.b j = .var aas) (hc : aas[n]? = some (.own i k)) (hb : σ.b i = .own k e sz es) (hf : freeFrom σ i' k') (hii : i ≠ i')
    (h : AW P C c Q (((σ.put (B j) (.b (.var (aas.set n (.own i' k'))))).put (B i) (.b .none)).put (B i') (.b (.own k' e sz es)))) : AW P C c Q σ := fun a w hR => h a w (Rel.renc hj hc hb hf hii hR)
theorem AW.nilc {j n i' : Nat} (e : TypeId) (sz : Nat) {aas : List A} (hj : σ.b j = .var aas) (hc : aas[n]? = some (.d (.v (.slice none 0 0)))) (hf : σ.b i' = .fresh)
    (h : AW P C c Q ((σ.put (B j) (.b (.var (aas.set n (.own i' 0))))).put (B i') (.b (.own 0 e sz [])))) : AW P C c Q σ := fun a w hR => h a w (Rel.nilc e sz hj hc hf hR)
end
/-- A draw that leaves boxes besides the reader. -/
def DrawX (P : Program) (f : FuncId) (pre : List A → Prop) (post : List A → A → List (Nat × Bx) → Prop) (n : Nat) (M : List Nat) : Prop :=
  (∀ zs p rest, pre rest → p + n ≤ 2000000000 → Spec P f (.ptr 0 0 :: rest) [(0, rdr zs p)] (fun r bs => ∃ zs' p' ex, bs = (0, rdr zs' p') :: ex ∧ p' ≤ p + n ∧ post rest r ex)) ∧
  (∀ rest, pre rest → ∃ r ex, post rest r ex) ∧ ∀ rest r ex, post rest r ex → r.within (0 :: M) = true ∧ ex.all (fun x => M.contains x.1 && x.2.within (0 :: M)) = true
def conDrawX (pre : List A → Prop) (post : List A → A → List (Nat × Bx) → Prop) (n : Nat) : Con :=
  ⟨fun aas bs => ∃ zs p rest, aas = .ptr 0 0 :: rest ∧ bs = [(0, rdr zs p)] ∧ pre rest ∧ p + n ≤ 2000000000,
   fun aas bs r bs' => ∃ zs' p' ex, bs' = (0, rdr zs' p') :: ex ∧ p' ≤ rdP bs + n ∧ post aas.tail r ex⟩
theorem conDrawX_ok {P : Program} {f : FuncId} {pre : List A → Prop} {post : List A → A → List (Nat × Bx) → Prop} {n : Nat} {M : List Nat} (h : DrawX P f pre post n M) : (conDrawX pre post n).ok P f ([0] ++ M) := by
  rintro aas bs ⟨zs, p, rest, rfl, rfl, hpre, hp⟩
  have e : rdP [(0, rdr zs p)] = p := by simp [rdP, rdr]
  refine ⟨?_, ?_⟩
  · have := h.1 zs p rest hpre hp
    simp only [conDrawX, List.tail_cons, e]
    exact this
  · rintro r bs' ⟨zs', p', ex, rfl, _, hpost⟩
    obtain ⟨h1, h2⟩ := h.2.2 _ _ _ hpost
    refine ⟨h1, inAll ?_⟩
    simp only [List.all_cons, Bool.and_eq_true]
    refine ⟨⟨by simp, by rfl⟩, List.all_eq_true.2 fun x hx => ?_⟩
    have := List.all_eq_true.1 h2 x hx
    simp only [Bool.and_eq_true] at this ⊢
    exact ⟨by have h3 := this.1; simp at h3 ⊢; exact .inr h3, this.2⟩
theorem Wk.drx {P : Program} {C : Ctx} {ops : Array Oper} {os : List Oper} {cs : List Cert} {σ : St} {K : St → Prop} {d : Nat} {ty : TypeId} {pos : String} {af : Array Edge} {f : FuncId} {fn : Func} {at_ : Array TypeId} {xs : List Operand} {pre : List A → Prop} {post : List A → A → List (Nat × Bx) → Prop} {n : Nat} (M : List Nat) (h : DrawX P f pre post n M) (hf : P.funcs[f]? = some fn) (hbody : fn.body.isSome = true) (hname : (fn.name == "runtime.NumGoroutine") = false)
    {rest : List A} {zs : List (Fin 256)} {p : Nat} (hargs : argsA σ xs = .ptr 0 0 :: rest) (hb : σ.b 0 = rdr zs p) (hpre : pre rest) (hp : p + n ≤ 2000000000) (hw : A.withins [0] rest = true) (hM : ∀ i ∈ M, σ.b i = .fresh) (hd : d < σ.n)
    (hk : ∀ r zs' p' ex, post rest r ex → p' ≤ p + n → Wk P C ops os cs (σ.puts (T d :: B 0 :: M.map B) (.a r :: .b (rdr zs' p') :: M.map fun i => .b ((((0, rdr zs' p') :: ex).lookup i).getD .none))) K) :
    Wk P C ops (⟨some d, .call { callee := .value (.func f), args := xs.toArray, argTypes := at_ }, ty, pos, af, none⟩ :: os) (⟨xs.flatMap kof ++ ([0] ++ M).map B, T d :: ([0] ++ M).map B, behCall (conDrawX pre post n) xs [0] M d⟩ :: cs) σ K := by
  have hbx : boxesA σ [0] = [(0, rdr zs p)] := by simp [boxesA, hb]
  have e : rdP [(0, rdr zs p)] = p := by simp [rdP, rdr]
  refine Wk.cons (ok_call [0] M hf hbody hname (conDrawX_ok h)) ?_ ?_
  · obtain ⟨r, ex, hr⟩ := h.2.1 rest hpre
    refine ⟨hd, hM, ?_, fun j hj => ?_, ⟨zs, p, rest, hargs, hbx, hpre, hp⟩, r, (0, rdr zs p) :: ex, zs, p, ex, rfl, by rw [hbx, e]; omega, ?_⟩
    · rw [hargs]
      simp [A.withins, A.within, hw]
    · obtain rfl : j = 0 := by simpa using hj
      rw [hb]; rfl
    · rw [hargs]; exact hr
  · rintro us ⟨r, bs', ⟨zs', p', ex, rfl, hp', hpost⟩, rfl⟩
    rw [hargs, List.tail_cons] at hpost
    rw [hbx, e] at hp'
    have := hk r zs' p' ex hpost hp'
    simpa [St.puts] using this
end Go.Proofs.YthnlpdjjnfkmeaaDoor

/- The laws' own comparisons, over what values read as. -/
namespace Go.Proofs.YthnlpdjjnfkmeaaDoor
open Go

theorem liBytes_ok (zs ys : List Nat) : DataOk Tryd.prog 10 [.d (bytesD zs), .d (bytesD ys)] (.d (.v (.bool (decide (zs = ys))))) := by
  refine Spec.intro (n := 26) (rv := [.tmp 4]) Tryd.func10 rfl rfl rfl (by simp) fun C hN hX => ?_
  refine AW.bound (x := .tmp 0) rfl fun hb => ?_
  simp only [List.length_map] at hb
  refine AW.seq ?_
  apply AW.list
  apply Wk.asg (by conv => lhs; whnf) (lt_of_ble rfl)
  refine Wk.nil ?_
  refine AW.seq (AW.seq ?_)
  apply AW.list
  apply Wk.mv (by conv => lhs; whnf) (lt_of_ble rfl)
  apply Wk.len Tryd.underlying22 rfl (lt_of_ble rfl)
  apply Wk.mv (by conv => lhs; whnf) (lt_of_ble rfl)
  apply Wk.len Tryd.underlying22 rfl (lt_of_ble rfl)
  apply Wk.bin rfl rfl (fun w => by simp [go_sem]; rfl) (lt_of_ble rfl)
  refine Wk.nil ?_
  refine AW.cond rfl (fun h => ?_) (fun h => ?_)
  · refine AW.seq ?_
    apply AW.list
    apply Wk.asg (by conv => lhs; whnf) (lt_of_ble rfl)
    refine Wk.nil (AW.ret ?_)
    repeat (first | refine thenA_ret ?_ | refine inBlockA_ret ?_)
    refine RetQ.ret [] (.cons rfl .nil) ⟨?_, rfl⟩ none_kept
    simp only [bne_iff_ne, ne_eq, Int.natCast_inj] at h
    have : ¬ zs = ys := fun e => h (by rw [e])
    simp only [this, decide_false]
    rfl
  · simp only [bne_eq_false_iff_eq, Int.natCast_inj] at h
    refine AW.skip (thenA_normal ?_)
    refine AW.seq (AW.seq ?_)
    apply AW.list
    apply Wk.asg (by conv => lhs; whnf) (lt_of_ble rfl)
    refine Wk.nil (AW.block ?_)
    refine AW.loop (fun k => St.of 26 [(0, .d (bytesD zs)), (1, .d (bytesD ys)), (5, .d (.v (.int .i64 (k : Nat))))] []) (fun k => k ≤ zs.length ∧ ∀ j, j < k → zs.getD j 0 = ys.getD j 0) (fun k => zs.length - k) 0 ⟨Nat.zero_le _, fun j hj => by omega⟩ ?_ (fun k hk => ?_)
    · exact fun a w => Rel.keep ⟨rfl, .cons rfl rfl (.cons rfl rfl (.cons rfl rfl .nil)), .nil, hN⟩
    refine AW.seq (AW.seq ?_)
    apply AW.list
    apply Wk.mv (by conv => lhs; whnf) (lt_of_ble rfl)
    apply Wk.mv (by conv => lhs; whnf) (lt_of_ble rfl)
    apply Wk.len Tryd.underlying22 rfl (lt_of_ble rfl)
    apply Wk.bin rfl rfl (fun w => by simp [go_sem]; rfl) (lt_of_ble rfl)
    refine Wk.nil ?_
    refine AW.cond rfl (fun hc => ?_) (fun hc => ?_)
    · refine AW.skip ?_
      repeat (first | refine thenA_normal ?_ | refine inBlockA_normal ?_)
      have hlt : k < zs.length := by simpa using hc
      refine AW.seq (AW.block (AW.seq ?_))
      apply AW.draw (hm := hmix) (cs := _)
      · apply Wk.mv (by conv => lhs; whnf) (lt_of_ble rfl)
        apply Wk.mv (by conv => lhs; whnf) (lt_of_ble rfl)
        apply Wk.iad 1 false Tryd.underlying22 ty5 rfl rfl (by simpa using hlt) (one_bytes _) (lt_of_ble rfl)
        apply Wk.ldr 1 false ty5 rfl (bytes_get zs k hlt) rfl (lt_of_ble rfl)
        apply Wk.mv (by conv => lhs; whnf) (lt_of_ble rfl)
        apply Wk.mv (by conv => lhs; whnf) (lt_of_ble rfl)
        apply Wk.iad 1 false Tryd.underlying22 ty5 rfl rfl (by simp; omega) (one_bytes _) (lt_of_ble rfl)
        apply Wk.ldr 1 false ty5 rfl (bytes_get ys k (by omega)) rfl (lt_of_ble rfl)
        apply Wk.bin rfl rfl (fun w => by simp [go_sem]; rfl) (lt_of_ble rfl)
        refine Wk.nil ?_
        refine AW.cond rfl (fun hn => ?_) (fun hn => ?_)
        · refine AW.seq ?_
          apply AW.list
          apply Wk.asg (by conv => lhs; whnf) (lt_of_ble rfl)
          refine Wk.nil (AW.ret ?_)
          repeat (first | refine thenA_ret ?_ | refine inBlockA_ret ?_)
          refine RetQ.ret [] (.cons rfl .nil) ⟨?_, rfl⟩ none_kept
          have : ¬ zs = ys := fun e => by simp [e] at hn
          simp only [this, decide_false]
          rfl
        · refine AW.skip ?_
          repeat (first | refine thenA_normal ?_ | refine inBlockA_normal ?_)
          apply AW.list
          apply Wk.mv (by conv => lhs; whnf) (lt_of_ble rfl)
          apply Wk.addi rfl rfl (by omega) (lt_of_ble rfl)
          apply Wk.asg (by conv => lhs; whnf) (lt_of_ble rfl)
          refine Wk.nil ?_
          refine ⟨k + 1, ⟨by omega, fun j hj => ?_⟩, by omega, fun a w => Rel.keep ⟨rfl, .cons rfl rfl (.cons rfl rfl (.cons rfl rfl .nil)), .nil, hN⟩⟩
          by_cases e : j = k
          · subst e
            simp only [bne_eq_false_iff_eq, Int.natCast_inj] at hn
            exact hn
          · exact hk.2 j (by omega)
      · rfl
      · rfl
    · refine AW.exit ?_
      repeat (first | refine inBlockA_same ?_ | refine thenA_exit ?_)
      repeat (first | refine thenA_normal ?_ | refine inBlockA_normal ?_)
      refine AW.seq ?_
      apply AW.list
      apply Wk.asg (by conv => lhs; whnf) (lt_of_ble rfl)
      refine Wk.nil (AW.ret ?_)
      repeat (first | refine thenA_ret ?_ | refine inBlockA_ret ?_)
      refine RetQ.ret [] (.cons rfl .nil) ⟨?_, rfl⟩ none_kept
      have : zs = ys := List.ext_getElem h fun j h1 h2 => by
        have := hk.2 j (by simp at hc; omega)
        simpa [List.getD_eq_getElem?_getD, h1, h2] using this
      simp only [this, decide_true]
      rfl
end Go.Proofs.YthnlpdjjnfkmeaaDoor

/- A call by a contract for all that may be handed to it. -/
namespace Go.Proofs.YthnlpdjjnfkmeaaDoor
open Go
def FunX (P : Program) (f : FuncId) (pre : List A → Prop) (post : List A → A → List (Nat × Bx) → Prop) (M : List Nat) : Prop :=
  (∀ aas, pre aas → Spec P f aas [] (post aas)) ∧ (∀ aas, pre aas → ∃ r bs, post aas r bs) ∧ ∀ aas r bs, post aas r bs → r.within M = true ∧ ∀ i x, bs.lookup i = some x → i ∈ M ∧ x.within M = true
def conFnX (pre : List A → Prop) (post : List A → A → List (Nat × Bx) → Prop) : Con := ⟨fun aas bs => bs = [] ∧ pre aas, fun aas _ r bs' => post aas r bs'⟩
theorem conFnX_ok {P : Program} {f : FuncId} {pre : List A → Prop} {post : List A → A → List (Nat × Bx) → Prop} {M : List Nat} (h : FunX P f pre post M) : (conFnX pre post).ok P f ([] ++ M) := by
  rintro aas bs ⟨rfl, hp⟩
  exact ⟨h.1 aas hp, fun r bs' hr => by simpa using h.2.2 aas r bs' hr⟩
theorem Wk.fnx {P : Program} {C : Ctx} {ops : Array Oper} {os : List Oper} {cs : List Cert} {σ : St} {K : St → Prop} {d : Nat} {ty : TypeId} {pos : String} {af : Array Edge} {f : FuncId} {fn : Func} {at_ : Array TypeId} {xs : List Operand} {pre : List A → Prop} {post : List A → A → List (Nat × Bx) → Prop} (M : List Nat) (h : FunX P f pre post M) (hf : P.funcs[f]? = some fn) (hbody : fn.body.isSome = true) (hname : (fn.name == "runtime.NumGoroutine") = false)
    {aas : List A} (hargs : argsA σ xs = aas) (hpre : pre aas) (hw : A.withins [] aas = true) (hM : ∀ i ∈ M, σ.b i = .fresh) (hd : d < σ.n)
    (hk : ∀ r ex, post aas r ex → Wk P C ops os cs (σ.puts (T d :: M.map B) (.a r :: M.map fun i => .b ((ex.lookup i).getD .none))) K) :
    Wk P C ops (⟨some d, .call { callee := .value (.func f), args := xs.toArray, argTypes := at_ }, ty, pos, af, none⟩ :: os) (⟨xs.flatMap kof ++ ([] ++ M).map B, T d :: ([] ++ M).map B, behCall (conFnX pre post) xs [] M d⟩ :: cs) σ K := by
  refine Wk.cons (ok_call [] M hf hbody hname (conFnX_ok h)) ?_ ?_
  · obtain ⟨r, bs, hr⟩ := h.2.1 aas hpre
    exact ⟨hd, hM, by rw [hargs]; exact hw, (fun i hi => (List.not_mem_nil hi).elim), ⟨rfl, by rw [hargs]; exact hpre⟩, r, bs, by rw [hargs]; exact hr⟩
  · rintro us ⟨r, bs', hpost, rfl⟩
    rw [hargs] at hpost
    exact hk r bs' hpost
theorem Spec.imp {P : Program} {f : FuncId} {aas : List A} {bs : List (Nat × Bx)} {post post' : A → List (Nat × Bx) → Prop} (h : Spec P f aas bs post) (hi : ∀ r bs', post r bs' → post' r bs') : Spec P f aas bs post' := by
  intro w F E H args hpo hs hd
  refine (h w F E H args hpo hs hd).mono ?_
  rintro e w' ⟨v, r, bs', F', E', H', h1, h2, h3, h4⟩
  exact ⟨v, r, bs', F', E', H', h1, hi _ _ h2, h3, h4⟩
/-- An answer that is data. -/
theorem FunX.of {P : Program} {f : FuncId} {pre : List A → Prop} {post : A → Prop} (h : ∀ aas, pre aas → ∃ r, DataOk P f aas r ∧ post r) (h2 : ∃ r, post r) (h3 : ∀ r, post r → r.within [] = true) : FunX P f pre (fun _ r bs => post r ∧ bs = []) [] := by
  refine ⟨fun aas ha => ?_, fun aas ha => ?_, ?_⟩
  · obtain ⟨r, hr, hp⟩ := h aas ha
    refine Spec.imp hr ?_
    rintro r' bs ⟨rfl, rfl⟩
    exact ⟨hp, rfl⟩
  · obtain ⟨r, hr⟩ := h2
    exact ⟨r, [], hr, rfl⟩
  · rintro aas r bs ⟨hr, rfl⟩
    exact ⟨h3 r hr, fun i x hx => by cases hx⟩
end Go.Proofs.YthnlpdjjnfkmeaaDoor

/- A list of the call's own is read by itself from an operation on. -/
namespace Go.Proofs.YthnlpdjjnfkmeaaDoor
open Go
def thawSt (t i : Nat) (ds : List (List D)) (σ : St) : St := (σ.put (T t) (.a (.d (.row ds)))).put (B i) (.b .none)
def Thawable (t i : Nat) (ds : List (List D)) (σ : St) : Prop := ∃ k e sz es, σ.t t = .own i k ∧ σ.b i = .own k e sz es ∧ asData es ds
def thawC (t i : Nat) (ds : List (List D)) (c : Cert) : Cert := ⟨T t :: B i :: c.rd, T t :: B i :: c.wr, fun σ => (Thawable t i ds σ ∧ (c.beh (thawSt t i ds σ)).1, fun us => ∃ us', us = .a (.d (.row ds)) :: .b .none :: us' ∧ (c.beh (thawSt t i ds σ)).2 us')⟩
theorem XB.nox {C : Ctx} (h : XB C []) : ∀ b, ¬ C.X b := fun b hb => by
  obtain ⟨j, x, hx, _⟩ := h b hb
  cases hx
section
variable {P : Program} {C : Ctx} {ops : Array Oper} {os : List Oper} {o : Oper} {c : Cert} {cs : List Cert} {σ : St} {K : St → Prop}
theorem ok_thaw (ho : OpOk P C ops o c) (t i : Nat) (ds : List (List D)) (hX : ∀ b, ¬ C.X b) : OpOk P C ops o (thawC t i ds c) := by
  obtain ⟨⟨ht, hl⟩, hdst, hs⟩ := ho
  refine ⟨⟨fun σ h => ?_, fun σ => ?_⟩, ?_, fun σ a w K Q hR hsafe hK => ?_⟩
  · obtain ⟨us, hus⟩ := ht _ h.2
    exact ⟨_, us, rfl, hus⟩
  · have e1 : (σ.mask (T t :: B i :: c.rd)).t t = σ.t t := by simp [St.mask]
    have e2 : (σ.mask (T t :: B i :: c.rd)).b i = σ.b i := bx_mask (by simp)
    have e3 : c.beh (thawSt t i ds (σ.mask (T t :: B i :: c.rd))) = c.beh (thawSt t i ds σ) := by
      rw [← hl (thawSt t i ds (σ.mask _)), ← hl (thawSt t i ds σ)]
      congr 1
      unfold thawSt St.mask St.put upd
      simp only
      congr 1
      · funext q
        by_cases hq : q = t
        · subst hq; simp
        · by_cases hqr : (true, q) ∈ c.rd
          · simp [hq, hqr]
          · simp [hqr]
      · funext q
        by_cases hq : q = i
        · subst hq; simp
        · by_cases hqr : (false, q) ∈ c.rd
          · simp [hq, hqr]
          · simp [hqr]
    unfold thawC Thawable
    simp only [e1, e2, e3]
  · unfold thawC
    cases hd : o.dst with
    | none => rfl
    | some d =>
      rw [hd] at hdst
      simp only [dstIn] at hdst ⊢
      simp at hdst ⊢
      exact .inr hdst
  · obtain ⟨⟨k, e, sz, es, h1, h2, h3⟩, hsf⟩ := hsafe
    have hR2 : Rel C (thawSt t i ds σ) a w := Rel.thaw ds h1 h2 h3 (fun b hb => absurd hb (hX b)) hR
    exact hs (thawSt t i ds σ) a w K Q hR2 hsf fun us a' w' hus hR' => hK _ a' w' ⟨us, rfl, hus⟩ hR'
/-- Ahead of an operation: the list that slot t holds is read by itself from now on. -/
theorem Wk.thaw (t i : Nat) (ds : List (List D)) (hX : XB C []) {k : Nat} {e : TypeId} {sz : Nat} {es : List (List A)} (ht : σ.t t = .own i k) (hb : σ.b i = .own k e sz es) (hd : asData es ds)
    (h : Wk P C ops (o :: os) (c :: cs) (thawSt t i ds σ) K) : Wk P C ops (o :: os) (thawC t i ds c :: cs) σ K := by
  obtain ⟨⟨ho, hos⟩, hsafe, hr⟩ := h
  refine ⟨⟨ok_thaw ho t i ds hX.nox, hos⟩, ⟨⟨k, e, sz, es, ht, hb, hd⟩, hsafe⟩, fun us hus => ?_⟩
  obtain ⟨us', rfl, hus'⟩ := hus
  exact hr us' hus'
end
end Go.Proofs.YthnlpdjjnfkmeaaDoor

/- What a listed variable gives that holds an error of errors.New's make: the variable, its text, and the block in which that lies. -/
namespace Go.Proofs.YthnlpdjjnfkmeaaDoor
open Go
theorem laid_block {P : Program} {n nm : String} {text : List UInt8} {r : List (String × _root_.Go.DataW Unit)} {W : World} {g : Nat} {ti tp te ts : TypeId} {ms : Array (String × TypeId)} {f : Field}
    (h : laidMet P ((n, .iface nm (.ptr (.agg [.lit (.string text)]))) :: r) W)
    (hg : P.globalNamed n = some g) (ht : (P.globals[g]?).map (·.type) = some ti) (hi : P.underlying ti = some (.interface ms)) (hrow : ∀ u, P.typeName? 3 u = some nm → u = tp)
    (hp : P.underlying tp = some (.pointer te)) (he : P.underlying te = some (.struct #[f])) (hft : f.type = ts) (hfo : f.offset = 0) (hs : P.underlying ts = some .string) (hc : P.cellsOf te = 1) (hcs : P.cellsOf ts = 1) :
    ∃ (a : Addr) (s : ByteArray) (c : Array Value) (t : TypeId), W.var? P n = some #[.iface tp (.pointer (some a))] ∧ W.cell? a = some (.string s) ∧ s.data.toList = text ∧ W.heap[a.block]? = some (.cells c t (0, 0)) := by
  obtain ⟨ps, ⟨g', t', cs, fu, p, q, hg', ht', hv, hd, _, e0⟩, _, hrows⟩ := h
  obtain rfl := Option.some.inj (hg.symm.trans hg')
  obtain rfl := Option.some.inj (ht.symm.trans ht')
  subst e0
  obtain ⟨l⟩ := cs
  have ok : ∀ u v, l = [.iface u v] → Value.okWide P W .any 0 u v := fun u v e => by
    subst e
    exact (hrows g 0 (by simp [MemPlace.row])).2 u v (by simpa using World.var?_cell hg' hv 0)
  obtain ⟨a, s, rfl, hc0, hs0, _, rfl⟩ := errorString_of_trod hi hrow hp he hft hfo hs hc hcs hd ok
  obtain ⟨c, t, hb⟩ := (hrows a.block a.off (by simp [MemPlace.row])).1
  exact ⟨a, s, c, t, hv, hc0, hs0, hb⟩
end Go.Proofs.YthnlpdjjnfkmeaaDoor
