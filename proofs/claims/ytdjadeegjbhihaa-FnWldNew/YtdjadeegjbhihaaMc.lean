/- Laws and contracts that the proof stands on: AbsDraw, AbsTy, AbsBor, AbsFnv, AbsMax, AbsFnx, AbsLi, AbsSto. -/
import Derived.Test.YtdjadeegjbhihaaMb
import Derived.Test.YtdjadeegjbhihaaRows
import Derived.Laws.OwnMore
/- Calls by what they answer: of data alone, and of a reader of codes. -/
namespace Go.Proofs.Ytdjadeegjbhihaa
open Go

def bytesD (zs : List Nat) : D := .row (zs.map fun z : Nat => [.v (.int .u8 (z : Int))])
theorem one_bytes (zs : List Nat) : ∀ e ∈ zs.map (fun z : Nat => [D.v (.int .u8 (z : Int))]), e.length = 1 := by
  intro e he
  obtain ⟨z, _, rfl⟩ := List.mem_map.1 he
  rfl
theorem bytes_get (zs : List Nat) (k : Nat) (h : k < zs.length) : (zs.map fun z : Nat => [D.v (.int .u8 (z : Int))])[k]? = some [.v (.int .u8 ((zs.getD k 0 : Nat) : Int))] := by
  simp [List.getElem?_map, List.getElem?_eq_getElem h, List.getD_eq_getElem?_getD]

mutual
theorem within_mono {K K' : List Nat} (h : ∀ i, K.contains i = true → K'.contains i = true) : ∀ (a : A), a.within K = true → a.within K' = true
  | .any, _ => rfl
  | .d _, _ => rfl
  | .ptr i _, hw => h i hw
  | .own i _, hw => h i hw
  | .optr i _ _, hw => h i hw
  | .rptr _ _ _ _, _ => rfl
  | .agg cs, hw => withins_mono h cs hw
  | .tup cs, hw => withins_mono h cs hw
  | .fn _ aas bs, hw => by
    simp only [A.within, Bool.and_eq_true] at hw ⊢
    exact ⟨withins_mono h aas hw.1, withins_mono h bs hw.2⟩
  | .ifc _ a, hw => within_mono h a hw
theorem withins_mono {K K' : List Nat} (h : ∀ i, K.contains i = true → K'.contains i = true) : ∀ (aas : List A), A.withins K aas = true → A.withins K' aas = true
  | [], _ => rfl
  | a :: aas, hw => by
    simp only [A.withins, Bool.and_eq_true] at hw ⊢
    exact ⟨within_mono h a hw.1, withins_mono h aas hw.2⟩
end
theorem within_nil {K : List Nat} {a : A} (h : a.within [] = true) : a.within K = true := within_mono (fun i hi => by simp at hi) a h

/-- What a call answers of data alone. -/
def DataW (P : Program) (f : FuncId) (aas : List A) (post : A → Prop) : Prop :=
  Spec P f aas [] (fun r bs => post r ∧ bs = []) ∧ (∃ r, post r) ∧ ∀ r, post r → r.within [] = true
def DataOk (P : Program) (f : FuncId) (aas : List A) (r : A) : Prop := Spec P f aas [] (fun r' bs => r' = r ∧ bs = [])
/-- A reader of codes. -/
def rdr (zs : List (Fin 256)) (p : Nat) : Bx := .var [.d (bytesD (zs.map (·.val))), .d (.v (.int .i64 (p : Int)))]
def DrawOk (P : Program) (f : FuncId) (pre : List A → Prop) (post : List A → A → Prop) (n : Nat) : Prop :=
  (∀ i zs p rest, pre rest → p + n ≤ 2000000000 → Spec P f (.ptr i 0 :: rest) [(i, rdr zs p)] (fun r bs => post rest r ∧ ∃ zs' p', bs = [(i, rdr zs' p')] ∧ p' ≤ p + n)) ∧
  (∀ rest, pre rest → ∃ r, post rest r) ∧ ∀ rest r, post rest r → r.within [] = true
/-- It is enough to look at one name of the reader. -/
theorem DrawOk.zero {P : Program} {f : FuncId} {pre : List A → Prop} {post : List A → A → Prop} {n : Nat} (h : ∀ zs p rest, pre rest → p + n ≤ 2000000000 → Spec P f (.ptr 0 0 :: rest) [(0, rdr zs p)] (fun r bs => post rest r ∧ ∃ zs' p', bs = [(0, rdr zs' p')] ∧ p' ≤ p + n))
    (hw : ∀ rest, pre rest → A.withins [] rest = true) (h2 : ∀ rest, pre rest → ∃ r, post rest r) (h3 : ∀ rest r, post rest r → r.within [] = true) : DrawOk P f pre post n := by
  refine ⟨fun i zs p rest hpre hp w F E H args hpo hs hd => ?_, h2, h3⟩
  have lk : ∀ (q j : Nat) (x y : Bx), [(q, x)].lookup j = some y ↔ j = q ∧ y = x := fun q j x y => by
    by_cases e : j = q
    · subst e; simp [eq_comm]
    · have : (j == q) = false := by simp [e]
      simp [List.lookup_cons, this, e]
  let E1 : Nat → Option Nat := fun j => if j = 0 then E i else none
  let H1 : Nat → Nat → Option Value := fun j k => if j = 0 then H i k else none
  have hbox := hpo.box i (rdr zs p) ((lk _ _ _ _).2 ⟨rfl, rfl⟩)
  obtain ⟨b, ct, t, hE, hh, hpw⟩ := hbox
  have key : ∀ {w : World} {F : Nat → Prop} {E E' : Nat → Option Nat} {H H' : Nat → Nat → Option Value} (zs : List (Fin 256)) (p : Nat) {ct : Array Value}, Pw (CellOk w F E H) [.d (bytesD (zs.map (·.val))), .d (.v (.int .i64 (p : Int)))] ct.toList → Pw (CellOk w F E' H') [.d (bytesD (zs.map (·.val))), .d (.v (.int .i64 (p : Int)))] ct.toList := fun zs p _ h => ⟨h.1, fun j a v ha hv => by
    have := h.2 j a v ha hv
    refine ⟨this.1, this.2.names (K := []) (fun i hi => (List.not_mem_nil hi).elim) (fun i hi => (List.not_mem_nil hi).elim) ?_⟩
    exact withins_get (aas := [.d (bytesD (zs.map (·.val))), .d (.v (.int .i64 (p : Int)))]) rfl j a ha⟩
  have hpo1 : PreOk w F E1 H1 [(0, rdr zs p)] := by
    refine ⟨hpo.Flt, fun j x hx => ?_, fun j x b' hx hb => ?_, fun j q x y b' hjq hx hy _ _ => ?_, fun j hj => ?_⟩
    · obtain ⟨rfl, rfl⟩ := (lk _ _ _ _).1 hx
      exact ⟨b, ct, t, hE, hh, key zs p hpw⟩
    · obtain ⟨rfl, rfl⟩ := (lk _ _ _ _).1 hx
      exact hpo.nf i (rdr zs p) b' ((lk _ _ _ _).2 ⟨rfl, rfl⟩) hb
    · exact absurd (((lk _ _ _ _).1 hx).1.trans ((lk _ _ _ _).1 hy).1.symm) hjq
    · have hj0 : j ≠ 0 := fun e => by
        subst e
        rw [(lk 0 0 (rdr zs p) (rdr zs p)).2 ⟨rfl, rfl⟩] at hj
        cases hj
      exact ⟨if_neg hj0, fun k => if_neg hj0⟩
  refine (h zs p rest hpre hp w F E1 H1 args hpo1 hs (fun j a ha => ?_)).mono ?_
  · cases j with
    | zero =>
      simp only [List.getElem?_cons_zero, Option.some.injEq] at ha
      subst ha
      have := hd 0 (.ptr i 0) rfl
      obtain ⟨b', hb', hv⟩ := den_ptr this
      rw [hv]
      exact .ptr 0 0 b' hb'
    | succ j =>
      refine (hd (j + 1) a (by simpa using ha)).names (K := []) (fun i hi => (List.not_mem_nil hi).elim) (fun i hi => (List.not_mem_nil hi).elim) (withins_get (hw rest hpre) j a (by simpa using ha))
  · rintro e w' ⟨v, r, bs', F', E', H', rfl, ⟨hpost, zs', p', rfl, hp'⟩, po, hden⟩
    obtain ⟨b2, ct2, t2, hE2, hh2, hpw2⟩ := po.box 0 (rdr zs' p') ((lk _ _ _ _).2 ⟨rfl, rfl⟩)
    have hE2b : b2 = b := Option.some.inj (hE2.symm.trans (po.en 0 b hE))
    subst hE2b
    refine ⟨v, r, [(i, rdr zs' p')], F', E, H, rfl, ⟨hpost, zs', p', rfl, hp'⟩, ⟨po.os, po.tape, po.output, po.size, fun c hc hn => po.old c hc fun j x hx hb => ?_, po.fr, po.Flt, po.Fnew, fun _ _ h => h, fun _ _ _ h => h, fun j x hx => ?_, fun j x c hx hb => ?_, fun j q x y c hjq hx hy _ _ => ?_, fun j x c hx hb => ?_⟩, ?_⟩
    · obtain ⟨rfl, rfl⟩ := (lk _ _ _ _).1 hx
      exact hn i (rdr zs p) ((lk _ _ _ _).2 ⟨rfl, rfl⟩) hb
    · obtain ⟨rfl, rfl⟩ := (lk _ _ _ _).1 hx
      exact ⟨b2, ct2, t2, hE, hh2, key zs' p' hpw2⟩
    · obtain ⟨rfl, rfl⟩ := (lk _ _ _ _).1 hx
      have hcb : c = b2 := Option.some.inj (hb.symm.trans hE)
      exact po.nf 0 (rdr zs' p') c ((lk _ _ _ _).2 ⟨rfl, rfl⟩) (hcb ▸ hE2)
    · exact absurd (((lk _ _ _ _).1 hx).1.trans ((lk _ _ _ _).1 hy).1.symm) hjq
    · obtain ⟨rfl, rfl⟩ := (lk _ _ _ _).1 hx
      exact .inl ⟨j, rdr zs p, (lk _ _ _ _).2 ⟨rfl, rfl⟩, hb⟩
    · exact hden.names (K := []) (fun i hi => (List.not_mem_nil hi).elim) (fun i hi => (List.not_mem_nil hi).elim) (h3 _ _ hpost)
theorem fin_lt (zs : List (Fin 256)) (k : Nat) : (zs.map (·.val)).getD k 0 < 256 := by
  simp only [List.getD_eq_getElem?_getD, List.getElem?_map]
  cases zs[k]? with
  | none => simp
  | some z => exact z.isLt
def rdP : List (Nat × Bx) → Nat
  | (_, .var [_, .d (.v (.int _ n))]) :: _ => n.toNat
  | _ => 0
def conDraw (pre : List A → Prop) (post : List A → A → Prop) (n i : Nat) : Con :=
  ⟨fun aas bs => ∃ zs p rest, aas = .ptr i 0 :: rest ∧ bs = [(i, rdr zs p)] ∧ pre rest ∧ p + n ≤ 2000000000,
   fun aas bs r bs' => post aas.tail r ∧ ∃ zs' p', bs' = [(i, rdr zs' p')] ∧ p' ≤ rdP bs + n⟩
theorem conDraw_ok {P : Program} {f : FuncId} {pre : List A → Prop} {post : List A → A → Prop} {n : Nat} (h : DrawOk P f pre post n) (i : Nat) : (conDraw pre post n i).ok P f ([i] ++ []) := by
  rintro aas bs ⟨zs, p, rest, rfl, rfl, hpre, hp⟩
  have e : rdP [(i, rdr zs p)] = p := by simp [rdP, rdr]
  refine ⟨?_, ?_⟩
  · have := h.1 i zs p rest hpre hp
    simp only [conDraw, List.tail_cons, e]
    exact this
  · rintro r bs' ⟨hpost, zs', p', rfl, _⟩
    refine ⟨within_nil (h.2.2 _ _ hpost), fun j x hx => ?_⟩
    rw [List.lookup_cons] at hx
    split at hx
    · rename_i he
      obtain rfl := Option.some.inj hx
      refine ⟨by simp [eq_of_beq he], rfl⟩
    · cases hx

section
variable {P : Program} {C : Ctx} {ops : Array Oper} {os : List Oper} {cs : List Cert} {σ : St} {K : St → Prop} {d : Nat} {ty : TypeId} {pos : String} {af : Array Edge}

def conW (aas : List A) (post : A → Prop) : Con := Con.at aas [] (fun r bs => post r ∧ bs = [])
theorem conW_ok {f : FuncId} {aas : List A} {post : A → Prop} (h : DataW P f aas post) : (conW aas post).ok P f ([] ++ []) := by
  rintro aas' bs' ⟨rfl, rfl⟩
  refine ⟨h.1, ?_⟩
  rintro r bs' ⟨hpost, rfl⟩
  exact ⟨h.2.2 r hpost, fun i x hx => by cases hx⟩
theorem ok_datw {f : FuncId} {fn : Func} {at_ : Array TypeId} {xs : List Operand} {aas : List A} {post : A → Prop} (h : DataW P f aas post) (hf : P.funcs[f]? = some fn) (hbody : fn.body.isSome = true) (hname : (fn.name == "runtime.NumGoroutine") = false) :
    OpOk P C ops ⟨some d, .call { callee := .value (.func f), args := xs.toArray, argTypes := at_ }, ty, pos, af, none⟩ ⟨xs.flatMap kof ++ ([] ++ [] : List Nat).map B, T d :: ([] ++ [] : List Nat).map B, behCall (conW aas post) xs [] [] d⟩ :=
  ok_call [] [] hf hbody hname (conW_ok h)
theorem Wk.datw {f : FuncId} {fn : Func} {at_ : Array TypeId} {xs : List Operand} {aas : List A} {post : A → Prop} (h : DataW P f aas post) (hf : P.funcs[f]? = some fn) (hbody : fn.body.isSome = true) (hname : (fn.name == "runtime.NumGoroutine") = false)
    (hargs : argsA σ xs = aas) (hw : A.withins [] aas = true) (hd : d < σ.n) (hk : ∀ r, post r → Wk P C ops os cs (σ.put (T d) (.a r)) K) :
    Wk P C ops (⟨some d, .call { callee := .value (.func f), args := xs.toArray, argTypes := at_ }, ty, pos, af, none⟩ :: os) (⟨xs.flatMap kof ++ ([] ++ [] : List Nat).map B, T d :: ([] ++ [] : List Nat).map B, behCall (conW aas post) xs [] [] d⟩ :: cs) σ K := by
  refine Wk.cons (ok_datw h hf hbody hname) ?_ ?_
  · obtain ⟨r, hr⟩ := h.2.1
    exact ⟨hd, fun i hi => (List.not_mem_nil hi).elim, by rw [hargs]; exact hw, fun i hi => (List.not_mem_nil hi).elim, ⟨hargs, rfl⟩, r, [], hr, rfl⟩
  · rintro us ⟨r, bs', ⟨hpost, rfl⟩, rfl⟩
    exact hk r hpost
theorem DataOk.w {f : FuncId} {aas : List A} {r : A} (h : DataOk P f aas r) (hr : r.within [] = true) : DataW P f aas (· = r) := ⟨h, ⟨r, rfl⟩, fun r' e => by rw [e]; exact hr⟩
theorem Wk.dat {f : FuncId} {fn : Func} {at_ : Array TypeId} {xs : List Operand} {aas : List A} {r : A} (h : DataOk P f aas r) (hf : P.funcs[f]? = some fn) (hbody : fn.body.isSome = true) (hname : (fn.name == "runtime.NumGoroutine") = false)
    (hargs : argsA σ xs = aas) (hw : A.withins [] aas = true) (hr : r.within [] = true) (hd : d < σ.n) (hk : Wk P C ops os cs (σ.put (T d) (.a r)) K) :
    Wk P C ops (⟨some d, .call { callee := .value (.func f), args := xs.toArray, argTypes := at_ }, ty, pos, af, none⟩ :: os) (⟨xs.flatMap kof ++ ([] ++ [] : List Nat).map B, T d :: ([] ++ [] : List Nat).map B, behCall (conW aas (· = r)) xs [] [] d⟩ :: cs) σ K :=
  Wk.datw (h.w hr) hf hbody hname hargs hw hd fun _ e => e ▸ hk

theorem ok_drw {f : FuncId} {fn : Func} {at_ : Array TypeId} {xs : List Operand} {pre : List A → Prop} {post : List A → A → Prop} {n : Nat} (i : Nat) (h : DrawOk P f pre post n) (hf : P.funcs[f]? = some fn) (hbody : fn.body.isSome = true) (hname : (fn.name == "runtime.NumGoroutine") = false) :
    OpOk P C ops ⟨some d, .call { callee := .value (.func f), args := xs.toArray, argTypes := at_ }, ty, pos, af, none⟩ ⟨xs.flatMap kof ++ ([i] ++ []).map B, T d :: ([i] ++ []).map B, behCall (conDraw pre post n i) xs [i] [] d⟩ :=
  ok_call [i] [] hf hbody hname (conDraw_ok h i)
theorem Wk.drw {f : FuncId} {fn : Func} {at_ : Array TypeId} {xs : List Operand} {pre : List A → Prop} {post : List A → A → Prop} {n : Nat} (i : Nat) (h : DrawOk P f pre post n) (hf : P.funcs[f]? = some fn) (hbody : fn.body.isSome = true) (hname : (fn.name == "runtime.NumGoroutine") = false)
    {rest : List A} {zs : List (Fin 256)} {p : Nat} (hargs : argsA σ xs = .ptr i 0 :: rest) (hb : σ.b i = rdr zs p) (hpre : pre rest) (hp : p + n ≤ 2000000000) (hw : A.withins [i] rest = true) (hd : d < σ.n)
    (hk : ∀ r zs' p', post rest r → p' ≤ p + n → Wk P C ops os cs ((σ.put (T d) (.a r)).put (B i) (.b (rdr zs' p'))) K) :
    Wk P C ops (⟨some d, .call { callee := .value (.func f), args := xs.toArray, argTypes := at_ }, ty, pos, af, none⟩ :: os) (⟨xs.flatMap kof ++ ([i] ++ []).map B, T d :: ([i] ++ []).map B, behCall (conDraw pre post n i) xs [i] [] d⟩ :: cs) σ K := by
  have hbx : boxesA σ [i] = [(i, rdr zs p)] := by simp [boxesA, hb]
  have e : rdP [(i, rdr zs p)] = p := by simp [rdP, rdr]
  refine Wk.cons (ok_drw i h hf hbody hname) ?_ ?_
  · obtain ⟨r, hr⟩ := h.2.1 rest hpre
    refine ⟨hd, fun i hi => (List.not_mem_nil hi).elim, ?_, fun j hj => ?_, ⟨zs, p, rest, hargs, hbx, hpre, hp⟩, r, [(i, rdr zs p)], ?_, zs, p, rfl, by rw [hbx, e]; omega⟩
    · rw [hargs]
      simp [A.withins, A.within, hw]
    · obtain rfl : j = i := by simpa using hj
      rw [hb]; rfl
    · rw [hargs]; exact hr
  · rintro us ⟨r, bs', ⟨hpost, zs', p', rfl, hp'⟩, rfl⟩
    rw [hargs, List.tail_cons] at hpost
    rw [hbx, e] at hp'
    have := hk r zs' p' hpost hp'
    simpa [St.puts] using this
end
theorem kept1 {σ : St} {q : Nat} {y : Bx} (hb : σ.b q = y) : ∀ (i : Nat) (x : Bx), [(q, y)].lookup i = some x → σ.b i = x := fun i x hx => by
  rw [List.lookup_cons] at hx
  split at hx
  · rename_i he
    rw [eq_of_beq he, hb]
    exact Option.some.inj hx
  · cases hx
theorem kept2 {σ : St} {q r : Nat} {y z : Bx} (h1 : σ.b q = y) (h2 : σ.b r = z) : ∀ (i : Nat) (x : Bx), [(q, y), (r, z)].lookup i = some x → σ.b i = x := fun i x hx => by
  rw [List.lookup_cons] at hx
  split at hx
  · rename_i he
    rw [eq_of_beq he, h1]
    exact Option.some.inj hx
  · exact kept1 h2 i x hx
theorem kept3 {σ : St} {q r t : Nat} {y z u : Bx} (h1 : σ.b q = y) (h2 : σ.b r = z) (h3 : σ.b t = u) : ∀ (i : Nat) (x : Bx), [(q, y), (r, z), (t, u)].lookup i = some x → σ.b i = x := fun i x hx => by
  rw [List.lookup_cons] at hx
  split at hx
  · rename_i he
    rw [eq_of_beq he, h1]
    exact Option.some.inj hx
  · exact kept2 h2 h3 i x hx
theorem inAll {L : List Nat} {bs : List (Nat × Bx)} (h : bs.all (fun p => L.contains p.1 && p.2.within L) = true) : ∀ i x, bs.lookup i = some x → i ∈ L ∧ x.within L = true := by
  induction bs with
  | nil => intro i x hx; cases hx
  | cons p bs ih =>
    intro i x hx
    obtain ⟨q, y⟩ := p
    simp only [List.all_cons, Bool.and_eq_true] at h
    rw [List.lookup_cons] at hx
    split at hx
    · rename_i he
      obtain rfl := Option.some.inj hx
      refine ⟨?_, h.1.2⟩
      rw [eq_of_beq he]
      simpa using h.1.1
    · exact ih (by simpa using h.2) i x hx
/-- Opening a reader. -/
def OpenOk (P : Program) (f : FuncId) : Prop := ∀ zs : List (Fin 256), Spec P f [.d (bytesD (zs.map (·.val)))] [] (fun r bs => r = .ptr 0 0 ∧ ∃ zs', bs = [(0, rdr zs' 0)])
def conOpen (zs : List (Fin 256)) : Con := Con.at [.d (bytesD (zs.map (·.val)))] [] (fun r bs => r = .ptr 0 0 ∧ ∃ zs', bs = [(0, rdr zs' 0)])
theorem conOpen_ok {P : Program} {f : FuncId} (h : OpenOk P f) (zs : List (Fin 256)) : (conOpen zs).ok P f ([] ++ [0]) := by
  rintro aas' bs' ⟨rfl, rfl⟩
  refine ⟨h zs, ?_⟩
  rintro r bs' ⟨rfl, zs', rfl⟩
  refine ⟨rfl, fun j x hx => ?_⟩
  rw [List.lookup_cons] at hx
  split at hx
  · rename_i he
    obtain rfl := Option.some.inj hx
    exact ⟨by simp [eq_of_beq he], rfl⟩
  · cases hx
theorem Wk.opn {P : Program} {C : Ctx} {ops : Array Oper} {os : List Oper} {cs : List Cert} {σ : St} {K : St → Prop} {d : Nat} {ty : TypeId} {pos : String} {af : Array Edge} {f : FuncId} {fn : Func} {at_ : Array TypeId} {xs : List Operand} (h : OpenOk P f) (hf : P.funcs[f]? = some fn) (hbody : fn.body.isSome = true) (hname : (fn.name == "runtime.NumGoroutine") = false)
    {zs : List (Fin 256)} (hargs : argsA σ xs = [.d (bytesD (zs.map (·.val)))]) (hb : σ.b 0 = .fresh) (hd : d < σ.n)
    (hk : ∀ zs', Wk P C ops os cs ((σ.put (T d) (.a (.ptr 0 0))).put (B 0) (.b (rdr zs' 0))) K) :
    Wk P C ops (⟨some d, .call { callee := .value (.func f), args := xs.toArray, argTypes := at_ }, ty, pos, af, none⟩ :: os) (⟨xs.flatMap kof ++ ([] ++ [0]).map B, T d :: ([] ++ [0]).map B, behCall (conOpen zs) xs [] [0] d⟩ :: cs) σ K := by
  refine Wk.cons (ok_call [] [0] hf hbody hname (conOpen_ok h zs)) ?_ ?_
  · refine ⟨hd, fun i hi => ?_, by rw [hargs]; rfl, fun i hi => (List.not_mem_nil hi).elim, ⟨hargs, rfl⟩, .ptr 0 0, [(0, rdr zs 0)], rfl, zs, rfl⟩
    obtain rfl : i = 0 := by simpa using hi
    exact hb
  · rintro us ⟨r, bs', ⟨rfl, zs', rfl⟩, rfl⟩
    have := hk zs'
    simpa [St.puts] using this
theorem asData_bytes (zs : List Nat) : asData (zs.map fun z : Nat => [A.d (.v (.int .u8 (z : Int)))]) (zs.map fun z : Nat => [.v (.int .u8 (z : Int))]) := by
  simp [asData, nrms, nrm]
end Go.Proofs.Ytdjadeegjbhihaa

/- The program's types: sizes, fields, zeros. -/
namespace Go.Proofs.Ytdjadeegjbhihaa
open Go
theorem hmix : Try.prog.follows .mixedOrders = true := by kernel_rfl
theorem ty3 : tyOf Try.prog 3 = some (1, false) := by kernel_rfl
theorem ze3 : zeroOf Try.prog 3 = some [.int .i64 0] := by kernel_rfl
theorem ap3 : appOf Try.prog 3 1 = true := by kernel_rfl
theorem ui3 : Try.prog.underlying 3 = some (.int .i64) := by kernel_rfl
theorem ty4 : tyOf Try.prog 4 = some (1, false) := by kernel_rfl
theorem ze4 : zeroOf Try.prog 4 = some [.bool false] := by kernel_rfl
theorem ap4 : appOf Try.prog 4 1 = true := by kernel_rfl
theorem ty5 : tyOf Try.prog 5 = some (1, false) := by kernel_rfl
theorem ze5 : zeroOf Try.prog 5 = some [.int .u8 0] := by kernel_rfl
theorem ap5 : appOf Try.prog 5 1 = true := by kernel_rfl
theorem ui5 : Try.prog.underlying 5 = some (.int .u8) := by kernel_rfl
theorem ty23 : tyOf Try.prog 23 = some (5, true) := by kernel_rfl
theorem fd23_0 : fieldOf Try.prog 23 0 = some (0, 1, false) := by kernel_rfl
theorem fd23_1 : fieldOf Try.prog 23 1 = some (1, 1, false) := by kernel_rfl
theorem fd23_2 : fieldOf Try.prog 23 2 = some (2, 1, false) := by kernel_rfl
theorem fd23_3 : fieldOf Try.prog 23 3 = some (3, 1, false) := by kernel_rfl
theorem fd23_4 : fieldOf Try.prog 23 4 = some (4, 1, false) := by kernel_rfl
theorem ze23 : zeroOf Try.prog 23 = some [.int .i64 0, .int .i64 0, .int .i64 0, .int .i64 0, .int .i64 0] := by kernel_rfl
theorem bl23 : builtOf Try.prog 23 = some ([.int .i64 0, .int .i64 0, .int .i64 0, .int .i64 0, .int .i64 0], [(0, 1), (1, 1), (2, 1), (3, 1), (4, 1)]) := by kernel_rfl
theorem ap23 : appOf Try.prog 23 5 = true := by kernel_rfl
theorem ty24 : tyOf Try.prog 24 = some (1, false) := by kernel_rfl
theorem ze24 : zeroOf Try.prog 24 = some [.slice none 0 0] := by kernel_rfl
theorem ap24 : appOf Try.prog 24 1 = true := by kernel_rfl
theorem un24 : Try.prog.underlying 24 = some (.slice 113) := by kernel_rfl
theorem ty26 : tyOf Try.prog 26 = some (10, true) := by kernel_rfl
theorem fd26_0 : fieldOf Try.prog 26 0 = some (0, 1, false) := by kernel_rfl
theorem fd26_1 : fieldOf Try.prog 26 1 = some (1, 1, false) := by kernel_rfl
theorem fd26_2 : fieldOf Try.prog 26 2 = some (2, 1, false) := by kernel_rfl
theorem fd26_3 : fieldOf Try.prog 26 3 = some (3, 1, false) := by kernel_rfl
theorem fd26_4 : fieldOf Try.prog 26 4 = some (4, 1, false) := by kernel_rfl
theorem fd26_5 : fieldOf Try.prog 26 5 = some (5, 1, false) := by kernel_rfl
theorem fd26_6 : fieldOf Try.prog 26 6 = some (6, 1, false) := by kernel_rfl
theorem fd26_7 : fieldOf Try.prog 26 7 = some (7, 1, false) := by kernel_rfl
theorem fd26_8 : fieldOf Try.prog 26 8 = some (8, 1, false) := by kernel_rfl
theorem fd26_9 : fieldOf Try.prog 26 9 = some (9, 1, false) := by kernel_rfl
theorem ze26 : zeroOf Try.prog 26 = some [.int .i64 0, .int .i64 0, .slice none 0 0, .int .i64 0, .slice none 0 0, .bool false, .int .i64 0, .bool false, .int .i64 0, .bool false] := by kernel_rfl
theorem bl26 : builtOf Try.prog 26 = some ([.int .i64 0, .int .i64 0, .slice none 0 0, .int .i64 0, .slice none 0 0, .bool false, .int .i64 0, .bool false, .int .i64 0, .bool false], [(0, 1), (1, 1), (2, 1), (3, 1), (4, 1), (5, 1), (6, 1), (7, 1), (8, 1), (9, 1)]) := by kernel_rfl
theorem ap26 : appOf Try.prog 26 10 = true := by kernel_rfl
theorem ty29 : tyOf Try.prog 29 = some (5, true) := by kernel_rfl
theorem fd29_0 : fieldOf Try.prog 29 0 = some (0, 1, false) := by kernel_rfl
theorem fd29_1 : fieldOf Try.prog 29 1 = some (1, 1, false) := by kernel_rfl
theorem fd29_2 : fieldOf Try.prog 29 2 = some (2, 1, false) := by kernel_rfl
theorem fd29_3 : fieldOf Try.prog 29 3 = some (3, 1, false) := by kernel_rfl
theorem fd29_4 : fieldOf Try.prog 29 4 = some (4, 1, false) := by kernel_rfl
theorem ze29 : zeroOf Try.prog 29 = some [.int .i64 0, .int .i64 0, .int .i64 0, .int .i64 0, .int .i64 0] := by kernel_rfl
theorem bl29 : builtOf Try.prog 29 = some ([.int .i64 0, .int .i64 0, .int .i64 0, .int .i64 0, .int .i64 0], [(0, 1), (1, 1), (2, 1), (3, 1), (4, 1)]) := by kernel_rfl
theorem ap29 : appOf Try.prog 29 5 = true := by kernel_rfl
theorem ty31 : tyOf Try.prog 31 = some (1, false) := by kernel_rfl
theorem ze31 : zeroOf Try.prog 31 = some [.slice none 0 0] := by kernel_rfl
theorem ap31 : appOf Try.prog 31 1 = true := by kernel_rfl
theorem un31 : Try.prog.underlying 31 = some (.slice 115) := by kernel_rfl
theorem ty33 : tyOf Try.prog 33 = some (10, true) := by kernel_rfl
theorem fd33_0 : fieldOf Try.prog 33 0 = some (0, 1, false) := by kernel_rfl
theorem fd33_1 : fieldOf Try.prog 33 1 = some (1, 1, false) := by kernel_rfl
theorem fd33_2 : fieldOf Try.prog 33 2 = some (2, 1, false) := by kernel_rfl
theorem fd33_3 : fieldOf Try.prog 33 3 = some (3, 1, false) := by kernel_rfl
theorem fd33_4 : fieldOf Try.prog 33 4 = some (4, 1, false) := by kernel_rfl
theorem fd33_5 : fieldOf Try.prog 33 5 = some (5, 1, false) := by kernel_rfl
theorem fd33_6 : fieldOf Try.prog 33 6 = some (6, 1, false) := by kernel_rfl
theorem fd33_7 : fieldOf Try.prog 33 7 = some (7, 1, false) := by kernel_rfl
theorem fd33_8 : fieldOf Try.prog 33 8 = some (8, 1, false) := by kernel_rfl
theorem fd33_9 : fieldOf Try.prog 33 9 = some (9, 1, false) := by kernel_rfl
theorem ze33 : zeroOf Try.prog 33 = some [.int .i64 0, .int .i64 0, .slice none 0 0, .int .i64 0, .slice none 0 0, .bool false, .int .i64 0, .bool false, .int .i64 0, .bool false] := by kernel_rfl
theorem bl33 : builtOf Try.prog 33 = some ([.int .i64 0, .int .i64 0, .slice none 0 0, .int .i64 0, .slice none 0 0, .bool false, .int .i64 0, .bool false, .int .i64 0, .bool false], [(0, 1), (1, 1), (2, 1), (3, 1), (4, 1), (5, 1), (6, 1), (7, 1), (8, 1), (9, 1)]) := by kernel_rfl
theorem ap33 : appOf Try.prog 33 10 = true := by kernel_rfl
theorem ty40 : tyOf Try.prog 40 = some (5, true) := by kernel_rfl
theorem fd40_0 : fieldOf Try.prog 40 0 = some (0, 1, false) := by kernel_rfl
theorem fd40_1 : fieldOf Try.prog 40 1 = some (1, 1, false) := by kernel_rfl
theorem fd40_2 : fieldOf Try.prog 40 2 = some (2, 1, false) := by kernel_rfl
theorem fd40_3 : fieldOf Try.prog 40 3 = some (3, 1, false) := by kernel_rfl
theorem fd40_4 : fieldOf Try.prog 40 4 = some (4, 1, false) := by kernel_rfl
theorem ze40 : zeroOf Try.prog 40 = some [.int .i64 0, .slice none 0 0, .int .i64 0, .int .i64 0, .bool false] := by kernel_rfl
theorem bl40 : builtOf Try.prog 40 = some ([.int .i64 0, .slice none 0 0, .int .i64 0, .int .i64 0, .bool false], [(0, 1), (1, 1), (2, 1), (3, 1), (4, 1)]) := by kernel_rfl
theorem ap40 : appOf Try.prog 40 5 = true := by kernel_rfl
theorem ty44 : tyOf Try.prog 44 = some (5, true) := by kernel_rfl
theorem fd44_0 : fieldOf Try.prog 44 0 = some (0, 1, false) := by kernel_rfl
theorem fd44_1 : fieldOf Try.prog 44 1 = some (1, 1, false) := by kernel_rfl
theorem fd44_2 : fieldOf Try.prog 44 2 = some (2, 1, false) := by kernel_rfl
theorem fd44_3 : fieldOf Try.prog 44 3 = some (3, 1, false) := by kernel_rfl
theorem fd44_4 : fieldOf Try.prog 44 4 = some (4, 1, false) := by kernel_rfl
theorem ze44 : zeroOf Try.prog 44 = some [.int .i64 0, .slice none 0 0, .int .i64 0, .int .i64 0, .bool false] := by kernel_rfl
theorem bl44 : builtOf Try.prog 44 = some ([.int .i64 0, .slice none 0 0, .int .i64 0, .int .i64 0, .bool false], [(0, 1), (1, 1), (2, 1), (3, 1), (4, 1)]) := by kernel_rfl
theorem ap44 : appOf Try.prog 44 5 = true := by kernel_rfl
theorem ty48 : tyOf Try.prog 48 = some (1, false) := by kernel_rfl
theorem ze48 : zeroOf Try.prog 48 = some [.slice none 0 0] := by kernel_rfl
theorem ap48 : appOf Try.prog 48 1 = true := by kernel_rfl
theorem un48 : Try.prog.underlying 48 = some (.slice 128) := by kernel_rfl
theorem ty49 : tyOf Try.prog 49 = some (1, false) := by kernel_rfl
theorem ze49 : zeroOf Try.prog 49 = some [.slice none 0 0] := by kernel_rfl
theorem ap49 : appOf Try.prog 49 1 = true := by kernel_rfl
theorem un49 : Try.prog.underlying 49 = some (.slice 130) := by kernel_rfl
theorem ty51 : tyOf Try.prog 51 = some (8, true) := by kernel_rfl
theorem fd51_0 : fieldOf Try.prog 51 0 = some (0, 5, true) := by kernel_rfl
theorem fd51_1 : fieldOf Try.prog 51 1 = some (5, 1, false) := by kernel_rfl
theorem fd51_2 : fieldOf Try.prog 51 2 = some (6, 1, false) := by kernel_rfl
theorem fd51_3 : fieldOf Try.prog 51 3 = some (7, 1, false) := by kernel_rfl
theorem ze51 : zeroOf Try.prog 51 = some [.int .i64 0, .int .i64 0, .int .i64 0, .int .i64 0, .int .i64 0, .slice none 0 0, .slice none 0 0, .int .i64 0] := by kernel_rfl
theorem bl51 : builtOf Try.prog 51 = some ([.int .i64 0, .int .i64 0, .int .i64 0, .int .i64 0, .int .i64 0, .slice none 0 0, .slice none 0 0, .int .i64 0], [(0, 5), (5, 1), (6, 1), (7, 1)]) := by kernel_rfl
theorem ap51 : appOf Try.prog 51 8 = true := by kernel_rfl
theorem ty54 : tyOf Try.prog 54 = some (1, false) := by kernel_rfl
theorem ze54 : zeroOf Try.prog 54 = some [.slice none 0 0] := by kernel_rfl
theorem ap54 : appOf Try.prog 54 1 = true := by kernel_rfl
theorem un54 : Try.prog.underlying 54 = some (.slice 77) := by kernel_rfl
theorem ty55 : tyOf Try.prog 55 = some (1, false) := by kernel_rfl
theorem ze55 : zeroOf Try.prog 55 = some [.slice none 0 0] := by kernel_rfl
theorem ap55 : appOf Try.prog 55 1 = true := by kernel_rfl
theorem un55 : Try.prog.underlying 55 = some (.slice 78) := by kernel_rfl
theorem ty57 : tyOf Try.prog 57 = some (8, true) := by kernel_rfl
theorem fd57_0 : fieldOf Try.prog 57 0 = some (0, 5, true) := by kernel_rfl
theorem fd57_1 : fieldOf Try.prog 57 1 = some (5, 1, false) := by kernel_rfl
theorem fd57_2 : fieldOf Try.prog 57 2 = some (6, 1, false) := by kernel_rfl
theorem fd57_3 : fieldOf Try.prog 57 3 = some (7, 1, false) := by kernel_rfl
theorem ze57 : zeroOf Try.prog 57 = some [.int .i64 0, .int .i64 0, .int .i64 0, .int .i64 0, .int .i64 0, .slice none 0 0, .slice none 0 0, .int .i64 0] := by kernel_rfl
theorem bl57 : builtOf Try.prog 57 = some ([.int .i64 0, .int .i64 0, .int .i64 0, .int .i64 0, .int .i64 0, .slice none 0 0, .slice none 0 0, .int .i64 0], [(0, 5), (5, 1), (6, 1), (7, 1)]) := by kernel_rfl
theorem ap57 : appOf Try.prog 57 8 = true := by kernel_rfl
theorem ty64 : tyOf Try.prog 64 = some (1, false) := by kernel_rfl
theorem ze64 : zeroOf Try.prog 64 = some [.slice none 0 0] := by kernel_rfl
theorem ap64 : appOf Try.prog 64 1 = true := by kernel_rfl
theorem un64 : Try.prog.underlying 64 = some (.slice 5) := by kernel_rfl
theorem ty70 : tyOf Try.prog 70 = some (2, true) := by kernel_rfl
theorem fd70_0 : fieldOf Try.prog 70 0 = some (0, 1, false) := by kernel_rfl
theorem fd70_1 : fieldOf Try.prog 70 1 = some (1, 1, false) := by kernel_rfl
theorem ze70 : zeroOf Try.prog 70 = some [.int .i64 0, .slice none 0 0] := by kernel_rfl
theorem bl70 : builtOf Try.prog 70 = some ([.int .i64 0, .slice none 0 0], [(0, 1), (1, 1)]) := by kernel_rfl
theorem ap70 : appOf Try.prog 70 2 = true := by kernel_rfl
theorem ty72 : tyOf Try.prog 72 = some (7, true) := by kernel_rfl
theorem fd72_0 : fieldOf Try.prog 72 0 = some (0, 1, false) := by kernel_rfl
theorem fd72_1 : fieldOf Try.prog 72 1 = some (1, 1, false) := by kernel_rfl
theorem fd72_2 : fieldOf Try.prog 72 2 = some (2, 2, true) := by kernel_rfl
theorem fd72_3 : fieldOf Try.prog 72 3 = some (4, 1, false) := by kernel_rfl
theorem fd72_4 : fieldOf Try.prog 72 4 = some (5, 1, false) := by kernel_rfl
theorem fd72_5 : fieldOf Try.prog 72 5 = some (6, 1, false) := by kernel_rfl
theorem ze72 : zeroOf Try.prog 72 = some [.int .i64 0, .int .i64 0, .int .i64 0, .slice none 0 0, .bool false, .bool false, .bool false] := by kernel_rfl
theorem bl72 : builtOf Try.prog 72 = some ([.int .i64 0, .int .i64 0, .int .i64 0, .slice none 0 0, .bool false, .bool false, .bool false], [(0, 1), (1, 1), (2, 2), (4, 1), (5, 1), (6, 1)]) := by kernel_rfl
theorem ap72 : appOf Try.prog 72 7 = true := by kernel_rfl
theorem ty74 : tyOf Try.prog 74 = some (4, true) := by kernel_rfl
theorem fd74_0 : fieldOf Try.prog 74 0 = some (0, 1, false) := by kernel_rfl
theorem fd74_1 : fieldOf Try.prog 74 1 = some (1, 2, true) := by kernel_rfl
theorem fd74_2 : fieldOf Try.prog 74 2 = some (3, 1, false) := by kernel_rfl
theorem ze74 : zeroOf Try.prog 74 = some [.int .i64 0, .int .i64 0, .slice none 0 0, .bool false] := by kernel_rfl
theorem bl74 : builtOf Try.prog 74 = some ([.int .i64 0, .int .i64 0, .slice none 0 0, .bool false], [(0, 1), (1, 2), (3, 1)]) := by kernel_rfl
theorem ap74 : appOf Try.prog 74 4 = true := by kernel_rfl
theorem ty75 : tyOf Try.prog 75 = some (1, false) := by kernel_rfl
theorem ze75 : zeroOf Try.prog 75 = some [.slice none 0 0] := by kernel_rfl
theorem ap75 : appOf Try.prog 75 1 = true := by kernel_rfl
theorem un75 : Try.prog.underlying 75 = some (.slice 64) := by kernel_rfl
theorem ty77 : tyOf Try.prog 77 = some (28, true) := by kernel_rfl
theorem fd77_0 : fieldOf Try.prog 77 0 = some (0, 10, true) := by kernel_rfl
theorem fd77_1 : fieldOf Try.prog 77 1 = some (10, 7, true) := by kernel_rfl
theorem fd77_2 : fieldOf Try.prog 77 2 = some (17, 5, true) := by kernel_rfl
theorem fd77_3 : fieldOf Try.prog 77 3 = some (22, 4, true) := by kernel_rfl
theorem fd77_4 : fieldOf Try.prog 77 4 = some (26, 1, false) := by kernel_rfl
theorem fd77_5 : fieldOf Try.prog 77 5 = some (27, 1, false) := by kernel_rfl
theorem ze77 : zeroOf Try.prog 77 = some [.int .i64 0, .int .i64 0, .slice none 0 0, .int .i64 0, .slice none 0 0, .bool false, .int .i64 0, .bool false, .int .i64 0, .bool false, .int .i64 0, .int .i64 0, .int .i64 0, .slice none 0 0, .bool false, .bool false, .bool false, .int .i64 0, .slice none 0 0, .int .i64 0, .int .i64 0, .bool false, .int .i64 0, .int .i64 0, .slice none 0 0, .bool false, .slice none 0 0, .slice none 0 0] := by kernel_rfl
theorem bl77 : builtOf Try.prog 77 = some ([.int .i64 0, .int .i64 0, .slice none 0 0, .int .i64 0, .slice none 0 0, .bool false, .int .i64 0, .bool false, .int .i64 0, .bool false, .int .i64 0, .int .i64 0, .int .i64 0, .slice none 0 0, .bool false, .bool false, .bool false, .int .i64 0, .slice none 0 0, .int .i64 0, .int .i64 0, .bool false, .int .i64 0, .int .i64 0, .slice none 0 0, .bool false, .slice none 0 0, .slice none 0 0], [(0, 10), (10, 7), (17, 5), (22, 4), (26, 1), (27, 1)]) := by kernel_rfl
theorem ap77 : appOf Try.prog 77 28 = true := by kernel_rfl
theorem ty78 : tyOf Try.prog 78 = some (1, false) := by kernel_rfl
theorem ze78 : zeroOf Try.prog 78 = some [.slice none 0 0] := by kernel_rfl
theorem ap78 : appOf Try.prog 78 1 = true := by kernel_rfl
theorem un78 : Try.prog.underlying 78 = some (.slice 92) := by kernel_rfl
theorem ty92 : tyOf Try.prog 92 = some (2, true) := by kernel_rfl
theorem fd92_0 : fieldOf Try.prog 92 0 = some (0, 1, false) := by kernel_rfl
theorem fd92_1 : fieldOf Try.prog 92 1 = some (1, 1, false) := by kernel_rfl
theorem ze92 : zeroOf Try.prog 92 = some [.bool false, .slice none 0 0] := by kernel_rfl
theorem bl92 : builtOf Try.prog 92 = some ([.bool false, .slice none 0 0], [(0, 1), (1, 1)]) := by kernel_rfl
theorem ap92 : appOf Try.prog 92 2 = true := by kernel_rfl
theorem ty113 : tyOf Try.prog 113 = some (3, true) := by kernel_rfl
theorem fd113_0 : fieldOf Try.prog 113 0 = some (0, 1, false) := by kernel_rfl
theorem fd113_1 : fieldOf Try.prog 113 1 = some (1, 1, false) := by kernel_rfl
theorem fd113_2 : fieldOf Try.prog 113 2 = some (2, 1, false) := by kernel_rfl
theorem ze113 : zeroOf Try.prog 113 = some [.int .i64 0, .int .i64 0, .slice none 0 0] := by kernel_rfl
theorem bl113 : builtOf Try.prog 113 = some ([.int .i64 0, .int .i64 0, .slice none 0 0], [(0, 1), (1, 1), (2, 1)]) := by kernel_rfl
theorem ap113 : appOf Try.prog 113 3 = true := by kernel_rfl
theorem ty115 : tyOf Try.prog 115 = some (3, true) := by kernel_rfl
theorem fd115_0 : fieldOf Try.prog 115 0 = some (0, 1, false) := by kernel_rfl
theorem fd115_1 : fieldOf Try.prog 115 1 = some (1, 1, false) := by kernel_rfl
theorem fd115_2 : fieldOf Try.prog 115 2 = some (2, 1, false) := by kernel_rfl
theorem ze115 : zeroOf Try.prog 115 = some [.int .i64 0, .int .i64 0, .slice none 0 0] := by kernel_rfl
theorem bl115 : builtOf Try.prog 115 = some ([.int .i64 0, .int .i64 0, .slice none 0 0], [(0, 1), (1, 1), (2, 1)]) := by kernel_rfl
theorem ap115 : appOf Try.prog 115 3 = true := by kernel_rfl
theorem ty117 : tyOf Try.prog 117 = some (1, false) := by kernel_rfl
theorem ze117 : zeroOf Try.prog 117 = some [.int .i64 0] := by kernel_rfl
theorem ap117 : appOf Try.prog 117 1 = true := by kernel_rfl
theorem ui117 : Try.prog.underlying 117 = some (.int .i64) := by kernel_rfl
theorem ty122 : tyOf Try.prog 122 = some (2, true) := by kernel_rfl
theorem fd122_0 : fieldOf Try.prog 122 0 = some (0, 1, false) := by kernel_rfl
theorem fd122_1 : fieldOf Try.prog 122 1 = some (1, 1, false) := by kernel_rfl
theorem ze122 : zeroOf Try.prog 122 = some [.int .i64 0, .slice none 0 0] := by kernel_rfl
theorem bl122 : builtOf Try.prog 122 = some ([.int .i64 0, .slice none 0 0], [(0, 1), (1, 1)]) := by kernel_rfl
theorem ap122 : appOf Try.prog 122 2 = true := by kernel_rfl
theorem ty124 : tyOf Try.prog 124 = some (7, true) := by kernel_rfl
theorem fd124_0 : fieldOf Try.prog 124 0 = some (0, 1, false) := by kernel_rfl
theorem fd124_1 : fieldOf Try.prog 124 1 = some (1, 1, false) := by kernel_rfl
theorem fd124_2 : fieldOf Try.prog 124 2 = some (2, 2, true) := by kernel_rfl
theorem fd124_3 : fieldOf Try.prog 124 3 = some (4, 1, false) := by kernel_rfl
theorem fd124_4 : fieldOf Try.prog 124 4 = some (5, 1, false) := by kernel_rfl
theorem fd124_5 : fieldOf Try.prog 124 5 = some (6, 1, false) := by kernel_rfl
theorem ze124 : zeroOf Try.prog 124 = some [.int .i64 0, .int .i64 0, .int .i64 0, .slice none 0 0, .bool false, .bool false, .bool false] := by kernel_rfl
theorem bl124 : builtOf Try.prog 124 = some ([.int .i64 0, .int .i64 0, .int .i64 0, .slice none 0 0, .bool false, .bool false, .bool false], [(0, 1), (1, 1), (2, 2), (4, 1), (5, 1), (6, 1)]) := by kernel_rfl
theorem ap124 : appOf Try.prog 124 7 = true := by kernel_rfl
theorem ty126 : tyOf Try.prog 126 = some (4, true) := by kernel_rfl
theorem fd126_0 : fieldOf Try.prog 126 0 = some (0, 1, false) := by kernel_rfl
theorem fd126_1 : fieldOf Try.prog 126 1 = some (1, 2, true) := by kernel_rfl
theorem fd126_2 : fieldOf Try.prog 126 2 = some (3, 1, false) := by kernel_rfl
theorem ze126 : zeroOf Try.prog 126 = some [.int .i64 0, .int .i64 0, .slice none 0 0, .bool false] := by kernel_rfl
theorem bl126 : builtOf Try.prog 126 = some ([.int .i64 0, .int .i64 0, .slice none 0 0, .bool false], [(0, 1), (1, 2), (3, 1)]) := by kernel_rfl
theorem ap126 : appOf Try.prog 126 4 = true := by kernel_rfl
theorem ty128 : tyOf Try.prog 128 = some (28, true) := by kernel_rfl
theorem fd128_0 : fieldOf Try.prog 128 0 = some (0, 10, true) := by kernel_rfl
theorem fd128_1 : fieldOf Try.prog 128 1 = some (10, 7, true) := by kernel_rfl
theorem fd128_2 : fieldOf Try.prog 128 2 = some (17, 5, true) := by kernel_rfl
theorem fd128_3 : fieldOf Try.prog 128 3 = some (22, 4, true) := by kernel_rfl
theorem fd128_4 : fieldOf Try.prog 128 4 = some (26, 1, false) := by kernel_rfl
theorem fd128_5 : fieldOf Try.prog 128 5 = some (27, 1, false) := by kernel_rfl
theorem ze128 : zeroOf Try.prog 128 = some [.int .i64 0, .int .i64 0, .slice none 0 0, .int .i64 0, .slice none 0 0, .bool false, .int .i64 0, .bool false, .int .i64 0, .bool false, .int .i64 0, .int .i64 0, .int .i64 0, .slice none 0 0, .bool false, .bool false, .bool false, .int .i64 0, .slice none 0 0, .int .i64 0, .int .i64 0, .bool false, .int .i64 0, .int .i64 0, .slice none 0 0, .bool false, .slice none 0 0, .slice none 0 0] := by kernel_rfl
theorem bl128 : builtOf Try.prog 128 = some ([.int .i64 0, .int .i64 0, .slice none 0 0, .int .i64 0, .slice none 0 0, .bool false, .int .i64 0, .bool false, .int .i64 0, .bool false, .int .i64 0, .int .i64 0, .int .i64 0, .slice none 0 0, .bool false, .bool false, .bool false, .int .i64 0, .slice none 0 0, .int .i64 0, .int .i64 0, .bool false, .int .i64 0, .int .i64 0, .slice none 0 0, .bool false, .slice none 0 0, .slice none 0 0], [(0, 10), (10, 7), (17, 5), (22, 4), (26, 1), (27, 1)]) := by kernel_rfl
theorem ap128 : appOf Try.prog 128 28 = true := by kernel_rfl
theorem ty130 : tyOf Try.prog 130 = some (1, false) := by kernel_rfl
theorem ze130 : zeroOf Try.prog 130 = some [.slice none 0 0] := by kernel_rfl
theorem ap130 : appOf Try.prog 130 1 = true := by kernel_rfl
theorem un130 : Try.prog.underlying 130 = some (.slice 157) := by kernel_rfl
theorem ty143 : tyOf Try.prog 143 = some (1, false) := by kernel_rfl
theorem ze143 : zeroOf Try.prog 143 = some [.slice none 0 0] := by kernel_rfl
theorem ap143 : appOf Try.prog 143 1 = true := by kernel_rfl
theorem un143 : Try.prog.underlying 143 = some (.slice 3) := by kernel_rfl
theorem ty145 : tyOf Try.prog 145 = some (2, true) := by kernel_rfl
theorem fd145_0 : fieldOf Try.prog 145 0 = some (0, 1, false) := by kernel_rfl
theorem fd145_1 : fieldOf Try.prog 145 1 = some (1, 1, false) := by kernel_rfl
theorem ze145 : zeroOf Try.prog 145 = some [.slice none 0 0, .int .i64 0] := by kernel_rfl
theorem bl145 : builtOf Try.prog 145 = some ([.slice none 0 0, .int .i64 0], [(0, 1), (1, 1)]) := by kernel_rfl
theorem ap145 : appOf Try.prog 145 2 = true := by kernel_rfl
theorem ty150 : tyOf Try.prog 150 = some (9, true) := by kernel_rfl
theorem fd150_0 : fieldOf Try.prog 150 0 = some (0, 1, false) := by kernel_rfl
theorem fd150_1 : fieldOf Try.prog 150 1 = some (1, 1, false) := by kernel_rfl
theorem fd150_2 : fieldOf Try.prog 150 2 = some (2, 1, false) := by kernel_rfl
theorem fd150_3 : fieldOf Try.prog 150 3 = some (3, 1, false) := by kernel_rfl
theorem fd150_4 : fieldOf Try.prog 150 4 = some (4, 1, false) := by kernel_rfl
theorem fd150_5 : fieldOf Try.prog 150 5 = some (5, 1, false) := by kernel_rfl
theorem fd150_6 : fieldOf Try.prog 150 6 = some (6, 1, false) := by kernel_rfl
theorem fd150_7 : fieldOf Try.prog 150 7 = some (7, 1, false) := by kernel_rfl
theorem fd150_8 : fieldOf Try.prog 150 8 = some (8, 1, false) := by kernel_rfl
theorem ze150 : zeroOf Try.prog 150 = some [.int .i64 0, .int .i64 0, .int .i64 0, .bool false, .bool false, .int .i64 0, .int .i64 0, .int .i64 0, .slice none 0 0] := by kernel_rfl
theorem bl150 : builtOf Try.prog 150 = some ([.int .i64 0, .int .i64 0, .int .i64 0, .bool false, .bool false, .int .i64 0, .int .i64 0, .int .i64 0, .slice none 0 0], [(0, 1), (1, 1), (2, 1), (3, 1), (4, 1), (5, 1), (6, 1), (7, 1), (8, 1)]) := by kernel_rfl
theorem ap150 : appOf Try.prog 150 9 = true := by kernel_rfl
theorem ty153 : tyOf Try.prog 153 = some (3, true) := by kernel_rfl
theorem fd153_0 : fieldOf Try.prog 153 0 = some (0, 1, false) := by kernel_rfl
theorem fd153_1 : fieldOf Try.prog 153 1 = some (1, 1, false) := by kernel_rfl
theorem fd153_2 : fieldOf Try.prog 153 2 = some (2, 1, false) := by kernel_rfl
theorem ze153 : zeroOf Try.prog 153 = some [.int .i64 0, .int .i64 0, .slice none 0 0] := by kernel_rfl
theorem bl153 : builtOf Try.prog 153 = some ([.int .i64 0, .int .i64 0, .slice none 0 0], [(0, 1), (1, 1), (2, 1)]) := by kernel_rfl
theorem ap153 : appOf Try.prog 153 3 = true := by kernel_rfl
theorem ty157 : tyOf Try.prog 157 = some (2, true) := by kernel_rfl
theorem fd157_0 : fieldOf Try.prog 157 0 = some (0, 1, false) := by kernel_rfl
theorem fd157_1 : fieldOf Try.prog 157 1 = some (1, 1, false) := by kernel_rfl
theorem ze157 : zeroOf Try.prog 157 = some [.bool false, .slice none 0 0] := by kernel_rfl
theorem bl157 : builtOf Try.prog 157 = some ([.bool false, .slice none 0 0], [(0, 1), (1, 1)]) := by kernel_rfl
theorem ap157 : appOf Try.prog 157 2 = true := by kernel_rfl
end Go.Proofs.Ytdjadeegjbhihaa

/- A list of the call's own is read by itself from an operation on. -/
namespace Go.Proofs.Ytdjadeegjbhihaa
open Go
def thawSt (t i : Nat) (ds : List (List D)) (σ : St) : St := (σ.put (T t) (.a (.d (.row ds)))).put (B i) (.b .none)
def Thawable (t i : Nat) (ds : List (List D)) (σ : St) : Prop := ∃ k e sz es, σ.t t = .own i k ∧ σ.b i = .own k e sz es ∧ asData es ds
def thawC (t i : Nat) (ds : List (List D)) (c : Cert) : Cert := ⟨T t :: B i :: c.rd, T t :: B i :: c.wr, fun σ => (Thawable t i ds σ ∧ (c.beh (thawSt t i ds σ)).1, fun us => ∃ us', us = .a (.d (.row ds)) :: .b .none :: us' ∧ (c.beh (thawSt t i ds σ)).2 us')⟩
theorem XB.nox {C : Ctx} (h : XB C []) : ∀ b, ¬ C.X b := fun b hb => by
  obtain ⟨j, x, hx, _⟩ := h b hb
  cases hx
section
variable {P : Program} {C : Ctx} {ops : Array Oper} {os : List Oper} {o : Oper} {c : Cert} {cs : List Cert} {σ : St} {K : St → Prop}
theorem ok_thaw (ho : OpOk P C ops o c) (t i : Nat) (ds : List (List D)) (hX : ∀ b, ¬ C.X b) : OpOk P C ops o (thawC t i ds c) := by
  obtain ⟨⟨ht, hl⟩, hdst, hs⟩ := ho
  refine ⟨⟨fun σ h => ?_, fun σ => ?_⟩, ?_, fun σ a w K Q hR hsafe hK => ?_⟩
  · obtain ⟨us, hus⟩ := ht _ h.2
    exact ⟨_, us, rfl, hus⟩
  · have e1 : (σ.mask (T t :: B i :: c.rd)).t t = σ.t t := by simp [St.mask]
    have e2 : (σ.mask (T t :: B i :: c.rd)).b i = σ.b i := bx_mask (by simp)
    have e3 : c.beh (thawSt t i ds (σ.mask (T t :: B i :: c.rd))) = c.beh (thawSt t i ds σ) := by
      rw [← hl (thawSt t i ds (σ.mask _)), ← hl (thawSt t i ds σ)]
      congr 1
      unfold thawSt St.mask St.put upd
      simp only
      congr 1
      · funext q
        by_cases hq : q = t
        · subst hq; simp
        · by_cases hqr : (true, q) ∈ c.rd
          · simp [hq, hqr]
          · simp [hqr]
      · funext q
        by_cases hq : q = i
        · subst hq; simp
        · by_cases hqr : (false, q) ∈ c.rd
          · simp [hq, hqr]
          · simp [hqr]
    unfold thawC Thawable
    simp only [e1, e2, e3]
  · unfold thawC
    cases hd : o.dst with
    | none => rfl
    | some d =>
      rw [hd] at hdst
      simp only [dstIn] at hdst ⊢
      simp at hdst ⊢
      exact .inr hdst
  · obtain ⟨⟨k, e, sz, es, h1, h2, h3⟩, hsf⟩ := hsafe
    have hR2 : Rel C (thawSt t i ds σ) a w := Rel.thaw ds h1 h2 h3 (fun b hb => absurd hb (hX b)) hR
    exact hs (thawSt t i ds σ) a w K Q hR2 hsf fun us a' w' hus hR' => hK _ a' w' ⟨us, rfl, hus⟩ hR'
/-- Ahead of an operation: the list that slot t holds is read by itself from now on. -/
theorem Wk.thaw (t i : Nat) (ds : List (List D)) (hX : XB C []) {k : Nat} {e : TypeId} {sz : Nat} {es : List (List A)} (ht : σ.t t = .own i k) (hb : σ.b i = .own k e sz es) (hd : asData es ds)
    (h : Wk P C ops (o :: os) (c :: cs) (thawSt t i ds σ) K) : Wk P C ops (o :: os) (thawC t i ds c :: cs) σ K := by
  obtain ⟨⟨ho, hos⟩, hsafe, hr⟩ := h
  refine ⟨⟨ok_thaw ho t i ds hX.nox, hos⟩, ⟨⟨k, e, sz, es, ht, hb, hd⟩, hsafe⟩, fun us hus => ?_⟩
  obtain ⟨us', rfl, hus'⟩ := hus
  exact hr us' hus'
end
end Go.Proofs.Ytdjadeegjbhihaa

/- Calls of whatever kind as one operation: of a function value, of a method behind an interface; function values made. -/
namespace Go.Proofs.Ytdjadeegjbhihaa
open Go

/-- A call whose arguments are told by ar. -/
def behCallG (G : Con) (ar : St → Option (List A)) (L M : List Nat) (d : Nat) : St → Prop × (List V → Prop) := fun σ =>
  (∃ ls, ar σ = some ls ∧ d < σ.n ∧ (∀ i ∈ M, σ.b i = .fresh) ∧ A.withins L ls = true ∧ (∀ i ∈ L, (σ.b i).within L = true) ∧ G.pre ls (boxesA σ L) ∧ ∃ r bs', G.post ls (boxesA σ L) r bs',
   fun us => ∃ ls, ar σ = some ls ∧ ∃ r bs', G.post ls (boxesA σ L) r bs' ∧ us = .a r :: (L ++ M).map fun i => .b ((bs'.lookup i).getD .none))

section
variable {P : Program} {C : Ctx} {ops : Array Oper} {os : List Oper} {cs : List Cert} {σ : St} {K : St → Prop} {d : Nat} {ty : TypeId} {pos : String} {af : Array Edge}

theorem ok_callG {op : Op} {f : FuncId} {G : Con} {rd0 : List Key} {ar : St → Option (List A)} (L M : List Nat) (hG : G.ok P f (L ++ M)) (hm : ∀ (σ : St) (rd : List Key), (∀ k ∈ rd0, k ∈ rd) → ar (σ.mask rd) = ar σ)
    (hcall : ∀ (σ : St) (a : Act) (w : World) (F : Nat → Prop) (E : Nat → Option Nat) (H : Nat → Nat → Option Value) (ls : List A), RelE C σ a w F E H → ar σ = some ls → ∃ vs : Array Value, vs.size = ls.length ∧ (∀ (i : Nat) (x : A), ls[i]? = some x → Den w F E H x (vs.getD i undef)) ∧ (execOp a.eval ⟨some d, op, ty, pos, af, none⟩).run P w = .ok (.enter f vs) w) :
    OpOk P C ops ⟨some d, op, ty, pos, af, none⟩ ⟨rd0 ++ (L ++ M).map B, T d :: (L ++ M).map B, behCallG G ar L M d⟩ := by
  refine OpOk.of rfl (by simp [dstIn]) (fun σ h => ?_) (fun σ => ?_) (fun σ a w F E H K Q hR hsafe hK => ?_)
  · obtain ⟨ls, e, _, _, _, _, _, r, bs', h⟩ := h
    exact ⟨_, ls, e, r, bs', h, rfl⟩
  · have e1 : ar (σ.mask (rd0 ++ (L ++ M).map B)) = ar σ := hm σ _ fun k hk => List.mem_append_left _ hk
    have e3 : ∀ i ∈ L ++ M, (σ.mask (rd0 ++ (L ++ M).map B)).b i = σ.b i := fun i hi => bx_mask (List.mem_append_right _ (List.mem_map.2 ⟨i, hi, rfl⟩))
    have e2 : boxesA (σ.mask (rd0 ++ (L ++ M).map B)) L = boxesA σ L := by
      unfold boxesA
      refine List.map_congr_left fun i hi => ?_
      rw [e3 i (List.mem_append_left _ hi)]
    have e4 : (∀ i ∈ M, (σ.mask (rd0 ++ (L ++ M).map B)).b i = .fresh) ↔ ∀ i ∈ M, σ.b i = .fresh := by
      constructor
      · intro h i hi; rw [← e3 i (List.mem_append_right _ hi)]; exact h i hi
      · intro h i hi; rw [e3 i (List.mem_append_right _ hi)]; exact h i hi
    have e5 : (∀ i ∈ L, ((σ.mask (rd0 ++ (L ++ M).map B)).b i).within L = true) ↔ ∀ i ∈ L, (σ.b i).within L = true := by
      constructor
      · intro h i hi; rw [← e3 i (List.mem_append_left _ hi)]; exact h i hi
      · intro h i hi; rw [e3 i (List.mem_append_left _ hi)]; exact h i hi
    unfold behCallG
    simp only [e1, e2, e4, e5]
    rfl
  · obtain ⟨ls, har, hd, hM, hwa, hwb, hpre, _⟩ := hsafe
    obtain ⟨vs, hvs, hden, hrun⟩ := hcall σ a w F E H ls hR har
    obtain ⟨hspec, hwith⟩ := hG _ _ hpre
    let E1 : Nat → Option Nat := fun i => if L.contains i then E i else none
    let H1 : Nat → Nat → Option Value := fun i k => if L.contains i then H i k else none
    have hE1 : ∀ i ∈ L, E1 i = E i := fun i hi => if_pos (by simpa using hi)
    have hH1 : ∀ i ∈ L, ∀ k, H1 i k = H i k := fun i hi k => if_pos (by simpa using hi)
    have hlk : ∀ i x, (boxesA σ L).lookup i = some x → i ∈ L ∧ σ.b i = x := fun i x h => by
      rw [boxesA_lookup] at h
      split at h
      · rename_i hi; exact ⟨hi, Option.some.inj h⟩
      · cases h
    have hpo : PreOk w F E1 H1 (boxesA σ L) := by
      refine ⟨hR.env.Flt, fun i x h => ?_, fun i x b h hb => ?_, fun i j x y b hij hx hy h1 h2 => ?_, fun i h => ?_⟩
      · obtain ⟨hi, rfl⟩ := hlk i x h
        exact (hR.env.box i).names hE1 hH1 hi (hwb i hi)
      · obtain ⟨hi, rfl⟩ := hlk i x h
        rw [blk_names (hE1 i hi) (hH1 i hi)] at hb
        exact (hR.env.live i b hb).1
      · obtain ⟨hi, rfl⟩ := hlk i x hx
        obtain ⟨hj, rfl⟩ := hlk j y hy
        rw [blk_names (hE1 i hi) (hH1 i hi)] at h1
        rw [blk_names (hE1 j hj) (hH1 j hj)] at h2
        exact hR.env.sep i j b hij h1 h2
      · rw [boxesA_lookup] at h
        split at h
        · cases h
        · rename_i hi
          have : L.contains i = false := by simpa using hi
          exact ⟨if_neg (by rw [this]; decide), fun k => if_neg (by rw [this]; decide)⟩
    unfold Oper.wp
    rw [hrun, Oper.upon_enter]
    refine (hspec w F E1 H1 vs hpo hvs (fun i x hx => (hden i x hx).names hE1 hH1 (withins_get hwa i _ hx))).mono ?_
    · rintro e w' ⟨v, r, bs', F', E', H', rfl, hpost, hp, hden'⟩
      obtain ⟨hwr, hwx⟩ := hwith r bs' hpost
      let E2 : Nat → Option Nat := fun i => if (L ++ M).contains i then E' i else E i
      let H2 : Nat → Nat → Option Value := fun i k => if (L ++ M).contains i then H' i k else H i k
      have hE2 : ∀ i ∈ L ++ M, E2 i = E' i := fun i hi => if_pos (by simpa using hi)
      have hH2 : ∀ i ∈ L ++ M, ∀ k, H2 i k = H' i k := fun i hi k => if_pos (by simpa using hi)
      have hE3 : ∀ i, i ∉ L ++ M → E2 i = E i := fun i hi => if_neg (by simpa using hi)
      have hH3 : ∀ i k, i ∉ L ++ M → H2 i k = H i k := fun i k hi => if_neg (by simpa using hi)
      have hfr : ∀ i ∈ M, E i = none ∧ ∀ k, H i k = none := fun i hi => by
        have := hR.env.box i
        rw [hM i hi] at this
        exact this
      have hEm : ∀ i b, E i = some b → E2 i = some b := fun i b hb => by
        by_cases hi : i ∈ L ++ M
        · rw [hE2 i hi]
          rcases List.mem_append.1 hi with h | h
          · exact hp.en i b (by rw [hE1 i h]; exact hb)
          · rw [(hfr i h).1] at hb; cases hb
        · rw [hE3 i hi]; exact hb
      have hHm : ∀ i k v, H i k = some v → H2 i k = some v := fun i k v hv => by
        by_cases hi : i ∈ L ++ M
        · rw [hH2 i hi]
          rcases List.mem_append.1 hi with h | h
          · exact hp.hn i k v (by rw [hH1 i h]; exact hv)
          · rw [(hfr i h).2 k] at hv; cases hv
        · rw [hH3 i k hi]; exact hv
      have hold : ∀ b, b < w.heap.size → (∀ i, i ∈ L ++ M → blk E H i (σ.b i) ≠ some b) → w'.heap[b]? = w.heap[b]? := fun b hb hn => hp.old b hb fun i x hx hxb => by
        obtain ⟨hi, rfl⟩ := hlk i x hx
        rw [blk_names (hE1 i hi) (hH1 i hi)] at hxb
        exact hn i (List.mem_append_left _ hi) hxb
      let bx' : Nat → Bx := fun i => if i ∈ L ++ M then (bs'.lookup i).getD .none else σ.b i
      have hb1 : ∀ i ∈ L ++ M, bx' i = (bs'.lookup i).getD .none := fun i hi => if_pos hi
      have hbk : ∀ i ∈ L ++ M, ∀ b, blk E2 H2 i (bx' i) = some b → ∃ x, bs'.lookup i = some x ∧ blk E' H' i x = some b := fun i hi b hb => by
        rw [hb1 i hi, blk_names (hE2 i hi) (hH2 i hi)] at hb
        cases hl : bs'.lookup i with
        | none => rw [hl] at hb; cases hb
        | some x => rw [hl] at hb; exact ⟨x, rfl, hb⟩
      have env : Env C w' F' E2 H2 bx' := hR.env.step (· ∈ L ++ M) hp.os hp.tape hp.output hp.size hold hp.fr
        (fun b hb => by
          rcases hp.Fnew b hb with h | h
          · exact .inl h
          · exact .inr ⟨hp.Flt b hb, .inl h⟩) hEm hHm hE3 hH3 (fun i hi => if_neg hi)
        (fun i hi => by
          rw [hb1 i hi]
          cases hl : bs'.lookup i with
          | none => trivial
          | some x => exact (hp.box i x hl).names hE2 hH2 hi (hwx i x hl).2)
        (fun i hi b hb => by
          obtain ⟨x, hx, hxb⟩ := hbk i hi b hb
          refine ⟨hp.nf i x b hx hxb, ?_⟩
          rcases hp.live i x b hx hxb with ⟨j, y, hy, hyb⟩ | h
          · obtain ⟨hj, rfl⟩ := hlk j y hy
            rw [blk_names (hE1 j hj) (hH1 j hj)] at hyb
            exact .inr ⟨j, List.mem_append_left _ hj, hyb⟩
          · exact .inl h)
        (fun i j b hi hj hij h1 h2 => by
          obtain ⟨x, hx, hxb⟩ := hbk i hi b h1
          obtain ⟨y, hy, hyb⟩ := hbk j hj b h2
          exact hp.sep i j x y b hij hx hy hxb hyb)
      have hFw : ∀ b, F b → w'.heap[b]? = w.heap[b]? := fun b hb => hold b (hR.env.Flt b hb) fun i _ e => hR.env.frozen hb i e
      have hnew : RelE C ⟨σ.n, σ.t, bx'⟩ a w' F' E2 H2 := hR.move env hp.fr hFw hEm hHm
      have hput := hnew.put (d := d) (r := r) hd (hden'.names hE2 hH2 hwr)
      refine hK _ _ _ ⟨ls, har, r, bs', hpost, rfl⟩ ?_
      have : σ.puts (T d :: (L ++ M).map B) (.a r :: (L ++ M).map fun i => .b ((bs'.lookup i).getD .none)) = (⟨σ.n, σ.t, bx'⟩ : St).put (T d) (.a r) := by
        rw [St.puts, puts_boxes (fun i => (bs'.lookup i).getD .none)]
        rfl
      rw [this]
      exact hput.r

/-! Function values. -/
def rFunc (fn : Fn) (fs gs : List Operand) (σ : St) : Option A := some (.fn fn (fs.map (aev σ)) (gs.map (aev σ)))
theorem ok_mkf (fn : Fn) (fs gs : List Operand) : OpOk P C ops ⟨some d, .makeFunc fn fs.toArray gs.toArray, ty, pos, af, none⟩ ⟨fs.flatMap kof ++ gs.flatMap kof, [T d], beh1 (rFunc fn fs gs) d⟩ :=
  OpOk.read rfl rfl (fun σ => by
    have e : ∀ (ys : List Operand), (∀ k ∈ ys.flatMap kof, k ∈ fs.flatMap kof ++ gs.flatMap kof) → ys.map (aev (σ.mask (fs.flatMap kof ++ gs.flatMap kof))) = ys.map (aev σ) := fun ys h =>
      List.map_congr_left fun y hy => aev_mask fun k hk => h k (List.mem_flatMap.2 ⟨y, hy, hk⟩)
    unfold rFunc
    rw [e fs (fun k h => List.mem_append_left _ h), e gs (fun k h => List.mem_append_right _ h)]) fun σ a w F E H r hR h => by
    obtain rfl := Option.some.inj h
    have key : ∀ (ys : List Operand) (i : Nat) (x : A), (ys.map (aev σ))[i]? = some x → Den w F E H x ((ys.map a.eval).toArray.getD i undef) := fun ys i x hx => by
      simp only [List.getElem?_map, Option.map_eq_some_iff] at hx
      obtain ⟨q, hq, rfl⟩ := hx
      have e : (ys.map a.eval).toArray.getD i undef = a.eval q := by simp [Array.getD_eq_getD_getElem?, hq]
      rw [e]
      exact hR.ev q
    refine ⟨.func fn (fs.map a.eval).toArray (gs.map a.eval).toArray, ?_, .fn fn _ _ _ _ (by simp) (by simp) (key fs) (key gs)⟩
    simp [execOp, Instr.makeFunc]
theorem Wk.mkf {fn : Fn} {fs gs : List Operand} (hd : d < σ.n) (h : Wk P C ops os cs (σ.put (T d) (.a (.fn fn (fs.map (aev σ)) (gs.map (aev σ))))) K) :
    Wk P C ops (⟨some d, .makeFunc fn fs.toArray gs.toArray, ty, pos, af, none⟩ :: os) (⟨fs.flatMap kof ++ gs.flatMap kof, [T d], beh1 (rFunc fn fs gs) d⟩ :: cs) σ K := Wk.read (ok_mkf fn fs gs) _ hd rfl h
/-- The arguments of a call of a function value. -/
def argsF (f : FuncId) (x : Operand) (xs : List Operand) (σ : St) : Option (List A) :=
  match aev σ x with
  | .fn (.func f') fs gs => if f' = f then some ((fs ++ (xs.map (aev σ) ++ gs)).map nrm) else none
  | _ => none
theorem dens_append {w : World} {F : Nat → Prop} {E : Nat → Option Nat} {H : Nat → Nat → Option Value} {xs ys : List A} {us vs : Array Value} (hs : us.size = xs.length) (hx : ∀ (i : Nat) (x : A), xs[i]? = some x → Den w F E H x (us.getD i undef)) (hy : ∀ (i : Nat) (x : A), ys[i]? = some x → Den w F E H x (vs.getD i undef)) :
    ∀ (i : Nat) (x : A), (xs ++ ys)[i]? = some x → Den w F E H x ((us ++ vs).getD i undef) := fun i x h => by
  by_cases hi : i < xs.length
  · rw [List.getElem?_append_left hi] at h
    have e : (us ++ vs).getD i undef = us.getD i undef := by simp [Array.getD_eq_getD_getElem?, Array.getElem?_append_left (hs.symm ▸ hi : i < us.size)]
    rw [e]; exact hx i x h
  · rw [List.getElem?_append_right (by omega)] at h
    have e : (us ++ vs).getD i undef = vs.getD (i - xs.length) undef := by simp [Array.getD_eq_getD_getElem?, Array.getElem?_append_right (by omega : us.size ≤ i), hs]
    rw [e]; exact hy _ x h
theorem den_fnc {w : World} {F : Nat → Prop} {E : Nat → Option Nat} {H : Nat → Nat → Option Value} {fn : Fn} {fs gs : List A} {v : Value} (h : Den w F E H (.fn fn fs gs) v) :
    ∃ cs ds : Array Value, v = .func fn cs ds ∧ cs.size = fs.length ∧ ds.size = gs.length ∧ (∀ (i : Nat) (x : A), fs[i]? = some x → Den w F E H x (cs.getD i undef)) ∧ ∀ (i : Nat) (x : A), gs[i]? = some x → Den w F E H x (ds.getD i undef) := by
  cases h with | fn _ _ _ cs ds hs ht h h' => exact ⟨cs, ds, rfl, hs, ht, h, h'⟩
theorem ok_clf {f : FuncId} {fn : Func} {at_ : Array TypeId} {x : Operand} {xs : List Operand} {G : Con} (L M : List Nat) (hf : P.funcs[f]? = some fn) (hbody : fn.body.isSome = true) (hname : (fn.name == "runtime.NumGoroutine") = false) (hG : G.ok P f (L ++ M)) :
    OpOk P C ops ⟨some d, .call { callee := .value x, args := xs.toArray, argTypes := at_ }, ty, pos, af, none⟩ ⟨(kof x ++ xs.flatMap kof) ++ (L ++ M).map B, T d :: (L ++ M).map B, behCallG G (argsF f x xs) L M d⟩ :=
  ok_callG L M hG (fun σ rd h => by
    unfold argsF
    rw [aev_mask fun k hk => h k (List.mem_append_left _ hk), List.map_congr_left fun y hy => aev_mask (σ := σ) (rd := rd) fun k hk => h k (List.mem_append_right _ (List.mem_flatMap.2 ⟨y, hy, hk⟩))]) fun σ a w F E H ls hR har => by
    unfold argsF at har
    split at har
    · rename_i f' fs gs he
      split at har
      · rename_i hff
        subst hff
        obtain rfl := Option.some.inj har
        have hd := hR.ev x
        rw [he] at hd
        obtain ⟨cs, ds, hv, hs, ht, h1, h2⟩ := den_fnc hd
        have hn : ¬ fn.name = "runtime.NumGoroutine" := by simpa using hname
        have hb2 : fn.body ≠ none := by intro e; rw [e] at hbody; cases hbody
        have hx : ∀ (i : Nat) (y : A), (xs.map (aev σ))[i]? = some y → Den w F E H y ((xs.map a.eval).toArray.getD i undef) := fun i y hy => by
          simp only [List.getElem?_map, Option.map_eq_some_iff] at hy
          obtain ⟨q, hq, rfl⟩ := hy
          have e : (xs.map a.eval).toArray.getD i undef = a.eval q := by simp [Array.getD_eq_getD_getElem?, hq]
          rw [e]; exact hR.ev q
        refine ⟨cs ++ ((xs.map a.eval).toArray ++ ds), by simp [hs, ht], fun i y hy => ?_, ?_⟩
        · simp only [List.getElem?_map, Option.map_eq_some_iff] at hy
          obtain ⟨z, hz, rfl⟩ := hy
          exact (dens_append hs h1 (dens_append (by simp) hx h2) i z hz).nrm
        · simp only [execOp, resolve]
          rw [hv]
          simp [Deferred.ofValue, invoke, callFunc, hf, hn, hb2]
      · cases har
    · cases har
/-- What comes of a call hangs on the boxes that it was handed, and on those that it made. -/
def PostIn (L : List Nat) (post : A → List (Nat × Bx) → Prop) : Prop := ∀ r bs', post r bs' → r.within L = true ∧ ∀ i x, bs'.lookup i = some x → i ∈ L ∧ x.within L = true
theorem Con.at_ok {f : FuncId} {ls : List A} {bs : List (Nat × Bx)} {post : A → List (Nat × Bx) → Prop} {L : List Nat} (h : Spec P f ls bs post) (hp : PostIn L post) : (Con.at ls bs post).ok P f L := by
  rintro aas' bs' ⟨rfl, rfl⟩
  exact ⟨h, hp⟩
/-- A call of a function value. -/
theorem Wk.clf {f : FuncId} {fn : Func} {at_ : Array TypeId} {x : Operand} {xs : List Operand} {ls : List A} {bs : List (Nat × Bx)} {post : A → List (Nat × Bx) → Prop} (L M : List Nat) (h : Spec P f ls bs post) (hp : PostIn (L ++ M) post) (hex : ∃ r bs', post r bs')
    (hf : P.funcs[f]? = some fn) (hbody : fn.body.isSome = true) (hname : (fn.name == "runtime.NumGoroutine") = false) (hargs : argsF f x xs σ = some ls) (hbx : boxesA σ L = bs) (hM : ∀ i ∈ M, σ.b i = .fresh) (hw : A.withins L ls = true) (hwb : ∀ i ∈ L, (σ.b i).within L = true) (hd : d < σ.n)
    (hk : ∀ r bs', post r bs' → Wk P C ops os cs (σ.puts (T d :: (L ++ M).map B) (.a r :: (L ++ M).map fun i => .b ((bs'.lookup i).getD .none))) K) :
    Wk P C ops (⟨some d, .call { callee := .value x, args := xs.toArray, argTypes := at_ }, ty, pos, af, none⟩ :: os) (⟨(kof x ++ xs.flatMap kof) ++ (L ++ M).map B, T d :: (L ++ M).map B, behCallG (Con.at ls bs post) (argsF f x xs) L M d⟩ :: cs) σ K := by
  refine Wk.cons (ok_clf L M hf hbody hname (Con.at_ok h hp)) ?_ ?_
  · exact ⟨ls, hargs, hd, hM, hw, hwb, ⟨rfl, hbx⟩, hex⟩
  · rintro us ⟨_, _, r, bs', hpost, rfl⟩
    exact hk r bs' hpost
/-- A call by its contract at what it is handed. -/
theorem Wk.cal {f : FuncId} {fn : Func} {at_ : Array TypeId} {xs : List Operand} {ls : List A} {bs : List (Nat × Bx)} {post : A → List (Nat × Bx) → Prop} (L M : List Nat) (h : Spec P f ls bs post) (hp : PostIn (L ++ M) post) (hex : ∃ r bs', post r bs')
    (hf : P.funcs[f]? = some fn) (hbody : fn.body.isSome = true) (hname : (fn.name == "runtime.NumGoroutine") = false) (hargs : argsA σ xs = ls) (hbx : boxesA σ L = bs) (hM : ∀ i ∈ M, σ.b i = .fresh) (hw : A.withins L ls = true) (hwb : ∀ i ∈ L, (σ.b i).within L = true) (hd : d < σ.n)
    (hk : ∀ r bs', post r bs' → Wk P C ops os cs (σ.puts (T d :: (L ++ M).map B) (.a r :: (L ++ M).map fun i => .b ((bs'.lookup i).getD .none))) K) :
    Wk P C ops (⟨some d, .call { callee := .value (.func f), args := xs.toArray, argTypes := at_ }, ty, pos, af, none⟩ :: os) (⟨xs.flatMap kof ++ (L ++ M).map B, T d :: (L ++ M).map B, behCall (Con.at ls bs post) xs L M d⟩ :: cs) σ K := by
  refine Wk.cons (ok_call L M hf hbody hname (Con.at_ok h hp)) ?_ ?_
  · exact ⟨hd, hM, by rw [hargs]; exact hw, hwb, ⟨hargs, hbx⟩, hex⟩
  · rintro us ⟨r, bs', hpost, rfl⟩
    exact hk r bs' hpost
end
end Go.Proofs.Ytdjadeegjbhihaa

/- The greater of two ints. -/
namespace Go.Proofs.Ytdjadeegjbhihaa
open Go Go.RowKit
section
variable {P : Program} {C : Ctx} {ops : Array Oper} {os : List Oper} {cs : List Cert} {σ : St} {K : St → Prop} {d : Nat} {ty : TypeId} {pos : String} {af : Array Edge}
def rMax (x y : Operand) (σ : St) : Option A := (sc (aev σ x)).bind fun u => (sc (aev σ y)).bind fun v => match u, v with | .int k a, .int _ b => some (.d (.v (.int k (if b > a then b else a)))) | _, _ => none
theorem ok_max (x y : Operand) {at_ : Array TypeId} : OpOk P C ops ⟨some d, .call { callee := .builtin .max, args := #[x, y], argTypes := at_ }, ty, pos, af, none⟩ ⟨kof x ++ kof y, [T d], beh1 (rMax x y) d⟩ :=
  OpOk.read rfl rfl (fun σ => by unfold rMax; rw [aev_mask (fun k h => List.mem_append_left _ h), aev_mask (fun k h => List.mem_append_right _ h)]) fun σ a w F E H r hR h => by
    simp only [rMax, Option.bind_eq_some_iff] at h
    obtain ⟨u, hu, v, hv, h⟩ := h
    have e1 := den_sc hu (hR.ev x)
    have e2 := den_sc hv (hR.ev y)
    split at h
    · obtain rfl := Option.some.inj h
      refine ⟨_, ?_, .d _ _ (.v _)⟩
      simp [execOp, resolve, invoke, builtin, e1, e2, Builtin.max_, Builtin.max2]
    · cases h
theorem Wk.max2 {x y : Operand} {at_ : Array TypeId} {k k' : IntKind} {u v r : Int} (hx : aev σ x = .d (.v (.int k u))) (hy : aev σ y = .d (.v (.int k' v))) (hr : (if v > u then v else u) = r) (hd : d < σ.n)
    (h : Wk P C ops os cs (σ.put (T d) (.a (.d (.v (.int k r))))) K) : Wk P C ops (⟨some d, .call { callee := .builtin .max, args := #[x, y], argTypes := at_ }, ty, pos, af, none⟩ :: os) (⟨kof x ++ kof y, [T d], beh1 (rMax x y) d⟩ :: cs) σ K :=
  Wk.read (ok_max x y) _ hd (by simp only [rMax, hx, hy, sc, Option.bind_some, hr]) h
end
end Go.Proofs.Ytdjadeegjbhihaa

/- A call by a contract for all that may be handed to it. -/
namespace Go.Proofs.Ytdjadeegjbhihaa
open Go
def FunX (P : Program) (f : FuncId) (pre : List A → Prop) (post : List A → A → List (Nat × Bx) → Prop) (M : List Nat) : Prop :=
  (∀ aas, pre aas → Spec P f aas [] (post aas)) ∧ (∀ aas, pre aas → ∃ r bs, post aas r bs) ∧ ∀ aas r bs, post aas r bs → r.within M = true ∧ ∀ i x, bs.lookup i = some x → i ∈ M ∧ x.within M = true
def conFnX (pre : List A → Prop) (post : List A → A → List (Nat × Bx) → Prop) : Con := ⟨fun aas bs => bs = [] ∧ pre aas, fun aas _ r bs' => post aas r bs'⟩
theorem conFnX_ok {P : Program} {f : FuncId} {pre : List A → Prop} {post : List A → A → List (Nat × Bx) → Prop} {M : List Nat} (h : FunX P f pre post M) : (conFnX pre post).ok P f ([] ++ M) := by
  rintro aas bs ⟨rfl, hp⟩
  exact ⟨h.1 aas hp, fun r bs' hr => by simpa using h.2.2 aas r bs' hr⟩
theorem Wk.fnx {P : Program} {C : Ctx} {ops : Array Oper} {os : List Oper} {cs : List Cert} {σ : St} {K : St → Prop} {d : Nat} {ty : TypeId} {pos : String} {af : Array Edge} {f : FuncId} {fn : Func} {at_ : Array TypeId} {xs : List Operand} {pre : List A → Prop} {post : List A → A → List (Nat × Bx) → Prop} (M : List Nat) (h : FunX P f pre post M) (hf : P.funcs[f]? = some fn) (hbody : fn.body.isSome = true) (hname : (fn.name == "runtime.NumGoroutine") = false)
    {aas : List A} (hargs : argsA σ xs = aas) (hpre : pre aas) (hw : A.withins [] aas = true) (hM : ∀ i ∈ M, σ.b i = .fresh) (hd : d < σ.n)
    (hk : ∀ r ex, post aas r ex → Wk P C ops os cs (σ.puts (T d :: M.map B) (.a r :: M.map fun i => .b ((ex.lookup i).getD .none))) K) :
    Wk P C ops (⟨some d, .call { callee := .value (.func f), args := xs.toArray, argTypes := at_ }, ty, pos, af, none⟩ :: os) (⟨xs.flatMap kof ++ ([] ++ M).map B, T d :: ([] ++ M).map B, behCall (conFnX pre post) xs [] M d⟩ :: cs) σ K := by
  refine Wk.cons (ok_call [] M hf hbody hname (conFnX_ok h)) ?_ ?_
  · obtain ⟨r, bs, hr⟩ := h.2.1 aas hpre
    exact ⟨hd, hM, by rw [hargs]; exact hw, (fun i hi => (List.not_mem_nil hi).elim), ⟨rfl, by rw [hargs]; exact hpre⟩, r, bs, by rw [hargs]; exact hr⟩
  · rintro us ⟨r, bs', hpost, rfl⟩
    rw [hargs] at hpost
    exact hk r bs' hpost
theorem Spec.imp {P : Program} {f : FuncId} {aas : List A} {bs : List (Nat × Bx)} {post post' : A → List (Nat × Bx) → Prop} (h : Spec P f aas bs post) (hi : ∀ r bs', post r bs' → post' r bs') : Spec P f aas bs post' := by
  intro w F E H args hpo hs hd
  refine (h w F E H args hpo hs hd).mono ?_
  rintro e w' ⟨v, r, bs', F', E', H', h1, h2, h3, h4⟩
  exact ⟨v, r, bs', F', E', H', h1, hi _ _ h2, h3, h4⟩
/-- An answer that is data. -/
theorem FunX.of {P : Program} {f : FuncId} {pre : List A → Prop} {post : A → Prop} (h : ∀ aas, pre aas → ∃ r, DataOk P f aas r ∧ post r) (h2 : ∃ r, post r) (h3 : ∀ r, post r → r.within [] = true) : FunX P f pre (fun _ r bs => post r ∧ bs = []) [] := by
  refine ⟨fun aas ha => ?_, fun aas ha => ?_, ?_⟩
  · obtain ⟨r, hr, hp⟩ := h aas ha
    refine Spec.imp hr ?_
    rintro r' bs ⟨rfl, rfl⟩
    exact ⟨hp, rfl⟩
  · obtain ⟨r, hr⟩ := h2
    exact ⟨r, [], hr, rfl⟩
  · rintro aas r bs ⟨hr, rfl⟩
    exact ⟨h3 r hr, fun i x hx => by cases hx⟩
end Go.Proofs.Ytdjadeegjbhihaa

/- The laws' own comparisons, over what values read as. -/
namespace Go.Proofs.Ytdjadeegjbhihaa
open Go

theorem liBytes_ok (zs ys : List Nat) : DataOk Try.prog 109 [.d (bytesD zs), .d (bytesD ys)] (.d (.v (.bool (decide (zs = ys))))) := by
  refine Spec.intro (n := 26) (rv := [.tmp 4]) Try.func109 rfl rfl rfl (by simp) fun C hN hX => ?_
  refine AW.bound (x := .tmp 0) rfl fun hb => ?_
  simp only [List.length_map] at hb
  refine AW.seq ?_
  apply AW.list
  apply Wk.asg (by conv => lhs; whnf) (lt_of_ble rfl)
  refine Wk.nil ?_
  refine AW.seq (AW.seq ?_)
  apply AW.list
  apply Wk.mv (by conv => lhs; whnf) (lt_of_ble rfl)
  apply Wk.len Try.underlying64 rfl (lt_of_ble rfl)
  apply Wk.mv (by conv => lhs; whnf) (lt_of_ble rfl)
  apply Wk.len Try.underlying64 rfl (lt_of_ble rfl)
  apply Wk.bin rfl rfl (fun w => by simp [go_sem]; rfl) (lt_of_ble rfl)
  refine Wk.nil ?_
  refine AW.cond rfl (fun h => ?_) (fun h => ?_)
  · refine AW.seq ?_
    apply AW.list
    apply Wk.asg (by conv => lhs; whnf) (lt_of_ble rfl)
    refine Wk.nil (AW.ret ?_)
    repeat (first | refine thenA_ret ?_ | refine inBlockA_ret ?_)
    refine RetQ.ret [] (.cons rfl .nil) ⟨?_, rfl⟩ none_kept
    simp only [bne_iff_ne, ne_eq, Int.natCast_inj] at h
    have : ¬ zs = ys := fun e => h (by rw [e])
    simp only [this, decide_false]
    rfl
  · simp only [bne_eq_false_iff_eq, Int.natCast_inj] at h
    refine AW.skip (thenA_normal ?_)
    refine AW.seq (AW.seq ?_)
    apply AW.list
    apply Wk.asg (by conv => lhs; whnf) (lt_of_ble rfl)
    refine Wk.nil (AW.block ?_)
    refine AW.loop (fun k => St.of 26 [(0, .d (bytesD zs)), (1, .d (bytesD ys)), (5, .d (.v (.int .i64 (k : Nat))))] []) (fun k => k ≤ zs.length ∧ ∀ j, j < k → zs.getD j 0 = ys.getD j 0) (fun k => zs.length - k) 0 ⟨Nat.zero_le _, fun j hj => by omega⟩ ?_ (fun k hk => ?_)
    · exact fun a w => Rel.keep ⟨rfl, .cons rfl rfl (.cons rfl rfl (.cons rfl rfl .nil)), .nil, hN⟩
    refine AW.seq (AW.seq ?_)
    apply AW.list
    apply Wk.mv (by conv => lhs; whnf) (lt_of_ble rfl)
    apply Wk.mv (by conv => lhs; whnf) (lt_of_ble rfl)
    apply Wk.len Try.underlying64 rfl (lt_of_ble rfl)
    apply Wk.bin rfl rfl (fun w => by simp [go_sem]; rfl) (lt_of_ble rfl)
    refine Wk.nil ?_
    refine AW.cond rfl (fun hc => ?_) (fun hc => ?_)
    · refine AW.skip ?_
      repeat (first | refine thenA_normal ?_ | refine inBlockA_normal ?_)
      have hlt : k < zs.length := by simpa using hc
      refine AW.seq (AW.block (AW.seq ?_))
      apply AW.draw (hm := hmix) (cs := _)
      · apply Wk.mv (by conv => lhs; whnf) (lt_of_ble rfl)
        apply Wk.mv (by conv => lhs; whnf) (lt_of_ble rfl)
        apply Wk.iad 1 false Try.underlying64 ty5 rfl rfl (by simpa using hlt) (one_bytes _) (lt_of_ble rfl)
        apply Wk.ldr 1 false ty5 rfl (bytes_get zs k hlt) rfl (lt_of_ble rfl)
        apply Wk.mv (by conv => lhs; whnf) (lt_of_ble rfl)
        apply Wk.mv (by conv => lhs; whnf) (lt_of_ble rfl)
        apply Wk.iad 1 false Try.underlying64 ty5 rfl rfl (by simp; omega) (one_bytes _) (lt_of_ble rfl)
        apply Wk.ldr 1 false ty5 rfl (bytes_get ys k (by omega)) rfl (lt_of_ble rfl)
        apply Wk.bin rfl rfl (fun w => by simp [go_sem]; rfl) (lt_of_ble rfl)
        refine Wk.nil ?_
        refine AW.cond rfl (fun hn => ?_) (fun hn => ?_)
        · refine AW.seq ?_
          apply AW.list
          apply Wk.asg (by conv => lhs; whnf) (lt_of_ble rfl)
          refine Wk.nil (AW.ret ?_)
          repeat (first | refine thenA_ret ?_ | refine inBlockA_ret ?_)
          refine RetQ.ret [] (.cons rfl .nil) ⟨?_, rfl⟩ none_kept
          have : ¬ zs = ys := fun e => by simp [e] at hn
          simp only [this, decide_false]
          rfl
        · refine AW.skip ?_
          repeat (first | refine thenA_normal ?_ | refine inBlockA_normal ?_)
          apply AW.list
          apply Wk.mv (by conv => lhs; whnf) (lt_of_ble rfl)
          apply Wk.addi rfl rfl (by omega) (lt_of_ble rfl)
          apply Wk.asg (by conv => lhs; whnf) (lt_of_ble rfl)
          refine Wk.nil ?_
          refine ⟨k + 1, ⟨by omega, fun j hj => ?_⟩, by omega, fun a w => Rel.keep ⟨rfl, .cons rfl rfl (.cons rfl rfl (.cons rfl rfl .nil)), .nil, hN⟩⟩
          by_cases e : j = k
          · subst e
            simp only [bne_eq_false_iff_eq, Int.natCast_inj] at hn
            exact hn
          · exact hk.2 j (by omega)
      · rfl
      · rfl
    · refine AW.exit ?_
      repeat (first | refine inBlockA_same ?_ | refine thenA_exit ?_)
      repeat (first | refine thenA_normal ?_ | refine inBlockA_normal ?_)
      refine AW.seq ?_
      apply AW.list
      apply Wk.asg (by conv => lhs; whnf) (lt_of_ble rfl)
      refine Wk.nil (AW.ret ?_)
      repeat (first | refine thenA_ret ?_ | refine inBlockA_ret ?_)
      refine RetQ.ret [] (.cons rfl .nil) ⟨?_, rfl⟩ none_kept
      have : zs = ys := List.ext_getElem h fun j h1 h2 => by
        have := hk.2 j (by simp at hc; omega)
        simpa [List.getD_eq_getElem?_getD, h1, h2] using this
      simp only [this, decide_true]
      rfl
end Go.Proofs.Ytdjadeegjbhihaa

/- A list of zeros is made; a store into a list of the call's own. -/
namespace Go.Proofs.Ytdjadeegjbhihaa
open Go
section
variable {P : Program} {C : Ctx} {ops : Array Oper} {os : List Oper} {cs : List Cert} {σ : St} {K : St → Prop} {d : Nat} {ty : TypeId} {pos : String} {af : Array Edge}
def zerosA (zs : List Value) (n : Nat) : List (List A) := List.replicate n (zs.map fun x => .d (.v x))
theorem zerosA_len (zs : List Value) (n : Nat) : (zerosA zs n).length = n := by simp [zerosA]
theorem flat_rep {α : Type} (l : List α) : ∀ (n j : Nat), j < n * l.length → (List.replicate n l).flatten[j]? = l[j % l.length]?
  | 0, j, h => by omega
  | n + 1, j, h => by
    rw [List.replicate_succ, List.flatten_cons]
    by_cases hj : j < l.length
    · rw [List.getElem?_append_left hj, Nat.mod_eq_of_lt hj]
    · rw [List.getElem?_append_right (by omega), flat_rep l n (j - l.length) (by rw [Nat.add_mul, Nat.one_mul] at h; omega), ← Nat.mod_eq_sub_mod (by omega : j ≥ l.length)]
def rMks (x y : Operand) (i : Nat) (e : TypeId) (sz : Nat) (zs : List Value) (σ : St) : Option (List V) :=
  match aev σ x, aev σ y, σ.b i with
  | .d (.v (.int .i64 m)), .d (.v (.int .i64 n)), .fresh => if m = n ∧ 0 ≤ n ∧ n ≤ 2000000 then some [.a (.own i 0), .b (.own 0 e sz (zerosA zs n.toNat))] else none
  | _, _, _ => none
theorem ok_mks {t e : TypeId} {x y : Operand} {zs : List Value} {sz : Nat} (i : Nat) (hu : P.underlying t = some (.slice e)) (ha : appOf P e sz = true) (hz : zeroOf P e = some zs) (h1 : zs.all (·.oneCell') = true) :
    OpOk P C ops ⟨some d, .makeSlice t x y, ty, pos, af, none⟩ ⟨(kof x ++ kof y) ++ [B i], [T d, B i], behs (rMks x y i e sz zs) d⟩ :=
  OpOk.turn rfl (by simp [dstIn]) (fun σ => by unfold rMks; rw [aev_mask fun k hk => List.mem_append_left _ (List.mem_append_left _ hk), aev_mask fun k hk => List.mem_append_left _ (List.mem_append_right _ hk), bx_mask (by simp)]) fun σ a w F E H K Q us hR hd h hK => by
    unfold rMks at h
    split at h
    · rename_i m n hx hy hb
      split at h
      · rename_i hn
        obtain ⟨rfl, hn0, hn1⟩ := hn
        obtain rfl := Option.some.inj h
        obtain ⟨c, rfl⟩ := Int.eq_ofNat_of_zero_le hn0
        have hvx : a.eval x = .int .i64 (c : Int) := by
          have := hR.ev x
          rw [hx] at this
          exact den_v this
        have hvy : a.eval y = .int .i64 (c : Int) := by
          have := hR.ev y
          rw [hy] at this
          exact den_v this
        unfold appOf at ha
        unfold zeroOf at hz
        split at ha
        · rename_i ti hi
          simp only [Bool.and_eq_true, beq_iff_eq, decide_eq_true_eq] at ha
          obtain ⟨⟨⟨g1, g2⟩, g3⟩, g4⟩ := ha
          split at g1
          · rename_i z hzz
            simp only [hi, Option.bind_some, hzz, Option.map_some, Option.some.injEq] at hz
            have hzl : zs.length = sz := by rw [← hz]; simpa using g1
            have hbytes : ti.bytes * c ≤ 281474976710656 := by
              have : ti.bytes * c ≤ 100000000 * 2000000 := Nat.mul_le_mul g4 (by omega)
              omega
            obtain ⟨w', hr, ho, hg⟩ := run_make_full (P := P) w 0 t e ti z sz hu hi hzz g2 .i64 .i64 c hbytes (by unfold maxLen; omega) (Nat.zero_le _)
            have hfr := hR.env.box i
            rw [hb] at hfr
            have hset := hR.setown (i := i) (k := 0) (sz := sz) (e := e) (es := zerosA zs c) (v := .slice (some ⟨w.heap.size, 0, none⟩) c c) (w' := w') (fun b hbk => by rw [hb] at hbk; cases hbk) (fun q _ => hfr.2 q) (by rw [hb]; exact hg)
              (by rw [zerosA_len]; exact ho) (by intro l hl; rw [(List.mem_replicate.1 hl).2, List.length_map]; exact hzl) (by
                have hl1 := ho.1
                refine ⟨?_, fun j q u hq hu => ?_⟩
                · rw [hl1, List.length_flatten, zerosA, List.map_replicate, List.sum_replicate_nat, List.length_map, hzl]
                · have hj : j < c * sz := by
                    have := (List.getElem?_eq_some_iff.1 hu).1
                    omega
                  rw [zerosA, flat_rep _ _ _ (by rw [List.length_map, hzl]; exact hj), List.length_map, hzl, List.getElem?_map, Option.map_eq_some_iff] at hq
                  obtain ⟨u0, hu0, rfl⟩ := hq
                  have e1 : u = u0 := by
                    simp only [madeCells, Array.toList_map, Array.toList_range, List.getElem?_map, Option.map_eq_some_iff] at hu
                    obtain ⟨y, hy, rfl⟩ := hu
                    rw [List.getElem?_range hj] at hy
                    obtain rfl := Option.some.inj hy
                    have g1' : z.cells.size = sz := by simpa using g1
                    rw [g1']
                    rw [← hz] at hu0
                    have hlt : j % sz < z.cells.size := by rw [g1']; exact Nat.mod_lt _ g3
                    rw [Array.getElem?_toList, Array.getElem?_eq_getElem hlt] at hu0
                    rw [getElem!_pos z.cells (j % sz) hlt]
                    exact Option.some.inj hu0
                  subst e1
                  exact ⟨List.all_eq_true.1 h1 u (List.mem_of_getElem? hu0), .d _ _ (.v u)⟩) (.inr (.inr rfl))
            unfold Oper.wp
            have hrun : (execOp a.eval ⟨some d, .makeSlice t x y, ty, pos, af, none⟩).run P w = .ok (.value (.slice (some ⟨w.heap.size, 0, none⟩) c c)) w' := by simp only [execOp, Sem.run_bind, hvx, hvy, hr, Result.andThen_ok, Sem.run_pure]
            rw [hrun, Oper.upon_value]
            refine hK _ _ ?_
            exact (RelE.put (d := d) (r := .own i 0) hset hd (.own i 0 _ (upd2_same _ _ _ _) rfl)).r
          · cases g1
        · cases ha
      · cases h
    · cases h
theorem Wk.mks {t e : TypeId} {x y : Operand} {zs : List Value} (i sz n : Nat) (hu : P.underlying t = some (.slice e)) (ha : appOf P e sz = true) (hz : zeroOf P e = some zs) (h1 : zs.all (·.oneCell') = true) (hx : aev σ x = .d (.v (.int .i64 (n : Int)))) (hy : aev σ y = .d (.v (.int .i64 (n : Int)))) (hb : σ.b i = .fresh) (hn : n ≤ 2000000) (hd : d < σ.n)
    (h : Wk P C ops os cs ((σ.put (T d) (.a (.own i 0))).put (B i) (.b (.own 0 e sz (zerosA zs n)))) K) :
    Wk P C ops (⟨some d, .makeSlice t x y, ty, pos, af, none⟩ :: os) (⟨(kof x ++ kof y) ++ [B i], [T d, B i], behs (rMks x y i e sz zs) d⟩ :: cs) σ K :=
  Wk.turn (ok_mks i hu ha hz h1) [.a (.own i 0), .b (.own 0 e sz (zerosA zs n))] hd (by simp only [rMks, hx, hy, hb]; rw [if_pos ⟨trivial, by omega, by omega⟩]; simp) h

/-! A store. -/
theorem flat_set {es : List (List A)} {sz : Nat} (hz : ∀ c ∈ es, c.length = sz) {j off : Nat} {c aas : List A} (hj : es[j]? = some c) (ho : off + aas.length ≤ sz) : (es.set j (setA c off aas)).flatten = setA es.flatten (j * sz + off) aas := by
  induction es generalizing j with
  | nil => simp at hj
  | cons e es ih =>
    have he : e.length = sz := hz e List.mem_cons_self
    cases j with
    | zero =>
      simp only [List.getElem?_cons_zero, Option.some.injEq] at hj
      subst hj
      simp only [List.set_cons_zero, List.flatten_cons, setA, Nat.zero_mul, Nat.zero_add]
      rw [List.take_append_of_le_length (by omega), List.drop_append_of_le_length (by omega)]
      simp
    | succ j =>
      simp only [List.getElem?_cons_succ] at hj
      simp only [List.set_cons_succ, List.flatten_cons]
      rw [ih (fun c hc => hz c (List.mem_cons_of_mem _ hc)) hj]
      simp only [setA]
      have e1 : (j + 1) * sz + off = e.length + (j * sz + off) := by rw [he, Nat.add_mul]; omega
      rw [e1, List.take_length_add_append, Nat.add_assoc e.length, List.drop_length_add_append]
      simp
theorem setA_length {c aas : List A} {off : Nat} (ho : off + aas.length ≤ c.length) : (setA c off aas).length = c.length := by
  simp only [setA, List.length_append, List.length_take, List.length_drop]
  omega
theorem take_mid {α : Type} {l c : List α} {o m : Nat} (h : o + c.length ≤ m) (hm : m ≤ l.length) : (l.take o ++ c ++ l.drop (o + c.length)).take m = (l.take m).take o ++ c ++ (l.take m).drop (o + c.length) := by
  have e1 : l.drop (o + c.length) = (l.take m).drop (o + c.length) ++ l.drop m := by
    conv => lhs; rw [← List.take_append_drop m l]
    rw [List.drop_append_of_le_length (by rw [List.length_take]; omega)]
  have e2 : (l.take m).take o = l.take o := by rw [List.take_take, Nat.min_eq_left (by omega)]
  rw [e1, e2, ← List.append_assoc]
  refine List.take_left' ?_
  simp only [List.length_append, List.length_take, List.length_drop]
  omega
/-- A list's cells turned. -/
theorem RelE.turnown {a : Act} {w : World} {F : Nat → Prop} {E : Nat → Option Nat} {H : Nat → Nat → Option Value} (h : RelE C σ a w F E H) {i k sz g cap : Nat} {e : TypeId} {es es' : List (List A)} {cur vs : Array Value} {xs : List Value} (hb : σ.b i = .own k e sz es) (hv : H i k = some (.slice (some ⟨g, 0, none⟩) es.length cap)) (hk : ∀ k', k < k' → H i k' = none)
    (hh : w.heap[g]? = some (.cells cur e (0, 0))) (hl : es'.length = es.length) (hcap : es.length ≤ cap) (hmax : cap ≤ maxLen) (hsz : vs.size = cap * sz) (hxs : xs.length = es.length * sz) (htk : vs.toList.take (es.length * sz) = xs) (hz : ∀ c ∈ es', c.length = sz) (hp : Pw (CellOk w F E H) es'.flatten xs) :
    RelE C (σ.put (B i) (.b (.own k e sz es'))) a (w.setRow g vs) F E H := by
  have hbk : blk E H i (σ.b i) = some g := by rw [hb]; simp [blk, hv, Value.ownBlock]
  have hold : ∀ q, q ≠ g → (w.setRow g vs).heap[q]? = w.heap[q]? := fun q hq => setRow_other w g q vs hq
  have hF : ∀ q, F q → (w.setRow g vs).heap[q]? = w.heap[q]? := fun q hq => hold q (fun e => h.env.frozen hq i (e ▸ hbk))
  refine h.move (b' := upd σ.b i (.own k e sz es')) (h.env.step (· = i) rfl rfl rfl (by simp [World.setRow]) (fun q hq hn => hold q (fun e => hn i rfl (e ▸ hbk))) (fun _ h => h) (fun _ h => .inl h) (fun _ _ h => h) (fun _ _ _ h => h) (fun _ _ => rfl) (fun _ _ _ => rfl) (fun j hj => upd_ne _ _ hj) ?_ ?_ ?_) (fun _ h => h) hF (fun _ _ h => h) (fun _ _ _ h => h)
  · rintro j rfl
    rw [upd_same]
    refine ⟨_, xs, hv, hk, ⟨by rw [hl]; exact hxs, .inr ⟨g, cap, vs, by rw [hl], Nat.zero_le _, setRow_heap w g cur vs e (0, 0) hh, by rw [hl]; exact hcap, hmax, hsz, by rw [hl]; exact htk⟩⟩, hz, hp.mono fun a v hc => ⟨hc.1, hc.2.mono (fun _ h => h) hF (fun _ _ h => h) (fun _ _ _ h => h)⟩⟩
  · rintro j rfl q hq
    rw [upd_same] at hq
    have : blk E H j (.own k e sz es') = blk E H j (σ.b j) := by rw [hb]; rfl
    rw [this, hbk] at hq
    obtain rfl := Option.some.inj hq
    exact ⟨(h.env.live j _ hbk).1, .inr ⟨j, rfl, hbk⟩⟩
  · rintro j k q rfl rfl hjk
    exact absurd rfl hjk
def rStoO (x y : Operand) (i j off n : Nat) (σ : St) : Option (List V) :=
  match aev σ x, σ.b i with
  | .optr i' k' o, .own k e sz es => if i' = i ∧ k' = k ∧ o = j * sz + off ∧ off + n ≤ sz then (es[j]?).bind fun c => (cellsA (aev σ y)).bind fun aas => if aas.length = n then some [.b (.own k e sz (es.set j (setA c off aas)))] else none else none
  | _, _ => none
theorem ok_stoo {t : TypeId} {x y : Operand} (i j off : Nat) {n : Nat} {row : Bool} (ht : tyOf P t = some (n, row)) :
    OpOk P C ops ⟨none, .store t x y, ty, pos, af, none⟩ ⟨kof x ++ (kof y ++ [B i]), [B i], behs (rStoO x y i j off n) 0⟩ :=
  OpOk.turn rfl (by simp [dstIn]) (fun σ => by unfold rStoO; rw [bx_mask (by simp), aev_mask (fun k h => List.mem_append_left _ h), aev_mask (fun k h => List.mem_append_right _ (List.mem_append_left _ h))]) fun σ a w F E H K Q us hR hd h hK => by
    unfold rStoO at h
    split at h
    · rename_i i' k' o k e sz es he hb
      split at h
      · rename_i hi
        obtain ⟨rfl, rfl, rfl, hon⟩ := hi
        simp only [Option.bind_eq_some_iff] at h
        obtain ⟨c, hc, aas, ha, h⟩ := h
        split at h
        · rename_i hl
          obtain rfl := Option.some.inj h
          have hdx := hR.ev x
          rw [he] at hdx
          obtain ⟨b, m, cp, hH, hv⟩ := den_optr hdx
          have hbox := hR.env.box i'
          rw [hb] at hbox
          obtain ⟨v, xs, hv', hk, ho, hzz, hp⟩ := hbox
          have hpy := den_cellsA ha (hR.ev y)
          have hjl : j < es.length := (List.getElem?_eq_some_iff.1 hc).1
          rcases ho.2 with ⟨_, h2⟩ | ⟨g, cap, cur, h1, _, hg, hcap, hmax, hcs, htk⟩
          · omega
          · subst h1
            rw [hv'] at hH
            simp only [Option.some.injEq, Value.slice.injEq, Addr.mk.injEq, and_true] at hH
            obtain ⟨hgb, _, _⟩ := hH
            subst hgb
            have hn : (a.eval y).cells.size = n := by have := hpy.1; simp only [Array.length_toList] at this; omega
            have hin : j * sz + off + n ≤ es.length * sz := by
              have : (j + 1) * sz ≤ es.length * sz := Nat.mul_le_mul_right sz hjl
              rw [Nat.add_mul] at this
              omega
            have hcn : es.length * sz ≤ cap * sz := Nat.mul_le_mul_right sz hcap
            have hrun := run_store_cells (P := P) (w := w) (o := j * sz + off) ht hg (v := a.eval y) hn (by omega) (hpy.all fun _ _ h => h.1)
            have hyl : (a.eval y).cells.toList.length = n := by rw [Array.length_toList]; exact hn
            have hset := hR.turnown (es' := es.set j (setA c off aas)) (xs := xs.take (j * sz + off) ++ (a.eval y).cells.toList ++ xs.drop (j * sz + off + n))
              (vs := (cur.toList.take (j * sz + off) ++ (a.eval y).cells.toList ++ cur.toList.drop (j * sz + off + (a.eval y).cells.toList.length)).toArray) hb hv' hk hg (by simp) hcap hmax
              (by simp only [List.size_toArray, List.length_append, List.length_take, List.length_drop, hyl, Array.length_toList]; omega)
              (by have := ho.1; simp only [List.length_append, List.length_take, List.length_drop, hyl]; omega)
              (by
                rw [← htk, hyl, ← hyl]
                exact take_mid (by rw [hyl]; omega) (by rw [show cur.toList.length = cap * sz from hcs]; exact hcn))
              (by
                intro q hq
                rcases List.mem_or_eq_of_mem_set hq with h | rfl
                · exact hzz q h
                · have hcl := hzz c (List.mem_of_getElem? hc)
                  rw [setA_length (by omega)]
                  exact hcl)
              (by
                rw [flat_set hzz hc (by omega)]
                simp only [setA]
                have e2 : aas.length = (a.eval y).cells.toList.length := hpy.1
                rw [e2, hyl]
                exact ((hp.take _).append hpy).append (hp.drop _))
            unfold Oper.wp
            have hex : (execOp a.eval ⟨none, .store t x y, ty, pos, af, none⟩).run P w = .ok .skip (w.setRow g (cur.toList.take (j * sz + off) ++ (a.eval y).cells.toList ++ cur.toList.drop (j * sz + off + (a.eval y).cells.toList.length)).toArray) := by
              simp only [execOp, hv, Instr.storeAt, Instr.sureAddr, Sem.run_bind, Sem.run_pure, Result.andThen_ok, hrun]
            rw [hex, Oper.upon_skip]
            exact hK _ _ hset.r
        · cases h
      · cases h
    · cases h
theorem Wk.stoo {t : TypeId} {x y : Operand} {k o : Nat} {e : TypeId} {sz : Nat} {es : List (List A)} (i j off n : Nat) (row : Bool) (ht : tyOf P t = some (n, row)) {c aas : List A} (hx : aev σ x = .optr i k o) (hb : σ.b i = .own k e sz es) (ho : o = j * sz + off) (hc : es[j]? = some c) (hy : cellsA (aev σ y) = some aas) (hl : aas.length = n) (hon : off + n ≤ sz) (hd : 0 < σ.n)
    (h : Wk P C ops os cs (σ.put (B i) (.b (.own k e sz (es.set j (setA c off aas))))) K) : Wk P C ops (⟨none, .store t x y, ty, pos, af, none⟩ :: os) (⟨kof x ++ (kof y ++ [B i]), [B i], behs (rStoO x y i j off n) 0⟩ :: cs) σ K :=
  Wk.turn (ok_stoo i j off ht) [.b (.own k e sz (es.set j (setA c off aas)))] hd (by simp only [rStoO, hx, hb]; rw [if_pos ⟨trivial, trivial, ho, hon⟩]; simp only [hc, Option.bind_some, hy]; rw [if_pos hl]) h
end
end Go.Proofs.Ytdjadeegjbhihaa
