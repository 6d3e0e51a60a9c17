/- Laws and contracts that the proof stands on: AbsDraw, AbsTy. -/
import Derived.Test.YtenpapohimhdbaaMb
import Derived.Test.YtenpapohimhdbaaRows
/- Calls by what they answer: of data alone, and of a reader of codes. -/
namespace Go.Proofs.Ytenpapohimhdbaa
open Go

def bytesD (zs : List Nat) : D := .row (zs.map fun z : Nat => [.v (.int .u8 (z : Int))])
theorem one_bytes (zs : List Nat) : ∀ e ∈ zs.map (fun z : Nat => [D.v (.int .u8 (z : Int))]), e.length = 1 := by
  intro e he
  obtain ⟨z, _, rfl⟩ := List.mem_map.1 he
  rfl
theorem bytes_get (zs : List Nat) (k : Nat) (h : k < zs.length) : (zs.map fun z : Nat => [D.v (.int .u8 (z : Int))])[k]? = some [.v (.int .u8 ((zs.getD k 0 : Nat) : Int))] := by
  simp [List.getElem?_map, List.getElem?_eq_getElem h, List.getD_eq_getElem?_getD]

mutual
theorem within_mono {K K' : List Nat} (h : ∀ i, K.contains i = true → K'.contains i = true) : ∀ (a : A), a.within K = true → a.within K' = true
  | .any, _ => rfl
  | .d _, _ => rfl
  | .ptr i _, hw => h i hw
  | .own i _, hw => h i hw
  | .optr i _ _, hw => h i hw
  | .rptr _ _ _ _, _ => rfl
  | .agg cs, hw => withins_mono h cs hw
  | .tup cs, hw => withins_mono h cs hw
  | .fn _ aas bs, hw => by
    simp only [A.within, Bool.and_eq_true] at hw ⊢
    exact ⟨withins_mono h aas hw.1, withins_mono h bs hw.2⟩
  | .ifc _ a, hw => within_mono h a hw
theorem withins_mono {K K' : List Nat} (h : ∀ i, K.contains i = true → K'.contains i = true) : ∀ (aas : List A), A.withins K aas = true → A.withins K' aas = true
  | [], _ => rfl
  | a :: aas, hw => by
    simp only [A.withins, Bool.and_eq_true] at hw ⊢
    exact ⟨within_mono h a hw.1, withins_mono h aas hw.2⟩
end
theorem within_nil {K : List Nat} {a : A} (h : a.within [] = true) : a.within K = true := within_mono (fun i hi => by simp at hi) a h

/-- What a call answers of data alone. -/
def DataW (P : Program) (f : FuncId) (aas : List A) (post : A → Prop) : Prop :=
  Spec P f aas [] (fun r bs => post r ∧ bs = []) ∧ (∃ r, post r) ∧ ∀ r, post r → r.within [] = true
def DataOk (P : Program) (f : FuncId) (aas : List A) (r : A) : Prop := Spec P f aas [] (fun r' bs => r' = r ∧ bs = [])
/-- A reader of codes. -/
def rdr (zs : List (Fin 256)) (p : Nat) : Bx := .var [.d (bytesD (zs.map (·.val))), .d (.v (.int .i64 (p : Int)))]
def DrawOk (P : Program) (f : FuncId) (pre : List A → Prop) (post : List A → A → Prop) (n : Nat) : Prop :=
  (∀ i zs p rest, pre rest → p + n ≤ 2000000000 → Spec P f (.ptr i 0 :: rest) [(i, rdr zs p)] (fun r bs => post rest r ∧ ∃ zs' p', bs = [(i, rdr zs' p')] ∧ p' ≤ p + n)) ∧
  (∀ rest, pre rest → ∃ r, post rest r) ∧ ∀ rest r, post rest r → r.within [] = true
/-- It is enough to look at one name of the reader. -/
theorem DrawOk.zero {P : Program} {f : FuncId} {pre : List A → Prop} {post : List A → A → Prop} {n : Nat} (h : ∀ zs p rest, pre rest → p + n ≤ 2000000000 → Spec P f (.ptr 0 0 :: rest) [(0, rdr zs p)] (fun r bs => post rest r ∧ ∃ zs' p', bs = [(0, rdr zs' p')] ∧ p' ≤ p + n))
    (hw : ∀ rest, pre rest → A.withins [] rest = true) (h2 : ∀ rest, pre rest → ∃ r, post rest r) (h3 : ∀ rest r, post rest r → r.within [] = true) : DrawOk P f pre post n := by
  refine ⟨fun i zs p rest hpre hp w F E H args hpo hs hd => ?_, h2, h3⟩
  have lk : ∀ (q j : Nat) (x y : Bx), [(q, x)].lookup j = some y ↔ j = q ∧ y = x := fun q j x y => by
    by_cases e : j = q
    · subst e; simp [eq_comm]
    · have : (j == q) = false := by simp [e]
      simp [List.lookup_cons, this, e]
  let E1 : Nat → Option Nat := fun j => if j = 0 then E i else none
  let H1 : Nat → Nat → Option Value := fun j k => if j = 0 then H i k else none
  have hbox := hpo.box i (rdr zs p) ((lk _ _ _ _).2 ⟨rfl, rfl⟩)
  obtain ⟨b, ct, t, hE, hh, hpw⟩ := hbox
  have key : ∀ {w : World} {F : Nat → Prop} {E E' : Nat → Option Nat} {H H' : Nat → Nat → Option Value} (zs : List (Fin 256)) (p : Nat) {ct : Array Value}, Pw (CellOk w F E H) [.d (bytesD (zs.map (·.val))), .d (.v (.int .i64 (p : Int)))] ct.toList → Pw (CellOk w F E' H') [.d (bytesD (zs.map (·.val))), .d (.v (.int .i64 (p : Int)))] ct.toList := fun zs p _ h => ⟨h.1, fun j a v ha hv => by
    have := h.2 j a v ha hv
    refine ⟨this.1, this.2.names (K := []) (fun i hi => (List.not_mem_nil hi).elim) (fun i hi => (List.not_mem_nil hi).elim) ?_⟩
    exact withins_get (aas := [.d (bytesD (zs.map (·.val))), .d (.v (.int .i64 (p : Int)))]) rfl j a ha⟩
  have hpo1 : PreOk w F E1 H1 [(0, rdr zs p)] := by
    refine ⟨hpo.Flt, fun j x hx => ?_, fun j x b' hx hb => ?_, fun j q x y b' hjq hx hy _ _ => ?_, fun j hj => ?_⟩
    · obtain ⟨rfl, rfl⟩ := (lk _ _ _ _).1 hx
      exact ⟨b, ct, t, hE, hh, key zs p hpw⟩
    · obtain ⟨rfl, rfl⟩ := (lk _ _ _ _).1 hx
      exact hpo.nf i (rdr zs p) b' ((lk _ _ _ _).2 ⟨rfl, rfl⟩) hb
    · exact absurd (((lk _ _ _ _).1 hx).1.trans ((lk _ _ _ _).1 hy).1.symm) hjq
    · have hj0 : j ≠ 0 := fun e => by
        subst e
        rw [(lk 0 0 (rdr zs p) (rdr zs p)).2 ⟨rfl, rfl⟩] at hj
        cases hj
      exact ⟨if_neg hj0, fun k => if_neg hj0⟩
  refine (h zs p rest hpre hp w F E1 H1 args hpo1 hs (fun j a ha => ?_)).mono ?_
  · cases j with
    | zero =>
      simp only [List.getElem?_cons_zero, Option.some.injEq] at ha
      subst ha
      have := hd 0 (.ptr i 0) rfl
      obtain ⟨b', hb', hv⟩ := den_ptr this
      rw [hv]
      exact .ptr 0 0 b' hb'
    | succ j =>
      refine (hd (j + 1) a (by simpa using ha)).names (K := []) (fun i hi => (List.not_mem_nil hi).elim) (fun i hi => (List.not_mem_nil hi).elim) (withins_get (hw rest hpre) j a (by simpa using ha))
  · rintro e w' ⟨v, r, bs', F', E', H', rfl, ⟨hpost, zs', p', rfl, hp'⟩, po, hden⟩
    obtain ⟨b2, ct2, t2, hE2, hh2, hpw2⟩ := po.box 0 (rdr zs' p') ((lk _ _ _ _).2 ⟨rfl, rfl⟩)
    have hE2b : b2 = b := Option.some.inj (hE2.symm.trans (po.en 0 b hE))
    subst hE2b
    refine ⟨v, r, [(i, rdr zs' p')], F', E, H, rfl, ⟨hpost, zs', p', rfl, hp'⟩, ⟨po.os, po.tape, po.output, po.size, fun c hc hn => po.old c hc fun j x hx hb => ?_, po.fr, po.Flt, po.Fnew, fun _ _ h => h, fun _ _ _ h => h, fun j x hx => ?_, fun j x c hx hb => ?_, fun j q x y c hjq hx hy _ _ => ?_, fun j x c hx hb => ?_⟩, ?_⟩
    · obtain ⟨rfl, rfl⟩ := (lk _ _ _ _).1 hx
      exact hn i (rdr zs p) ((lk _ _ _ _).2 ⟨rfl, rfl⟩) hb
    · obtain ⟨rfl, rfl⟩ := (lk _ _ _ _).1 hx
      exact ⟨b2, ct2, t2, hE, hh2, key zs' p' hpw2⟩
    · obtain ⟨rfl, rfl⟩ := (lk _ _ _ _).1 hx
      have hcb : c = b2 := Option.some.inj (hb.symm.trans hE)
      exact po.nf 0 (rdr zs' p') c ((lk _ _ _ _).2 ⟨rfl, rfl⟩) (hcb ▸ hE2)
    · exact absurd (((lk _ _ _ _).1 hx).1.trans ((lk _ _ _ _).1 hy).1.symm) hjq
    · obtain ⟨rfl, rfl⟩ := (lk _ _ _ _).1 hx
      exact .inl ⟨j, rdr zs p, (lk _ _ _ _).2 ⟨rfl, rfl⟩, hb⟩
    · exact hden.names (K := []) (fun i hi => (List.not_mem_nil hi).elim) (fun i hi => (List.not_mem_nil hi).elim) (h3 _ _ hpost)
theorem fin_lt (zs : List (Fin 256)) (k : Nat) : (zs.map (·.val)).getD k 0 < 256 := by
  simp only [List.getD_eq_getElem?_getD, List.getElem?_map]
  cases zs[k]? with
  | none => simp
  | some z => exact z.isLt
def rdP : List (Nat × Bx) → Nat
  | (_, .var [_, .d (.v (.int _ n))]) :: _ => n.toNat
  | _ => 0
def conDraw (pre : List A → Prop) (post : List A → A → Prop) (n i : Nat) : Con :=
  ⟨fun aas bs => ∃ zs p rest, aas = .ptr i 0 :: rest ∧ bs = [(i, rdr zs p)] ∧ pre rest ∧ p + n ≤ 2000000000,
   fun aas bs r bs' => post aas.tail r ∧ ∃ zs' p', bs' = [(i, rdr zs' p')] ∧ p' ≤ rdP bs + n⟩
theorem conDraw_ok {P : Program} {f : FuncId} {pre : List A → Prop} {post : List A → A → Prop} {n : Nat} (h : DrawOk P f pre post n) (i : Nat) : (conDraw pre post n i).ok P f ([i] ++ []) := by
  rintro aas bs ⟨zs, p, rest, rfl, rfl, hpre, hp⟩
  have e : rdP [(i, rdr zs p)] = p := by simp [rdP, rdr]
  refine ⟨?_, ?_⟩
  · have := h.1 i zs p rest hpre hp
    simp only [conDraw, List.tail_cons, e]
    exact this
  · rintro r bs' ⟨hpost, zs', p', rfl, _⟩
    refine ⟨within_nil (h.2.2 _ _ hpost), fun j x hx => ?_⟩
    rw [List.lookup_cons] at hx
    split at hx
    · rename_i he
      obtain rfl := Option.some.inj hx
      refine ⟨by simp [eq_of_beq he], rfl⟩
    · cases hx

section
variable {P : Program} {C : Ctx} {ops : Array Oper} {os : List Oper} {cs : List Cert} {σ : St} {K : St → Prop} {d : Nat} {ty : TypeId} {pos : String} {af : Array Edge}

def conW (aas : List A) (post : A → Prop) : Con := Con.at aas [] (fun r bs => post r ∧ bs = [])
theorem conW_ok {f : FuncId} {aas : List A} {post : A → Prop} (h : DataW P f aas post) : (conW aas post).ok P f ([] ++ []) := by
  rintro aas' bs' ⟨rfl, rfl⟩
  refine ⟨h.1, ?_⟩
  rintro r bs' ⟨hpost, rfl⟩
  exact ⟨h.2.2 r hpost, fun i x hx => by cases hx⟩
theorem ok_datw {f : FuncId} {fn : Func} {at_ : Array TypeId} {xs : List Operand} {aas : List A} {post : A → Prop} (h : DataW P f aas post) (hf : P.funcs[f]? = some fn) (hbody : fn.body.isSome = true) (hname : (fn.name == "runtime.NumGoroutine") = false) :
    OpOk P C ops ⟨some d, .call { callee := .value (.func f), args := xs.toArray, argTypes := at_ }, ty, pos, af, none⟩ ⟨xs.flatMap kof ++ ([] ++ [] : List Nat).map B, T d :: ([] ++ [] : List Nat).map B, behCall (conW aas post) xs [] [] d⟩ :=
  ok_call [] [] hf hbody hname (conW_ok h)
theorem Wk.datw {f : FuncId} {fn : Func} {at_ : Array TypeId} {xs : List Operand} {aas : List A} {post : A → Prop} (h : DataW P f aas post) (hf : P.funcs[f]? = some fn) (hbody : fn.body.isSome = true) (hname : (fn.name == "runtime.NumGoroutine") = false)
    (hargs : argsA σ xs = aas) (hw : A.withins [] aas = true) (hd : d < σ.n) (hk : ∀ r, post r → Wk P C ops os cs (σ.put (T d) (.a r)) K) :
    Wk P C ops (⟨some d, .call { callee := .value (.func f), args := xs.toArray, argTypes := at_ }, ty, pos, af, none⟩ :: os) (⟨xs.flatMap kof ++ ([] ++ [] : List Nat).map B, T d :: ([] ++ [] : List Nat).map B, behCall (conW aas post) xs [] [] d⟩ :: cs) σ K := by
  refine Wk.cons (ok_datw h hf hbody hname) ?_ ?_
  · obtain ⟨r, hr⟩ := h.2.1
    exact ⟨hd, fun i hi => (List.not_mem_nil hi).elim, by rw [hargs]; exact hw, fun i hi => (List.not_mem_nil hi).elim, ⟨hargs, rfl⟩, r, [], hr, rfl⟩
  · rintro us ⟨r, bs', ⟨hpost, rfl⟩, rfl⟩
    exact hk r hpost
theorem DataOk.w {f : FuncId} {aas : List A} {r : A} (h : DataOk P f aas r) (hr : r.within [] = true) : DataW P f aas (· = r) := ⟨h, ⟨r, rfl⟩, fun r' e => by rw [e]; exact hr⟩
theorem Wk.dat {f : FuncId} {fn : Func} {at_ : Array TypeId} {xs : List Operand} {aas : List A} {r : A} (h : DataOk P f aas r) (hf : P.funcs[f]? = some fn) (hbody : fn.body.isSome = true) (hname : (fn.name == "runtime.NumGoroutine") = false)
    (hargs : argsA σ xs = aas) (hw : A.withins [] aas = true) (hr : r.within [] = true) (hd : d < σ.n) (hk : Wk P C ops os cs (σ.put (T d) (.a r)) K) :
    Wk P C ops (⟨some d, .call { callee := .value (.func f), args := xs.toArray, argTypes := at_ }, ty, pos, af, none⟩ :: os) (⟨xs.flatMap kof ++ ([] ++ [] : List Nat).map B, T d :: ([] ++ [] : List Nat).map B, behCall (conW aas (· = r)) xs [] [] d⟩ :: cs) σ K :=
  Wk.datw (h.w hr) hf hbody hname hargs hw hd fun _ e => e ▸ hk

theorem ok_drw {f : FuncId} {fn : Func} {at_ : Array TypeId} {xs : List Operand} {pre : List A → Prop} {post : List A → A → Prop} {n : Nat} (i : Nat) (h : DrawOk P f pre post n) (hf : P.funcs[f]? = some fn) (hbody : fn.body.isSome = true) (hname : (fn.name == "runtime.NumGoroutine") = false) :
    OpOk P C ops ⟨some d, .call { callee := .value (.func f), args := xs.toArray, argTypes := at_ }, ty, pos, af, none⟩ ⟨xs.flatMap kof ++ ([i] ++ []).map B, T d :: ([i] ++ []).map B, behCall (conDraw pre post n i) xs [i] [] d⟩ :=
  ok_call [i] [] hf hbody hname (conDraw_ok h i)
theorem Wk.drw {f : FuncId} {fn : Func} {at_ : Array TypeId} {xs : List Operand} {pre : List A → Prop} {post : List A → A → Prop} {n : Nat} (i : Nat) (h : DrawOk P f pre post n) (hf : P.funcs[f]? = some fn) (hbody : fn.body.isSome = true) (hname : (fn.name == "runtime.NumGoroutine") = false)
    {rest : List A} {zs : List (Fin 256)} {p : Nat} (hargs : argsA σ xs = .ptr i 0 :: rest) (hb : σ.b i = rdr zs p) (hpre : pre rest) (hp : p + n ≤ 2000000000) (hw : A.withins [i] rest = true) (hd : d < σ.n)
    (hk : ∀ r zs' p', post rest r → p' ≤ p + n → Wk P C ops os cs ((σ.put (T d) (.a r)).put (B i) (.b (rdr zs' p'))) K) :
    Wk P C ops (⟨some d, .call { callee := .value (.func f), args := xs.toArray, argTypes := at_ }, ty, pos, af, none⟩ :: os) (⟨xs.flatMap kof ++ ([i] ++ []).map B, T d :: ([i] ++ []).map B, behCall (conDraw pre post n i) xs [i] [] d⟩ :: cs) σ K := by
  have hbx : boxesA σ [i] = [(i, rdr zs p)] := by simp [boxesA, hb]
  have e : rdP [(i, rdr zs p)] = p := by simp [rdP, rdr]
  refine Wk.cons (ok_drw i h hf hbody hname) ?_ ?_
  · obtain ⟨r, hr⟩ := h.2.1 rest hpre
    refine ⟨hd, fun i hi => (List.not_mem_nil hi).elim, ?_, fun j hj => ?_, ⟨zs, p, rest, hargs, hbx, hpre, hp⟩, r, [(i, rdr zs p)], ?_, zs, p, rfl, by rw [hbx, e]; omega⟩
    · rw [hargs]
      simp [A.withins, A.within, hw]
    · obtain rfl : j = i := by simpa using hj
      rw [hb]; rfl
    · rw [hargs]; exact hr
  · rintro us ⟨r, bs', ⟨hpost, zs', p', rfl, hp'⟩, rfl⟩
    rw [hargs, List.tail_cons] at hpost
    rw [hbx, e] at hp'
    have := hk r zs' p' hpost hp'
    simpa [St.puts] using this
end
theorem kept1 {σ : St} {q : Nat} {y : Bx} (hb : σ.b q = y) : ∀ (i : Nat) (x : Bx), [(q, y)].lookup i = some x → σ.b i = x := fun i x hx => by
  rw [List.lookup_cons] at hx
  split at hx
  · rename_i he
    rw [eq_of_beq he, hb]
    exact Option.some.inj hx
  · cases hx
theorem kept2 {σ : St} {q r : Nat} {y z : Bx} (h1 : σ.b q = y) (h2 : σ.b r = z) : ∀ (i : Nat) (x : Bx), [(q, y), (r, z)].lookup i = some x → σ.b i = x := fun i x hx => by
  rw [List.lookup_cons] at hx
  split at hx
  · rename_i he
    rw [eq_of_beq he, h1]
    exact Option.some.inj hx
  · exact kept1 h2 i x hx
theorem kept3 {σ : St} {q r t : Nat} {y z u : Bx} (h1 : σ.b q = y) (h2 : σ.b r = z) (h3 : σ.b t = u) : ∀ (i : Nat) (x : Bx), [(q, y), (r, z), (t, u)].lookup i = some x → σ.b i = x := fun i x hx => by
  rw [List.lookup_cons] at hx
  split at hx
  · rename_i he
    rw [eq_of_beq he, h1]
    exact Option.some.inj hx
  · exact kept2 h2 h3 i x hx
theorem inAll {L : List Nat} {bs : List (Nat × Bx)} (h : bs.all (fun p => L.contains p.1 && p.2.within L) = true) : ∀ i x, bs.lookup i = some x → i ∈ L ∧ x.within L = true := by
  induction bs with
  | nil => intro i x hx; cases hx
  | cons p bs ih =>
    intro i x hx
    obtain ⟨q, y⟩ := p
    simp only [List.all_cons, Bool.and_eq_true] at h
    rw [List.lookup_cons] at hx
    split at hx
    · rename_i he
      obtain rfl := Option.some.inj hx
      refine ⟨?_, h.1.2⟩
      rw [eq_of_beq he]
      simpa using h.1.1
    · exact ih (by simpa using h.2) i x hx
/-- Opening a reader. -/
def OpenOk (P : Program) (f : FuncId) : Prop := ∀ zs : List (Fin 256), Spec P f [.d (bytesD (zs.map (·.val)))] [] (fun r bs => r = .ptr 0 0 ∧ ∃ zs', bs = [(0, rdr zs' 0)])
def conOpen (zs : List (Fin 256)) : Con := Con.at [.d (bytesD (zs.map (·.val)))] [] (fun r bs => r = .ptr 0 0 ∧ ∃ zs', bs = [(0, rdr zs' 0)])
theorem conOpen_ok {P : Program} {f : FuncId} (h : OpenOk P f) (zs : List (Fin 256)) : (conOpen zs).ok P f ([] ++ [0]) := by
  rintro aas' bs' ⟨rfl, rfl⟩
  refine ⟨h zs, ?_⟩
  rintro r bs' ⟨rfl, zs', rfl⟩
  refine ⟨rfl, fun j x hx => ?_⟩
  rw [List.lookup_cons] at hx
  split at hx
  · rename_i he
    obtain rfl := Option.some.inj hx
    exact ⟨by simp [eq_of_beq he], rfl⟩
  · cases hx
theorem Wk.opn {P : Program} {C : Ctx} {ops : Array Oper} {os : List Oper} {cs : List Cert} {σ : St} {K : St → Prop} {d : Nat} {ty : TypeId} {pos : String} {af : Array Edge} {f : FuncId} {fn : Func} {at_ : Array TypeId} {xs : List Operand} (h : OpenOk P f) (hf : P.funcs[f]? = some fn) (hbody : fn.body.isSome = true) (hname : (fn.name == "runtime.NumGoroutine") = false)
    {zs : List (Fin 256)} (hargs : argsA σ xs = [.d (bytesD (zs.map (·.val)))]) (hb : σ.b 0 = .fresh) (hd : d < σ.n)
    (hk : ∀ zs', Wk P C ops os cs ((σ.put (T d) (.a (.ptr 0 0))).put (B 0) (.b (rdr zs' 0))) K) :
    Wk P C ops (⟨some d, .call { callee := .value (.func f), args := xs.toArray, argTypes := at_ }, ty, pos, af, none⟩ :: os) (⟨xs.flatMap kof ++ ([] ++ [0]).map B, T d :: ([] ++ [0]).map B, behCall (conOpen zs) xs [] [0] d⟩ :: cs) σ K := by
  refine Wk.cons (ok_call [] [0] hf hbody hname (conOpen_ok h zs)) ?_ ?_
  · refine ⟨hd, fun i hi => ?_, by rw [hargs]; rfl, fun i hi => (List.not_mem_nil hi).elim, ⟨hargs, rfl⟩, .ptr 0 0, [(0, rdr zs 0)], rfl, zs, rfl⟩
    obtain rfl : i = 0 := by simpa using hi
    exact hb
  · rintro us ⟨r, bs', ⟨rfl, zs', rfl⟩, rfl⟩
    have := hk zs'
    simpa [St.puts] using this
theorem asData_bytes (zs : List Nat) : asData (zs.map fun z : Nat => [A.d (.v (.int .u8 (z : Int)))]) (zs.map fun z : Nat => [.v (.int .u8 (z : Int))]) := by
  simp [asData, nrms, nrm]
end Go.Proofs.Ytenpapohimhdbaa

/- The program's types: sizes, fields, zeros. -/
namespace Go.Proofs.Ytenpapohimhdbaa
open Go
theorem hmix : Try.prog.follows .mixedOrders = true := by kernel_rfl
theorem ty3 : tyOf Try.prog 3 = some (1, false) := by kernel_rfl
theorem ze3 : zeroOf Try.prog 3 = some [.int .i64 0] := by kernel_rfl
theorem ap3 : appOf Try.prog 3 1 = true := by kernel_rfl
theorem ui3 : Try.prog.underlying 3 = some (.int .i64) := by kernel_rfl
theorem ty4 : tyOf Try.prog 4 = some (1, false) := by kernel_rfl
theorem ze4 : zeroOf Try.prog 4 = some [.bool false] := by kernel_rfl
theorem ap4 : appOf Try.prog 4 1 = true := by kernel_rfl
theorem ty5 : tyOf Try.prog 5 = some (1, false) := by kernel_rfl
theorem ze5 : zeroOf Try.prog 5 = some [.int .u8 0] := by kernel_rfl
theorem ap5 : appOf Try.prog 5 1 = true := by kernel_rfl
theorem ui5 : Try.prog.underlying 5 = some (.int .u8) := by kernel_rfl
theorem ty22 : tyOf Try.prog 22 = some (1, false) := by kernel_rfl
theorem ze22 : zeroOf Try.prog 22 = some [.slice none 0 0] := by kernel_rfl
theorem ap22 : appOf Try.prog 22 1 = true := by kernel_rfl
theorem un22 : Try.prog.underlying 22 = some (.slice 5) := by kernel_rfl
theorem ty24 : tyOf Try.prog 24 = some (2, true) := by kernel_rfl
theorem fd24_0 : fieldOf Try.prog 24 0 = some (0, 1, false) := by kernel_rfl
theorem fd24_1 : fieldOf Try.prog 24 1 = some (1, 1, false) := by kernel_rfl
theorem ze24 : zeroOf Try.prog 24 = some [.int .i64 0, .slice none 0 0] := by kernel_rfl
theorem bl24 : builtOf Try.prog 24 = some ([.int .i64 0, .slice none 0 0], [(0, 1), (1, 1)]) := by kernel_rfl
theorem ap24 : appOf Try.prog 24 2 = true := by kernel_rfl
theorem ty26 : tyOf Try.prog 26 = some (7, true) := by kernel_rfl
theorem fd26_0 : fieldOf Try.prog 26 0 = some (0, 1, false) := by kernel_rfl
theorem fd26_1 : fieldOf Try.prog 26 1 = some (1, 1, false) := by kernel_rfl
theorem fd26_2 : fieldOf Try.prog 26 2 = some (2, 2, true) := by kernel_rfl
theorem fd26_3 : fieldOf Try.prog 26 3 = some (4, 1, false) := by kernel_rfl
theorem fd26_4 : fieldOf Try.prog 26 4 = some (5, 1, false) := by kernel_rfl
theorem fd26_5 : fieldOf Try.prog 26 5 = some (6, 1, false) := by kernel_rfl
theorem ze26 : zeroOf Try.prog 26 = some [.int .i64 0, .int .i64 0, .int .i64 0, .slice none 0 0, .bool false, .bool false, .bool false] := by kernel_rfl
theorem bl26 : builtOf Try.prog 26 = some ([.int .i64 0, .int .i64 0, .int .i64 0, .slice none 0 0, .bool false, .bool false, .bool false], [(0, 1), (1, 1), (2, 2), (4, 1), (5, 1), (6, 1)]) := by kernel_rfl
theorem ap26 : appOf Try.prog 26 7 = true := by kernel_rfl
theorem ty28 : tyOf Try.prog 28 = some (2, true) := by kernel_rfl
theorem fd28_0 : fieldOf Try.prog 28 0 = some (0, 1, false) := by kernel_rfl
theorem fd28_1 : fieldOf Try.prog 28 1 = some (1, 1, false) := by kernel_rfl
theorem ze28 : zeroOf Try.prog 28 = some [.int .i64 0, .slice none 0 0] := by kernel_rfl
theorem bl28 : builtOf Try.prog 28 = some ([.int .i64 0, .slice none 0 0], [(0, 1), (1, 1)]) := by kernel_rfl
theorem ap28 : appOf Try.prog 28 2 = true := by kernel_rfl
theorem ty30 : tyOf Try.prog 30 = some (7, true) := by kernel_rfl
theorem fd30_0 : fieldOf Try.prog 30 0 = some (0, 1, false) := by kernel_rfl
theorem fd30_1 : fieldOf Try.prog 30 1 = some (1, 1, false) := by kernel_rfl
theorem fd30_2 : fieldOf Try.prog 30 2 = some (2, 2, true) := by kernel_rfl
theorem fd30_3 : fieldOf Try.prog 30 3 = some (4, 1, false) := by kernel_rfl
theorem fd30_4 : fieldOf Try.prog 30 4 = some (5, 1, false) := by kernel_rfl
theorem fd30_5 : fieldOf Try.prog 30 5 = some (6, 1, false) := by kernel_rfl
theorem ze30 : zeroOf Try.prog 30 = some [.int .i64 0, .int .i64 0, .int .i64 0, .slice none 0 0, .bool false, .bool false, .bool false] := by kernel_rfl
theorem bl30 : builtOf Try.prog 30 = some ([.int .i64 0, .int .i64 0, .int .i64 0, .slice none 0 0, .bool false, .bool false, .bool false], [(0, 1), (1, 1), (2, 2), (4, 1), (5, 1), (6, 1)]) := by kernel_rfl
theorem ap30 : appOf Try.prog 30 7 = true := by kernel_rfl
theorem ty31 : tyOf Try.prog 31 = some (1, false) := by kernel_rfl
theorem ze31 : zeroOf Try.prog 31 = some [.slice none 0 0] := by kernel_rfl
theorem ap31 : appOf Try.prog 31 1 = true := by kernel_rfl
theorem un31 : Try.prog.underlying 31 = some (.slice 41) := by kernel_rfl
theorem ty41 : tyOf Try.prog 41 = some (9, true) := by kernel_rfl
theorem fd41_0 : fieldOf Try.prog 41 0 = some (0, 1, false) := by kernel_rfl
theorem fd41_1 : fieldOf Try.prog 41 1 = some (1, 1, false) := by kernel_rfl
theorem fd41_2 : fieldOf Try.prog 41 2 = some (2, 1, false) := by kernel_rfl
theorem fd41_3 : fieldOf Try.prog 41 3 = some (3, 1, false) := by kernel_rfl
theorem fd41_4 : fieldOf Try.prog 41 4 = some (4, 1, false) := by kernel_rfl
theorem fd41_5 : fieldOf Try.prog 41 5 = some (5, 1, false) := by kernel_rfl
theorem fd41_6 : fieldOf Try.prog 41 6 = some (6, 1, false) := by kernel_rfl
theorem fd41_7 : fieldOf Try.prog 41 7 = some (7, 1, false) := by kernel_rfl
theorem fd41_8 : fieldOf Try.prog 41 8 = some (8, 1, false) := by kernel_rfl
theorem ze41 : zeroOf Try.prog 41 = some [.int .i64 0, .int .i64 0, .int .i64 0, .bool false, .bool false, .int .i64 0, .int .i64 0, .int .i64 0, .slice none 0 0] := by kernel_rfl
theorem bl41 : builtOf Try.prog 41 = some ([.int .i64 0, .int .i64 0, .int .i64 0, .bool false, .bool false, .int .i64 0, .int .i64 0, .int .i64 0, .slice none 0 0], [(0, 1), (1, 1), (2, 1), (3, 1), (4, 1), (5, 1), (6, 1), (7, 1), (8, 1)]) := by kernel_rfl
theorem ap41 : appOf Try.prog 41 9 = true := by kernel_rfl
theorem ty56 : tyOf Try.prog 56 = some (8, true) := by kernel_rfl
theorem fd56_0 : fieldOf Try.prog 56 0 = some (0, 7, true) := by kernel_rfl
theorem fd56_1 : fieldOf Try.prog 56 1 = some (7, 1, false) := by kernel_rfl
theorem ze56 : zeroOf Try.prog 56 = some [.int .i64 0, .int .i64 0, .int .i64 0, .slice none 0 0, .bool false, .bool false, .bool false, .nilFunc] := by kernel_rfl
theorem bl56 : builtOf Try.prog 56 = some ([.int .i64 0, .int .i64 0, .int .i64 0, .slice none 0 0, .bool false, .bool false, .bool false, .nilFunc], [(0, 7), (7, 1)]) := by kernel_rfl
theorem ap56 : appOf Try.prog 56 8 = true := by kernel_rfl
theorem ty68 : tyOf Try.prog 68 = some (1, false) := by kernel_rfl
theorem ze68 : zeroOf Try.prog 68 = some [.int .i64 0] := by kernel_rfl
theorem ap68 : appOf Try.prog 68 1 = true := by kernel_rfl
theorem ui68 : Try.prog.underlying 68 = some (.int .i64) := by kernel_rfl
end Go.Proofs.Ytenpapohimhdbaa
