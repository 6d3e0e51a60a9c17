/- Laws and contracts that the proof stands on: AbsDraw, AbsTy, AbsBor, AbsFnv, AbsMax, AbsRen, AbsRo, AbsLi. -/
import Derived.Test.YtdojkmjamilllaaMb
import Derived.Test.YtdojkmjamilllaaRows
/- Calls by what they answer: of data alone, and of a reader of codes. -/
namespace Go.Proofs.Ytdojkmjamilllaa
open Go

def bytesD (zs : List Nat) : D := .row (zs.map fun z : Nat => [.v (.int .u8 (z : Int))])
theorem one_bytes (zs : List Nat) : ∀ e ∈ zs.map (fun z : Nat => [D.v (.int .u8 (z : Int))]), e.length = 1 := by
  intro e he
  obtain ⟨z, _, rfl⟩ := List.mem_map.1 he
  rfl
theorem bytes_get (zs : List Nat) (k : Nat) (h : k < zs.length) : (zs.map fun z : Nat => [D.v (.int .u8 (z : Int))])[k]? = some [.v (.int .u8 ((zs.getD k 0 : Nat) : Int))] := by
  simp [List.getElem?_map, List.getElem?_eq_getElem h, List.getD_eq_getElem?_getD]

mutual
theorem within_mono {K K' : List Nat} (h : ∀ i, K.contains i = true → K'.contains i = true) : ∀ (a : A), a.within K = true → a.within K' = true
  | .any, _ => rfl
  | .d _, _ => rfl
  | .ptr i _, hw => h i hw
  | .own i _, hw => h i hw
  | .optr i _ _, hw => h i hw
  | .rptr _ _ _ _, _ => rfl
  | .agg cs, hw => withins_mono h cs hw
  | .tup cs, hw => withins_mono h cs hw
  | .fn _ aas bs, hw => by
    simp only [A.within, Bool.and_eq_true] at hw ⊢
    exact ⟨withins_mono h aas hw.1, withins_mono h bs hw.2⟩
  | .ifc _ a, hw => within_mono h a hw
theorem withins_mono {K K' : List Nat} (h : ∀ i, K.contains i = true → K'.contains i = true) : ∀ (aas : List A), A.withins K aas = true → A.withins K' aas = true
  | [], _ => rfl
  | a :: aas, hw => by
    simp only [A.withins, Bool.and_eq_true] at hw ⊢
    exact ⟨within_mono h a hw.1, withins_mono h aas hw.2⟩
end
theorem within_nil {K : List Nat} {a : A} (h : a.within [] = true) : a.within K = true := within_mono (fun i hi => by simp at hi) a h

/-- What a call answers of data alone. -/
def DataW (P : Program) (f : FuncId) (aas : List A) (post : A → Prop) : Prop :=
  Spec P f aas [] (fun r bs => post r ∧ bs = []) ∧ (∃ r, post r) ∧ ∀ r, post r → r.within [] = true
def DataOk (P : Program) (f : FuncId) (aas : List A) (r : A) : Prop := Spec P f aas [] (fun r' bs => r' = r ∧ bs = [])
/-- A reader of codes. -/
def rdr (zs : List (Fin 256)) (p : Nat) : Bx := .var [.d (bytesD (zs.map (·.val))), .d (.v (.int .i64 (p : Int)))]
def DrawOk (P : Program) (f : FuncId) (pre : List A → Prop) (post : List A → A → Prop) (n : Nat) : Prop :=
  (∀ i zs p rest, pre rest → p + n ≤ 2000000000 → Spec P f (.ptr i 0 :: rest) [(i, rdr zs p)] (fun r bs => post rest r ∧ ∃ zs' p', bs = [(i, rdr zs' p')] ∧ p' ≤ p + n)) ∧
  (∀ rest, pre rest → ∃ r, post rest r) ∧ ∀ rest r, post rest r → r.within [] = true
/-- It is enough to look at one name of the reader. -/
theorem DrawOk.zero {P : Program} {f : FuncId} {pre : List A → Prop} {post : List A → A → Prop} {n : Nat} (h : ∀ zs p rest, pre rest → p + n ≤ 2000000000 → Spec P f (.ptr 0 0 :: rest) [(0, rdr zs p)] (fun r bs => post rest r ∧ ∃ zs' p', bs = [(0, rdr zs' p')] ∧ p' ≤ p + n))
    (hw : ∀ rest, pre rest → A.withins [] rest = true) (h2 : ∀ rest, pre rest → ∃ r, post rest r) (h3 : ∀ rest r, post rest r → r.within [] = true) : DrawOk P f pre post n := by
  refine ⟨fun i zs p rest hpre hp w F E H args hpo hs hd => ?_, h2, h3⟩
  have lk : ∀ (q j : Nat) (x y : Bx), [(q, x)].lookup j = some y ↔ j = q ∧ y = x := fun q j x y => by
    by_cases e : j = q
    · subst e; simp [eq_comm]
    · have : (j == q) = false := by simp [e]
      simp [List.lookup_cons, this, e]
  let E1 : Nat → Option Nat := fun j => if j = 0 then E i else none
  let H1 : Nat → Nat → Option Value := fun j k => if j = 0 then H i k else none
  have hbox := hpo.box i (rdr zs p) ((lk _ _ _ _).2 ⟨rfl, rfl⟩)
  obtain ⟨b, ct, t, hE, hh, hpw⟩ := hbox
  have key : ∀ {w : World} {F : Nat → Prop} {E E' : Nat → Option Nat} {H H' : Nat → Nat → Option Value} (zs : List (Fin 256)) (p : Nat) {ct : Array Value}, Pw (CellOk w F E H) [.d (bytesD (zs.map (·.val))), .d (.v (.int .i64 (p : Int)))] ct.toList → Pw (CellOk w F E' H') [.d (bytesD (zs.map (·.val))), .d (.v (.int .i64 (p : Int)))] ct.toList := fun zs p _ h => ⟨h.1, fun j a v ha hv => by
    have := h.2 j a v ha hv
    refine ⟨this.1, this.2.names (K := []) (fun i hi => (List.not_mem_nil hi).elim) (fun i hi => (List.not_mem_nil hi).elim) ?_⟩
    exact withins_get (aas := [.d (bytesD (zs.map (·.val))), .d (.v (.int .i64 (p : Int)))]) rfl j a ha⟩
  have hpo1 : PreOk w F E1 H1 [(0, rdr zs p)] := by
    refine ⟨hpo.Flt, fun j x hx => ?_, fun j x b' hx hb => ?_, fun j q x y b' hjq hx hy _ _ => ?_, fun j hj => ?_⟩
    · obtain ⟨rfl, rfl⟩ := (lk _ _ _ _).1 hx
      exact ⟨b, ct, t, hE, hh, key zs p hpw⟩
    · obtain ⟨rfl, rfl⟩ := (lk _ _ _ _).1 hx
      exact hpo.nf i (rdr zs p) b' ((lk _ _ _ _).2 ⟨rfl, rfl⟩) hb
    · exact absurd (((lk _ _ _ _).1 hx).1.trans ((lk _ _ _ _).1 hy).1.symm) hjq
    · have hj0 : j ≠ 0 := fun e => by
        subst e
        rw [(lk 0 0 (rdr zs p) (rdr zs p)).2 ⟨rfl, rfl⟩] at hj
        cases hj
      exact ⟨if_neg hj0, fun k => if_neg hj0⟩
  refine (h zs p rest hpre hp w F E1 H1 args hpo1 hs (fun j a ha => ?_)).mono ?_
  · cases j with
    | zero =>
      simp only [List.getElem?_cons_zero, Option.some.injEq] at ha
      subst ha
      have := hd 0 (.ptr i 0) rfl
      obtain ⟨b', hb', hv⟩ := den_ptr this
      rw [hv]
      exact .ptr 0 0 b' hb'
    | succ j =>
      refine (hd (j + 1) a (by simpa using ha)).names (K := []) (fun i hi => (List.not_mem_nil hi).elim) (fun i hi => (List.not_mem_nil hi).elim) (withins_get (hw rest hpre) j a (by simpa using ha))
  · rintro e w' ⟨v, r, bs', F', E', H', rfl, ⟨hpost, zs', p', rfl, hp'⟩, po, hden⟩
    obtain ⟨b2, ct2, t2, hE2, hh2, hpw2⟩ := po.box 0 (rdr zs' p') ((lk _ _ _ _).2 ⟨rfl, rfl⟩)
    have hE2b : b2 = b := Option.some.inj (hE2.symm.trans (po.en 0 b hE))
    subst hE2b
    refine ⟨v, r, [(i, rdr zs' p')], F', E, H, rfl, ⟨hpost, zs', p', rfl, hp'⟩, ⟨po.os, po.tape, po.output, po.size, fun c hc hn => po.old c hc fun j x hx hb => ?_, po.fr, po.Flt, po.Fnew, fun _ _ h => h, fun _ _ _ h => h, fun j x hx => ?_, fun j x c hx hb => ?_, fun j q x y c hjq hx hy _ _ => ?_, fun j x c hx hb => ?_⟩, ?_⟩
    · obtain ⟨rfl, rfl⟩ := (lk _ _ _ _).1 hx
      exact hn i (rdr zs p) ((lk _ _ _ _).2 ⟨rfl, rfl⟩) hb
    · obtain ⟨rfl, rfl⟩ := (lk _ _ _ _).1 hx
      exact ⟨b2, ct2, t2, hE, hh2, key zs' p' hpw2⟩
    · obtain ⟨rfl, rfl⟩ := (lk _ _ _ _).1 hx
      have hcb : c = b2 := Option.some.inj (hb.symm.trans hE)
      exact po.nf 0 (rdr zs' p') c ((lk _ _ _ _).2 ⟨rfl, rfl⟩) (hcb ▸ hE2)
    · exact absurd (((lk _ _ _ _).1 hx).1.trans ((lk _ _ _ _).1 hy).1.symm) hjq
    · obtain ⟨rfl, rfl⟩ := (lk _ _ _ _).1 hx
      exact .inl ⟨j, rdr zs p, (lk _ _ _ _).2 ⟨rfl, rfl⟩, hb⟩
    · exact hden.names (K := []) (fun i hi => (List.not_mem_nil hi).elim) (fun i hi => (List.not_mem_nil hi).elim) (h3 _ _ hpost)
theorem fin_lt (zs : List (Fin 256)) (k : Nat) : (zs.map (·.val)).getD k 0 < 256 := by
  simp only [List.getD_eq_getElem?_getD, List.getElem?_map]
  cases zs[k]? with
  | none => simp
  | some z => exact z.isLt
def rdP : List (Nat × Bx) → Nat
  | (_, .var [_, .d (.v (.int _ n))]) :: _ => n.toNat
  | _ => 0
def conDraw (pre : List A → Prop) (post : List A → A → Prop) (n i : Nat) : Con :=
  ⟨fun aas bs => ∃ zs p rest, aas = .ptr i 0 :: rest ∧ bs = [(i, rdr zs p)] ∧ pre rest ∧ p + n ≤ 2000000000,
   fun aas bs r bs' => post aas.tail r ∧ ∃ zs' p', bs' = [(i, rdr zs' p')] ∧ p' ≤ rdP bs + n⟩
theorem conDraw_ok {P : Program} {f : FuncId} {pre : List A → Prop} {post : List A → A → Prop} {n : Nat} (h : DrawOk P f pre post n) (i : Nat) : (conDraw pre post n i).ok P f ([i] ++ []) := by
  rintro aas bs ⟨zs, p, rest, rfl, rfl, hpre, hp⟩
  have e : rdP [(i, rdr zs p)] = p := by simp [rdP, rdr]
  refine ⟨?_, ?_⟩
  · have := h.1 i zs p rest hpre hp
    simp only [conDraw, List.tail_cons, e]
    exact this
  · rintro r bs' ⟨hpost, zs', p', rfl, _⟩
    refine ⟨within_nil (h.2.2 _ _ hpost), fun j x hx => ?_⟩
    rw [List.lookup_cons] at hx
    split at hx
    · rename_i he
      obtain rfl := Option.some.inj hx
      refine ⟨by simp [eq_of_beq he], rfl⟩
    · cases hx

section
variable {P : Program} {C : Ctx} {ops : Array Oper} {os : List Oper} {cs : List Cert} {σ : St} {K : St → Prop} {d : Nat} {ty : TypeId} {pos : String} {af : Array Edge}

def conW (aas : List A) (post : A → Prop) : Con := Con.at aas [] (fun r bs => post r ∧ bs = [])
theorem conW_ok {f : FuncId} {aas : List A} {post : A → Prop} (h : DataW P f aas post) : (conW aas post).ok P f ([] ++ []) := by
  rintro aas' bs' ⟨rfl, rfl⟩
  refine ⟨h.1, ?_⟩
  rintro r bs' ⟨hpost, rfl⟩
  exact ⟨h.2.2 r hpost, fun i x hx => by cases hx⟩
theorem ok_datw {f : FuncId} {fn : Func} {at_ : Array TypeId} {xs : List Operand} {aas : List A} {post : A → Prop} (h : DataW P f aas post) (hf : P.funcs[f]? = some fn) (hbody : fn.body.isSome = true) (hname : (fn.name == "runtime.NumGoroutine") = false) :
    OpOk P C ops ⟨some d, .call { callee := .value (.func f), args := xs.toArray, argTypes := at_ }, ty, pos, af, none⟩ ⟨xs.flatMap kof ++ ([] ++ [] : List Nat).map B, T d :: ([] ++ [] : List Nat).map B, behCall (conW aas post) xs [] [] d⟩ :=
  ok_call [] [] hf hbody hname (conW_ok h)
theorem Wk.datw {f : FuncId} {fn : Func} {at_ : Array TypeId} {xs : List Operand} {aas : List A} {post : A → Prop} (h : DataW P f aas post) (hf : P.funcs[f]? = some fn) (hbody : fn.body.isSome = true) (hname : (fn.name == "runtime.NumGoroutine") = false)
    (hargs : argsA σ xs = aas) (hw : A.withins [] aas = true) (hd : d < σ.n) (hk : ∀ r, post r → Wk P C ops os cs (σ.put (T d) (.a r)) K) :
    Wk P C ops (⟨some d, .call { callee := .value (.func f), args := xs.toArray, argTypes := at_ }, ty, pos, af, none⟩ :: os) (⟨xs.flatMap kof ++ ([] ++ [] : List Nat).map B, T d :: ([] ++ [] : List Nat).map B, behCall (conW aas post) xs [] [] d⟩ :: cs) σ K := by
  refine Wk.cons (ok_datw h hf hbody hname) ?_ ?_
  · obtain ⟨r, hr⟩ := h.2.1
    exact ⟨hd, fun i hi => (List.not_mem_nil hi).elim, by rw [hargs]; exact hw, fun i hi => (List.not_mem_nil hi).elim, ⟨hargs, rfl⟩, r, [], hr, rfl⟩
  · rintro us ⟨r, bs', ⟨hpost, rfl⟩, rfl⟩
    exact hk r hpost
theorem DataOk.w {f : FuncId} {aas : List A} {r : A} (h : DataOk P f aas r) (hr : r.within [] = true) : DataW P f aas (· = r) := ⟨h, ⟨r, rfl⟩, fun r' e => by rw [e]; exact hr⟩
theorem Wk.dat {f : FuncId} {fn : Func} {at_ : Array TypeId} {xs : List Operand} {aas : List A} {r : A} (h : DataOk P f aas r) (hf : P.funcs[f]? = some fn) (hbody : fn.body.isSome = true) (hname : (fn.name == "runtime.NumGoroutine") = false)
    (hargs : argsA σ xs = aas) (hw : A.withins [] aas = true) (hr : r.within [] = true) (hd : d < σ.n) (hk : Wk P C ops os cs (σ.put (T d) (.a r)) K) :
    Wk P C ops (⟨some d, .call { callee := .value (.func f), args := xs.toArray, argTypes := at_ }, ty, pos, af, none⟩ :: os) (⟨xs.flatMap kof ++ ([] ++ [] : List Nat).map B, T d :: ([] ++ [] : List Nat).map B, behCall (conW aas (· = r)) xs [] [] d⟩ :: cs) σ K :=
  Wk.datw (h.w hr) hf hbody hname hargs hw hd fun _ e => e ▸ hk

theorem ok_drw {f : FuncId} {fn : Func} {at_ : Array TypeId} {xs : List Operand} {pre : List A → Prop} {post : List A → A → Prop} {n : Nat} (i : Nat) (h : DrawOk P f pre post n) (hf : P.funcs[f]? = some fn) (hbody : fn.body.isSome = true) (hname : (fn.name == "runtime.NumGoroutine") = false) :
    OpOk P C ops ⟨some d, .call { callee := .value (.func f), args := xs.toArray, argTypes := at_ }, ty, pos, af, none⟩ ⟨xs.flatMap kof ++ ([i] ++ []).map B, T d :: ([i] ++ []).map B, behCall (conDraw pre post n i) xs [i] [] d⟩ :=
  ok_call [i] [] hf hbody hname (conDraw_ok h i)
theorem Wk.drw {f : FuncId} {fn : Func} {at_ : Array TypeId} {xs : List Operand} {pre : List A → Prop} {post : List A → A → Prop} {n : Nat} (i : Nat) (h : DrawOk P f pre post n) (hf : P.funcs[f]? = some fn) (hbody : fn.body.isSome = true) (hname : (fn.name == "runtime.NumGoroutine") = false)
    {rest : List A} {zs : List (Fin 256)} {p : Nat} (hargs : argsA σ xs = .ptr i 0 :: rest) (hb : σ.b i = rdr zs p) (hpre : pre rest) (hp : p + n ≤ 2000000000) (hw : A.withins [i] rest = true) (hd : d < σ.n)
    (hk : ∀ r zs' p', post rest r → p' ≤ p + n → Wk P C ops os cs ((σ.put (T d) (.a r)).put (B i) (.b (rdr zs' p'))) K) :
    Wk P C ops (⟨some d, .call { callee := .value (.func f), args := xs.toArray, argTypes := at_ }, ty, pos, af, none⟩ :: os) (⟨xs.flatMap kof ++ ([i] ++ []).map B, T d :: ([i] ++ []).map B, behCall (conDraw pre post n i) xs [i] [] d⟩ :: cs) σ K := by
  have hbx : boxesA σ [i] = [(i, rdr zs p)] := by simp [boxesA, hb]
  have e : rdP [(i, rdr zs p)] = p := by simp [rdP, rdr]
  refine Wk.cons (ok_drw i h hf hbody hname) ?_ ?_
  · obtain ⟨r, hr⟩ := h.2.1 rest hpre
    refine ⟨hd, fun i hi => (List.not_mem_nil hi).elim, ?_, fun j hj => ?_, ⟨zs, p, rest, hargs, hbx, hpre, hp⟩, r, [(i, rdr zs p)], ?_, zs, p, rfl, by rw [hbx, e]; omega⟩
    · rw [hargs]
      simp [A.withins, A.within, hw]
    · obtain rfl : j = i := by simpa using hj
      rw [hb]; rfl
    · rw [hargs]; exact hr
  · rintro us ⟨r, bs', ⟨hpost, zs', p', rfl, hp'⟩, rfl⟩
    rw [hargs, List.tail_cons] at hpost
    rw [hbx, e] at hp'
    have := hk r zs' p' hpost hp'
    simpa [St.puts] using this
end
theorem kept1 {σ : St} {q : Nat} {y : Bx} (hb : σ.b q = y) : ∀ (i : Nat) (x : Bx), [(q, y)].lookup i = some x → σ.b i = x := fun i x hx => by
  rw [List.lookup_cons] at hx
  split at hx
  · rename_i he
    rw [eq_of_beq he, hb]
    exact Option.some.inj hx
  · cases hx
theorem kept2 {σ : St} {q r : Nat} {y z : Bx} (h1 : σ.b q = y) (h2 : σ.b r = z) : ∀ (i : Nat) (x : Bx), [(q, y), (r, z)].lookup i = some x → σ.b i = x := fun i x hx => by
  rw [List.lookup_cons] at hx
  split at hx
  · rename_i he
    rw [eq_of_beq he, h1]
    exact Option.some.inj hx
  · exact kept1 h2 i x hx
theorem kept3 {σ : St} {q r t : Nat} {y z u : Bx} (h1 : σ.b q = y) (h2 : σ.b r = z) (h3 : σ.b t = u) : ∀ (i : Nat) (x : Bx), [(q, y), (r, z), (t, u)].lookup i = some x → σ.b i = x := fun i x hx => by
  rw [List.lookup_cons] at hx
  split at hx
  · rename_i he
    rw [eq_of_beq he, h1]
    exact Option.some.inj hx
  · exact kept2 h2 h3 i x hx
theorem inAll {L : List Nat} {bs : List (Nat × Bx)} (h : bs.all (fun p => L.contains p.1 && p.2.within L) = true) : ∀ i x, bs.lookup i = some x → i ∈ L ∧ x.within L = true := by
  induction bs with
  | nil => intro i x hx; cases hx
  | cons p bs ih =>
    intro i x hx
    obtain ⟨q, y⟩ := p
    simp only [List.all_cons, Bool.and_eq_true] at h
    rw [List.lookup_cons] at hx
    split at hx
    · rename_i he
      obtain rfl := Option.some.inj hx
      refine ⟨?_, h.1.2⟩
      rw [eq_of_beq he]
      simpa using h.1.1
    · exact ih (by simpa using h.2) i x hx
/-- Opening a reader. -/
def OpenOk (P : Program) (f : FuncId) : Prop := ∀ zs : List (Fin 256), Spec P f [.d (bytesD (zs.map (·.val)))] [] (fun r bs => r = .ptr 0 0 ∧ ∃ zs', bs = [(0, rdr zs' 0)])
def conOpen (zs : List (Fin 256)) : Con := Con.at [.d (bytesD (zs.map (·.val)))] [] (fun r bs => r = .ptr 0 0 ∧ ∃ zs', bs = [(0, rdr zs' 0)])
theorem conOpen_ok {P : Program} {f : FuncId} (h : OpenOk P f) (zs : List (Fin 256)) : (conOpen zs).ok P f ([] ++ [0]) := by
  rintro aas' bs' ⟨rfl, rfl⟩
  refine ⟨h zs, ?_⟩
  rintro r bs' ⟨rfl, zs', rfl⟩
  refine ⟨rfl, fun j x hx => ?_⟩
  rw [List.lookup_cons] at hx
  split at hx
  · rename_i he
    obtain rfl := Option.some.inj hx
    exact ⟨by simp [eq_of_beq he], rfl⟩
  · cases hx
theorem Wk.opn {P : Program} {C : Ctx} {ops : Array Oper} {os : List Oper} {cs : List Cert} {σ : St} {K : St → Prop} {d : Nat} {ty : TypeId} {pos : String} {af : Array Edge} {f : FuncId} {fn : Func} {at_ : Array TypeId} {xs : List Operand} (h : OpenOk P f) (hf : P.funcs[f]? = some fn) (hbody : fn.body.isSome = true) (hname : (fn.name == "runtime.NumGoroutine") = false)
    {zs : List (Fin 256)} (hargs : argsA σ xs = [.d (bytesD (zs.map (·.val)))]) (hb : σ.b 0 = .fresh) (hd : d < σ.n)
    (hk : ∀ zs', Wk P C ops os cs ((σ.put (T d) (.a (.ptr 0 0))).put (B 0) (.b (rdr zs' 0))) K) :
    Wk P C ops (⟨some d, .call { callee := .value (.func f), args := xs.toArray, argTypes := at_ }, ty, pos, af, none⟩ :: os) (⟨xs.flatMap kof ++ ([] ++ [0]).map B, T d :: ([] ++ [0]).map B, behCall (conOpen zs) xs [] [0] d⟩ :: cs) σ K := by
  refine Wk.cons (ok_call [] [0] hf hbody hname (conOpen_ok h zs)) ?_ ?_
  · refine ⟨hd, fun i hi => ?_, by rw [hargs]; rfl, fun i hi => (List.not_mem_nil hi).elim, ⟨hargs, rfl⟩, .ptr 0 0, [(0, rdr zs 0)], rfl, zs, rfl⟩
    obtain rfl : i = 0 := by simpa using hi
    exact hb
  · rintro us ⟨r, bs', ⟨rfl, zs', rfl⟩, rfl⟩
    have := hk zs'
    simpa [St.puts] using this
theorem asData_bytes (zs : List Nat) : asData (zs.map fun z : Nat => [A.d (.v (.int .u8 (z : Int)))]) (zs.map fun z : Nat => [.v (.int .u8 (z : Int))]) := by
  simp [asData, nrms, nrm]
end Go.Proofs.Ytdojkmjamilllaa

/- The program's types: sizes, fields, zeros. -/
namespace Go.Proofs.Ytdojkmjamilllaa
open Go
theorem hmix : Try.prog.follows .mixedOrders = true := by kernel_rfl
theorem ty3 : tyOf Try.prog 3 = some (1, false) := by kernel_rfl
theorem ze3 : zeroOf Try.prog 3 = some [.int .i64 0] := by kernel_rfl
theorem ap3 : appOf Try.prog 3 1 = true := by kernel_rfl
theorem ui3 : Try.prog.underlying 3 = some (.int .i64) := by kernel_rfl
theorem ty4 : tyOf Try.prog 4 = some (1, false) := by kernel_rfl
theorem ze4 : zeroOf Try.prog 4 = some [.bool false] := by kernel_rfl
theorem ap4 : appOf Try.prog 4 1 = true := by kernel_rfl
theorem ty5 : tyOf Try.prog 5 = some (1, false) := by kernel_rfl
theorem ze5 : zeroOf Try.prog 5 = some [.int .u8 0] := by kernel_rfl
theorem ap5 : appOf Try.prog 5 1 = true := by kernel_rfl
theorem ui5 : Try.prog.underlying 5 = some (.int .u8) := by kernel_rfl
theorem ty22 : tyOf Try.prog 22 = some (1, false) := by kernel_rfl
theorem ze22 : zeroOf Try.prog 22 = some [.slice none 0 0] := by kernel_rfl
theorem ap22 : appOf Try.prog 22 1 = true := by kernel_rfl
theorem un22 : Try.prog.underlying 22 = some (.slice 5) := by kernel_rfl
theorem ty24 : tyOf Try.prog 24 = some (5, true) := by kernel_rfl
theorem fd24_0 : fieldOf Try.prog 24 0 = some (0, 1, false) := by kernel_rfl
theorem fd24_1 : fieldOf Try.prog 24 1 = some (1, 1, false) := by kernel_rfl
theorem fd24_2 : fieldOf Try.prog 24 2 = some (2, 1, false) := by kernel_rfl
theorem fd24_3 : fieldOf Try.prog 24 3 = some (3, 1, false) := by kernel_rfl
theorem fd24_4 : fieldOf Try.prog 24 4 = some (4, 1, false) := by kernel_rfl
theorem ze24 : zeroOf Try.prog 24 = some [.int .i64 0, .int .i64 0, .int .i64 0, .int .i64 0, .int .i64 0] := by kernel_rfl
theorem bl24 : builtOf Try.prog 24 = some ([.int .i64 0, .int .i64 0, .int .i64 0, .int .i64 0, .int .i64 0], [(0, 1), (1, 1), (2, 1), (3, 1), (4, 1)]) := by kernel_rfl
theorem ap24 : appOf Try.prog 24 5 = true := by kernel_rfl
theorem ty25 : tyOf Try.prog 25 = some (1, false) := by kernel_rfl
theorem ze25 : zeroOf Try.prog 25 = some [.slice none 0 0] := by kernel_rfl
theorem ap25 : appOf Try.prog 25 1 = true := by kernel_rfl
theorem un25 : Try.prog.underlying 25 = some (.slice 47) := by kernel_rfl
theorem ty27 : tyOf Try.prog 27 = some (10, true) := by kernel_rfl
theorem fd27_0 : fieldOf Try.prog 27 0 = some (0, 1, false) := by kernel_rfl
theorem fd27_1 : fieldOf Try.prog 27 1 = some (1, 1, false) := by kernel_rfl
theorem fd27_2 : fieldOf Try.prog 27 2 = some (2, 1, false) := by kernel_rfl
theorem fd27_3 : fieldOf Try.prog 27 3 = some (3, 1, false) := by kernel_rfl
theorem fd27_4 : fieldOf Try.prog 27 4 = some (4, 1, false) := by kernel_rfl
theorem fd27_5 : fieldOf Try.prog 27 5 = some (5, 1, false) := by kernel_rfl
theorem fd27_6 : fieldOf Try.prog 27 6 = some (6, 1, false) := by kernel_rfl
theorem fd27_7 : fieldOf Try.prog 27 7 = some (7, 1, false) := by kernel_rfl
theorem fd27_8 : fieldOf Try.prog 27 8 = some (8, 1, false) := by kernel_rfl
theorem fd27_9 : fieldOf Try.prog 27 9 = some (9, 1, false) := by kernel_rfl
theorem ze27 : zeroOf Try.prog 27 = some [.int .i64 0, .int .i64 0, .slice none 0 0, .int .i64 0, .slice none 0 0, .bool false, .int .i64 0, .bool false, .int .i64 0, .bool false] := by kernel_rfl
theorem bl27 : builtOf Try.prog 27 = some ([.int .i64 0, .int .i64 0, .slice none 0 0, .int .i64 0, .slice none 0 0, .bool false, .int .i64 0, .bool false, .int .i64 0, .bool false], [(0, 1), (1, 1), (2, 1), (3, 1), (4, 1), (5, 1), (6, 1), (7, 1), (8, 1), (9, 1)]) := by kernel_rfl
theorem ap27 : appOf Try.prog 27 10 = true := by kernel_rfl
theorem ty42 : tyOf Try.prog 42 = some (9, true) := by kernel_rfl
theorem fd42_0 : fieldOf Try.prog 42 0 = some (0, 1, false) := by kernel_rfl
theorem fd42_1 : fieldOf Try.prog 42 1 = some (1, 1, false) := by kernel_rfl
theorem fd42_2 : fieldOf Try.prog 42 2 = some (2, 1, false) := by kernel_rfl
theorem fd42_3 : fieldOf Try.prog 42 3 = some (3, 1, false) := by kernel_rfl
theorem fd42_4 : fieldOf Try.prog 42 4 = some (4, 1, false) := by kernel_rfl
theorem fd42_5 : fieldOf Try.prog 42 5 = some (5, 1, false) := by kernel_rfl
theorem fd42_6 : fieldOf Try.prog 42 6 = some (6, 1, false) := by kernel_rfl
theorem fd42_7 : fieldOf Try.prog 42 7 = some (7, 1, false) := by kernel_rfl
theorem fd42_8 : fieldOf Try.prog 42 8 = some (8, 1, false) := by kernel_rfl
theorem ze42 : zeroOf Try.prog 42 = some [.int .i64 0, .int .i64 0, .int .i64 0, .bool false, .bool false, .int .i64 0, .int .i64 0, .int .i64 0, .slice none 0 0] := by kernel_rfl
theorem bl42 : builtOf Try.prog 42 = some ([.int .i64 0, .int .i64 0, .int .i64 0, .bool false, .bool false, .int .i64 0, .int .i64 0, .int .i64 0, .slice none 0 0], [(0, 1), (1, 1), (2, 1), (3, 1), (4, 1), (5, 1), (6, 1), (7, 1), (8, 1)]) := by kernel_rfl
theorem ap42 : appOf Try.prog 42 9 = true := by kernel_rfl
theorem ty47 : tyOf Try.prog 47 = some (3, true) := by kernel_rfl
theorem fd47_0 : fieldOf Try.prog 47 0 = some (0, 1, false) := by kernel_rfl
theorem fd47_1 : fieldOf Try.prog 47 1 = some (1, 1, false) := by kernel_rfl
theorem fd47_2 : fieldOf Try.prog 47 2 = some (2, 1, false) := by kernel_rfl
theorem ze47 : zeroOf Try.prog 47 = some [.int .i64 0, .int .i64 0, .slice none 0 0] := by kernel_rfl
theorem bl47 : builtOf Try.prog 47 = some ([.int .i64 0, .int .i64 0, .slice none 0 0], [(0, 1), (1, 1), (2, 1)]) := by kernel_rfl
theorem ap47 : appOf Try.prog 47 3 = true := by kernel_rfl
theorem ty62 : tyOf Try.prog 62 = some (5, true) := by kernel_rfl
theorem fd62_0 : fieldOf Try.prog 62 0 = some (0, 1, false) := by kernel_rfl
theorem fd62_1 : fieldOf Try.prog 62 1 = some (1, 1, false) := by kernel_rfl
theorem fd62_2 : fieldOf Try.prog 62 2 = some (2, 1, false) := by kernel_rfl
theorem fd62_3 : fieldOf Try.prog 62 3 = some (3, 1, false) := by kernel_rfl
theorem fd62_4 : fieldOf Try.prog 62 4 = some (4, 1, false) := by kernel_rfl
theorem ze62 : zeroOf Try.prog 62 = some [.int .i64 0, .slice none 0 0, .int .i64 0, .int .i64 0, .bool false] := by kernel_rfl
theorem bl62 : builtOf Try.prog 62 = some ([.int .i64 0, .slice none 0 0, .int .i64 0, .int .i64 0, .bool false], [(0, 1), (1, 1), (2, 1), (3, 1), (4, 1)]) := by kernel_rfl
theorem ap62 : appOf Try.prog 62 5 = true := by kernel_rfl
theorem ty83 : tyOf Try.prog 83 = some (1, false) := by kernel_rfl
theorem ze83 : zeroOf Try.prog 83 = some [.slice none 0 0] := by kernel_rfl
theorem ap83 : appOf Try.prog 83 1 = true := by kernel_rfl
theorem un83 : Try.prog.underlying 83 = some (.slice 3) := by kernel_rfl
theorem ty92 : tyOf Try.prog 92 = some (1, false) := by kernel_rfl
theorem ze92 : zeroOf Try.prog 92 = some [.int .i64 0] := by kernel_rfl
theorem ap92 : appOf Try.prog 92 1 = true := by kernel_rfl
theorem ui92 : Try.prog.underlying 92 = some (.int .i64) := by kernel_rfl
theorem ty103 : tyOf Try.prog 103 = some (2, true) := by kernel_rfl
theorem fd103_0 : fieldOf Try.prog 103 0 = some (0, 1, false) := by kernel_rfl
theorem fd103_1 : fieldOf Try.prog 103 1 = some (1, 1, false) := by kernel_rfl
theorem ze103 : zeroOf Try.prog 103 = some [.slice none 0 0, .int .i64 0] := by kernel_rfl
theorem bl103 : builtOf Try.prog 103 = some ([.slice none 0 0, .int .i64 0], [(0, 1), (1, 1)]) := by kernel_rfl
theorem ap103 : appOf Try.prog 103 2 = true := by kernel_rfl
theorem ty107 : tyOf Try.prog 107 = some (12, true) := by kernel_rfl
theorem ze107 : zeroOf Try.prog 107 = some [.int .i64 0, .int .i64 0, .slice none 0 0, .int .i64 0, .int .i64 0, .slice none 0 0, .int .i64 0, .int .i64 0, .slice none 0 0, .int .i64 0, .int .i64 0, .slice none 0 0] := by kernel_rfl
theorem ap107 : appOf Try.prog 107 12 = true := by kernel_rfl
theorem ty109 : tyOf Try.prog 109 = some (14, true) := by kernel_rfl
theorem fd109_0 : fieldOf Try.prog 109 0 = some (0, 12, true) := by kernel_rfl
theorem fd109_1 : fieldOf Try.prog 109 1 = some (12, 1, false) := by kernel_rfl
theorem fd109_2 : fieldOf Try.prog 109 2 = some (13, 1, false) := by kernel_rfl
theorem ze109 : zeroOf Try.prog 109 = some [.int .i64 0, .int .i64 0, .slice none 0 0, .int .i64 0, .int .i64 0, .slice none 0 0, .int .i64 0, .int .i64 0, .slice none 0 0, .int .i64 0, .int .i64 0, .slice none 0 0, .int .i64 0, .int .i64 0] := by kernel_rfl
theorem bl109 : builtOf Try.prog 109 = some ([.int .i64 0, .int .i64 0, .slice none 0 0, .int .i64 0, .int .i64 0, .slice none 0 0, .int .i64 0, .int .i64 0, .slice none 0 0, .int .i64 0, .int .i64 0, .slice none 0 0, .int .i64 0, .int .i64 0], [(0, 12), (12, 1), (13, 1)]) := by kernel_rfl
theorem ap109 : appOf Try.prog 109 14 = true := by kernel_rfl
theorem ty111 : tyOf Try.prog 111 = some (27, true) := by kernel_rfl
theorem fd111_0 : fieldOf Try.prog 111 0 = some (0, 5, true) := by kernel_rfl
theorem fd111_1 : fieldOf Try.prog 111 1 = some (5, 1, false) := by kernel_rfl
theorem fd111_2 : fieldOf Try.prog 111 2 = some (6, 14, true) := by kernel_rfl
theorem fd111_3 : fieldOf Try.prog 111 3 = some (20, 1, false) := by kernel_rfl
theorem fd111_4 : fieldOf Try.prog 111 4 = some (21, 1, false) := by kernel_rfl
theorem fd111_5 : fieldOf Try.prog 111 5 = some (22, 1, false) := by kernel_rfl
theorem fd111_6 : fieldOf Try.prog 111 6 = some (23, 1, false) := by kernel_rfl
theorem fd111_7 : fieldOf Try.prog 111 7 = some (24, 1, false) := by kernel_rfl
theorem fd111_8 : fieldOf Try.prog 111 8 = some (25, 1, false) := by kernel_rfl
theorem fd111_9 : fieldOf Try.prog 111 9 = some (26, 1, false) := by kernel_rfl
theorem ze111 : zeroOf Try.prog 111 = some [.int .i64 0, .int .i64 0, .int .i64 0, .int .i64 0, .int .i64 0, .int .i64 0, .int .i64 0, .int .i64 0, .slice none 0 0, .int .i64 0, .int .i64 0, .slice none 0 0, .int .i64 0, .int .i64 0, .slice none 0 0, .int .i64 0, .int .i64 0, .slice none 0 0, .int .i64 0, .int .i64 0, .int .i64 0, .slice none 0 0, .bool false, .int .i64 0, .bool false, .int .i64 0, .bool false] := by kernel_rfl
theorem bl111 : builtOf Try.prog 111 = some ([.int .i64 0, .int .i64 0, .int .i64 0, .int .i64 0, .int .i64 0, .int .i64 0, .int .i64 0, .int .i64 0, .slice none 0 0, .int .i64 0, .int .i64 0, .slice none 0 0, .int .i64 0, .int .i64 0, .slice none 0 0, .int .i64 0, .int .i64 0, .slice none 0 0, .int .i64 0, .int .i64 0, .int .i64 0, .slice none 0 0, .bool false, .int .i64 0, .bool false, .int .i64 0, .bool false], [(0, 5), (5, 1), (6, 14), (20, 1), (21, 1), (22, 1), (23, 1), (24, 1), (25, 1), (26, 1)]) := by kernel_rfl
theorem ap111 : appOf Try.prog 111 27 = true := by kernel_rfl
theorem ty119 : tyOf Try.prog 119 = some (3, true) := by kernel_rfl
theorem fd119_0 : fieldOf Try.prog 119 0 = some (0, 1, false) := by kernel_rfl
theorem fd119_1 : fieldOf Try.prog 119 1 = some (1, 1, false) := by kernel_rfl
theorem fd119_2 : fieldOf Try.prog 119 2 = some (2, 1, false) := by kernel_rfl
theorem ze119 : zeroOf Try.prog 119 = some [.int .i64 0, .int .i64 0, .slice none 0 0] := by kernel_rfl
theorem bl119 : builtOf Try.prog 119 = some ([.int .i64 0, .int .i64 0, .slice none 0 0], [(0, 1), (1, 1), (2, 1)]) := by kernel_rfl
theorem ap119 : appOf Try.prog 119 3 = true := by kernel_rfl
theorem ty121 : tyOf Try.prog 121 = some (6, true) := by kernel_rfl
theorem fd121_0 : fieldOf Try.prog 121 0 = some (0, 1, false) := by kernel_rfl
theorem fd121_1 : fieldOf Try.prog 121 1 = some (1, 1, false) := by kernel_rfl
theorem fd121_2 : fieldOf Try.prog 121 2 = some (2, 1, false) := by kernel_rfl
theorem fd121_3 : fieldOf Try.prog 121 3 = some (3, 3, true) := by kernel_rfl
theorem ze121 : zeroOf Try.prog 121 = some [.int .i64 0, .int .i64 0, .bool false, .int .i64 0, .int .i64 0, .slice none 0 0] := by kernel_rfl
theorem bl121 : builtOf Try.prog 121 = some ([.int .i64 0, .int .i64 0, .bool false, .int .i64 0, .int .i64 0, .slice none 0 0], [(0, 1), (1, 1), (2, 1), (3, 3)]) := by kernel_rfl
theorem ap121 : appOf Try.prog 121 6 = true := by kernel_rfl
theorem ty123 : tyOf Try.prog 123 = some (4, true) := by kernel_rfl
theorem fd123_0 : fieldOf Try.prog 123 0 = some (0, 1, false) := by kernel_rfl
theorem fd123_1 : fieldOf Try.prog 123 1 = some (1, 1, false) := by kernel_rfl
theorem fd123_2 : fieldOf Try.prog 123 2 = some (2, 1, false) := by kernel_rfl
theorem fd123_3 : fieldOf Try.prog 123 3 = some (3, 1, false) := by kernel_rfl
theorem ze123 : zeroOf Try.prog 123 = some [.int .i64 0, .bool false, .bool false, .int .i64 0] := by kernel_rfl
theorem bl123 : builtOf Try.prog 123 = some ([.int .i64 0, .bool false, .bool false, .int .i64 0], [(0, 1), (1, 1), (2, 1), (3, 1)]) := by kernel_rfl
theorem ap123 : appOf Try.prog 123 4 = true := by kernel_rfl
theorem ty125 : tyOf Try.prog 125 = some (3, true) := by kernel_rfl
theorem fd125_0 : fieldOf Try.prog 125 0 = some (0, 3, true) := by kernel_rfl
theorem ze125 : zeroOf Try.prog 125 = some [.int .i64 0, .int .i64 0, .slice none 0 0] := by kernel_rfl
theorem bl125 : builtOf Try.prog 125 = some ([.int .i64 0, .int .i64 0, .slice none 0 0], [(0, 3)]) := by kernel_rfl
theorem ap125 : appOf Try.prog 125 3 = true := by kernel_rfl
theorem ty127 : tyOf Try.prog 127 = some (1, true) := by kernel_rfl
theorem fd127_0 : fieldOf Try.prog 127 0 = some (0, 1, false) := by kernel_rfl
theorem ze127 : zeroOf Try.prog 127 = some [.int .i64 0] := by kernel_rfl
theorem bl127 : builtOf Try.prog 127 = some ([.int .i64 0], [(0, 1)]) := by kernel_rfl
theorem ap127 : appOf Try.prog 127 1 = true := by kernel_rfl
end Go.Proofs.Ytdojkmjamilllaa

/- A list of the call's own is read by itself from an operation on. -/
namespace Go.Proofs.Ytdojkmjamilllaa
open Go
def thawSt (t i : Nat) (ds : List (List D)) (σ : St) : St := (σ.put (T t) (.a (.d (.row ds)))).put (B i) (.b .none)
def Thawable (t i : Nat) (ds : List (List D)) (σ : St) : Prop := ∃ k e sz es, σ.t t = .own i k ∧ σ.b i = .own k e sz es ∧ asData es ds
def thawC (t i : Nat) (ds : List (List D)) (c : Cert) : Cert := ⟨T t :: B i :: c.rd, T t :: B i :: c.wr, fun σ => (Thawable t i ds σ ∧ (c.beh (thawSt t i ds σ)).1, fun us => ∃ us', us = .a (.d (.row ds)) :: .b .none :: us' ∧ (c.beh (thawSt t i ds σ)).2 us')⟩
theorem XB.nox {C : Ctx} (h : XB C []) : ∀ b, ¬ C.X b := fun b hb => by
  obtain ⟨j, x, hx, _⟩ := h b hb
  cases hx
section
variable {P : Program} {C : Ctx} {ops : Array Oper} {os : List Oper} {o : Oper} {c : Cert} {cs : List Cert} {σ : St} {K : St → Prop}
theorem ok_thaw (ho : OpOk P C ops o c) (t i : Nat) (ds : List (List D)) (hX : ∀ b, ¬ C.X b) : OpOk P C ops o (thawC t i ds c) := by
  obtain ⟨⟨ht, hl⟩, hdst, hs⟩ := ho
  refine ⟨⟨fun σ h => ?_, fun σ => ?_⟩, ?_, fun σ a w K Q hR hsafe hK => ?_⟩
  · obtain ⟨us, hus⟩ := ht _ h.2
    exact ⟨_, us, rfl, hus⟩
  · have e1 : (σ.mask (T t :: B i :: c.rd)).t t = σ.t t := by simp [St.mask]
    have e2 : (σ.mask (T t :: B i :: c.rd)).b i = σ.b i := bx_mask (by simp)
    have e3 : c.beh (thawSt t i ds (σ.mask (T t :: B i :: c.rd))) = c.beh (thawSt t i ds σ) := by
      rw [← hl (thawSt t i ds (σ.mask _)), ← hl (thawSt t i ds σ)]
      congr 1
      unfold thawSt St.mask St.put upd
      simp only
      congr 1
      · funext q
        by_cases hq : q = t
        · subst hq; simp
        · by_cases hqr : (true, q) ∈ c.rd
          · simp [hq, hqr]
          · simp [hqr]
      · funext q
        by_cases hq : q = i
        · subst hq; simp
        · by_cases hqr : (false, q) ∈ c.rd
          · simp [hq, hqr]
          · simp [hqr]
    unfold thawC Thawable
    simp only [e1, e2, e3]
  · unfold thawC
    cases hd : o.dst with
    | none => rfl
    | some d =>
      rw [hd] at hdst
      simp only [dstIn] at hdst ⊢
      simp at hdst ⊢
      exact .inr hdst
  · obtain ⟨⟨k, e, sz, es, h1, h2, h3⟩, hsf⟩ := hsafe
    have hR2 : Rel C (thawSt t i ds σ) a w := Rel.thaw ds h1 h2 h3 (fun b hb => absurd hb (hX b)) hR
    exact hs (thawSt t i ds σ) a w K Q hR2 hsf fun us a' w' hus hR' => hK _ a' w' ⟨us, rfl, hus⟩ hR'
/-- Ahead of an operation: the list that slot t holds is read by itself from now on. -/
theorem Wk.thaw (t i : Nat) (ds : List (List D)) (hX : XB C []) {k : Nat} {e : TypeId} {sz : Nat} {es : List (List A)} (ht : σ.t t = .own i k) (hb : σ.b i = .own k e sz es) (hd : asData es ds)
    (h : Wk P C ops (o :: os) (c :: cs) (thawSt t i ds σ) K) : Wk P C ops (o :: os) (thawC t i ds c :: cs) σ K := by
  obtain ⟨⟨ho, hos⟩, hsafe, hr⟩ := h
  refine ⟨⟨ok_thaw ho t i ds hX.nox, hos⟩, ⟨⟨k, e, sz, es, ht, hb, hd⟩, hsafe⟩, fun us hus => ?_⟩
  obtain ⟨us', rfl, hus'⟩ := hus
  exact hr us' hus'
end
end Go.Proofs.Ytdojkmjamilllaa

/- Calls of whatever kind as one operation: of a function value, of a method behind an interface; function values made. -/
namespace Go.Proofs.Ytdojkmjamilllaa
open Go

/-- A call whose arguments are told by ar. -/
def behCallG (G : Con) (ar : St → Option (List A)) (L M : List Nat) (d : Nat) : St → Prop × (List V → Prop) := fun σ =>
  (∃ ls, ar σ = some ls ∧ d < σ.n ∧ (∀ i ∈ M, σ.b i = .fresh) ∧ A.withins L ls = true ∧ (∀ i ∈ L, (σ.b i).within L = true) ∧ G.pre ls (boxesA σ L) ∧ ∃ r bs', G.post ls (boxesA σ L) r bs',
   fun us => ∃ ls, ar σ = some ls ∧ ∃ r bs', G.post ls (boxesA σ L) r bs' ∧ us = .a r :: (L ++ M).map fun i => .b ((bs'.lookup i).getD .none))

section
variable {P : Program} {C : Ctx} {ops : Array Oper} {os : List Oper} {cs : List Cert} {σ : St} {K : St → Prop} {d : Nat} {ty : TypeId} {pos : String} {af : Array Edge}

theorem ok_callG {op : Op} {f : FuncId} {G : Con} {rd0 : List Key} {ar : St → Option (List A)} (L M : List Nat) (hG : G.ok P f (L ++ M)) (hm : ∀ (σ : St) (rd : List Key), (∀ k ∈ rd0, k ∈ rd) → ar (σ.mask rd) = ar σ)
    (hcall : ∀ (σ : St) (a : Act) (w : World) (F : Nat → Prop) (E : Nat → Option Nat) (H : Nat → Nat → Option Value) (ls : List A), RelE C σ a w F E H → ar σ = some ls → ∃ vs : Array Value, vs.size = ls.length ∧ (∀ (i : Nat) (x : A), ls[i]? = some x → Den w F E H x (vs.getD i undef)) ∧ (execOp a.eval ⟨some d, op, ty, pos, af, none⟩).run P w = .ok (.enter f vs) w) :
    OpOk P C ops ⟨some d, op, ty, pos, af, none⟩ ⟨rd0 ++ (L ++ M).map B, T d :: (L ++ M).map B, behCallG G ar L M d⟩ := by
  refine OpOk.of rfl (by simp [dstIn]) (fun σ h => ?_) (fun σ => ?_) (fun σ a w F E H K Q hR hsafe hK => ?_)
  · obtain ⟨ls, e, _, _, _, _, _, r, bs', h⟩ := h
    exact ⟨_, ls, e, r, bs', h, rfl⟩
  · have e1 : ar (σ.mask (rd0 ++ (L ++ M).map B)) = ar σ := hm σ _ fun k hk => List.mem_append_left _ hk
    have e3 : ∀ i ∈ L ++ M, (σ.mask (rd0 ++ (L ++ M).map B)).b i = σ.b i := fun i hi => bx_mask (List.mem_append_right _ (List.mem_map.2 ⟨i, hi, rfl⟩))
    have e2 : boxesA (σ.mask (rd0 ++ (L ++ M).map B)) L = boxesA σ L := by
      unfold boxesA
      refine List.map_congr_left fun i hi => ?_
      rw [e3 i (List.mem_append_left _ hi)]
    have e4 : (∀ i ∈ M, (σ.mask (rd0 ++ (L ++ M).map B)).b i = .fresh) ↔ ∀ i ∈ M, σ.b i = .fresh := by
      constructor
      · intro h i hi; rw [← e3 i (List.mem_append_right _ hi)]; exact h i hi
      · intro h i hi; rw [e3 i (List.mem_append_right _ hi)]; exact h i hi
    have e5 : (∀ i ∈ L, ((σ.mask (rd0 ++ (L ++ M).map B)).b i).within L = true) ↔ ∀ i ∈ L, (σ.b i).within L = true := by
      constructor
      · intro h i hi; rw [← e3 i (List.mem_append_left _ hi)]; exact h i hi
      · intro h i hi; rw [e3 i (List.mem_append_left _ hi)]; exact h i hi
    unfold behCallG
    simp only [e1, e2, e4, e5]
    rfl
  · obtain ⟨ls, har, hd, hM, hwa, hwb, hpre, _⟩ := hsafe
    obtain ⟨vs, hvs, hden, hrun⟩ := hcall σ a w F E H ls hR har
    obtain ⟨hspec, hwith⟩ := hG _ _ hpre
    let E1 : Nat → Option Nat := fun i => if L.contains i then E i else none
    let H1 : Nat → Nat → Option Value := fun i k => if L.contains i then H i k else none
    have hE1 : ∀ i ∈ L, E1 i = E i := fun i hi => if_pos (by simpa using hi)
    have hH1 : ∀ i ∈ L, ∀ k, H1 i k = H i k := fun i hi k => if_pos (by simpa using hi)
    have hlk : ∀ i x, (boxesA σ L).lookup i = some x → i ∈ L ∧ σ.b i = x := fun i x h => by
      rw [boxesA_lookup] at h
      split at h
      · rename_i hi; exact ⟨hi, Option.some.inj h⟩
      · cases h
    have hpo : PreOk w F E1 H1 (boxesA σ L) := by
      refine ⟨hR.env.Flt, fun i x h => ?_, fun i x b h hb => ?_, fun i j x y b hij hx hy h1 h2 => ?_, fun i h => ?_⟩
      · obtain ⟨hi, rfl⟩ := hlk i x h
        exact (hR.env.box i).names hE1 hH1 hi (hwb i hi)
      · obtain ⟨hi, rfl⟩ := hlk i x h
        rw [blk_names (hE1 i hi) (hH1 i hi)] at hb
        exact (hR.env.live i b hb).1
      · obtain ⟨hi, rfl⟩ := hlk i x hx
        obtain ⟨hj, rfl⟩ := hlk j y hy
        rw [blk_names (hE1 i hi) (hH1 i hi)] at h1
        rw [blk_names (hE1 j hj) (hH1 j hj)] at h2
        exact hR.env.sep i j b hij h1 h2
      · rw [boxesA_lookup] at h
        split at h
        · cases h
        · rename_i hi
          have : L.contains i = false := by simpa using hi
          exact ⟨if_neg (by rw [this]; decide), fun k => if_neg (by rw [this]; decide)⟩
    unfold Oper.wp
    rw [hrun, Oper.upon_enter]
    refine (hspec w F E1 H1 vs hpo hvs (fun i x hx => (hden i x hx).names hE1 hH1 (withins_get hwa i _ hx))).mono ?_
    · rintro e w' ⟨v, r, bs', F', E', H', rfl, hpost, hp, hden'⟩
      obtain ⟨hwr, hwx⟩ := hwith r bs' hpost
      let E2 : Nat → Option Nat := fun i => if (L ++ M).contains i then E' i else E i
      let H2 : Nat → Nat → Option Value := fun i k => if (L ++ M).contains i then H' i k else H i k
      have hE2 : ∀ i ∈ L ++ M, E2 i = E' i := fun i hi => if_pos (by simpa using hi)
      have hH2 : ∀ i ∈ L ++ M, ∀ k, H2 i k = H' i k := fun i hi k => if_pos (by simpa using hi)
      have hE3 : ∀ i, i ∉ L ++ M → E2 i = E i := fun i hi => if_neg (by simpa using hi)
      have hH3 : ∀ i k, i ∉ L ++ M → H2 i k = H i k := fun i k hi => if_neg (by simpa using hi)
      have hfr : ∀ i ∈ M, E i = none ∧ ∀ k, H i k = none := fun i hi => by
        have := hR.env.box i
        rw [hM i hi] at this
        exact this
      have hEm : ∀ i b, E i = some b → E2 i = some b := fun i b hb => by
        by_cases hi : i ∈ L ++ M
        · rw [hE2 i hi]
          rcases List.mem_append.1 hi with h | h
          · exact hp.en i b (by rw [hE1 i h]; exact hb)
          · rw [(hfr i h).1] at hb; cases hb
        · rw [hE3 i hi]; exact hb
      have hHm : ∀ i k v, H i k = some v → H2 i k = some v := fun i k v hv => by
        by_cases hi : i ∈ L ++ M
        · rw [hH2 i hi]
          rcases List.mem_append.1 hi with h | h
          · exact hp.hn i k v (by rw [hH1 i h]; exact hv)
          · rw [(hfr i h).2 k] at hv; cases hv
        · rw [hH3 i k hi]; exact hv
      have hold : ∀ b, b < w.heap.size → (∀ i, i ∈ L ++ M → blk E H i (σ.b i) ≠ some b) → w'.heap[b]? = w.heap[b]? := fun b hb hn => hp.old b hb fun i x hx hxb => by
        obtain ⟨hi, rfl⟩ := hlk i x hx
        rw [blk_names (hE1 i hi) (hH1 i hi)] at hxb
        exact hn i (List.mem_append_left _ hi) hxb
      let bx' : Nat → Bx := fun i => if i ∈ L ++ M then (bs'.lookup i).getD .none else σ.b i
      have hb1 : ∀ i ∈ L ++ M, bx' i = (bs'.lookup i).getD .none := fun i hi => if_pos hi
      have hbk : ∀ i ∈ L ++ M, ∀ b, blk E2 H2 i (bx' i) = some b → ∃ x, bs'.lookup i = some x ∧ blk E' H' i x = some b := fun i hi b hb => by
        rw [hb1 i hi, blk_names (hE2 i hi) (hH2 i hi)] at hb
        cases hl : bs'.lookup i with
        | none => rw [hl] at hb; cases hb
        | some x => rw [hl] at hb; exact ⟨x, rfl, hb⟩
      have env : Env C w' F' E2 H2 bx' := hR.env.step (· ∈ L ++ M) hp.os hp.tape hp.output hp.size hold hp.fr
        (fun b hb => by
          rcases hp.Fnew b hb with h | h
          · exact .inl h
          · exact .inr ⟨hp.Flt b hb, .inl h⟩) hEm hHm hE3 hH3 (fun i hi => if_neg hi)
        (fun i hi => by
          rw [hb1 i hi]
          cases hl : bs'.lookup i with
          | none => trivial
          | some x => exact (hp.box i x hl).names hE2 hH2 hi (hwx i x hl).2)
        (fun i hi b hb => by
          obtain ⟨x, hx, hxb⟩ := hbk i hi b hb
          refine ⟨hp.nf i x b hx hxb, ?_⟩
          rcases hp.live i x b hx hxb with ⟨j, y, hy, hyb⟩ | h
          · obtain ⟨hj, rfl⟩ := hlk j y hy
            rw [blk_names (hE1 j hj) (hH1 j hj)] at hyb
            exact .inr ⟨j, List.mem_append_left _ hj, hyb⟩
          · exact .inl h)
        (fun i j b hi hj hij h1 h2 => by
          obtain ⟨x, hx, hxb⟩ := hbk i hi b h1
          obtain ⟨y, hy, hyb⟩ := hbk j hj b h2
          exact hp.sep i j x y b hij hx hy hxb hyb)
      have hFw : ∀ b, F b → w'.heap[b]? = w.heap[b]? := fun b hb => hold b (hR.env.Flt b hb) fun i _ e => hR.env.frozen hb i e
      have hnew : RelE C ⟨σ.n, σ.t, bx'⟩ a w' F' E2 H2 := hR.move env hp.fr hFw hEm hHm
      have hput := hnew.put (d := d) (r := r) hd (hden'.names hE2 hH2 hwr)
      refine hK _ _ _ ⟨ls, har, r, bs', hpost, rfl⟩ ?_
      have : σ.puts (T d :: (L ++ M).map B) (.a r :: (L ++ M).map fun i => .b ((bs'.lookup i).getD .none)) = (⟨σ.n, σ.t, bx'⟩ : St).put (T d) (.a r) := by
        rw [St.puts, puts_boxes (fun i => (bs'.lookup i).getD .none)]
        rfl
      rw [this]
      exact hput.r

/-! Function values. -/
def rFunc (fn : Fn) (fs gs : List Operand) (σ : St) : Option A := some (.fn fn (fs.map (aev σ)) (gs.map (aev σ)))
theorem ok_mkf (fn : Fn) (fs gs : List Operand) : OpOk P C ops ⟨some d, .makeFunc fn fs.toArray gs.toArray, ty, pos, af, none⟩ ⟨fs.flatMap kof ++ gs.flatMap kof, [T d], beh1 (rFunc fn fs gs) d⟩ :=
  OpOk.read rfl rfl (fun σ => by
    have e : ∀ (ys : List Operand), (∀ k ∈ ys.flatMap kof, k ∈ fs.flatMap kof ++ gs.flatMap kof) → ys.map (aev (σ.mask (fs.flatMap kof ++ gs.flatMap kof))) = ys.map (aev σ) := fun ys h =>
      List.map_congr_left fun y hy => aev_mask fun k hk => h k (List.mem_flatMap.2 ⟨y, hy, hk⟩)
    unfold rFunc
    rw [e fs (fun k h => List.mem_append_left _ h), e gs (fun k h => List.mem_append_right _ h)]) fun σ a w F E H r hR h => by
    obtain rfl := Option.some.inj h
    have key : ∀ (ys : List Operand) (i : Nat) (x : A), (ys.map (aev σ))[i]? = some x → Den w F E H x ((ys.map a.eval).toArray.getD i undef) := fun ys i x hx => by
      simp only [List.getElem?_map, Option.map_eq_some_iff] at hx
      obtain ⟨q, hq, rfl⟩ := hx
      have e : (ys.map a.eval).toArray.getD i undef = a.eval q := by simp [Array.getD_eq_getD_getElem?, hq]
      rw [e]
      exact hR.ev q
    refine ⟨.func fn (fs.map a.eval).toArray (gs.map a.eval).toArray, ?_, .fn fn _ _ _ _ (by simp) (by simp) (key fs) (key gs)⟩
    simp [execOp, Instr.makeFunc]
theorem Wk.mkf {fn : Fn} {fs gs : List Operand} (hd : d < σ.n) (h : Wk P C ops os cs (σ.put (T d) (.a (.fn fn (fs.map (aev σ)) (gs.map (aev σ))))) K) :
    Wk P C ops (⟨some d, .makeFunc fn fs.toArray gs.toArray, ty, pos, af, none⟩ :: os) (⟨fs.flatMap kof ++ gs.flatMap kof, [T d], beh1 (rFunc fn fs gs) d⟩ :: cs) σ K := Wk.read (ok_mkf fn fs gs) _ hd rfl h
/-- The arguments of a call of a function value. -/
def argsF (f : FuncId) (x : Operand) (xs : List Operand) (σ : St) : Option (List A) :=
  match aev σ x with
  | .fn (.func f') fs gs => if f' = f then some ((fs ++ (xs.map (aev σ) ++ gs)).map nrm) else none
  | _ => none
theorem dens_append {w : World} {F : Nat → Prop} {E : Nat → Option Nat} {H : Nat → Nat → Option Value} {xs ys : List A} {us vs : Array Value} (hs : us.size = xs.length) (hx : ∀ (i : Nat) (x : A), xs[i]? = some x → Den w F E H x (us.getD i undef)) (hy : ∀ (i : Nat) (x : A), ys[i]? = some x → Den w F E H x (vs.getD i undef)) :
    ∀ (i : Nat) (x : A), (xs ++ ys)[i]? = some x → Den w F E H x ((us ++ vs).getD i undef) := fun i x h => by
  by_cases hi : i < xs.length
  · rw [List.getElem?_append_left hi] at h
    have e : (us ++ vs).getD i undef = us.getD i undef := by simp [Array.getD_eq_getD_getElem?, Array.getElem?_append_left (hs.symm ▸ hi : i < us.size)]
    rw [e]; exact hx i x h
  · rw [List.getElem?_append_right (by omega)] at h
    have e : (us ++ vs).getD i undef = vs.getD (i - xs.length) undef := by simp [Array.getD_eq_getD_getElem?, Array.getElem?_append_right (by omega : us.size ≤ i), hs]
    rw [e]; exact hy _ x h
theorem den_fnc {w : World} {F : Nat → Prop} {E : Nat → Option Nat} {H : Nat → Nat → Option Value} {fn : Fn} {fs gs : List A} {v : Value} (h : Den w F E H (.fn fn fs gs) v) :
    ∃ cs ds : Array Value, v = .func fn cs ds ∧ cs.size = fs.length ∧ ds.size = gs.length ∧ (∀ (i : Nat) (x : A), fs[i]? = some x → Den w F E H x (cs.getD i undef)) ∧ ∀ (i : Nat) (x : A), gs[i]? = some x → Den w F E H x (ds.getD i undef) := by
  cases h with | fn _ _ _ cs ds hs ht h h' => exact ⟨cs, ds, rfl, hs, ht, h, h'⟩
theorem ok_clf {f : FuncId} {fn : Func} {at_ : Array TypeId} {x : Operand} {xs : List Operand} {G : Con} (L M : List Nat) (hf : P.funcs[f]? = some fn) (hbody : fn.body.isSome = true) (hname : (fn.name == "runtime.NumGoroutine") = false) (hG : G.ok P f (L ++ M)) :
    OpOk P C ops ⟨some d, .call { callee := .value x, args := xs.toArray, argTypes := at_ }, ty, pos, af, none⟩ ⟨(kof x ++ xs.flatMap kof) ++ (L ++ M).map B, T d :: (L ++ M).map B, behCallG G (argsF f x xs) L M d⟩ :=
  ok_callG L M hG (fun σ rd h => by
    unfold argsF
    rw [aev_mask fun k hk => h k (List.mem_append_left _ hk), List.map_congr_left fun y hy => aev_mask (σ := σ) (rd := rd) fun k hk => h k (List.mem_append_right _ (List.mem_flatMap.2 ⟨y, hy, hk⟩))]) fun σ a w F E H ls hR har => by
    unfold argsF at har
    split at har
    · rename_i f' fs gs he
      split at har
      · rename_i hff
        subst hff
        obtain rfl := Option.some.inj har
        have hd := hR.ev x
        rw [he] at hd
        obtain ⟨cs, ds, hv, hs, ht, h1, h2⟩ := den_fnc hd
        have hn : ¬ fn.name = "runtime.NumGoroutine" := by simpa using hname
        have hb2 : fn.body ≠ none := by intro e; rw [e] at hbody; cases hbody
        have hx : ∀ (i : Nat) (y : A), (xs.map (aev σ))[i]? = some y → Den w F E H y ((xs.map a.eval).toArray.getD i undef) := fun i y hy => by
          simp only [List.getElem?_map, Option.map_eq_some_iff] at hy
          obtain ⟨q, hq, rfl⟩ := hy
          have e : (xs.map a.eval).toArray.getD i undef = a.eval q := by simp [Array.getD_eq_getD_getElem?, hq]
          rw [e]; exact hR.ev q
        refine ⟨cs ++ ((xs.map a.eval).toArray ++ ds), by simp [hs, ht], fun i y hy => ?_, ?_⟩
        · simp only [List.getElem?_map, Option.map_eq_some_iff] at hy
          obtain ⟨z, hz, rfl⟩ := hy
          exact (dens_append hs h1 (dens_append (by simp) hx h2) i z hz).nrm
        · simp only [execOp, resolve]
          rw [hv]
          simp [Deferred.ofValue, invoke, callFunc, hf, hn, hb2]
      · cases har
    · cases har
/-- What comes of a call hangs on the boxes that it was handed, and on those that it made. -/
def PostIn (L : List Nat) (post : A → List (Nat × Bx) → Prop) : Prop := ∀ r bs', post r bs' → r.within L = true ∧ ∀ i x, bs'.lookup i = some x → i ∈ L ∧ x.within L = true
theorem Con.at_ok {f : FuncId} {ls : List A} {bs : List (Nat × Bx)} {post : A → List (Nat × Bx) → Prop} {L : List Nat} (h : Spec P f ls bs post) (hp : PostIn L post) : (Con.at ls bs post).ok P f L := by
  rintro aas' bs' ⟨rfl, rfl⟩
  exact ⟨h, hp⟩
/-- A call of a function value. -/
theorem Wk.clf {f : FuncId} {fn : Func} {at_ : Array TypeId} {x : Operand} {xs : List Operand} {ls : List A} {bs : List (Nat × Bx)} {post : A → List (Nat × Bx) → Prop} (L M : List Nat) (h : Spec P f ls bs post) (hp : PostIn (L ++ M) post) (hex : ∃ r bs', post r bs')
    (hf : P.funcs[f]? = some fn) (hbody : fn.body.isSome = true) (hname : (fn.name == "runtime.NumGoroutine") = false) (hargs : argsF f x xs σ = some ls) (hbx : boxesA σ L = bs) (hM : ∀ i ∈ M, σ.b i = .fresh) (hw : A.withins L ls = true) (hwb : ∀ i ∈ L, (σ.b i).within L = true) (hd : d < σ.n)
    (hk : ∀ r bs', post r bs' → Wk P C ops os cs (σ.puts (T d :: (L ++ M).map B) (.a r :: (L ++ M).map fun i => .b ((bs'.lookup i).getD .none))) K) :
    Wk P C ops (⟨some d, .call { callee := .value x, args := xs.toArray, argTypes := at_ }, ty, pos, af, none⟩ :: os) (⟨(kof x ++ xs.flatMap kof) ++ (L ++ M).map B, T d :: (L ++ M).map B, behCallG (Con.at ls bs post) (argsF f x xs) L M d⟩ :: cs) σ K := by
  refine Wk.cons (ok_clf L M hf hbody hname (Con.at_ok h hp)) ?_ ?_
  · exact ⟨ls, hargs, hd, hM, hw, hwb, ⟨rfl, hbx⟩, hex⟩
  · rintro us ⟨_, _, r, bs', hpost, rfl⟩
    exact hk r bs' hpost
/-- A call by its contract at what it is handed. -/
theorem Wk.cal {f : FuncId} {fn : Func} {at_ : Array TypeId} {xs : List Operand} {ls : List A} {bs : List (Nat × Bx)} {post : A → List (Nat × Bx) → Prop} (L M : List Nat) (h : Spec P f ls bs post) (hp : PostIn (L ++ M) post) (hex : ∃ r bs', post r bs')
    (hf : P.funcs[f]? = some fn) (hbody : fn.body.isSome = true) (hname : (fn.name == "runtime.NumGoroutine") = false) (hargs : argsA σ xs = ls) (hbx : boxesA σ L = bs) (hM : ∀ i ∈ M, σ.b i = .fresh) (hw : A.withins L ls = true) (hwb : ∀ i ∈ L, (σ.b i).within L = true) (hd : d < σ.n)
    (hk : ∀ r bs', post r bs' → Wk P C ops os cs (σ.puts (T d :: (L ++ M).map B) (.a r :: (L ++ M).map fun i => .b ((bs'.lookup i).getD .none))) K) :
    Wk P C ops (⟨some d, .call { callee := .value (.func f), args := xs.toArray, argTypes := at_ }, ty, pos, af, none⟩ :: os) (⟨xs.flatMap kof ++ (L ++ M).map B, T d :: (L ++ M).map B, behCall (Con.at ls bs post) xs L M d⟩ :: cs) σ K := by
  refine Wk.cons (ok_call L M hf hbody hname (Con.at_ok h hp)) ?_ ?_
  · exact ⟨hd, hM, by rw [hargs]; exact hw, hwb, ⟨hargs, hbx⟩, hex⟩
  · rintro us ⟨r, bs', hpost, rfl⟩
    exact hk r bs' hpost
end
end Go.Proofs.Ytdojkmjamilllaa

/- The greater of two ints. -/
namespace Go.Proofs.Ytdojkmjamilllaa
open Go Go.RowKit
section
variable {P : Program} {C : Ctx} {ops : Array Oper} {os : List Oper} {cs : List Cert} {σ : St} {K : St → Prop} {d : Nat} {ty : TypeId} {pos : String} {af : Array Edge}
def rMax (x y : Operand) (σ : St) : Option A := (sc (aev σ x)).bind fun u => (sc (aev σ y)).bind fun v => match u, v with | .int k a, .int _ b => some (.d (.v (.int k (if b > a then b else a)))) | _, _ => none
theorem ok_max (x y : Operand) {at_ : Array TypeId} : OpOk P C ops ⟨some d, .call { callee := .builtin .max, args := #[x, y], argTypes := at_ }, ty, pos, af, none⟩ ⟨kof x ++ kof y, [T d], beh1 (rMax x y) d⟩ :=
  OpOk.read rfl rfl (fun σ => by unfold rMax; rw [aev_mask (fun k h => List.mem_append_left _ h), aev_mask (fun k h => List.mem_append_right _ h)]) fun σ a w F E H r hR h => by
    simp only [rMax, Option.bind_eq_some_iff] at h
    obtain ⟨u, hu, v, hv, h⟩ := h
    have e1 := den_sc hu (hR.ev x)
    have e2 := den_sc hv (hR.ev y)
    split at h
    · obtain rfl := Option.some.inj h
      refine ⟨_, ?_, .d _ _ (.v _)⟩
      simp [execOp, resolve, invoke, builtin, e1, e2, Builtin.max_, Builtin.max2]
    · cases h
theorem Wk.max2 {x y : Operand} {at_ : Array TypeId} {k k' : IntKind} {u v r : Int} (hx : aev σ x = .d (.v (.int k u))) (hy : aev σ y = .d (.v (.int k' v))) (hr : (if v > u then v else u) = r) (hd : d < σ.n)
    (h : Wk P C ops os cs (σ.put (T d) (.a (.d (.v (.int k r))))) K) : Wk P C ops (⟨some d, .call { callee := .builtin .max, args := #[x, y], argTypes := at_ }, ty, pos, af, none⟩ :: os) (⟨kof x ++ kof y, [T d], beh1 (rMax x y) d⟩ :: cs) σ K :=
  Wk.read (ok_max x y) _ hd (by simp only [rMax, hx, hy, sc, Option.bind_some, hr]) h
end
end Go.Proofs.Ytdojkmjamilllaa

/- A list of the call's own under another name; a nil list as one of the call's own; draws that leave lists of the call's own. -/
namespace Go.Proofs.Ytdojkmjamilllaa
open Go
section
variable {P : Program} {C : Ctx} {c c' : Code} {Q : Exit → St → Prop} {σ : St}
/-- The names of a list's own that are not used yet, from k' on. -/
def freeFrom (σ : St) (i' k' : Nat) : Prop := (σ.b i' = .fresh ∧ k' = 0) ∨ ∃ k e sz es, σ.b i' = .own k e sz es ∧ k' = k + 1
theorem freeFrom.none {F : Nat → Prop} {E : Nat → Option Nat} {H : Nat → Nat → Option Value} {w : World} {i' k' : Nat} (h : freeFrom σ i' k') (hb : BoxOk w F E H i' (σ.b i')) : ∀ q, k' ≤ q → H i' q = none := by
  rcases h with ⟨h1, rfl⟩ | ⟨k, e, sz, es, h1, rfl⟩
  · rw [h1] at hb; exact fun q _ => hb.2 q
  · rw [h1] at hb
    obtain ⟨v, xs, _, hk, _⟩ := hb
    exact fun q hq => hk q (by omega)
/-- A list of the call's own, held by a variable, goes by another name from now on. -/
theorem Rel.renc {j c i k i' k' : Nat} {e : TypeId} {sz : Nat} {es : List (List A)} {aas : List A} (hj : σ.b j = .var aas) (hc : aas[c]? = some (.own i k)) (hb : σ.b i = .own k e sz es) (hf : freeFrom σ i' k') (hii : i ≠ i') {a : Act} {w : World} (hR : Rel C σ a w) :
    Rel C (((σ.put (B j) (.b (.var (aas.set c (.own i' k'))))).put (B i) (.b .none)).put (B i') (.b (.own k' e sz es))) a w := by
  obtain ⟨F, E, H, hR⟩ := hR.e
  have hji : j ≠ i := fun e => by subst e; rw [hj] at hb; cases hb
  have hji' : j ≠ i' := fun e => by
    subst e
    rcases hf with ⟨h1, _⟩ | ⟨_, _, _, _, h1, _⟩ <;> rw [hj] at h1 <;> cases h1
  have hnone := hf.none (hR.env.box i')
  have hbox := hR.env.box i
  rw [hb] at hbox
  obtain ⟨v, xs, hv, hk, ho, hz, hp⟩ := hbox
  have hblk : blk E H i (σ.b i) = v.ownBlock := by rw [hb]; simp only [blk, hv, Option.bind_some]
  have hbj := hR.env.box j
  rw [hj] at hbj
  obtain ⟨bj, ct, tt, hE, hh, hpj⟩ := hbj
  have hblkj : blk E H j (σ.b j) = some bj := by rw [hj]; exact hE
  let H' : Nat → Nat → Option Value := fun x y => if x = i' ∧ y = k' then some v else H x y
  have hHs : H' i' k' = some v := if_pos ⟨rfl, rfl⟩
  have hHo : ∀ x y, ¬ (x = i' ∧ y = k') → H' x y = H x y := fun x y h => if_neg h
  have hHm : ∀ x y u, H x y = some u → H' x y = some u := fun x y u h => by
    rw [hHo x y (fun ⟨h1, h2⟩ => by subst h1; subst h2; rw [hnone y (Nat.le_refl _)] at h; cases h)]
    exact h
  have h1v : v.oneCell' = true := by
    have hlt2 : c < aas.length := (List.getElem?_eq_some_iff.1 hc).1
    obtain ⟨u, hu, h⟩ := hpj.get hc
    have h2 := den_own h.2
    rw [hv] at h2
    obtain rfl := Option.some.inj h2
    exact h.1
  have env : Env C w F E H' (upd (upd (upd σ.b j (.var (aas.set c (.own i' k')))) i .none) i' (.own k' e sz es)) := by
    refine hR.env.step (fun q => q = i ∨ q = j ∨ q = i') rfl rfl rfl (Nat.le_refl _) (fun b _ _ => rfl) (fun b hb => hb) (fun b hb => .inl hb) (fun _ _ h => h) hHm (fun _ _ => rfl) ?_ ?_ ?_ ?_ ?_
    · intro x y hx
      exact hHo x y fun ⟨h1, _⟩ => hx (.inr (.inr h1))
    · intro q hq
      rw [upd_ne _ _ (fun e => hq (.inr (.inr e))), upd_ne _ _ (fun e => hq (.inl e)), upd_ne _ _ (fun e => hq (.inr (.inl e)))]
    · rintro q (rfl | rfl | rfl)
      · rw [upd_ne _ _ hii, upd_same]; trivial
      · rw [upd_ne _ _ hji', upd_ne _ _ hji, upd_same]
        refine ⟨bj, ct, tt, hE, hh, by simp [hpj.1], fun n x u hx hu => ?_⟩
        by_cases hn : n = c
        · subst hn
          have hlt2 : n < aas.length := (List.getElem?_eq_some_iff.1 hc).1
          rw [List.getElem?_set_self hlt2] at hx
          obtain rfl := Option.some.inj hx
          have h1 := hpj.2 n _ u hc hu
          have h2 := den_own h1.2
          rw [hv] at h2
          obtain rfl := Option.some.inj h2
          exact ⟨h1.1, .own _ _ _ hHs h1.1⟩
        · rw [List.getElem?_set_ne (Ne.symm hn)] at hx
          have h1 := hpj.2 n x u hx hu
          exact ⟨h1.1, h1.2.mono (fun _ h => h) (fun _ _ => rfl) (fun _ _ h => h) hHm⟩
      · rw [upd_same]
        exact ⟨v, xs, hHs, fun y hy => by rw [hHo _ _ (fun ⟨_, h⟩ => by omega)]; exact hnone y (by omega), ho, hz, hp.mono fun x u h => ⟨h.1, h.2.mono (fun _ h => h) (fun _ _ => rfl) (fun _ _ h => h) hHm⟩⟩
    · rintro q (rfl | rfl | rfl) b hb2
      · rw [upd_ne _ _ hii, upd_same] at hb2; cases hb2
      · rw [upd_ne _ _ hji', upd_ne _ _ hji, upd_same] at hb2
        have h3 : blk E H q (σ.b q) = some b := by rw [hj]; exact hb2
        exact ⟨(hR.env.live q b h3).1, .inr ⟨q, .inr (.inl rfl), h3⟩⟩
      · rw [upd_same] at hb2
        simp only [blk, hHs, Option.bind_some] at hb2
        have h3 : blk E H i (σ.b i) = some b := hblk.trans hb2
        exact ⟨(hR.env.live i b h3).1, .inr ⟨i, .inl rfl, h3⟩⟩
    · have key : ∀ b, v.ownBlock = some b → E j ≠ some b := fun b h1 h2 => hR.env.sep i j b (Ne.symm hji) (hblk.trans h1) (by rw [hj]; exact h2)
      rintro q r b (rfl | rfl | rfl) (rfl | rfl | rfl) hqr h1 h2
      all_goals first
        | exact hqr rfl
        | (rw [upd_ne _ _ hii, upd_same] at h1; cases h1)
        | (rw [upd_ne _ _ hii, upd_same] at h2; cases h2)
        | skip
      · rw [upd_ne _ _ hji', upd_ne _ _ hji, upd_same] at h1
        rw [upd_same] at h2
        simp only [blk, hHs, Option.bind_some] at h2
        exact key b h2 h1
      · rw [upd_ne _ _ hji', upd_ne _ _ hji, upd_same] at h2
        rw [upd_same] at h1
        simp only [blk, hHs, Option.bind_some] at h1
        exact key b h1 h2
  have hmove := hR.move env (fun b hb => hb) (fun _ _ => rfl) (fun _ _ h => h) hHm
  exact hmove.r
/-- A nil list that a variable holds as one of the call's own. -/
theorem Rel.nilc {j c i' : Nat} (e : TypeId) (sz : Nat) {aas : List A} (hj : σ.b j = .var aas) (hc : aas[c]? = some (.d (.v (.slice none 0 0)))) (hf : σ.b i' = .fresh) {a : Act} {w : World} (hR : Rel C σ a w) :
    Rel C ((σ.put (B j) (.b (.var (aas.set c (.own i' 0))))).put (B i') (.b (.own 0 e sz []))) a w := by
  obtain ⟨F, E, H, hR⟩ := hR.e
  have hji' : j ≠ i' := fun e => by subst e; rw [hj] at hf; cases hf
  have hbi := hR.env.box i'
  rw [hf] at hbi
  have hbj := hR.env.box j
  rw [hj] at hbj
  obtain ⟨bj, ct, tt, hE, hh, hpj⟩ := hbj
  let v : Value := .slice none 0 0
  let H' : Nat → Nat → Option Value := fun x y => if x = i' ∧ y = 0 then some v else H x y
  have hHs : H' i' 0 = some v := if_pos ⟨rfl, rfl⟩
  have hHo : ∀ x y, ¬ (x = i' ∧ y = 0) → H' x y = H x y := fun x y h => if_neg h
  have hHm : ∀ x y u, H x y = some u → H' x y = some u := fun x y u h => by
    rw [hHo x y (fun ⟨h1, h2⟩ => by subst h1; rw [hbi.2 y] at h; cases h)]
    exact h
  have env : Env C w F E H' (upd (upd σ.b j (.var (aas.set c (.own i' 0)))) i' (.own 0 e sz [])) := by
    refine hR.env.step (fun q => q = j ∨ q = i') rfl rfl rfl (Nat.le_refl _) (fun b _ _ => rfl) (fun b hb => hb) (fun b hb => .inl hb) (fun _ _ h => h) hHm (fun _ _ => rfl) ?_ ?_ ?_ ?_ ?_
    · intro x y hx
      exact hHo x y fun ⟨h1, _⟩ => hx (.inr h1)
    · intro q hq
      rw [upd_ne _ _ (fun e => hq (.inr e)), upd_ne _ _ (fun e => hq (.inl e))]
    · rintro q (rfl | rfl)
      · rw [upd_ne _ _ hji', upd_same]
        refine ⟨bj, ct, tt, hE, hh, by simp [hpj.1], fun n x u hx hu => ?_⟩
        by_cases hn : n = c
        · subst hn
          have hlt2 : n < aas.length := (List.getElem?_eq_some_iff.1 hc).1
          rw [List.getElem?_set_self hlt2] at hx
          obtain rfl := Option.some.inj hx
          have h1 := hpj.2 n _ u hc hu
          obtain rfl := den_v h1.2
          exact ⟨h1.1, .own _ _ _ hHs h1.1⟩
        · rw [List.getElem?_set_ne (Ne.symm hn)] at hx
          have h1 := hpj.2 n x u hx hu
          exact ⟨h1.1, h1.2.mono (fun _ h => h) (fun _ _ => rfl) (fun _ _ h => h) hHm⟩
      · rw [upd_same]
        exact ⟨v, [], hHs, fun y hy => by rw [hHo _ _ (fun ⟨_, h⟩ => by omega)]; exact hbi.2 y, World.ownsRow_nil w 0 e sz, by simp, Pw.nil⟩
    · rintro q (rfl | rfl) b hb2
      · rw [upd_ne _ _ hji', upd_same] at hb2
        have h3 : blk E H q (σ.b q) = some b := by rw [hj]; exact hb2
        exact ⟨(hR.env.live q b h3).1, .inr ⟨q, .inl rfl, h3⟩⟩
      · rw [upd_same] at hb2
        simp only [blk, hHs, Option.bind_some] at hb2
        cases hb2
    · rintro q r b (rfl | rfl) (rfl | rfl) hqr h1 h2
      · exact hqr rfl
      · rw [upd_same] at h2
        simp only [blk, hHs, Option.bind_some] at h2
        cases h2
      · rw [upd_same] at h1
        simp only [blk, hHs, Option.bind_some] at h1
        cases h1
      · exact hqr rfl
  have hmove := hR.move env (fun b hb => hb) (fun _ _ => rfl) (fun _ _ h => h) hHm
  exact hmove.r
theorem AW.renc {j n i k i' k' : Nat} {e : TypeId} {sz : Nat} {es : List (List A)} {aas : List A} (hj : σ.b j = .var aas) (hc : aas[n]? = some (.own i k)) (hb : σ.b i = .own k e sz es) (hf : freeFrom σ i' k') (hii : i ≠ i')
    (h : AW P C c Q (((σ.put (B j) (.b (.var (aas.set n (.own i' k'))))).put (B i) (.b .none)).put (B i') (.b (.own k' e sz es)))) : AW P C c Q σ := fun a w hR => h a w (Rel.renc hj hc hb hf hii hR)
theorem AW.nilc {j n i' : Nat} (e : TypeId) (sz : Nat) {aas : List A} (hj : σ.b j = .var aas) (hc : aas[n]? = some (.d (.v (.slice none 0 0)))) (hf : σ.b i' = .fresh)
    (h : AW P C c Q ((σ.put (B j) (.b (.var (aas.set n (.own i' 0))))).put (B i') (.b (.own 0 e sz [])))) : AW P C c Q σ := fun a w hR => h a w (Rel.nilc e sz hj hc hf hR)
end
/-- A draw that leaves boxes besides the reader. -/
def DrawX (P : Program) (f : FuncId) (pre : List A → Prop) (post : List A → A → List (Nat × Bx) → Prop) (n : Nat) (M : List Nat) : Prop :=
  (∀ zs p rest, pre rest → p + n ≤ 2000000000 → Spec P f (.ptr 0 0 :: rest) [(0, rdr zs p)] (fun r bs => ∃ zs' p' ex, bs = (0, rdr zs' p') :: ex ∧ p' ≤ p + n ∧ post rest r ex)) ∧
  (∀ rest, pre rest → ∃ r ex, post rest r ex) ∧ ∀ rest r ex, post rest r ex → r.within (0 :: M) = true ∧ ex.all (fun x => M.contains x.1 && x.2.within (0 :: M)) = true
def conDrawX (pre : List A → Prop) (post : List A → A → List (Nat × Bx) → Prop) (n : Nat) : Con :=
  ⟨fun aas bs => ∃ zs p rest, aas = .ptr 0 0 :: rest ∧ bs = [(0, rdr zs p)] ∧ pre rest ∧ p + n ≤ 2000000000,
   fun aas bs r bs' => ∃ zs' p' ex, bs' = (0, rdr zs' p') :: ex ∧ p' ≤ rdP bs + n ∧ post aas.tail r ex⟩
theorem conDrawX_ok {P : Program} {f : FuncId} {pre : List A → Prop} {post : List A → A → List (Nat × Bx) → Prop} {n : Nat} {M : List Nat} (h : DrawX P f pre post n M) : (conDrawX pre post n).ok P f ([0] ++ M) := by
  rintro aas bs ⟨zs, p, rest, rfl, rfl, hpre, hp⟩
  have e : rdP [(0, rdr zs p)] = p := by simp [rdP, rdr]
  refine ⟨?_, ?_⟩
  · have := h.1 zs p rest hpre hp
    simp only [conDrawX, List.tail_cons, e]
    exact this
  · rintro r bs' ⟨zs', p', ex, rfl, _, hpost⟩
    obtain ⟨h1, h2⟩ := h.2.2 _ _ _ hpost
    refine ⟨h1, inAll ?_⟩
    simp only [List.all_cons, Bool.and_eq_true]
    refine ⟨⟨by simp, by rfl⟩, List.all_eq_true.2 fun x hx => ?_⟩
    have := List.all_eq_true.1 h2 x hx
    simp only [Bool.and_eq_true] at this ⊢
    exact ⟨by have h3 := this.1; simp at h3 ⊢; exact .inr h3, this.2⟩
theorem Wk.drx {P : Program} {C : Ctx} {ops : Array Oper} {os : List Oper} {cs : List Cert} {σ : St} {K : St → Prop} {d : Nat} {ty : TypeId} {pos : String} {af : Array Edge} {f : FuncId} {fn : Func} {at_ : Array TypeId} {xs : List Operand} {pre : List A → Prop} {post : List A → A → List (Nat × Bx) → Prop} {n : Nat} (M : List Nat) (h : DrawX P f pre post n M) (hf : P.funcs[f]? = some fn) (hbody : fn.body.isSome = true) (hname : (fn.name == "runtime.NumGoroutine") = false)
    {rest : List A} {zs : List (Fin 256)} {p : Nat} (hargs : argsA σ xs = .ptr 0 0 :: rest) (hb : σ.b 0 = rdr zs p) (hpre : pre rest) (hp : p + n ≤ 2000000000) (hw : A.withins [0] rest = true) (hM : ∀ i ∈ M, σ.b i = .fresh) (hd : d < σ.n)
    (hk : ∀ r zs' p' ex, post rest r ex → p' ≤ p + n → Wk P C ops os cs (σ.puts (T d :: B 0 :: M.map B) (.a r :: .b (rdr zs' p') :: M.map fun i => .b ((((0, rdr zs' p') :: ex).lookup i).getD .none))) K) :
    Wk P C ops (⟨some d, .call { callee := .value (.func f), args := xs.toArray, argTypes := at_ }, ty, pos, af, none⟩ :: os) (⟨xs.flatMap kof ++ ([0] ++ M).map B, T d :: ([0] ++ M).map B, behCall (conDrawX pre post n) xs [0] M d⟩ :: cs) σ K := by
  have hbx : boxesA σ [0] = [(0, rdr zs p)] := by simp [boxesA, hb]
  have e : rdP [(0, rdr zs p)] = p := by simp [rdP, rdr]
  refine Wk.cons (ok_call [0] M hf hbody hname (conDrawX_ok h)) ?_ ?_
  · obtain ⟨r, ex, hr⟩ := h.2.1 rest hpre
    refine ⟨hd, hM, ?_, fun j hj => ?_, ⟨zs, p, rest, hargs, hbx, hpre, hp⟩, r, (0, rdr zs p) :: ex, zs, p, ex, rfl, by rw [hbx, e]; omega, ?_⟩
    · rw [hargs]
      simp [A.withins, A.within, hw]
    · obtain rfl : j = 0 := by simpa using hj
      rw [hb]; rfl
    · rw [hargs]; exact hr
  · rintro us ⟨r, bs', ⟨zs', p', ex, rfl, hp', hpost⟩, rfl⟩
    rw [hargs, List.tail_cons] at hpost
    rw [hbx, e] at hp'
    have := hk r zs' p' ex hpost hp'
    simpa [St.puts] using this
end Go.Proofs.Ytdojkmjamilllaa

/- A call that leaves the boxes that it is handed as they are: what reads them need not wait for it. -/
namespace Go.Proofs.Ytdojkmjamilllaa
open Go
def behCallR (G : Con) (xs : List Operand) (L M : List Nat) (d : Nat) : St → Prop × (List V → Prop) := fun σ =>
  ((behCall G xs L M d σ).1, fun us => ∃ r bs', G.post (argsA σ xs) (boxesA σ L) r bs' ∧ us = .a r :: M.map fun i => .b ((bs'.lookup i).getD .none))
section
variable {P : Program} {C : Ctx} {ops : Array Oper} {os : List Oper} {cs : List Cert} {σ : St} {K : St → Prop} {d : Nat} {ty : TypeId} {pos : String} {af : Array Edge}
theorem ok_callR {f : FuncId} {fn : Func} {at_ : Array TypeId} {xs : List Operand} {G : Con} (L M : List Nat) (hf : P.funcs[f]? = some fn) (hbody : fn.body.isSome = true) (hname : (fn.name == "runtime.NumGoroutine") = false) (hG : G.ok P f (L ++ M))
    (hk : ∀ aas bs r bs', G.post aas bs r bs' → G.pre aas bs → ∀ i ∈ L, ∀ x, bs.lookup i = some x → bs'.lookup i = some x) :
    OpOk P C ops ⟨some d, .call { callee := .value (.func f), args := xs.toArray, argTypes := at_ }, ty, pos, af, none⟩ ⟨xs.flatMap kof ++ (L ++ M).map B, T d :: M.map B, behCallR G xs L M d⟩ := by
  obtain ⟨⟨_, hl⟩, _, hs⟩ := ok_call (C := C) (ops := ops) (at_ := at_) (ty := ty) (pos := pos) (af := af) (d := d) (xs := xs) L M hf hbody hname hG
  refine ⟨⟨fun σ h => ?_, fun σ => ?_⟩, by simp [dstIn], fun σ a w K Q hR hsafe hK => ?_⟩
  · obtain ⟨r, bs', h⟩ := h.2.2.2.2.2
    exact ⟨_, r, bs', h, rfl⟩
  · have e1 : argsA (σ.mask (xs.flatMap kof ++ (L ++ M).map B)) xs = argsA σ xs := by
      unfold argsA
      refine List.map_congr_left fun x hx => ?_
      rw [aev_mask fun k hk => List.mem_append_left _ (List.mem_flatMap.2 ⟨x, hx, hk⟩)]
    have e2 : boxesA (σ.mask (xs.flatMap kof ++ (L ++ M).map B)) L = boxesA σ L := by
      unfold boxesA
      refine List.map_congr_left fun i hi => ?_
      rw [show (σ.mask (xs.flatMap kof ++ (L ++ M).map B)).b i = σ.b i from bx_mask (List.mem_append_right _ (List.mem_map.2 ⟨i, List.mem_append_left _ hi, rfl⟩))]
    have e3 := congrArg Prod.fst (hl σ)
    dsimp only [behCallR] at e3 ⊢
    rw [e1, e2, e3]
  · refine hs σ a w K Q hR hsafe fun us a' w' hus hR' => ?_
    obtain ⟨r, bs', hpost, rfl⟩ := hus
    refine hK _ a' w' ⟨r, bs', hpost, rfl⟩ ?_
    have hpre := hsafe.2.2.2.2.1
    have key : σ.puts (T d :: (L ++ M).map B) (.a r :: (L ++ M).map fun i => .b ((bs'.lookup i).getD .none)) = σ.puts (T d :: M.map B) (.a r :: M.map fun i => .b ((bs'.lookup i).getD .none)) := by
      rw [St.puts, St.puts, puts_boxes (fun i => (bs'.lookup i).getD .none) (L ++ M), puts_boxes (fun i => (bs'.lookup i).getD .none) M]
      congr 1
      funext i
      by_cases hM : i ∈ M
      · simp [hM]
      · by_cases hL : i ∈ L
        · have h1 := hk _ _ _ _ hpost hpre i hL (σ.b i) (by rw [boxesA_lookup, if_pos hL])
          simp only [List.mem_append, hL, hM, or_false, if_true, if_false, h1, Option.getD_some]
          rfl
        · simp [hM, hL]
    rw [← key]
    exact hR'
/-- A call by its contract at what it is handed; the boxes that it is handed stay as they are. -/
theorem Wk.calr {f : FuncId} {fn : Func} {at_ : Array TypeId} {xs : List Operand} {ls : List A} {bs : List (Nat × Bx)} {post : A → List (Nat × Bx) → Prop} (L M : List Nat) (h : Spec P f ls bs post) (hp : PostIn (L ++ M) post) (hkeep : ∀ r bs', post r bs' → ∀ i ∈ L, ∀ x, bs.lookup i = some x → bs'.lookup i = some x) (hex : ∃ r bs', post r bs')
    (hf : P.funcs[f]? = some fn) (hbody : fn.body.isSome = true) (hname : (fn.name == "runtime.NumGoroutine") = false) (hargs : argsA σ xs = ls) (hbx : boxesA σ L = bs) (hM : ∀ i ∈ M, σ.b i = .fresh) (hw : A.withins L ls = true) (hwb : ∀ i ∈ L, (σ.b i).within L = true) (hd : d < σ.n)
    (hk : ∀ r bs', post r bs' → Wk P C ops os cs (σ.puts (T d :: M.map B) (.a r :: M.map fun i => .b ((bs'.lookup i).getD .none))) K) :
    Wk P C ops (⟨some d, .call { callee := .value (.func f), args := xs.toArray, argTypes := at_ }, ty, pos, af, none⟩ :: os) (⟨xs.flatMap kof ++ (L ++ M).map B, T d :: M.map B, behCallR (Con.at ls bs post) xs L M d⟩ :: cs) σ K := by
  refine Wk.cons (ok_callR L M hf hbody hname (Con.at_ok h hp) (fun aas bs0 r bs' hpost hpre i hi x hx => ?_)) ?_ ?_
  · obtain ⟨_, rfl⟩ := hpre
    exact hkeep r bs' hpost i hi x hx
  · exact ⟨hd, hM, by rw [hargs]; exact hw, hwb, ⟨hargs, hbx⟩, hex⟩
  · rintro us ⟨r, bs', hpost, rfl⟩
    exact hk r bs' hpost
end
theorem keep2 {i j : Nat} {x y : Bx} {ex : List (Nat × Bx)} : ∀ q ∈ [i, j], ∀ z, ([(i, x), (j, y)] : List (Nat × Bx)).lookup q = some z → ([(i, x), (j, y)] ++ ex).lookup q = some z := by
  intro q _ z hz
  show (((i, x) :: (j, y) :: ex).lookup q) = some z
  rw [List.lookup_cons] at hz ⊢
  cases h1 : q == i with
  | true => rw [h1] at hz; exact hz
  | false =>
    rw [h1] at hz
    simp only [List.lookup_cons] at hz ⊢
    cases h2 : q == j with
    | true => rw [h2] at hz; exact hz
    | false => rw [h2] at hz; cases hz
end Go.Proofs.Ytdojkmjamilllaa

/- The laws' own comparisons, over what values read as. -/
namespace Go.Proofs.Ytdojkmjamilllaa
open Go

theorem liBytes_ok (zs ys : List Nat) : DataOk Try.prog 39 [.d (bytesD zs), .d (bytesD ys)] (.d (.v (.bool (decide (zs = ys))))) := by
  refine Spec.intro (n := 26) (rv := [.tmp 4]) Try.func39 rfl rfl rfl (by simp) fun C hN hX => ?_
  refine AW.bound (x := .tmp 0) rfl fun hb => ?_
  simp only [List.length_map] at hb
  refine AW.seq ?_
  apply AW.list
  apply Wk.asg (by conv => lhs; whnf) (lt_of_ble rfl)
  refine Wk.nil ?_
  refine AW.seq (AW.seq ?_)
  apply AW.list
  apply Wk.mv (by conv => lhs; whnf) (lt_of_ble rfl)
  apply Wk.len Try.underlying22 rfl (lt_of_ble rfl)
  apply Wk.mv (by conv => lhs; whnf) (lt_of_ble rfl)
  apply Wk.len Try.underlying22 rfl (lt_of_ble rfl)
  apply Wk.bin rfl rfl (fun w => by simp [go_sem]; rfl) (lt_of_ble rfl)
  refine Wk.nil ?_
  refine AW.cond rfl (fun h => ?_) (fun h => ?_)
  · refine AW.seq ?_
    apply AW.list
    apply Wk.asg (by conv => lhs; whnf) (lt_of_ble rfl)
    refine Wk.nil (AW.ret ?_)
    repeat (first | refine thenA_ret ?_ | refine inBlockA_ret ?_)
    refine RetQ.ret [] (.cons rfl .nil) ⟨?_, rfl⟩ none_kept
    simp only [bne_iff_ne, ne_eq, Int.natCast_inj] at h
    have : ¬ zs = ys := fun e => h (by rw [e])
    simp only [this, decide_false]
    rfl
  · simp only [bne_eq_false_iff_eq, Int.natCast_inj] at h
    refine AW.skip (thenA_normal ?_)
    refine AW.seq (AW.seq ?_)
    apply AW.list
    apply Wk.asg (by conv => lhs; whnf) (lt_of_ble rfl)
    refine Wk.nil (AW.block ?_)
    refine AW.loop (fun k => St.of 26 [(0, .d (bytesD zs)), (1, .d (bytesD ys)), (5, .d (.v (.int .i64 (k : Nat))))] []) (fun k => k ≤ zs.length ∧ ∀ j, j < k → zs.getD j 0 = ys.getD j 0) (fun k => zs.length - k) 0 ⟨Nat.zero_le _, fun j hj => by omega⟩ ?_ (fun k hk => ?_)
    · exact fun a w => Rel.keep ⟨rfl, .cons rfl rfl (.cons rfl rfl (.cons rfl rfl .nil)), .nil, hN⟩
    refine AW.seq (AW.seq ?_)
    apply AW.list
    apply Wk.mv (by conv => lhs; whnf) (lt_of_ble rfl)
    apply Wk.mv (by conv => lhs; whnf) (lt_of_ble rfl)
    apply Wk.len Try.underlying22 rfl (lt_of_ble rfl)
    apply Wk.bin rfl rfl (fun w => by simp [go_sem]; rfl) (lt_of_ble rfl)
    refine Wk.nil ?_
    refine AW.cond rfl (fun hc => ?_) (fun hc => ?_)
    · refine AW.skip ?_
      repeat (first | refine thenA_normal ?_ | refine inBlockA_normal ?_)
      have hlt : k < zs.length := by simpa using hc
      refine AW.seq (AW.block (AW.seq ?_))
      apply AW.draw (hm := hmix) (cs := _)
      · apply Wk.mv (by conv => lhs; whnf) (lt_of_ble rfl)
        apply Wk.mv (by conv => lhs; whnf) (lt_of_ble rfl)
        apply Wk.iad 1 false Try.underlying22 ty5 rfl rfl (by simpa using hlt) (one_bytes _) (lt_of_ble rfl)
        apply Wk.ldr 1 false ty5 rfl (bytes_get zs k hlt) rfl (lt_of_ble rfl)
        apply Wk.mv (by conv => lhs; whnf) (lt_of_ble rfl)
        apply Wk.mv (by conv => lhs; whnf) (lt_of_ble rfl)
        apply Wk.iad 1 false Try.underlying22 ty5 rfl rfl (by simp; omega) (one_bytes _) (lt_of_ble rfl)
        apply Wk.ldr 1 false ty5 rfl (bytes_get ys k (by omega)) rfl (lt_of_ble rfl)
        apply Wk.bin rfl rfl (fun w => by simp [go_sem]; rfl) (lt_of_ble rfl)
        refine Wk.nil ?_
        refine AW.cond rfl (fun hn => ?_) (fun hn => ?_)
        · refine AW.seq ?_
          apply AW.list
          apply Wk.asg (by conv => lhs; whnf) (lt_of_ble rfl)
          refine Wk.nil (AW.ret ?_)
          repeat (first | refine thenA_ret ?_ | refine inBlockA_ret ?_)
          refine RetQ.ret [] (.cons rfl .nil) ⟨?_, rfl⟩ none_kept
          have : ¬ zs = ys := fun e => by simp [e] at hn
          simp only [this, decide_false]
          rfl
        · refine AW.skip ?_
          repeat (first | refine thenA_normal ?_ | refine inBlockA_normal ?_)
          apply AW.list
          apply Wk.mv (by conv => lhs; whnf) (lt_of_ble rfl)
          apply Wk.addi rfl rfl (by omega) (lt_of_ble rfl)
          apply Wk.asg (by conv => lhs; whnf) (lt_of_ble rfl)
          refine Wk.nil ?_
          refine ⟨k + 1, ⟨by omega, fun j hj => ?_⟩, by omega, fun a w => Rel.keep ⟨rfl, .cons rfl rfl (.cons rfl rfl (.cons rfl rfl .nil)), .nil, hN⟩⟩
          by_cases e : j = k
          · subst e
            simp only [bne_eq_false_iff_eq, Int.natCast_inj] at hn
            exact hn
          · exact hk.2 j (by omega)
      · rfl
      · rfl
    · refine AW.exit ?_
      repeat (first | refine inBlockA_same ?_ | refine thenA_exit ?_)
      repeat (first | refine thenA_normal ?_ | refine inBlockA_normal ?_)
      refine AW.seq ?_
      apply AW.list
      apply Wk.asg (by conv => lhs; whnf) (lt_of_ble rfl)
      refine Wk.nil (AW.ret ?_)
      repeat (first | refine thenA_ret ?_ | refine inBlockA_ret ?_)
      refine RetQ.ret [] (.cons rfl .nil) ⟨?_, rfl⟩ none_kept
      have : zs = ys := List.ext_getElem h fun j h1 h2 => by
        have := hk.2 j (by simp at hc; omega)
        simpa [List.getD_eq_getElem?_getD, h1, h2] using this
      simp only [this, decide_true]
      rfl
end Go.Proofs.Ytdojkmjamilllaa
