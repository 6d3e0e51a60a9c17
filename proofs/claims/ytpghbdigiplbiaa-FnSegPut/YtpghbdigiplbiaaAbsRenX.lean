/- A list of the call's own under another name; a nil list as one of the call's own; draws that leave lists of the call's own. -/
import Derived.Test.YtpghbdigiplbiaaMa
import Derived.Test.YtpghbdigiplbiaaMb
import Derived.Test.YtpghbdigiplbiaaMc
import Derived.Test.YtpghbdigiplbiaaMd
namespace Go.Proofs.Ytpghbdigiplbiaa
open Go
section
variable {P : Program} {C : Ctx} {c c' : Code} {Q : Exit → St → Prop} {σ : St}
/-- The names of a list's own that are not used yet, from k' on. -/
def freeFrom (σ : St) (i' k' : Nat) : Prop := (σ.b i' = .fresh ∧ k' = 0) ∨ ∃ k e sz es, σ.b i' = .own k e sz es ∧ k' = k + 1
theorem freeFrom.none {F : Nat → Prop} {E : Nat → Option Nat} {H : Nat → Nat → Option Value} {w : World} {i' k' : Nat} (h : freeFrom σ i' k') (hb : BoxOk w F E H i' (σ.b i')) : ∀ q, k' ≤ q → H i' q = none := by
  rcases h with ⟨h1, rfl⟩ | ⟨k, e, sz, es, h1, rfl⟩
  · rw [h1] at hb; exact fun q _ => hb.2 q
  · rw [h1] at hb
    obtain ⟨v, xs, _, hk, _⟩ := hb
    exact fun q hq => hk q (by omega)
/-- A list of the call's own, held by a variable, goes by another name from now on. -/
theorem Rel.renc {j c i k i' k' : Nat} {e : TypeId} {sz : Nat} {es : List (List A)} {aas : List A} (hj : σ.b j = .var aas) (hc : aas[c]? = some (.own i k)) (hb : σ.b i = .own k e sz es) (hf : freeFrom σ i' k') (hii : i ≠ i') {a : Act} {w : World} (hR : Rel C σ a w) :
    Rel C (((σ.put (B j) (.b (.var (aas.set c (.own i' k'))))).put (B i) (.b .none)).put (B i') (.b (.own k' e sz es))) a w := by
  obtain ⟨F, E, H, hR⟩ := hR.e
  have hji : j ≠ i := fun e => by subst e; rw [hj] at hb; cases hb
  have hji' : j ≠ i' := fun e => by
    subst e
    rcases hf with ⟨h1, _⟩ | ⟨_, _, _, _, h1, _⟩ <;> rw [hj] at h1 <;> cases h1
  have hnone := hf.none (hR.env.box i')
  have hbox := hR.env.box i
  rw [hb] at hbox
  obtain ⟨v, xs, hv, hk, ho, hz, hp⟩ := hbox
  have hblk : blk E H i (σ.b i) = v.ownBlock := by rw [hb]; simp only [blk, hv, Option.bind_some]
  have hbj := hR.env.box j
  rw [hj] at hbj
  obtain ⟨bj, ct, tt, hE, hh, hpj⟩ := hbj
  have hblkj : blk E H j (σ.b j) = some bj := by rw [hj]; exact hE
  let H' : Nat → Nat → Option Value := fun x y => if x = i' ∧ y = k' then some v else H x y
  have hHs : H' i' k' = some v := if_pos ⟨rfl, rfl⟩
  have hHo : ∀ x y, ¬ (x = i' ∧ y = k') → H' x y = H x y := fun x y h => if_neg h
  have hHm : ∀ x y u, H x y = some u → H' x y = some u := fun x y u h => by
    rw [hHo x y (fun ⟨h1, h2⟩ => by subst h1; subst h2; rw [hnone y (Nat.le_refl _)] at h; cases h)]
    exact h
  have h1v : v.oneCell' = true := by
    have hlt2 : c < aas.length := (List.getElem?_eq_some_iff.1 hc).1
    obtain ⟨u, hu, h⟩ := hpj.get hc
    have h2 := den_own h.2
    rw [hv] at h2
    obtain rfl := Option.some.inj h2
    exact h.1
  have env : Env C w F E H' (upd (upd (upd σ.b j (.var (aas.set c (.own i' k')))) i .none) i' (.own k' e sz es)) := by
    refine hR.env.step (fun q => q = i ∨ q = j ∨ q = i') rfl rfl rfl (Nat.le_refl _) (fun b _ _ => rfl) (fun b hb => hb) (fun b hb => .inl hb) (fun _ _ h => h) hHm (fun _ _ => rfl) ?_ ?_ ?_ ?_ ?_
    · intro x y hx
      exact hHo x y fun ⟨h1, _⟩ => hx (.inr (.inr h1))
    · intro q hq
      rw [upd_ne _ _ (fun e => hq (.inr (.inr e))), upd_ne _ _ (fun e => hq (.inl e)), upd_ne _ _ (fun e => hq (.inr (.inl e)))]
    · rintro q (rfl | rfl | rfl)
      · rw [upd_ne _ _ hii, upd_same]; trivial
      · rw [upd_ne _ _ hji', upd_ne _ _ hji, upd_same]
        refine ⟨bj, ct, tt, hE, hh, by simp [hpj.1], fun n x u hx hu => ?_⟩
        by_cases hn : n = c
        · subst hn
          have hlt2 : n < aas.length := (List.getElem?_eq_some_iff.1 hc).1
          rw [List.getElem?_set_self hlt2] at hx
          obtain rfl := Option.some.inj hx
          have h1 := hpj.2 n _ u hc hu
          have h2 := den_own h1.2
          rw [hv] at h2
          obtain rfl := Option.some.inj h2
          exact ⟨h1.1, .own _ _ _ hHs h1.1⟩
        · rw [List.getElem?_set_ne (Ne.symm hn)] at hx
          have h1 := hpj.2 n x u hx hu
          exact ⟨h1.1, h1.2.mono (fun _ h => h) (fun _ _ => rfl) (fun _ _ h => h) hHm⟩
      · rw [upd_same]
        exact ⟨v, xs, hHs, fun y hy => by rw [hHo _ _ (fun ⟨_, h⟩ => by omega)]; exact hnone y (by omega), ho, hz, hp.mono fun x u h => ⟨h.1, h.2.mono (fun _ h => h) (fun _ _ => rfl) (fun _ _ h => h) hHm⟩⟩
    · rintro q (rfl | rfl | rfl) b hb2
      · rw [upd_ne _ _ hii, upd_same] at hb2; cases hb2
      · rw [upd_ne _ _ hji', upd_ne _ _ hji, upd_same] at hb2
        have h3 : blk E H q (σ.b q) = some b := by rw [hj]; exact hb2
        exact ⟨(hR.env.live q b h3).1, .inr ⟨q, .inr (.inl rfl), h3⟩⟩
      · rw [upd_same] at hb2
        simp only [blk, hHs, Option.bind_some] at hb2
        have h3 : blk E H i (σ.b i) = some b := hblk.trans hb2
        exact ⟨(hR.env.live i b h3).1, .inr ⟨i, .inl rfl, h3⟩⟩
    · have key : ∀ b, v.ownBlock = some b → E j ≠ some b := fun b h1 h2 => hR.env.sep i j b (Ne.symm hji) (hblk.trans h1) (by rw [hj]; exact h2)
      rintro q r b (rfl | rfl | rfl) (rfl | rfl | rfl) hqr h1 h2
      all_goals first
        | exact hqr rfl
        | (rw [upd_ne _ _ hii, upd_same] at h1; cases h1)
        | (rw [upd_ne _ _ hii, upd_same] at h2; cases h2)
        | skip
      · rw [upd_ne _ _ hji', upd_ne _ _ hji, upd_same] at h1
        rw [upd_same] at h2
        simp only [blk, hHs, Option.bind_some] at h2
        exact key b h2 h1
      · rw [upd_ne _ _ hji', upd_ne _ _ hji, upd_same] at h2
        rw [upd_same] at h1
        simp only [blk, hHs, Option.bind_some] at h1
        exact key b h1 h2
  have hmove := hR.move env (fun b hb => hb) (fun _ _ => rfl) (fun _ _ h => h) hHm
  exact hmove.r
/-- A nil list that a variable holds as one of the call's own. -/
theorem Rel.nilc {j c i' : Nat} (e : TypeId) (sz : Nat) {aas : List A} (hj : σ.b j = .var aas) (hc : aas[c]? = some (.d (.v (.slice none 0 0)))) (hf : σ.b i' = .fresh) {a : Act} {w : World} (hR : Rel C σ a w) :
    Rel C ((σ.put (B j) (.b (.var (aas.set c (.own i' 0))))).put (B i') (.b (.own 0 e sz []))) a w := by
  obtain ⟨F, E, H, hR⟩ := hR.e
  have hji' : j ≠ i' := fun e => by subst e; rw [hj] at hf; cases hf
  have hbi := hR.env.box i'
  rw [hf] at hbi
  have hbj := hR.env.box j
  rw [hj] at hbj
  obtain ⟨bj, ct, tt, hE, hh, hpj⟩ := hbj
  let v : Value := .slice none 0 0
  let H' : Nat → Nat → Option Value := fun x y => if x = i' ∧ y = 0 then some v else H x y
  have hHs : H' i' 0 = some v := if_pos ⟨rfl, rfl⟩
  have hHo : ∀ x y, ¬ (x = i' ∧ y = 0) → H' x y = H x y := fun x y h => if_neg h
  have hHm : ∀ x y u, H x y = some u → H' x y = some u := fun x y u h => by
    rw [hHo x y (fun ⟨h1, h2⟩ => by subst h1; rw [hbi.2 y] at h; cases h)]
    exact h
  have env : Env C w F E H' (upd (upd σ.b j (.var (aas.set c (.own i' 0)))) i' (.own 0 e sz [])) := by
    refine hR.env.step (fun q => q = j ∨ q = i') rfl rfl rfl (Nat.le_refl _) (fun b _ _ => rfl) (fun b hb => hb) (fun b hb => .inl hb) (fun _ _ h => h) hHm (fun _ _ => rfl) ?_ ?_ ?_ ?_ ?_
    · intro x y hx
      exact hHo x y fun ⟨h1, _⟩ => hx (.inr h1)
    · intro q hq
      rw [upd_ne _ _ (fun e => hq (.inr e)), upd_ne _ _ (fun e => hq (.inl e))]
    · rintro q (rfl | rfl)
      · rw [upd_ne _ _ hji', upd_same]
        refine ⟨bj, ct, tt, hE, hh, by simp [hpj.1], fun n x u hx hu => ?_⟩
        by_cases hn : n = c
        · subst hn
          have hlt2 : n < aas.length := (List.getElem?_eq_some_iff.1 hc).1
          rw [List.getElem?_set_self hlt2] at hx
          obtain rfl := Option.some.inj hx
          have h1 := hpj.2 n _ u hc hu
          obtain rfl := den_v h1.2
          exact ⟨h1.1, .own _ _ _ hHs h1.1⟩
        · rw [List.getElem?_set_ne (Ne.symm hn)] at hx
          have h1 := hpj.2 n x u hx hu
          exact ⟨h1.1, h1.2.mono (fun _ h => h) (fun _ _ => rfl) (fun _ _ h => h) hHm⟩
      · rw [upd_same]
        exact ⟨v, [], hHs, fun y hy => by rw [hHo _ _ (fun ⟨_, h⟩ => by omega)]; exact hbi.2 y, World.ownsRow_nil w 0 e sz, by simp, Pw.nil⟩
    · rintro q (rfl | rfl) b hb2
      · rw [upd_ne _ _ hji', upd_same] at hb2
        have h3 : blk E H q (σ.b q) = some b := by rw [hj]; exact hb2
        exact ⟨(hR.env.live q b h3).1, .inr ⟨q, .inl rfl, h3⟩⟩
      · rw [upd_same] at hb2
        simp only [blk, hHs, Option.bind_some] at hb2
        cases hb2
    · rintro q r b (rfl | rfl) (rfl | rfl) hqr h1 h2
      · exact hqr rfl
      · rw [upd_same] at h2
        simp only [blk, hHs, Option.bind_some] at h2
        cases h2
      · rw [upd_same] at h1
        simp only [blk, hHs, Option.bind_some] at h1
        cases h1
      · exact hqr rfl
  have hmove := hR.move env (fun b hb => hb) (fun _ _ => rfl) (fun _ _ h => h) hHm
  exact hmove.r
theorem AW.renc {j n i k i' k' : Nat} {e : TypeId} {sz : Nat} {es : List (List A)} {aas : List A} (hj : σ.b j = .var aas) (hc : aas[n]? = some (.own i k)) (hb : σ.b i = .own k e sz es) (hf : freeFrom σ i' k') (hii : i ≠ i')
    (h : AW P C c Q (((σ.put (B j) (.b (.var (aas.set n (.own i' k'))))).put (B i) (.b .none)).put (B i') (.b (.own k' e sz es)))) : AW P C c Q σ := fun a w hR => h a w (Rel.renc hj hc hb hf hii hR)
theorem AW.nilc {j n i' : Nat} (e : TypeId) (sz : Nat) {aas : List A} (hj : σ.b j = .var aas) (hc : aas[n]? = some (.d (.v (.slice none 0 0)))) (hf : σ.b i' = .fresh)
    (h : AW P C c Q ((σ.put (B j) (.b (.var (aas.set n (.own i' 0))))).put (B i') (.b (.own 0 e sz [])))) : AW P C c Q σ := fun a w hR => h a w (Rel.nilc e sz hj hc hf hR)
end
/-- A draw that leaves boxes besides the reader. -/
def DrawX (P : Program) (f : FuncId) (pre : List A → Prop) (post : List A → A → List (Nat × Bx) → Prop) (n : Nat) (M : List Nat) : Prop :=
  (∀ zs p rest, pre rest → p + n ≤ 2000000000 → Spec P f (.ptr 0 0 :: rest) [(0, rdr zs p)] (fun r bs => ∃ zs' p' ex, bs = (0, rdr zs' p') :: ex ∧ p' ≤ p + n ∧ post rest r ex)) ∧
  (∀ rest, pre rest → ∃ r ex, post rest r ex) ∧ ∀ rest r ex, post rest r ex → r.within (0 :: M) = true ∧ ex.all (fun x => M.contains x.1 && x.2.within (0 :: M)) = true
def conDrawX (pre : List A → Prop) (post : List A → A → List (Nat × Bx) → Prop) (n : Nat) : Con :=
  ⟨fun aas bs => ∃ zs p rest, aas = .ptr 0 0 :: rest ∧ bs = [(0, rdr zs p)] ∧ pre rest ∧ p + n ≤ 2000000000,
   fun aas bs r bs' => ∃ zs' p' ex, bs' = (0, rdr zs' p') :: ex ∧ p' ≤ rdP bs + n ∧ post aas.tail r ex⟩
theorem conDrawX_ok {P : Program} {f : FuncId} {pre : List A → Prop} {post : List A → A → List (Nat × Bx) → Prop} {n : Nat} {M : List Nat} (h : DrawX P f pre post n M) : (conDrawX pre post n).ok P f ([0] ++ M) := by
  rintro aas bs ⟨zs, p, rest, rfl, rfl, hpre, hp⟩
  have e : rdP [(0, rdr zs p)] = p := by simp [rdP, rdr]
  refine ⟨?_, ?_⟩
  · have := h.1 zs p rest hpre hp
    simp only [conDrawX, List.tail_cons, e]
    exact this
  · rintro r bs' ⟨zs', p', ex, rfl, _, hpost⟩
    obtain ⟨h1, h2⟩ := h.2.2 _ _ _ hpost
    refine ⟨h1, inAll ?_⟩
    simp only [List.all_cons, Bool.and_eq_true]
    refine ⟨⟨by simp, by rfl⟩, List.all_eq_true.2 fun x hx => ?_⟩
    have := List.all_eq_true.1 h2 x hx
    simp only [Bool.and_eq_true] at this ⊢
    exact ⟨by have h3 := this.1; simp at h3 ⊢; exact .inr h3, this.2⟩
theorem Wk.drx {P : Program} {C : Ctx} {ops : Array Oper} {os : List Oper} {cs : List Cert} {σ : St} {K : St → Prop} {d : Nat} {ty : TypeId} {pos : String} {af : Array Edge} {f : FuncId} {fn : Func} {at_ : Array TypeId} {xs : List Operand} {pre : List A → Prop} {post : List A → A → List (Nat × Bx) → Prop} {n : Nat} (M : List Nat) (h : DrawX P f pre post n M) (hf : P.funcs[f]? = some fn) (hbody : fn.body.isSome = true) (hname : (fn.name == "runtime.NumGoroutine") = false)
    {rest : List A} {zs : List (Fin 256)} {p : Nat} (hargs : argsA σ xs = .ptr 0 0 :: rest) (hb : σ.b 0 = rdr zs p) (hpre : pre rest) (hp : p + n ≤ 2000000000) (hw : A.withins [0] rest = true) (hM : ∀ i ∈ M, σ.b i = .fresh) (hd : d < σ.n)
    (hk : ∀ r zs' p' ex, post rest r ex → p' ≤ p + n → Wk P C ops os cs (σ.puts (T d :: B 0 :: M.map B) (.a r :: .b (rdr zs' p') :: M.map fun i => .b ((((0, rdr zs' p') :: ex).lookup i).getD .none))) K) :
    Wk P C ops (⟨some d, .call { callee := .value (.func f), args := xs.toArray, argTypes := at_ }, ty, pos, af, none⟩ :: os) (⟨xs.flatMap kof ++ ([0] ++ M).map B, T d :: ([0] ++ M).map B, behCall (conDrawX pre post n) xs [0] M d⟩ :: cs) σ K := by
  have hbx : boxesA σ [0] = [(0, rdr zs p)] := by simp [boxesA, hb]
  have e : rdP [(0, rdr zs p)] = p := by simp [rdP, rdr]
  refine Wk.cons (ok_call [0] M hf hbody hname (conDrawX_ok h)) ?_ ?_
  · obtain ⟨r, ex, hr⟩ := h.2.1 rest hpre
    refine ⟨hd, hM, ?_, fun j hj => ?_, ⟨zs, p, rest, hargs, hbx, hpre, hp⟩, r, (0, rdr zs p) :: ex, zs, p, ex, rfl, by rw [hbx, e]; omega, ?_⟩
    · rw [hargs]
      simp [A.withins, A.within, hw]
    · obtain rfl : j = 0 := by simpa using hj
      rw [hb]; rfl
    · rw [hargs]; exact hr
  · rintro us ⟨r, bs', ⟨zs', p', ex, rfl, hp', hpost⟩, rfl⟩
    rw [hargs, List.tail_cons] at hpost
    rw [hbx, e] at hp'
    have := hk r zs' p' ex hpost hp'
    simpa [St.puts] using this
end Go.Proofs.Ytpghbdigiplbiaa
