/- What each operation asks and leaves, one law each. -/
import Derived.Test.YtpdndapegiglcaaAbsSt
namespace Go.Proofs.Ytpdndapegiglcaa
open Go

/-- What an operand reads as. -/
def aev (σ : St) : Operand → A
  | .tmp t => σ.t t
  | .const v => .d (.v v)
  | .global _ => .any
  | .func f => .d (.v (.func (.func f) #[] #[]))
def kof : Operand → List Key
  | .tmp t => [T t]
  | _ => []

structure RelE (C : Ctx) (σ : St) (a : Act) (w : World) (F : Nat → Prop) (E : Nat → Option Nat) (H : Nat → Nat → Option Value) : Prop where
  dfr : a.defers = []
  n : a.tmps.size = σ.n
  env : Env C w F E H σ.b
  den : ∀ t, Den w F E H (σ.t t) (a.tmps.getD t undef)
theorem Rel.e {C : Ctx} {σ : St} {a : Act} {w : World} (h : Rel C σ a w) : ∃ F E H, RelE C σ a w F E H := by
  obtain ⟨h1, h2, F, E, H, h3, h4⟩ := h
  exact ⟨F, E, H, h1, h2, h3, h4⟩
theorem RelE.r {C : Ctx} {σ : St} {a : Act} {w : World} {F : Nat → Prop} {E : Nat → Option Nat} {H : Nat → Nat → Option Value} (h : RelE C σ a w F E H) : Rel C σ a w :=
  ⟨h.dfr, h.n, F, E, H, h.env, h.den⟩

section
variable {C : Ctx} {σ : St} {a : Act} {w w' : World} {F F' : Nat → Prop} {E E' : Nat → Option Nat} {H H' : Nat → Nat → Option Value}
theorem RelE.ev (h : RelE C σ a w F E H) (x : Operand) : Den w F E H (aev σ x) (a.eval x) := by
  cases x with
  | tmp t => exact h.den t
  | const v => exact .d _ _ (.v v)
  | global g => exact .any _
  | func f => exact .d _ _ (.v _)
theorem getD_put (a : Act) (d : Nat) (v : Value) (hd : d < a.tmps.size) (t : Nat) : (a.put (some d) v).tmps.getD t undef = if t = d then v else a.tmps.getD t undef := by
  simp only [Act.put, Array.getD_eq_getD_getElem?]
  by_cases h : t = d
  · subst h; simp [hd]
  · rw [Array.getElem?_setIfInBounds_ne (Ne.symm h), if_neg h]
theorem size_putA (a : Act) (d : Option Nat) (v : Value) : (a.put d v).tmps.size = a.tmps.size := by
  cases d <;> simp [Act.put]
theorem dfr_put (a : Act) (d : Option Nat) (v : Value) : (a.put d v).defers = a.defers := by
  cases d <;> rfl
theorem RelE.put (h : RelE C σ a w F E H) {d : Nat} (hd : d < σ.n) {r : A} {v : Value} (hv : Den w F E H r v) : RelE C (σ.put (T d) (.a r)) (a.put (some d) v) w F E H := by
  refine ⟨(dfr_put _ _ _).trans h.dfr, (size_putA _ _ _).trans h.n, h.env, fun t => ?_⟩
  rw [getD_put a d v (by rw [h.n]; exact hd)]
  show Den w F E H (upd σ.t d r t) _
  unfold upd
  split
  · exact hv
  · exact h.den t
theorem RelE.putn (h : RelE C σ a w F E H) (v : Value) : RelE C σ (a.put none v) w F E H := h
/-- The world moves on. -/
theorem RelE.move (h : RelE C σ a w F E H) {b' : Nat → Bx} (he : Env C w' F' E' H' b') (hF : ∀ b, F b → F' b) (hw : ∀ b, F b → w'.heap[b]? = w.heap[b]?)
    (hE : ∀ i b, E i = some b → E' i = some b) (hH : ∀ i k v, H i k = some v → H' i k = some v) : RelE C ⟨σ.n, σ.t, b'⟩ a w' F' E' H' :=
  ⟨h.dfr, h.n, he, fun t => (h.den t).mono hF hw hE hH⟩
theorem Env.frozen {bx : Nat → Bx} (h : Env C w F E H bx) {b : Nat} (hb : F b) (i : Nat) : blk E H i (bx i) ≠ some b := fun e => (h.live i b e).1 hb
end

/-! Inversions. -/
section
variable {w : World} {F : Nat → Prop} {E : Nat → Option Nat} {H : Nat → Nat → Option Value} {v : Value}
theorem den_d {x : D} (h : Den w F E H (.d x) v) : FDen w F x v := by cases h; assumption
theorem den_v {x : Value} (h : Den w F E H (.d (.v x)) v) : v = x := by cases h with | d _ _ h => cases h; rfl
theorem den_ptr {i o : Nat} (h : Den w F E H (.ptr i o) v) : ∃ b, E i = some b ∧ v = .pointer (some ⟨b, o, none⟩) := by cases h with | ptr _ _ b h => exact ⟨b, h, rfl⟩
theorem den_own {i k : Nat} (h : Den w F E H (.own i k) v) : H i k = some v := by cases h with | own _ _ _ h => exact h
theorem den_optr {i k o : Nat} (h : Den w F E H (.optr i k o) v) : ∃ b n c, H i k = some (.slice (some ⟨b, 0, none⟩) n c) ∧ v = .pointer (some ⟨b, o, none⟩) := by cases h with | optr _ _ _ b n c h => exact ⟨b, n, c, h, rfl⟩
theorem den_agg {as : List A} (h : Den w F E H (.agg as) v) : ∃ cs : Array Value, v = .agg cs ∧ cs.size = as.length ∧ (∀ i : Nat, i < as.length → (cs.getD i undef).oneCell' = true) ∧ ∀ (i : Nat) (a : A), as[i]? = some a → Den w F E H a (cs.getD i undef) := by
  cases h with | agg _ cs hs h1 h => exact ⟨cs, rfl, hs, h1, h⟩
theorem den_cells {as : List A} (h : Den w F E H (.agg as) v) : ∃ cs : Array Value, v = .agg cs ∧ Pw (CellOk w F E H) as cs.toList := by
  obtain ⟨cs, rfl, hs, h1, h⟩ := den_agg h
  refine ⟨cs, rfl, by simp [hs], fun j a v ha hv => ?_⟩
  have hj := (List.getElem?_eq_some_iff.1 ha).1
  have e : cs.getD j undef = v := by
    rw [Array.getD_eq_getD_getElem?, ← Array.getElem?_toList, hv]
    rfl
  exact ⟨e ▸ h1 j hj, e ▸ h j a ha⟩
theorem agg_den {as : List A} {vs : List Value} (h : Pw (CellOk w F E H) as vs) : Den w F E H (.agg as) (.agg vs.toArray) := by
  refine .agg as vs.toArray (by simp [h.1]) (fun i hi => ?_) (fun i a ha => ?_)
  · obtain ⟨v, hv, h2⟩ := h.get (List.getElem?_eq_getElem hi)
    simpa [Array.getD_eq_getD_getElem?, hv] using h2.1
  · obtain ⟨v, hv, h2⟩ := h.get ha
    simpa [Array.getD_eq_getD_getElem?, hv] using h2.2
theorem den_tup {as : List A} (h : Den w F E H (.tup as) v) : ∃ cs : Array Value, v = .tuple cs ∧ cs.size = as.length ∧ ∀ (i : Nat) (a : A), as[i]? = some a → Den w F E H a (cs.getD i undef) := by
  cases h with | tup _ cs hs h => exact ⟨cs, rfl, hs, h⟩
theorem den_rptr {sz i j : Nat} {es : List (List D)} (h : Den w F E H (.rptr sz es i j) v) : ∃ b o cap n, v = .pointer (some ⟨b, o + (i * sz + j), none⟩) ∧ FDen w F (.row es) (.slice (some ⟨b, o, none⟩) n cap) ∧ i < n ∧ ∀ e ∈ es, e.length = sz := by
  cases h with | rptr _ b o cap n _ _ _ h hi hz => exact ⟨b, o, cap, n, rfl, h, hi, hz⟩
theorem den_row {es : List (List D)} (h : FDen w F (.row es) v) : ∃ b n c, v = .slice b n c ∧ n = es.length := by
  cases h with
  | emp => exact ⟨_, _, _, rfl, rfl⟩
  | row sz b o cap n _ vs hF hn => exact ⟨_, _, _, rfl, hn.symm⟩
end

/-! A statement, operation by operation. -/
def Oks (P : Program) (C : Ctx) (ops : Array Oper) : List Oper → List Cert → Prop
  | [], [] => True
  | o :: os, c :: cs => OpOk P C ops o c ∧ Oks P C ops os cs
  | _, _ => False
def Wk (P : Program) (C : Ctx) (ops : Array Oper) (os : List Oper) (cs : List Cert) (σ : St) (K : St → Prop) : Prop := Oks P C ops os cs ∧ Wc cs σ K

section
variable {P : Program} {C : Ctx} {ops : Array Oper} {os : List Oper} {o : Oper} {c : Cert} {cs : List Cert} {σ : St} {K : St → Prop}
theorem Wk.nil (h : K σ) : Wk P C ops [] [] σ K := ⟨trivial, h⟩
theorem Wk.cons (ho : OpOk P C ops o c) (hs : c.safe σ) (h : ∀ us, c.rel σ us → Wk P C ops os cs (σ.puts c.wr us) K) : Wk P C ops (o :: os) (c :: cs) σ K := by
  obtain ⟨u0, hu0⟩ := ho.1.1 σ hs
  exact ⟨⟨ho, (h u0 hu0).1⟩, hs, fun us hus => (h us hus).2⟩
theorem Wk.det (ho : OpOk P C ops o c) (hs : c.safe σ) (us : List V) (hu : ∀ us', c.rel σ us' → us' = us) (h : Wk P C ops os cs (σ.puts c.wr us) K) : Wk P C ops (o :: os) (c :: cs) σ K :=
  Wk.cons ho hs fun us' hus => by rw [hu us' hus]; exact h
theorem Oks.get : ∀ {os : List Oper} {cs : List Cert}, Oks P C ops os cs → os.length = cs.length ∧ ∀ (i : Nat) (o : Oper) (c : Cert), os[i]? = some o → cs[i]? = some c → OpOk P C ops o c
  | [], [], _ => ⟨rfl, fun i o c h => by simp at h⟩
  | [], _ :: _, h => h.elim
  | _ :: _, [], h => h.elim
  | o :: os, c :: cs, h => by
    obtain ⟨h1, h2⟩ := Oks.get h.2
    refine ⟨by simp [h1], fun i o' c' ho hc => ?_⟩
    cases i with
    | zero => simp only [List.getElem?_cons_zero, Option.some.injEq] at ho hc; exact ho ▸ hc ▸ h.1
    | succ i => exact h2 i o' c' (by simpa using ho) (by simpa using hc)

theorem wk_list {Q : Exit → Act → World → Prop} : ∀ (os : List Oper) (cs : List Cert) (σ : St) (a : Act) (w : World), Wk P C ops os cs σ K → Rel C σ a w → (∀ σ a w, K σ → Rel C σ a w → Q .normal a w) → wpList P ops Q os a w
  | [], [], σ, a, w, h, hR, hq => hq σ a w h.2 hR
  | [], _ :: _, _, _, _, h, _, _ => h.1.elim
  | _ :: _, [], _, _, _, h, _, _ => h.1.elim
  | o :: os, c :: cs, σ, a, w, h, hR, hq => by
    have := h.1.1.2.2 σ a w (wpList P ops Q os) Q hR h.2.1 (fun us a' w' hus hR' => wk_list os cs _ a' w' ⟨h.1.2, h.2.2 us hus⟩ hR' hq)
    unfold wpList
    split
    · rename_i hw; rw [if_pos hw] at this; exact .inl this
    · rename_i hw; rw [if_neg hw] at this; exact this

/-- How an operation without a guard is proved to do what its certificate says. -/
theorem OpOk.of {rd wr : List Key} {beh : St → Prop × (List V → Prop)} (hg : o.guard = none) (hdst : dstIn o.dst wr = true) (ht : ∀ σ, (beh σ).1 → ∃ us, (beh σ).2 us) (hl : ∀ σ, beh (σ.mask rd) = beh σ)
    (hs : ∀ (σ : St) (a : Act) (w : World) (F : Nat → Prop) (E : Nat → Option Nat) (H : Nat → Nat → Option Value) (K : Act → World → Prop) (Q : Exit → Act → World → Prop), RelE C σ a w F E H → (beh σ).1 →
      (∀ us a' w', (beh σ).2 us → Rel C (σ.puts wr us) a' w' → K a' w') → o.wp P a w K Q) : OpOk P C ops o ⟨rd, wr, beh⟩ := by
  refine ⟨⟨ht, hl⟩, hdst, fun σ a w K Q hR hsafe hK => ?_⟩
  rw [if_pos (by simp [Region.wanted, hg])]
  obtain ⟨F, E, H, hR⟩ := hR.e
  exact hs σ a w F E H K Q hR hsafe hK
end

/-- A behaviour that is told by a function of the state, where it answers. -/
def beh1 (f : St → Option A) (d : Nat) : St → Prop × (List V → Prop) := fun σ => (d < σ.n ∧ (f σ).isSome = true, fun us => ∃ r, f σ = some r ∧ us = [.a r])
section
variable {P : Program} {C : Ctx} {ops : Array Oper} {os : List Oper} {o : Oper} {cs : List Cert} {σ : St} {K : St → Prop}
/-- An operation that reads alone: its value is one that the state tells. -/
theorem OpOk.read {f : St → Option A} {rd : List Key} {d : Nat} (hg : o.guard = none) (hd : o.dst = some d) (hl : ∀ σ, f (σ.mask rd) = f σ)
    (hs : ∀ (σ : St) (a : Act) (w : World) (F : Nat → Prop) (E : Nat → Option Nat) (H : Nat → Nat → Option Value) (r : A), RelE C σ a w F E H → f σ = some r →
      ∃ v, (execOp a.eval o).run P w = .ok (.value v) w ∧ Den w F E H r v) : OpOk P C ops o ⟨rd, [T d], beh1 f d⟩ := by
  refine OpOk.of hg (by rw [hd]; simp [dstIn]) (fun σ h => ?_) (fun σ => ?_) (fun σ a w F E H K Q hR hsafe hK => ?_)
  · obtain ⟨r, hr⟩ := Option.isSome_iff_exists.1 h.2
    exact ⟨_, r, hr, rfl⟩
  · unfold beh1
    rw [hl]
    rfl
  · obtain ⟨r, hr⟩ := Option.isSome_iff_exists.1 hsafe.2
    obtain ⟨v, hv, hden⟩ := hs σ a w F E H r hR hr
    unfold Oper.wp
    rw [hv, Oper.upon_value, hd]
    exact hK [.a r] _ _ ⟨r, hr, rfl⟩ (hR.put hsafe.1 hden).r
theorem Wk.read {f : St → Option A} {rd : List Key} {d : Nat} (ho : OpOk P C ops o ⟨rd, [T d], beh1 f d⟩) (r : A) (hd : d < σ.n) (hr : f σ = some r) (h : Wk P C ops os cs (σ.put (T d) (.a r)) K) :
    Wk P C ops (o :: os) (⟨rd, [T d], beh1 f d⟩ :: cs) σ K :=
  Wk.det ho ⟨hd, by rw [hr]; rfl⟩ [.a r] (fun us' ⟨r', h1, h2⟩ => by rw [h2, Option.some.inj (h1.symm.trans hr)]) h
end
theorem aev_mask {σ : St} {rd : List Key} {x : Operand} (h : ∀ k ∈ kof x, k ∈ rd) : aev (σ.mask rd) x = aev σ x := by
  cases x with
  | tmp t =>
    have : T t ∈ rd := h _ List.mem_cons_self
    simp only [aev, St.mask]
    rw [if_pos (by simpa using this)]
  | _ => rfl
theorem bx_mask {σ : St} {rd : List Key} {i : Nat} (h : B i ∈ rd) : (σ.mask rd).b i = σ.b i := by
  simp only [St.mask]
  rw [if_pos (by simpa using h)]

/-! move, assign -/
section
variable {P : Program} {C : Ctx} {ops : Array Oper} {os : List Oper} {cs : List Cert} {σ : St} {K : St → Prop} {d : Nat} {ty : TypeId} {pos : String} {af : Array Edge}
def rMove (x : Operand) (σ : St) : Option A := some (aev σ x)
theorem ok_move (x : Operand) : OpOk P C ops ⟨some d, .move x, ty, pos, af, none⟩ ⟨kof x, [T d], beh1 (rMove x) d⟩ :=
  OpOk.read rfl rfl (fun σ => by unfold rMove; rw [aev_mask (fun k h => h)]) fun σ a w F E H r hR h => by
    obtain rfl := Option.some.inj h
    exact ⟨a.eval x, rfl, hR.ev x⟩
theorem ok_assign (x : Operand) : OpOk P C ops ⟨some d, .assign x, ty, pos, af, none⟩ ⟨kof x, [T d], beh1 (rMove x) d⟩ :=
  OpOk.read rfl rfl (fun σ => by unfold rMove; rw [aev_mask (fun k h => h)]) fun σ a w F E H r hR h => by
    obtain rfl := Option.some.inj h
    exact ⟨a.eval x, rfl, hR.ev x⟩
theorem Wk.mv {x : Operand} {r : A} (hr : aev σ x = r) (hd : d < σ.n) (h : Wk P C ops os cs (σ.put (T d) (.a r)) K) :
    Wk P C ops (⟨some d, .move x, ty, pos, af, none⟩ :: os) (⟨kof x, [T d], beh1 (rMove x) d⟩ :: cs) σ K := Wk.read (ok_move x) r hd (by rw [rMove, hr]) h
theorem Wk.asg {x : Operand} {r : A} (hr : aev σ x = r) (hd : d < σ.n) (h : Wk P C ops os cs (σ.put (T d) (.a r)) K) :
    Wk P C ops (⟨some d, .assign x, ty, pos, af, none⟩ :: os) (⟨kof x, [T d], beh1 (rMove x) d⟩ :: cs) σ K := Wk.read (ok_assign x) r hd (by rw [rMove, hr]) h

/-! numbers and truths -/
open Classical in
/-- The answer of a computation that looks at no memory, where it has one. -/
noncomputable def ans (P : Program) (s : Sem Value) : Option Value := if h : ∃ r, ∀ w, s.run P w = .ok r w then some h.choose else none
theorem ans_of {P : Program} {s : Sem Value} {r : Value} (h : ∀ w, s.run P w = .ok r w) : ans P s = some r := by
  unfold ans
  have hx : ∃ r, ∀ w, s.run P w = .ok r w := ⟨r, h⟩
  rw [dif_pos hx]
  have h1 := hx.choose_spec default
  rw [h default] at h1
  injection h1 with h1
  rw [h1]
theorem ans_run {P : Program} {s : Sem Value} {r : Value} (h : ans P s = some r) : ∀ w, s.run P w = .ok r w := by
  unfold ans at h
  split at h
  · rename_i hx
    obtain rfl := Option.some.inj h
    exact hx.choose_spec
  · cases h
def sc : A → Option Value
  | .d (.v v) => some v
  | _ => none
theorem den_sc {w : World} {F : Nat → Prop} {E : Nat → Option Nat} {H : Nat → Nat → Option Value} {x : A} {v u : Value} (h : sc x = some u) (hd : Den w F E H x v) : v = u := by
  unfold sc at h
  split at h
  · obtain rfl := Option.some.inj h; exact den_v hd
  · cases h
noncomputable def rBin (P : Program) (op : BinOp) (t : TypeId) (x y : Operand) (σ : St) : Option A :=
  (sc (aev σ x)).bind fun u => (sc (aev σ y)).bind fun v => (ans P (do eqGuard op t x y u v; binOp op t u v)).map fun r => .d (.v r)
theorem ok_bin (op : BinOp) (t yt : TypeId) (x y : Operand) : OpOk P C ops ⟨some d, .binOp op t x y yt, ty, pos, af, none⟩ ⟨kof x ++ kof y, [T d], beh1 (rBin P op t x y) d⟩ :=
  OpOk.read rfl rfl (fun σ => by unfold rBin; rw [aev_mask (fun k h => List.mem_append_left _ h), aev_mask (fun k h => List.mem_append_right _ h)]) fun σ a w F E H r hR h => by
    simp only [rBin, Option.bind_eq_some_iff, Option.map_eq_some_iff] at h
    obtain ⟨u, hu, v, hv, r, hr, rfl⟩ := h
    have e1 := den_sc hu (hR.ev x)
    have e2 := den_sc hv (hR.ev y)
    refine ⟨r, ?_, .d _ _ (.v r)⟩
    have := ans_run hr w
    simp only [execOp, e1, e2]
    rw [Sem.run_bind, this]
    rfl
theorem Wk.bin {op : BinOp} {t yt : TypeId} {x y : Operand} {u v r : Value} (hx : aev σ x = .d (.v u)) (hy : aev σ y = .d (.v v)) (hr : ∀ w, (do eqGuard op t x y u v; binOp op t u v : Sem Value).run P w = .ok r w) (hd : d < σ.n)
    (h : Wk P C ops os cs (σ.put (T d) (.a (.d (.v r)))) K) : Wk P C ops (⟨some d, .binOp op t x y yt, ty, pos, af, none⟩ :: os) (⟨kof x ++ kof y, [T d], beh1 (rBin P op t x y) d⟩ :: cs) σ K :=
  Wk.read (ok_bin op t yt x y) _ hd (by simp only [rBin, hx, hy, sc, Option.bind_some, ans_of hr, Option.map_some]) h
theorem wrap64 {n : Int} (h1 : -9223372036854775808 ≤ n) (h2 : n ≤ 9223372036854775807) : IntKind.i64.wrap n = n := by
  simp [IntKind.wrap, IntKind.bits, IntKind.signed]
  omega
theorem Wk.addi {t yt : TypeId} {x y : Operand} {u v : Int} (hx : aev σ x = .d (.v (.int .i64 u))) (hy : aev σ y = .d (.v (.int .i64 v))) (hr : -9223372036854775808 ≤ u + v ∧ u + v ≤ 9223372036854775807) (hd : d < σ.n)
    (h : Wk P C ops os cs (σ.put (T d) (.a (.d (.v (.int .i64 (u + v)))))) K) : Wk P C ops (⟨some d, .binOp .add t x y yt, ty, pos, af, none⟩ :: os) (⟨kof x ++ kof y, [T d], beh1 (rBin P .add t x y) d⟩ :: cs) σ K :=
  Wk.bin hx hy (fun w => by simp [eqGuard, binOp, go_sem, wrap64 hr.1 hr.2]) hd h
theorem Wk.subi {t yt : TypeId} {x y : Operand} {u v : Int} (hx : aev σ x = .d (.v (.int .i64 u))) (hy : aev σ y = .d (.v (.int .i64 v))) (hr : -9223372036854775808 ≤ u - v ∧ u - v ≤ 9223372036854775807) (hd : d < σ.n)
    (h : Wk P C ops os cs (σ.put (T d) (.a (.d (.v (.int .i64 (u - v)))))) K) : Wk P C ops (⟨some d, .binOp .sub t x y yt, ty, pos, af, none⟩ :: os) (⟨kof x ++ kof y, [T d], beh1 (rBin P .sub t x y) d⟩ :: cs) σ K :=
  Wk.bin hx hy (fun w => by simp [eqGuard, binOp, go_sem, wrap64 hr.1 hr.2]) hd h
noncomputable def rUn (P : Program) (op : UnOp) (x : Operand) (σ : St) : Option A := (sc (aev σ x)).bind fun u => (ans P (Op.unary op u)).map fun r => .d (.v r)
theorem ok_un (op : UnOp) (t : TypeId) (x : Operand) : OpOk P C ops ⟨some d, .unOp op t x, ty, pos, af, none⟩ ⟨kof x, [T d], beh1 (rUn P op x) d⟩ :=
  OpOk.read rfl rfl (fun σ => by unfold rUn; rw [aev_mask (fun k h => h)]) fun σ a w F E H r hR h => by
    simp only [rUn, Option.bind_eq_some_iff, Option.map_eq_some_iff] at h
    obtain ⟨u, hu, r, hr, rfl⟩ := h
    have e1 := den_sc hu (hR.ev x)
    refine ⟨r, ?_, .d _ _ (.v r)⟩
    have := ans_run hr w
    simp only [execOp, e1]
    rw [Sem.run_bind, this]
    rfl
theorem Wk.un {op : UnOp} {t : TypeId} {x : Operand} {u r : Value} (hx : aev σ x = .d (.v u)) (hr : ∀ w, (Op.unary op u).run P w = .ok r w) (hd : d < σ.n)
    (h : Wk P C ops os cs (σ.put (T d) (.a (.d (.v r)))) K) : Wk P C ops (⟨some d, .unOp op t x, ty, pos, af, none⟩ :: os) (⟨kof x, [T d], beh1 (rUn P op x) d⟩ :: cs) σ K :=
  Wk.read (ok_un op t x) _ hd (by simp only [rUn, hx, sc, Option.bind_some, ans_of hr, Option.map_some]) h
noncomputable def rConv (P : Program) (s t : TypeId) (x : Operand) (σ : St) : Option A := (sc (aev σ x)).bind fun u => (ans P (convert s t u)).map fun r => .d (.v r)
theorem ok_conv (s t : TypeId) (x : Operand) : OpOk P C ops ⟨some d, .convert s t x, ty, pos, af, none⟩ ⟨kof x, [T d], beh1 (rConv P s t x) d⟩ :=
  OpOk.read rfl rfl (fun σ => by unfold rConv; rw [aev_mask (fun k h => h)]) fun σ a w F E H r hR h => by
    simp only [rConv, Option.bind_eq_some_iff, Option.map_eq_some_iff] at h
    obtain ⟨u, hu, r, hr, rfl⟩ := h
    have e1 := den_sc hu (hR.ev x)
    refine ⟨r, ?_, .d _ _ (.v r)⟩
    have := ans_run hr w
    simp only [execOp, e1]
    rw [Sem.run_bind, this]
    rfl
theorem Wk.conv {s t : TypeId} {x : Operand} {u r : Value} (hx : aev σ x = .d (.v u)) (hr : ∀ w, (convert s t u).run P w = .ok r w) (hd : d < σ.n)
    (h : Wk P C ops os cs (σ.put (T d) (.a (.d (.v r)))) K) : Wk P C ops (⟨some d, .convert s t x, ty, pos, af, none⟩ :: os) (⟨kof x, [T d], beh1 (rConv P s t x) d⟩ :: cs) σ K :=
  Wk.read (ok_conv s t x) _ hd (by simp only [rConv, hx, sc, Option.bind_some, ans_of hr, Option.map_some]) h

/-! parts of tuples -/
def rExtract (x : Operand) (k : Nat) (σ : St) : Option A := match aev σ x with | .tup as => as[k]? | _ => none
theorem ok_extract (x : Operand) (k : Nat) : OpOk P C ops ⟨some d, .extract x k, ty, pos, af, none⟩ ⟨kof x, [T d], beh1 (rExtract x k) d⟩ :=
  OpOk.read rfl rfl (fun σ => by unfold rExtract; rw [aev_mask (fun k h => h)]) fun σ a w F E H r hR h => by
    unfold rExtract at h
    split at h
    · rename_i as he
      have hd := hR.ev x
      rw [he] at hd
      obtain ⟨vs, hv, hs, hc⟩ := den_tup hd
      have hk : k < vs.size := by rw [hs]; exact (List.getElem?_eq_some_iff.1 h).1
      refine ⟨vs.getD k undef, ?_, hc k r h⟩
      simp [execOp, hv, Instr.extract, hk]
    · cases h
theorem Wk.ext {x : Operand} {k : Nat} {as : List A} {r : A} (hx : aev σ x = .tup as) (hk : as[k]? = some r) (hd : d < σ.n) (h : Wk P C ops os cs (σ.put (T d) (.a r)) K) :
    Wk P C ops (⟨some d, .extract x k, ty, pos, af, none⟩ :: os) (⟨kof x, [T d], beh1 (rExtract x k) d⟩ :: cs) σ K := Wk.read (ok_extract x k) r hd (by simp only [rExtract, hx, hk]) h
end
end Go.Proofs.Ytpdndapegiglcaa
