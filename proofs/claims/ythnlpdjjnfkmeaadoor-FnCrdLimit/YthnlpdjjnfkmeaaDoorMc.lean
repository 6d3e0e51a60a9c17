/- Laws and contracts that the proof stands on: AbsOwn, AbsDraw, AbsVar, AbsTy, AbsBor, AbsMax, AbsRen, AbsLaid. -/
import Derived.Test.YthnlpdjjnfkmeaaDoorMb
import Derived.Test.YthnlpdjjnfkmeaaDoorRows
import Derived.Stop.LaidErr
/- Elements of a call's own lists; a call's own list is read by itself from then on. -/
namespace Go.Proofs.YthnlpdjjnfkmeaaDoor
open Go

section
variable {P : Program} {C : Ctx} {ops : Array Oper} {os : List Oper} {cs : List Cert} {σ : St} {K : St → Prop} {d : Nat} {ty : TypeId} {pos : String} {af : Array Edge}

/-- An element's address in the call's own list. -/
def rIAddrO (x y : Operand) (i sz : Nat) (σ : St) : Option A :=
  match aev σ x, aev σ y, σ.b i with
  | .own i' k', .d (.v (.int _ q)), .own k _ sz' es => if i' = i ∧ k' = k ∧ sz' = sz ∧ 0 ≤ q ∧ q < es.length then some (.optr i k (q.toNat * sz)) else none
  | _, _, _ => none
theorem ok_iaddro {xt e : TypeId} {x y : Operand} (i : Nat) {sz : Nat} {row : Bool} (hu : P.underlying xt = some (.slice e)) (ht : tyOf P e = some (sz, row)) :
    OpOk P C ops ⟨some d, .indexAddr xt x y, ty, pos, af, none⟩ ⟨kof x ++ (kof y ++ [B i]), [T d], beh1 (rIAddrO x y i sz) d⟩ :=
  OpOk.read rfl rfl (fun σ => by unfold rIAddrO; rw [aev_mask (fun k h => List.mem_append_left _ h), aev_mask (fun k h => List.mem_append_right _ (List.mem_append_left _ h)), bx_mask (by simp)]) fun σ a w F E H r hR h => by
    unfold rIAddrO at h
    split at h
    · rename_i i' k' kd q k e' sz' es he hq hb
      split at h
      · rename_i hc
        obtain ⟨rfl, rfl, rfl, h0, hlt⟩ := hc
        obtain rfl := Option.some.inj h
        have hbox := hR.env.box i'
        rw [hb] at hbox
        obtain ⟨v, xs, hv, _, ho, hzz, hp⟩ := hbox
        have hd := hR.ev x
        rw [he] at hd
        have hx : a.eval x = v := by
          have := den_own hd
          rw [hv] at this
          exact (Option.some.inj this).symm
        have hd2 := hR.ev y
        rw [hq] at hd2
        have e2 := den_v hd2
        rcases ho.2 with ⟨_, h2⟩ | ⟨g, cap, cur, h1, _⟩
        · omega
        · subst h1
          refine ⟨.pointer (some ⟨g, q.toNat * sz', none⟩), ?_, .optr i' k' _ g _ _ hv⟩
          have hin : 0 ≤ q ∧ q < (es.length : Int) := ⟨h0, hlt⟩
          simp [execOp, hx, e2, Instr.indexAt, asIntOf, run_underlying hu, run_size ht, hin, add_at']
      · cases h
    · cases h
theorem Wk.iado {xt e : TypeId} {x y : Operand} {e' : TypeId} (i sz : Nat) (row : Bool) {kd : IntKind} {k q : Nat} {es : List (List A)} (hu : P.underlying xt = some (.slice e)) (ht : tyOf P e = some (sz, row)) (hx : aev σ x = .own i k) (hy : aev σ y = .d (.v (.int kd (q : Int))))
    (hb : σ.b i = .own k e' sz es) (hq : q < es.length) (hd : d < σ.n) (h : Wk P C ops os cs (σ.put (T d) (.a (.optr i k (q * sz)))) K) :
    Wk P C ops (⟨some d, .indexAddr xt x y, ty, pos, af, none⟩ :: os) (⟨kof x ++ (kof y ++ [B i]), [T d], beh1 (rIAddrO x y i sz) d⟩ :: cs) σ K :=
  Wk.read (ok_iaddro i hu ht) _ hd (by simp only [rIAddrO, hx, hy, hb]; rw [if_pos ⟨trivial, trivial, trivial, by omega, by omega⟩]; simp) h

/-- A load out of the call's own list. -/
def rLoadO (x : Operand) (i n : Nat) (row : Bool) (σ : St) : Option A :=
  match aev σ x, σ.b i with
  | .optr i' k' o, .own k _ _ es => if i' = i ∧ k' = k then partA es.flatten o n row else none
  | _, _ => none
theorem ok_loado {t : TypeId} {x : Operand} (i : Nat) {n : Nat} {row : Bool} (ht : tyOf P t = some (n, row)) :
    OpOk P C ops ⟨some d, .load t x, ty, pos, af, none⟩ ⟨kof x ++ [B i], [T d], beh1 (rLoadO x i n row) d⟩ :=
  OpOk.read rfl rfl (fun σ => by unfold rLoadO; rw [aev_mask (fun k h => List.mem_append_left _ h), bx_mask (by simp)]) fun σ a w F E H r hR h => by
    unfold rLoadO at h
    split at h
    · rename_i i' k' o k e sz es he hb
      split at h
      · rename_i hc
        obtain ⟨rfl, rfl⟩ := hc
        have hbox := hR.env.box i'
        rw [hb] at hbox
        obtain ⟨v, xs, hv, _, ho, hzz, hp⟩ := hbox
        have hd := hR.ev x
        rw [he] at hd
        obtain ⟨b, m, c, hH, hx⟩ := den_optr hd
        rw [hv] at hH
        obtain rfl := Option.some.inj hH
        obtain ⟨u, h1, h2⟩ := run_load_cells (b := b) (o := 0) ht hp (fun j q hj => by
          have := ho.cells (g := b) rfl j q hj
          rw [add_at'] at this
          exact this) h
        rw [Nat.zero_add] at h1
        exact ⟨u, by simp [execOp, hx, Instr.loadAt, Instr.sureAddr, h1], h2⟩
      · cases h
    · cases h
theorem Wk.ldo {t : TypeId} {x : Operand} {i k o : Nat} {e : TypeId} {sz : Nat} {es : List (List A)} (n : Nat) (row : Bool) (ht : tyOf P t = some (n, row)) {r : A} (hx : aev σ x = .optr i k o) (hb : σ.b i = .own k e sz es) (hr : partA es.flatten o n row = some r) (hd : d < σ.n)
    (h : Wk P C ops os cs (σ.put (T d) (.a r)) K) : Wk P C ops (⟨some d, .load t x, ty, pos, af, none⟩ :: os) (⟨kof x ++ [B i], [T d], beh1 (rLoadO x i n row) d⟩ :: cs) σ K :=
  Wk.read (ok_loado i ht) r hd (by simp only [rLoadO, hx, hb]; rw [if_pos ⟨trivial, trivial⟩]; exact hr) h

/-- How many elements the call's own list has. -/
def rLenO (x : Operand) (i : Nat) (σ : St) : Option A := match aev σ x, σ.b i with | .own i' k', .own k _ _ es => if i' = i ∧ k' = k then some (.d (.v (.int .i64 (es.length : Int)))) else none | _, _ => none
theorem ok_leno {t e : TypeId} {x : Operand} (i : Nat) (hu : P.underlying t = some (.slice e)) :
    OpOk P C ops ⟨some d, .call { callee := .builtin .len, args := #[x], argTypes := #[t] }, ty, pos, af, none⟩ ⟨kof x ++ [B i], [T d], beh1 (rLenO x i) d⟩ :=
  OpOk.read rfl rfl (fun σ => by unfold rLenO; rw [aev_mask (fun k h => List.mem_append_left _ h), bx_mask (by simp)]) fun σ a w F E H r hR h => by
    unfold rLenO at h
    split at h
    · rename_i i' k' k e' sz es he hb
      split at h
      · rename_i hc
        obtain ⟨rfl, rfl⟩ := hc
        obtain rfl := Option.some.inj h
        have hbox := hR.env.box i'
        rw [hb] at hbox
        obtain ⟨v, xs, hv, _, ho, hzz, hp⟩ := hbox
        have hd := hR.ev x
        rw [he] at hd
        have hx : a.eval x = v := by
          have := den_own hd
          rw [hv] at this
          exact (Option.some.inj this).symm
        refine ⟨.int .i64 (es.length : Int), ?_, .d _ _ (.v _)⟩
        rcases ho.2 with ⟨h1, h2⟩ | ⟨g, cap, cur, h1, _⟩
        · simp [execOp, resolve, invoke, builtin, hx, h1, Builtin.len_, run_underlying hu, goInt, h2]
        · simp [execOp, resolve, invoke, builtin, hx, h1, Builtin.len_, run_underlying hu, goInt]
      · cases h
    · cases h
theorem Wk.leno {t e : TypeId} {x : Operand} {i k : Nat} {e' : TypeId} {sz : Nat} {es : List (List A)} (hu : P.underlying t = some (.slice e)) (hx : aev σ x = .own i k) (hb : σ.b i = .own k e' sz es) (hd : d < σ.n) (h : Wk P C ops os cs (σ.put (T d) (.a (.d (.v (.int .i64 (es.length : Int)))))) K) :
    Wk P C ops (⟨some d, .call { callee := .builtin .len, args := #[x], argTypes := #[t] }, ty, pos, af, none⟩ :: os) (⟨kof x ++ [B i], [T d], beh1 (rLenO x i) d⟩ :: cs) σ K :=
  Wk.read (ok_leno i hu) _ hd (by simp only [rLenO, hx, hb]; rw [if_pos ⟨trivial, trivial⟩]) h
end

/-! A list of the call's own that nobody turns any more. -/
section
variable {P : Program} {C : Ctx} {c c' : Code} {Q : Exit → St → Prop} {σ : St}
/-- The elements of a list read as data. -/
def asData (es : List (List A)) (ds : List (List D)) : Prop := es.map nrms = ds.map (·.map A.d)
theorem nrm_cell {w : World} {F : Nat → Prop} {E : Nat → Option Nat} {H : Nat → Nat → Option Value} : ∀ {aas : List A} {vs : List Value}, Pw (CellOk w F E H) aas vs → Pw (CellOk w F E H) (nrms aas) vs := by
  intro aas vs h
  refine ⟨by rw [nrms_length]; exact h.1, fun j a v ha hv => ?_⟩
  obtain ⟨b, hb, rfl⟩ := nrms_get ha
  have := h.2 j b v hb hv
  exact ⟨this.1, this.2.nrm⟩
theorem nrms_append : ∀ (aas bs : List A), nrms (aas ++ bs) = nrms aas ++ nrms bs
  | [], bs => rfl
  | a :: aas, bs => by simp [nrms, nrms_append aas bs]
theorem nrms_flatten : ∀ (es : List (List A)), nrms es.flatten = (es.map nrms).flatten
  | [] => rfl
  | e :: es => by rw [List.flatten_cons, nrms_append, nrms_flatten es]; rfl
theorem own_rowA {w : World} {F : Nat → Prop} {E : Nat → Option Nat} {H : Nat → Nat → Option Value} {e : TypeId} {sz : Nat} {es : List (List A)} {ds : List (List D)} {v : Value} {xs : List Value} (ho : w.ownsRow 0 e sz v es.length xs) (hz : ∀ c ∈ es, c.length = sz) (hp : Pw (CellOk w F E H) es.flatten xs) (hd : asData es ds) :
    FDen w (fun b => F b ∨ v.ownBlock = some b) (.row ds) v := by
  have hlen : es.length = ds.length := by have := congrArg List.length hd; simpa using this
  have hz' : ∀ l ∈ ds, l.length = sz := fun l hl => by
    have : l.map A.d ∈ es.map nrms := by rw [hd]; exact List.mem_map.2 ⟨l, hl, rfl⟩
    obtain ⟨c, hc, hcl⟩ := List.mem_map.1 this
    have h1 := congrArg List.length hcl
    rw [nrms_length, List.length_map, hz c hc] at h1
    exact h1.symm
  have hpn : Pw (CellOk w F E H) (ds.map (·.map A.d)).flatten xs := by
    have := nrm_cell hp
    rwa [nrms_flatten, hd] at this
  rcases ho.2 with ⟨h1, h2⟩ | ⟨g, cap, cur, h1, _, hg, hnc, hm, hcs, htake⟩
  · have : ds = [] := List.length_eq_zero_iff.1 (by omega)
    rw [this, h1]
    exact .nil
  · have hcell : ∀ j u, xs[j]? = some u → w.cell? ⟨g, j, none⟩ = some u := fun j u hj => by
      have := ho.cells (g := g) (by rw [h1]; rfl) j u hj
      rwa [add_at', Nat.zero_add] at this
    have key : ∀ i j l x, ds[i]? = some l → l[j]? = some x → ∃ u, xs[i * sz + j]? = some u ∧ CellOk w F E H (.d x) u := by
      intro i j l x hl hx
      have hi := (List.getElem?_eq_some_iff.1 hl).1
      have hjl := (List.getElem?_eq_some_iff.1 hx).1
      have hll := hz' l (List.mem_of_getElem? hl)
      have hm2 : ∀ m ∈ ds.map (·.map A.d), m.length = sz := fun m hm => by
        obtain ⟨q, hq, rfl⟩ := List.mem_map.1 hm
        simp [hz' q hq]
      have hfl := flatten_len hm2
      rw [List.length_map] at hfl
      have hlt : i * sz + j < (ds.map (·.map A.d)).flatten.length := by
        rw [hfl]
        have : (i + 1) * sz ≤ ds.length * sz := Nat.mul_le_mul_right _ hi
        rw [Nat.add_mul] at this
        omega
      obtain ⟨m, h1, h2⟩ := flatten_at hm2 (i * sz + j) _ (List.getElem?_eq_getElem hlt)
      have hsp : 0 < sz := by omega
      have e1 : (i * sz + j) / sz = i := by rw [Nat.add_comm, Nat.add_mul_div_right _ _ hsp, Nat.div_eq_of_lt (by omega)]; omega
      have e2 : (i * sz + j) % sz = j := by rw [Nat.add_comm, Nat.add_mul_mod_self_right, Nat.mod_eq_of_lt (by omega)]
      rw [e1] at h1
      rw [e2] at h2
      simp only [List.getElem?_map, hl, Option.map_some, Option.some.injEq] at h1
      subst h1
      simp only [List.getElem?_map, hx, Option.map_some, Option.some.injEq] at h2
      obtain ⟨u, hu, hc⟩ := hpn.get (List.getElem?_eq_getElem hlt)
      exact ⟨u, hu, h2 ▸ hc⟩
    rw [h1]
    refine .row sz g 0 cap es.length ds (fun i j => xs.getD (i * sz + j) undef) (.inr (by rfl)) hlen.symm hnc hm hz' (fun i j l x hl hx => ?_) (fun i j l x hl hx => ?_) (fun i j l x hl hx => ?_)
    · obtain ⟨u, hu, _⟩ := key i j l x hl hx
      rw [Nat.zero_add, hcell _ u hu]
      simp [List.getD_eq_getElem?_getD, hu]
    · obtain ⟨u, hu, hc⟩ := key i j l x hl hx
      simpa [List.getD_eq_getElem?_getD, hu] using hc.1
    · obtain ⟨u, hu, hc⟩ := key i j l x hl hx
      have := (den_d hc.2).mono (F' := fun b => F b ∨ (Value.slice (some ⟨g, 0, none⟩) es.length cap).ownBlock = some b) (w' := w) (fun b hb => .inl hb) (fun _ _ => rfl)
      simpa [List.getD_eq_getElem?_getD, hu] using this

/-- The list that slot t holds is read by itself from now on. -/
theorem Rel.thaw {t i k : Nat} {e : TypeId} {sz : Nat} {es : List (List A)} (ds : List (List D)) (ht : σ.t t = .own i k) (hb : σ.b i = .own k e sz es) (hd : asData es ds) (hX : ∀ b, C.X b → ∃ j cs, j ≠ i ∧ C.E0 j = some b ∧ σ.b j = .var cs) {a : Act} {w : World} (hR : Rel C σ a w) : Rel C ((σ.put (T t) (.a (.d (.row ds)))).put (B i) (.b .none)) a w := by
  obtain ⟨F, E, H, hR⟩ := hR.e
  have hbox := hR.env.box i
  rw [hb] at hbox
  obtain ⟨v, xs, hv, hk, ho, hz, hp⟩ := hbox
  have hrow := own_rowA ho hz hp hd
  have hblk : blk E H i (σ.b i) = v.ownBlock := by rw [hb]; simp only [blk, hv, Option.bind_some]
  have hslot := hR.den t
  rw [ht] at hslot
  have hval : a.tmps.getD t undef = v := by
    have := den_own hslot
    rw [hv] at this
    exact (Option.some.inj this).symm
  have hlt : ∀ b, v.ownBlock = some b → b < w.heap.size := fun b hb2 => (World.ownsRow.lt ho b hb2).2
  have env : Env C w (fun b => F b ∨ v.ownBlock = some b) E H (upd σ.b i .none) := hR.env.step (· = i) rfl rfl rfl (Nat.le_refl _) (fun b _ _ => rfl) (fun b hb => .inl hb)
    (fun b hb2 => by
      rcases hb2 with h1 | h1
      · exact .inl h1
      · refine .inr ⟨hlt b h1, .inr ⟨?_, i, rfl, hblk.trans h1⟩⟩
        rcases (hR.env.live i b (hblk.trans h1)).2 with hx | hx
        · obtain ⟨j, cs, hj, hE, hbj⟩ := hX b hx
          exact absurd (by rw [hbj]; exact hR.env.E0 j b hE) (hR.env.sep i j b (Ne.symm hj) (hblk.trans h1))
        · exact hx)
    (fun _ _ h => h) (fun _ _ _ h => h) (fun _ _ => rfl) (fun _ _ _ => rfl) (fun j hj => upd_ne _ _ hj)
    (fun j hj => by subst hj; rw [upd_same]; trivial) (fun j hj b hb2 => by subst hj; rw [upd_same] at hb2; cases hb2) (fun j q b hj hq hjq => by subst hj; subst hq; exact absurd rfl hjq)
  have hmove := hR.move env (fun b hb => .inl hb) (fun _ _ => rfl) (fun _ _ h => h) (fun _ _ _ h => h)
  refine (RelE.r (F := fun b => F b ∨ v.ownBlock = some b) (E := E) (H := H) ⟨hmove.dfr, hmove.n, hmove.env, fun q => ?_⟩)
  show Den w _ E H (upd σ.t t (.d (.row ds)) q) _
  by_cases hq : q = t
  · subst hq
    rw [upd_same, hval]
    exact .d _ _ hrow
  · rw [upd_ne _ _ hq]
    exact hmove.den q
theorem AW.thaw {t i k : Nat} {e : TypeId} {sz : Nat} {es : List (List A)} (ds : List (List D)) (ht : σ.t t = .own i k) (hb : σ.b i = .own k e sz es) (hd : asData es ds) (hX : ∀ b, C.X b → ∃ j cs, j ≠ i ∧ C.E0 j = some b ∧ σ.b j = .var cs) (h : AW P C c Q ((σ.put (T t) (.a (.d (.row ds)))).put (B i) (.b .none))) : AW P C c Q σ := fun a w hR => h a w (Rel.thaw ds ht hb hd hX hR)
/-- The same of a list that a variable holds. -/
theorem Rel.thawc {j c i k : Nat} {e : TypeId} {sz : Nat} {es : List (List A)} {aas : List A} (ds : List (List D)) (hj : σ.b j = .var aas) (hc : aas[c]? = some (.own i k)) (hb : σ.b i = .own k e sz es) (hd : asData es ds) (hX : ∀ b, C.X b → ∃ j cs, j ≠ i ∧ C.E0 j = some b ∧ σ.b j = .var cs) {a : Act} {w : World} (hR : Rel C σ a w) : Rel C ((σ.put (B j) (.b (.var (aas.set c (.d (.row ds)))))).put (B i) (.b .none)) a w := by
  obtain ⟨F, E, H, hR⟩ := hR.e
  have hji : j ≠ i := fun e => by subst e; rw [hj] at hb; cases hb
  have hbox := hR.env.box i
  rw [hb] at hbox
  obtain ⟨v, xs, hv, hk, ho, hz, hp⟩ := hbox
  have hrow := own_rowA ho hz hp hd
  have hblk : blk E H i (σ.b i) = v.ownBlock := by rw [hb]; simp only [blk, hv, Option.bind_some]
  have hbj := hR.env.box j
  rw [hj] at hbj
  obtain ⟨bj, ct, tt, hE, hh, hpj⟩ := hbj
  have hlt : ∀ b, v.ownBlock = some b → b < w.heap.size := fun b hb2 => (World.ownsRow.lt ho b hb2).2
  have hFm : ∀ b, F b → (F b ∨ v.ownBlock = some b) := fun b hb => .inl hb
  have env : Env C w (fun b => F b ∨ v.ownBlock = some b) E H (upd (upd σ.b j (.var (aas.set c (.d (.row ds))))) i .none) := by
    refine hR.env.step (fun q => q = i ∨ q = j) rfl rfl rfl (Nat.le_refl _) (fun b _ _ => rfl) hFm ?_ (fun _ _ h => h) (fun _ _ _ h => h) (fun _ _ => rfl) (fun _ _ _ => rfl) ?_ ?_ ?_ ?_
    · intro b hb2
      rcases hb2 with h1 | h1
      · exact .inl h1
      · refine .inr ⟨hlt b h1, .inr ⟨?_, i, .inl rfl, hblk.trans h1⟩⟩
        rcases (hR.env.live i b (hblk.trans h1)).2 with hx | hx
        · obtain ⟨q, cs, hq, hEq, hbq⟩ := hX b hx
          exact absurd (by rw [hbq]; exact hR.env.E0 q b hEq) (hR.env.sep i q b (Ne.symm hq) (hblk.trans h1))
        · exact hx
    · intro q hq
      rw [upd_ne _ _ (fun e => hq (.inl e)), upd_ne _ _ (fun e => hq (.inr e))]
    · rintro q (rfl | rfl)
      · rw [upd_same]; trivial
      · rw [upd_ne _ _ hji, upd_same]
        refine ⟨bj, ct, tt, hE, hh, by simp [hpj.1], fun n x u hx hu => ?_⟩
        by_cases hn : n = c
        · subst hn
          have hlt2 : n < aas.length := (List.getElem?_eq_some_iff.1 hc).1
          rw [List.getElem?_set_self hlt2] at hx
          obtain rfl := Option.some.inj hx
          have h1 := hpj.2 n _ u hc hu
          have h2 := den_own h1.2
          rw [hv] at h2
          obtain rfl := Option.some.inj h2
          exact ⟨h1.1, .d _ _ hrow⟩
        · rw [List.getElem?_set_ne (Ne.symm hn)] at hx
          have h1 := hpj.2 n x u hx hu
          exact ⟨h1.1, h1.2.mono hFm (fun _ _ => rfl) (fun _ _ h => h) (fun _ _ _ h => h)⟩
    · rintro q (rfl | rfl) b hb2
      · rw [upd_same] at hb2; cases hb2
      · rw [upd_ne _ _ hji, upd_same] at hb2
        have h3 : blk E H q (σ.b q) = some b := by rw [hj]; exact hb2
        refine ⟨fun hf => ?_, .inr ⟨q, .inr rfl, h3⟩⟩
        rcases hf with hf | hf
        · exact (hR.env.live q b h3).1 hf
        · exact hR.env.sep q i b hji h3 (hblk.trans hf)
    · rintro q r b (rfl | rfl) (rfl | rfl) hqr h1 h2
      · exact hqr rfl
      · rw [upd_same] at h1; cases h1
      · rw [upd_same] at h2; cases h2
      · exact hqr rfl
  have hmove := hR.move env hFm (fun _ _ => rfl) (fun _ _ h => h) (fun _ _ _ h => h)
  exact hmove.r
theorem AW.thawc {j c i k : Nat} {e : TypeId} {sz : Nat} {es : List (List A)} {aas : List A} (ds : List (List D)) (hj : σ.b j = .var aas) (hc : aas[c]? = some (.own i k)) (hb : σ.b i = .own k e sz es) (hd : asData es ds) (hX : ∀ b, C.X b → ∃ j cs, j ≠ i ∧ C.E0 j = some b ∧ σ.b j = .var cs) (h : AW P C c' Q ((σ.put (B j) (.b (.var (aas.set c (.d (.row ds)))))).put (B i) (.b .none))) : AW P C c' Q σ := fun a w hR => h a w (Rel.thawc ds hj hc hb hd hX hR)
/-- Nil lists that a variable holds read as empty ones. -/
theorem Rel.nrmb {j : Nat} {aas : List A} (hj : σ.b j = .var aas) {a : Act} {w : World} (hR : Rel C σ a w) : Rel C (σ.put (B j) (.b (.var (nrms aas)))) a w := by
  obtain ⟨F, E, H, hR⟩ := hR.e
  have hbj := hR.env.box j
  rw [hj] at hbj
  obtain ⟨bj, ct, tt, hE, hh, hp⟩ := hbj
  have env : Env C w F E H (upd σ.b j (.var (nrms aas))) := hR.env.step (· = j) rfl rfl rfl (Nat.le_refl _) (fun b _ _ => rfl) (fun b hb => hb)
    (fun b hb => .inl hb) (fun _ _ h => h) (fun _ _ _ h => h) (fun _ _ => rfl) (fun _ _ _ => rfl) (fun q hq => upd_ne _ _ hq)
    (fun q hq => by subst hq; rw [upd_same]; exact ⟨bj, ct, tt, hE, hh, nrm_cell hp⟩)
    (fun q hq b hb => by
      subst hq
      rw [upd_same] at hb
      have h3 : blk E H q (σ.b q) = some b := by rw [hj]; exact hb
      exact ⟨(hR.env.live q b h3).1, .inr ⟨q, rfl, h3⟩⟩)
    (fun q r b hq hr hqr => by subst hq; subst hr; exact absurd rfl hqr)
  have hmove := hR.move env (fun b hb => hb) (fun _ _ => rfl) (fun _ _ h => h) (fun _ _ _ h => h)
  exact RelE.r hmove
theorem AW.nrmb {j : Nat} {aas : List A} (hj : σ.b j = .var aas) (h : AW P C c Q (σ.put (B j) (.b (.var (nrms aas))))) : AW P C c Q σ := fun a w hR => h a w (Rel.nrmb hj hR)
/-- A part that leaves one of some states, and what comes behind it from each of them. -/
theorem AW.via {α : Type} (inv : α → St) (ok : α → Prop) (h1 : AW P C c (Exit.thenA (fun σ' => ∃ k, ok k ∧ ∀ a w, Rel C σ' a w → Rel C (inv k) a w) Q) σ) (h2 : ∀ k, ok k → AW P C c' Q (inv k)) : AW P C (.seq c c') Q σ :=
  AW.seq (h1.mono fun e σ' h => by
    cases e with
    | normal =>
      obtain ⟨k, hk, hr⟩ := h
      exact fun a w hR => h2 k hk a w (hr a w hR)
    | _ => exact h)
end
end Go.Proofs.YthnlpdjjnfkmeaaDoor

/- Calls by what they answer: of data alone, and of a reader of codes. -/
namespace Go.Proofs.YthnlpdjjnfkmeaaDoor
open Go

def bytesD (zs : List Nat) : D := .row (zs.map fun z : Nat => [.v (.int .u8 (z : Int))])
theorem one_bytes (zs : List Nat) : ∀ e ∈ zs.map (fun z : Nat => [D.v (.int .u8 (z : Int))]), e.length = 1 := by
  intro e he
  obtain ⟨z, _, rfl⟩ := List.mem_map.1 he
  rfl
theorem bytes_get (zs : List Nat) (k : Nat) (h : k < zs.length) : (zs.map fun z : Nat => [D.v (.int .u8 (z : Int))])[k]? = some [.v (.int .u8 ((zs.getD k 0 : Nat) : Int))] := by
  simp [List.getElem?_map, List.getElem?_eq_getElem h, List.getD_eq_getElem?_getD]

mutual
theorem within_mono {K K' : List Nat} (h : ∀ i, K.contains i = true → K'.contains i = true) : ∀ (a : A), a.within K = true → a.within K' = true
  | .any, _ => rfl
  | .d _, _ => rfl
  | .ptr i _, hw => h i hw
  | .own i _, hw => h i hw
  | .optr i _ _, hw => h i hw
  | .rptr _ _ _ _, _ => rfl
  | .agg cs, hw => withins_mono h cs hw
  | .tup cs, hw => withins_mono h cs hw
  | .fn _ aas bs, hw => by
    simp only [A.within, Bool.and_eq_true] at hw ⊢
    exact ⟨withins_mono h aas hw.1, withins_mono h bs hw.2⟩
  | .ifc _ a, hw => within_mono h a hw
theorem withins_mono {K K' : List Nat} (h : ∀ i, K.contains i = true → K'.contains i = true) : ∀ (aas : List A), A.withins K aas = true → A.withins K' aas = true
  | [], _ => rfl
  | a :: aas, hw => by
    simp only [A.withins, Bool.and_eq_true] at hw ⊢
    exact ⟨within_mono h a hw.1, withins_mono h aas hw.2⟩
end
theorem within_nil {K : List Nat} {a : A} (h : a.within [] = true) : a.within K = true := within_mono (fun i hi => by simp at hi) a h

/-- What a call answers of data alone. -/
def DataW (P : Program) (f : FuncId) (aas : List A) (post : A → Prop) : Prop :=
  Spec P f aas [] (fun r bs => post r ∧ bs = []) ∧ (∃ r, post r) ∧ ∀ r, post r → r.within [] = true
def DataOk (P : Program) (f : FuncId) (aas : List A) (r : A) : Prop := Spec P f aas [] (fun r' bs => r' = r ∧ bs = [])
/-- A reader of codes. -/
def rdr (zs : List (Fin 256)) (p : Nat) : Bx := .var [.d (bytesD (zs.map (·.val))), .d (.v (.int .i64 (p : Int)))]
def DrawOk (P : Program) (f : FuncId) (pre : List A → Prop) (post : List A → A → Prop) (n : Nat) : Prop :=
  (∀ i zs p rest, pre rest → p + n ≤ 2000000000 → Spec P f (.ptr i 0 :: rest) [(i, rdr zs p)] (fun r bs => post rest r ∧ ∃ zs' p', bs = [(i, rdr zs' p')] ∧ p' ≤ p + n)) ∧
  (∀ rest, pre rest → ∃ r, post rest r) ∧ ∀ rest r, post rest r → r.within [] = true
/-- It is enough to look at one name of the reader. -/
theorem DrawOk.zero {P : Program} {f : FuncId} {pre : List A → Prop} {post : List A → A → Prop} {n : Nat} (h : ∀ zs p rest, pre rest → p + n ≤ 2000000000 → Spec P f (.ptr 0 0 :: rest) [(0, rdr zs p)] (fun r bs => post rest r ∧ ∃ zs' p', bs = [(0, rdr zs' p')] ∧ p' ≤ p + n))
    (hw : ∀ rest, pre rest → A.withins [] rest = true) (h2 : ∀ rest, pre rest → ∃ r, post rest r) (h3 : ∀ rest r, post rest r → r.within [] = true) : DrawOk P f pre post n := by
  refine ⟨fun i zs p rest hpre hp w F E H args hpo hs hd => ?_, h2, h3⟩
  have lk : ∀ (q j : Nat) (x y : Bx), [(q, x)].lookup j = some y ↔ j = q ∧ y = x := fun q j x y => by
    by_cases e : j = q
    · subst e; simp [eq_comm]
    · have : (j == q) = false := by simp [e]
      simp [List.lookup_cons, this, e]
  let E1 : Nat → Option Nat := fun j => if j = 0 then E i else none
  let H1 : Nat → Nat → Option Value := fun j k => if j = 0 then H i k else none
  have hbox := hpo.box i (rdr zs p) ((lk _ _ _ _).2 ⟨rfl, rfl⟩)
  obtain ⟨b, ct, t, hE, hh, hpw⟩ := hbox
  have key : ∀ {w : World} {F : Nat → Prop} {E E' : Nat → Option Nat} {H H' : Nat → Nat → Option Value} (zs : List (Fin 256)) (p : Nat) {ct : Array Value}, Pw (CellOk w F E H) [.d (bytesD (zs.map (·.val))), .d (.v (.int .i64 (p : Int)))] ct.toList → Pw (CellOk w F E' H') [.d (bytesD (zs.map (·.val))), .d (.v (.int .i64 (p : Int)))] ct.toList := fun zs p _ h => ⟨h.1, fun j a v ha hv => by
    have := h.2 j a v ha hv
    refine ⟨this.1, this.2.names (K := []) (fun i hi => (List.not_mem_nil hi).elim) (fun i hi => (List.not_mem_nil hi).elim) ?_⟩
    exact withins_get (aas := [.d (bytesD (zs.map (·.val))), .d (.v (.int .i64 (p : Int)))]) rfl j a ha⟩
  have hpo1 : PreOk w F E1 H1 [(0, rdr zs p)] := by
    refine ⟨hpo.Flt, fun j x hx => ?_, fun j x b' hx hb => ?_, fun j q x y b' hjq hx hy _ _ => ?_, fun j hj => ?_⟩
    · obtain ⟨rfl, rfl⟩ := (lk _ _ _ _).1 hx
      exact ⟨b, ct, t, hE, hh, key zs p hpw⟩
    · obtain ⟨rfl, rfl⟩ := (lk _ _ _ _).1 hx
      exact hpo.nf i (rdr zs p) b' ((lk _ _ _ _).2 ⟨rfl, rfl⟩) hb
    · exact absurd (((lk _ _ _ _).1 hx).1.trans ((lk _ _ _ _).1 hy).1.symm) hjq
    · have hj0 : j ≠ 0 := fun e => by
        subst e
        rw [(lk 0 0 (rdr zs p) (rdr zs p)).2 ⟨rfl, rfl⟩] at hj
        cases hj
      exact ⟨if_neg hj0, fun k => if_neg hj0⟩
  refine (h zs p rest hpre hp w F E1 H1 args hpo1 hs (fun j a ha => ?_)).mono ?_
  · cases j with
    | zero =>
      simp only [List.getElem?_cons_zero, Option.some.injEq] at ha
      subst ha
      have := hd 0 (.ptr i 0) rfl
      obtain ⟨b', hb', hv⟩ := den_ptr this
      rw [hv]
      exact .ptr 0 0 b' hb'
    | succ j =>
      refine (hd (j + 1) a (by simpa using ha)).names (K := []) (fun i hi => (List.not_mem_nil hi).elim) (fun i hi => (List.not_mem_nil hi).elim) (withins_get (hw rest hpre) j a (by simpa using ha))
  · rintro e w' ⟨v, r, bs', F', E', H', rfl, ⟨hpost, zs', p', rfl, hp'⟩, po, hden⟩
    obtain ⟨b2, ct2, t2, hE2, hh2, hpw2⟩ := po.box 0 (rdr zs' p') ((lk _ _ _ _).2 ⟨rfl, rfl⟩)
    have hE2b : b2 = b := Option.some.inj (hE2.symm.trans (po.en 0 b hE))
    subst hE2b
    refine ⟨v, r, [(i, rdr zs' p')], F', E, H, rfl, ⟨hpost, zs', p', rfl, hp'⟩, ⟨po.os, po.tape, po.output, po.size, fun c hc hn => po.old c hc fun j x hx hb => ?_, po.fr, po.Flt, po.Fnew, fun _ _ h => h, fun _ _ _ h => h, fun j x hx => ?_, fun j x c hx hb => ?_, fun j q x y c hjq hx hy _ _ => ?_, fun j x c hx hb => ?_⟩, ?_⟩
    · obtain ⟨rfl, rfl⟩ := (lk _ _ _ _).1 hx
      exact hn i (rdr zs p) ((lk _ _ _ _).2 ⟨rfl, rfl⟩) hb
    · obtain ⟨rfl, rfl⟩ := (lk _ _ _ _).1 hx
      exact ⟨b2, ct2, t2, hE, hh2, key zs' p' hpw2⟩
    · obtain ⟨rfl, rfl⟩ := (lk _ _ _ _).1 hx
      have hcb : c = b2 := Option.some.inj (hb.symm.trans hE)
      exact po.nf 0 (rdr zs' p') c ((lk _ _ _ _).2 ⟨rfl, rfl⟩) (hcb ▸ hE2)
    · exact absurd (((lk _ _ _ _).1 hx).1.trans ((lk _ _ _ _).1 hy).1.symm) hjq
    · obtain ⟨rfl, rfl⟩ := (lk _ _ _ _).1 hx
      exact .inl ⟨j, rdr zs p, (lk _ _ _ _).2 ⟨rfl, rfl⟩, hb⟩
    · exact hden.names (K := []) (fun i hi => (List.not_mem_nil hi).elim) (fun i hi => (List.not_mem_nil hi).elim) (h3 _ _ hpost)
theorem fin_lt (zs : List (Fin 256)) (k : Nat) : (zs.map (·.val)).getD k 0 < 256 := by
  simp only [List.getD_eq_getElem?_getD, List.getElem?_map]
  cases zs[k]? with
  | none => simp
  | some z => exact z.isLt
def rdP : List (Nat × Bx) → Nat
  | (_, .var [_, .d (.v (.int _ n))]) :: _ => n.toNat
  | _ => 0
def conDraw (pre : List A → Prop) (post : List A → A → Prop) (n i : Nat) : Con :=
  ⟨fun aas bs => ∃ zs p rest, aas = .ptr i 0 :: rest ∧ bs = [(i, rdr zs p)] ∧ pre rest ∧ p + n ≤ 2000000000,
   fun aas bs r bs' => post aas.tail r ∧ ∃ zs' p', bs' = [(i, rdr zs' p')] ∧ p' ≤ rdP bs + n⟩
theorem conDraw_ok {P : Program} {f : FuncId} {pre : List A → Prop} {post : List A → A → Prop} {n : Nat} (h : DrawOk P f pre post n) (i : Nat) : (conDraw pre post n i).ok P f ([i] ++ []) := by
  rintro aas bs ⟨zs, p, rest, rfl, rfl, hpre, hp⟩
  have e : rdP [(i, rdr zs p)] = p := by simp [rdP, rdr]
  refine ⟨?_, ?_⟩
  · have := h.1 i zs p rest hpre hp
    simp only [conDraw, List.tail_cons, e]
    exact this
  · rintro r bs' ⟨hpost, zs', p', rfl, _⟩
    refine ⟨within_nil (h.2.2 _ _ hpost), fun j x hx => ?_⟩
    rw [List.lookup_cons] at hx
    split at hx
    · rename_i he
      obtain rfl := Option.some.inj hx
      refine ⟨by simp [eq_of_beq he], rfl⟩
    · cases hx

section
variable {P : Program} {C : Ctx} {ops : Array Oper} {os : List Oper} {cs : List Cert} {σ : St} {K : St → Prop} {d : Nat} {ty : TypeId} {pos : String} {af : Array Edge}

def conW (aas : List A) (post : A → Prop) : Con := Con.at aas [] (fun r bs => post r ∧ bs = [])
theorem conW_ok {f : FuncId} {aas : List A} {post : A → Prop} (h : DataW P f aas post) : (conW aas post).ok P f ([] ++ []) := by
  rintro aas' bs' ⟨rfl, rfl⟩
  refine ⟨h.1, ?_⟩
  rintro r bs' ⟨hpost, rfl⟩
  exact ⟨h.2.2 r hpost, fun i x hx => by cases hx⟩
theorem ok_datw {f : FuncId} {fn : Func} {at_ : Array TypeId} {xs : List Operand} {aas : List A} {post : A → Prop} (h : DataW P f aas post) (hf : P.funcs[f]? = some fn) (hbody : fn.body.isSome = true) (hname : (fn.name == "runtime.NumGoroutine") = false) :
    OpOk P C ops ⟨some d, .call { callee := .value (.func f), args := xs.toArray, argTypes := at_ }, ty, pos, af, none⟩ ⟨xs.flatMap kof ++ ([] ++ [] : List Nat).map B, T d :: ([] ++ [] : List Nat).map B, behCall (conW aas post) xs [] [] d⟩ :=
  ok_call [] [] hf hbody hname (conW_ok h)
theorem Wk.datw {f : FuncId} {fn : Func} {at_ : Array TypeId} {xs : List Operand} {aas : List A} {post : A → Prop} (h : DataW P f aas post) (hf : P.funcs[f]? = some fn) (hbody : fn.body.isSome = true) (hname : (fn.name == "runtime.NumGoroutine") = false)
    (hargs : argsA σ xs = aas) (hw : A.withins [] aas = true) (hd : d < σ.n) (hk : ∀ r, post r → Wk P C ops os cs (σ.put (T d) (.a r)) K) :
    Wk P C ops (⟨some d, .call { callee := .value (.func f), args := xs.toArray, argTypes := at_ }, ty, pos, af, none⟩ :: os) (⟨xs.flatMap kof ++ ([] ++ [] : List Nat).map B, T d :: ([] ++ [] : List Nat).map B, behCall (conW aas post) xs [] [] d⟩ :: cs) σ K := by
  refine Wk.cons (ok_datw h hf hbody hname) ?_ ?_
  · obtain ⟨r, hr⟩ := h.2.1
    exact ⟨hd, fun i hi => (List.not_mem_nil hi).elim, by rw [hargs]; exact hw, fun i hi => (List.not_mem_nil hi).elim, ⟨hargs, rfl⟩, r, [], hr, rfl⟩
  · rintro us ⟨r, bs', ⟨hpost, rfl⟩, rfl⟩
    exact hk r hpost
theorem DataOk.w {f : FuncId} {aas : List A} {r : A} (h : DataOk P f aas r) (hr : r.within [] = true) : DataW P f aas (· = r) := ⟨h, ⟨r, rfl⟩, fun r' e => by rw [e]; exact hr⟩
theorem Wk.dat {f : FuncId} {fn : Func} {at_ : Array TypeId} {xs : List Operand} {aas : List A} {r : A} (h : DataOk P f aas r) (hf : P.funcs[f]? = some fn) (hbody : fn.body.isSome = true) (hname : (fn.name == "runtime.NumGoroutine") = false)
    (hargs : argsA σ xs = aas) (hw : A.withins [] aas = true) (hr : r.within [] = true) (hd : d < σ.n) (hk : Wk P C ops os cs (σ.put (T d) (.a r)) K) :
    Wk P C ops (⟨some d, .call { callee := .value (.func f), args := xs.toArray, argTypes := at_ }, ty, pos, af, none⟩ :: os) (⟨xs.flatMap kof ++ ([] ++ [] : List Nat).map B, T d :: ([] ++ [] : List Nat).map B, behCall (conW aas (· = r)) xs [] [] d⟩ :: cs) σ K :=
  Wk.datw (h.w hr) hf hbody hname hargs hw hd fun _ e => e ▸ hk

theorem ok_drw {f : FuncId} {fn : Func} {at_ : Array TypeId} {xs : List Operand} {pre : List A → Prop} {post : List A → A → Prop} {n : Nat} (i : Nat) (h : DrawOk P f pre post n) (hf : P.funcs[f]? = some fn) (hbody : fn.body.isSome = true) (hname : (fn.name == "runtime.NumGoroutine") = false) :
    OpOk P C ops ⟨some d, .call { callee := .value (.func f), args := xs.toArray, argTypes := at_ }, ty, pos, af, none⟩ ⟨xs.flatMap kof ++ ([i] ++ []).map B, T d :: ([i] ++ []).map B, behCall (conDraw pre post n i) xs [i] [] d⟩ :=
  ok_call [i] [] hf hbody hname (conDraw_ok h i)
theorem Wk.drw {f : FuncId} {fn : Func} {at_ : Array TypeId} {xs : List Operand} {pre : List A → Prop} {post : List A → A → Prop} {n : Nat} (i : Nat) (h : DrawOk P f pre post n) (hf : P.funcs[f]? = some fn) (hbody : fn.body.isSome = true) (hname : (fn.name == "runtime.NumGoroutine") = false)
    {rest : List A} {zs : List (Fin 256)} {p : Nat} (hargs : argsA σ xs = .ptr i 0 :: rest) (hb : σ.b i = rdr zs p) (hpre : pre rest) (hp : p + n ≤ 2000000000) (hw : A.withins [i] rest = true) (hd : d < σ.n)
    (hk : ∀ r zs' p', post rest r → p' ≤ p + n → Wk P C ops os cs ((σ.put (T d) (.a r)).put (B i) (.b (rdr zs' p'))) K) :
    Wk P C ops (⟨some d, .call { callee := .value (.func f), args := xs.toArray, argTypes := at_ }, ty, pos, af, none⟩ :: os) (⟨xs.flatMap kof ++ ([i] ++ []).map B, T d :: ([i] ++ []).map B, behCall (conDraw pre post n i) xs [i] [] d⟩ :: cs) σ K := by
  have hbx : boxesA σ [i] = [(i, rdr zs p)] := by simp [boxesA, hb]
  have e : rdP [(i, rdr zs p)] = p := by simp [rdP, rdr]
  refine Wk.cons (ok_drw i h hf hbody hname) ?_ ?_
  · obtain ⟨r, hr⟩ := h.2.1 rest hpre
    refine ⟨hd, fun i hi => (List.not_mem_nil hi).elim, ?_, fun j hj => ?_, ⟨zs, p, rest, hargs, hbx, hpre, hp⟩, r, [(i, rdr zs p)], ?_, zs, p, rfl, by rw [hbx, e]; omega⟩
    · rw [hargs]
      simp [A.withins, A.within, hw]
    · obtain rfl : j = i := by simpa using hj
      rw [hb]; rfl
    · rw [hargs]; exact hr
  · rintro us ⟨r, bs', ⟨hpost, zs', p', rfl, hp'⟩, rfl⟩
    rw [hargs, List.tail_cons] at hpost
    rw [hbx, e] at hp'
    have := hk r zs' p' hpost hp'
    simpa [St.puts] using this
end
theorem kept1 {σ : St} {q : Nat} {y : Bx} (hb : σ.b q = y) : ∀ (i : Nat) (x : Bx), [(q, y)].lookup i = some x → σ.b i = x := fun i x hx => by
  rw [List.lookup_cons] at hx
  split at hx
  · rename_i he
    rw [eq_of_beq he, hb]
    exact Option.some.inj hx
  · cases hx
theorem kept2 {σ : St} {q r : Nat} {y z : Bx} (h1 : σ.b q = y) (h2 : σ.b r = z) : ∀ (i : Nat) (x : Bx), [(q, y), (r, z)].lookup i = some x → σ.b i = x := fun i x hx => by
  rw [List.lookup_cons] at hx
  split at hx
  · rename_i he
    rw [eq_of_beq he, h1]
    exact Option.some.inj hx
  · exact kept1 h2 i x hx
theorem kept3 {σ : St} {q r t : Nat} {y z u : Bx} (h1 : σ.b q = y) (h2 : σ.b r = z) (h3 : σ.b t = u) : ∀ (i : Nat) (x : Bx), [(q, y), (r, z), (t, u)].lookup i = some x → σ.b i = x := fun i x hx => by
  rw [List.lookup_cons] at hx
  split at hx
  · rename_i he
    rw [eq_of_beq he, h1]
    exact Option.some.inj hx
  · exact kept2 h2 h3 i x hx
theorem inAll {L : List Nat} {bs : List (Nat × Bx)} (h : bs.all (fun p => L.contains p.1 && p.2.within L) = true) : ∀ i x, bs.lookup i = some x → i ∈ L ∧ x.within L = true := by
  induction bs with
  | nil => intro i x hx; cases hx
  | cons p bs ih =>
    intro i x hx
    obtain ⟨q, y⟩ := p
    simp only [List.all_cons, Bool.and_eq_true] at h
    rw [List.lookup_cons] at hx
    split at hx
    · rename_i he
      obtain rfl := Option.some.inj hx
      refine ⟨?_, h.1.2⟩
      rw [eq_of_beq he]
      simpa using h.1.1
    · exact ih (by simpa using h.2) i x hx
/-- Opening a reader. -/
def OpenOk (P : Program) (f : FuncId) : Prop := ∀ zs : List (Fin 256), Spec P f [.d (bytesD (zs.map (·.val)))] [] (fun r bs => r = .ptr 0 0 ∧ ∃ zs', bs = [(0, rdr zs' 0)])
def conOpen (zs : List (Fin 256)) : Con := Con.at [.d (bytesD (zs.map (·.val)))] [] (fun r bs => r = .ptr 0 0 ∧ ∃ zs', bs = [(0, rdr zs' 0)])
theorem conOpen_ok {P : Program} {f : FuncId} (h : OpenOk P f) (zs : List (Fin 256)) : (conOpen zs).ok P f ([] ++ [0]) := by
  rintro aas' bs' ⟨rfl, rfl⟩
  refine ⟨h zs, ?_⟩
  rintro r bs' ⟨rfl, zs', rfl⟩
  refine ⟨rfl, fun j x hx => ?_⟩
  rw [List.lookup_cons] at hx
  split at hx
  · rename_i he
    obtain rfl := Option.some.inj hx
    exact ⟨by simp [eq_of_beq he], rfl⟩
  · cases hx
theorem Wk.opn {P : Program} {C : Ctx} {ops : Array Oper} {os : List Oper} {cs : List Cert} {σ : St} {K : St → Prop} {d : Nat} {ty : TypeId} {pos : String} {af : Array Edge} {f : FuncId} {fn : Func} {at_ : Array TypeId} {xs : List Operand} (h : OpenOk P f) (hf : P.funcs[f]? = some fn) (hbody : fn.body.isSome = true) (hname : (fn.name == "runtime.NumGoroutine") = false)
    {zs : List (Fin 256)} (hargs : argsA σ xs = [.d (bytesD (zs.map (·.val)))]) (hb : σ.b 0 = .fresh) (hd : d < σ.n)
    (hk : ∀ zs', Wk P C ops os cs ((σ.put (T d) (.a (.ptr 0 0))).put (B 0) (.b (rdr zs' 0))) K) :
    Wk P C ops (⟨some d, .call { callee := .value (.func f), args := xs.toArray, argTypes := at_ }, ty, pos, af, none⟩ :: os) (⟨xs.flatMap kof ++ ([] ++ [0]).map B, T d :: ([] ++ [0]).map B, behCall (conOpen zs) xs [] [0] d⟩ :: cs) σ K := by
  refine Wk.cons (ok_call [] [0] hf hbody hname (conOpen_ok h zs)) ?_ ?_
  · refine ⟨hd, fun i hi => ?_, by rw [hargs]; rfl, fun i hi => (List.not_mem_nil hi).elim, ⟨hargs, rfl⟩, .ptr 0 0, [(0, rdr zs 0)], rfl, zs, rfl⟩
    obtain rfl : i = 0 := by simpa using hi
    exact hb
  · rintro us ⟨r, bs', ⟨rfl, zs', rfl⟩, rfl⟩
    have := hk zs'
    simpa [St.puts] using this
theorem asData_bytes (zs : List Nat) : asData (zs.map fun z : Nat => [A.d (.v (.int .u8 (z : Int)))]) (zs.map fun z : Nat => [.v (.int .u8 (z : Int))]) := by
  simp [asData, nrms, nrm]
end Go.Proofs.YthnlpdjjnfkmeaaDoor

/- Package variables that nobody turns: what a call answers where they hold what they hold; a load of one, and a call of what reads them. -/
namespace Go.Proofs.YthnlpdjjnfkmeaaDoor
open Go
/-- The variables (their cells' numbers) hold these values. -/
def VarsIn (V : List (Nat × Value)) (w : World) : Prop := ∀ g v, (g, v) ∈ V → (w.cell? ⟨g, 0, none⟩ = some v ∧ g < w.heap.size ∧ v.oneCell' = true) ∧ ∀ t a, v = .iface t (.pointer (some a)) → ∃ ca ta, w.heap[a.block]? = some (.cells ca ta (0, 0))
theorem VarsIn.keep {V : List (Nat × Value)} {w w' : World} (h : VarsIn V w) (hs : w.heap.size ≤ w'.heap.size) (hw : ∀ b, b < w.heap.size → w'.heap[b]? = w.heap[b]?) : VarsIn V w' := fun g v hm => by
  obtain ⟨⟨h1, h2, h3⟩, h4⟩ := h g v hm
  refine ⟨⟨?_, Nat.lt_of_lt_of_le h2 hs, h3⟩, fun t a e => ?_⟩
  · rw [World.cell?_of_block (a := ⟨g, 0, none⟩) (hw g h2)]
    exact h1
  · obtain ⟨ca, ta, hc⟩ := h4 t a e
    exact ⟨ca, ta, by rw [hw _ (Array.getElem?_eq_some_iff.1 hc).1]; exact hc⟩
theorem XB.nil {C : Ctx} (h : XB C []) (b : Nat) : ¬ C.X b := fun hb => by
  obtain ⟨j, x, hx, _⟩ := h b hb
  cases hx
theorem Env.vars {C : Ctx} {w : World} {F : Nat → Prop} {E : Nat → Option Nat} {H : Nat → Nat → Option Value} {bx : Nat → Bx} {V : List (Nat × Value)} (h : Env C w F E H bx) (hX : XB C []) (hV : VarsIn V C.w0) : VarsIn V w :=
  hV.keep h.size fun b hb => h.old b hb (hX.nil b)
/-- What a call answers where the variables hold these values: data alone. -/
def DataV (P : Program) (V : List (Nat × Value)) (f : FuncId) (aas : List A) (r : A) : Prop := ∀ w, VarsIn V w → SpecAt P w f aas [] (fun r' bs => r' = r ∧ bs = [])
theorem DataOk.v {P : Program} {V : List (Nat × Value)} {f : FuncId} {aas : List A} {r : A} (h : DataOk P f aas r) : DataV P V f aas r := fun w _ => h w
theorem DataV.intro {P : Program} {V : List (Nat × Value)} {f : FuncId} {fn : Func} {c : Code} {n : Nat} {rv : List ResultVar} {aas : List A} {r : A} (hf : P.funcs[f]? = some fn) (hb : fn.body = some c) (hn : fn.ntmps = n) (hrv : fn.results.toList = rv)
    (hl : aas.length ≤ n) (h : ∀ C : Ctx, VarsIn V C.w0 → Names C (keys ([] : List (Nat × Bx))) → XB C [] → AW P C c (RetQ P rv (fun r' bs => r' = r ∧ bs = [])) (St.arg n aas [])) : DataV P V f aas r :=
  fun _ hV => Spec.intro_at hf hb hn hrv hl fun C e hN hX => h C (e ▸ hV) hN hX
section
variable {P : Program} {C : Ctx} {ops : Array Oper} {os : List Oper} {cs : List Cert} {σ : St} {K : St → Prop} {d : Nat} {ty : TypeId} {pos : String} {af : Array Edge} {V : List (Nat × Value)}
def rVar (v : Value) (_ : St) : Option A := some (.d (.v v))
theorem ok_ldv {t : TypeId} {g : Nat} {v : Value} (hX : XB C []) (hV : VarsIn V C.w0) (ht : tyOf P t = some (1, false)) (hm : (g, v) ∈ V) : OpOk P C ops ⟨some d, .load t (.global g), ty, pos, af, none⟩ ⟨[], [T d], beh1 (rVar v) d⟩ :=
  OpOk.read rfl rfl (fun σ => rfl) fun σ a w F E H r hR h => by
    obtain rfl := Option.some.inj h
    obtain ⟨⟨hc, _, h1⟩, _⟩ := hR.env.vars hX hV g v hm
    obtain ⟨v', h2, h3⟩ := run_load_cells (w := w) (F := F) (E := E) (H := H) (b := g) (o := 0) (off := 0) ht (aas := [.d (.v v)]) (vs := [v]) (Pw.one ⟨h1, .d _ _ (.v v)⟩) (fun j u hj => by
      cases j with
      | zero => obtain rfl := Option.some.inj hj; exact hc
      | succ j => simp at hj) (r := .d (.v v)) rfl
    exact ⟨v', by simp [execOp, Act.eval, Instr.loadAt, Instr.sureAddr, h2], h3⟩
theorem Wk.ldv {t : TypeId} {g : Nat} {v : Value} (hX : XB C []) (hV : VarsIn V C.w0) (ht : tyOf P t = some (1, false)) (hm : (g, v) ∈ V) (hd : d < σ.n) (h : Wk P C ops os cs (σ.put (T d) (.a (.d (.v v)))) K) :
    Wk P C ops (⟨some d, .load t (.global g), ty, pos, af, none⟩ :: os) (⟨[], [T d], beh1 (rVar v) d⟩ :: cs) σ K := Wk.read (ok_ldv hX hV ht hm) _ hd rfl h
theorem ok_dav {f : FuncId} {fn : Func} {at_ : Array TypeId} {xs : List Operand} {aas : List A} {r : A} (h : DataV P V f aas r) (hr : r.within [] = true) (hX : XB C []) (hV : VarsIn V C.w0) (hf : P.funcs[f]? = some fn) (hbody : fn.body.isSome = true) (hname : (fn.name == "runtime.NumGoroutine") = false) :
    OpOk P C ops ⟨some d, .call { callee := .value (.func f), args := xs.toArray, argTypes := at_ }, ty, pos, af, none⟩ ⟨xs.flatMap kof ++ ([] ++ [] : List Nat).map B, T d :: ([] ++ [] : List Nat).map B, behCall (conW aas (· = r)) xs [] [] d⟩ :=
  ok_call_at [] [] hf hbody hname fun w F E H bx he aas' bs' hpre => by
    obtain ⟨rfl, rfl⟩ := hpre
    refine ⟨h w (he.vars hX hV), ?_⟩
    rintro r bs' ⟨rfl, rfl⟩
    exact ⟨hr, fun i x hx => by cases hx⟩
theorem Wk.dav {f : FuncId} {fn : Func} {at_ : Array TypeId} {xs : List Operand} {aas : List A} {r : A} (h : DataV P V f aas r) (hX : XB C []) (hV : VarsIn V C.w0) (hf : P.funcs[f]? = some fn) (hbody : fn.body.isSome = true) (hname : (fn.name == "runtime.NumGoroutine") = false)
    (hargs : argsA σ xs = aas) (hw : A.withins [] aas = true) (hr : r.within [] = true) (hd : d < σ.n) (hk : Wk P C ops os cs (σ.put (T d) (.a r)) K) :
    Wk P C ops (⟨some d, .call { callee := .value (.func f), args := xs.toArray, argTypes := at_ }, ty, pos, af, none⟩ :: os) (⟨xs.flatMap kof ++ ([] ++ [] : List Nat).map B, T d :: ([] ++ [] : List Nat).map B, behCall (conW aas (· = r)) xs [] [] d⟩ :: cs) σ K := by
  refine Wk.cons (ok_dav h hr hX hV hf hbody hname) ?_ ?_
  · exact ⟨hd, fun i hi => (List.not_mem_nil hi).elim, by rw [hargs]; exact hw, fun i hi => (List.not_mem_nil hi).elim, ⟨hargs, rfl⟩, r, [], rfl, rfl⟩
  · rintro us ⟨r', bs', ⟨rfl, rfl⟩, rfl⟩
    exact hk
end
end Go.Proofs.YthnlpdjjnfkmeaaDoor

/- The program's types: sizes, fields, zeros. -/
namespace Go.Proofs.YthnlpdjjnfkmeaaDoor
open Go
theorem hmix : Tryd.prog.follows .mixedOrders = true := by kernel_rfl
theorem ty3 : tyOf Tryd.prog 3 = some (1, false) := by kernel_rfl
theorem ze3 : zeroOf Tryd.prog 3 = some [.int .i64 0] := by kernel_rfl
theorem ap3 : appOf Tryd.prog 3 1 = true := by kernel_rfl
theorem ui3 : Tryd.prog.underlying 3 = some (.int .i64) := by kernel_rfl
theorem ty4 : tyOf Tryd.prog 4 = some (1, false) := by kernel_rfl
theorem ze4 : zeroOf Tryd.prog 4 = some [.bool false] := by kernel_rfl
theorem ap4 : appOf Tryd.prog 4 1 = true := by kernel_rfl
theorem ty5 : tyOf Tryd.prog 5 = some (1, false) := by kernel_rfl
theorem ze5 : zeroOf Tryd.prog 5 = some [.int .u8 0] := by kernel_rfl
theorem ap5 : appOf Tryd.prog 5 1 = true := by kernel_rfl
theorem ui5 : Tryd.prog.underlying 5 = some (.int .u8) := by kernel_rfl
theorem ty22 : tyOf Tryd.prog 22 = some (1, false) := by kernel_rfl
theorem ze22 : zeroOf Tryd.prog 22 = some [.slice none 0 0] := by kernel_rfl
theorem ap22 : appOf Tryd.prog 22 1 = true := by kernel_rfl
theorem un22 : Tryd.prog.underlying 22 = some (.slice 5) := by kernel_rfl
theorem ty24 : tyOf Tryd.prog 24 = some (9, true) := by kernel_rfl
theorem fd24_0 : fieldOf Tryd.prog 24 0 = some (0, 1, false) := by kernel_rfl
theorem fd24_1 : fieldOf Tryd.prog 24 1 = some (1, 1, false) := by kernel_rfl
theorem fd24_2 : fieldOf Tryd.prog 24 2 = some (2, 1, false) := by kernel_rfl
theorem fd24_3 : fieldOf Tryd.prog 24 3 = some (3, 1, false) := by kernel_rfl
theorem fd24_4 : fieldOf Tryd.prog 24 4 = some (4, 1, false) := by kernel_rfl
theorem fd24_5 : fieldOf Tryd.prog 24 5 = some (5, 1, false) := by kernel_rfl
theorem fd24_6 : fieldOf Tryd.prog 24 6 = some (6, 1, false) := by kernel_rfl
theorem fd24_7 : fieldOf Tryd.prog 24 7 = some (7, 1, false) := by kernel_rfl
theorem fd24_8 : fieldOf Tryd.prog 24 8 = some (8, 1, false) := by kernel_rfl
theorem ze24 : zeroOf Tryd.prog 24 = some [.int .i64 0, .int .i64 0, .int .i64 0, .bool false, .bool false, .int .i64 0, .int .i64 0, .int .i64 0, .slice none 0 0] := by kernel_rfl
theorem bl24 : builtOf Tryd.prog 24 = some ([.int .i64 0, .int .i64 0, .int .i64 0, .bool false, .bool false, .int .i64 0, .int .i64 0, .int .i64 0, .slice none 0 0], [(0, 1), (1, 1), (2, 1), (3, 1), (4, 1), (5, 1), (6, 1), (7, 1), (8, 1)]) := by kernel_rfl
theorem ap24 : appOf Tryd.prog 24 9 = true := by kernel_rfl
theorem ty35 : tyOf Tryd.prog 35 = some (5, true) := by kernel_rfl
theorem fd35_0 : fieldOf Tryd.prog 35 0 = some (0, 1, false) := by kernel_rfl
theorem fd35_1 : fieldOf Tryd.prog 35 1 = some (1, 1, false) := by kernel_rfl
theorem fd35_2 : fieldOf Tryd.prog 35 2 = some (2, 1, false) := by kernel_rfl
theorem fd35_3 : fieldOf Tryd.prog 35 3 = some (3, 1, false) := by kernel_rfl
theorem fd35_4 : fieldOf Tryd.prog 35 4 = some (4, 1, false) := by kernel_rfl
theorem ze35 : zeroOf Tryd.prog 35 = some [.int .i64 0, .int .i64 0, .int .i64 0, .int .i64 0, .int .i64 0] := by kernel_rfl
theorem bl35 : builtOf Tryd.prog 35 = some ([.int .i64 0, .int .i64 0, .int .i64 0, .int .i64 0, .int .i64 0], [(0, 1), (1, 1), (2, 1), (3, 1), (4, 1)]) := by kernel_rfl
theorem ap35 : appOf Tryd.prog 35 5 = true := by kernel_rfl
theorem ty36 : tyOf Tryd.prog 36 = some (1, false) := by kernel_rfl
theorem ze36 : zeroOf Tryd.prog 36 = some [.slice none 0 0] := by kernel_rfl
theorem ap36 : appOf Tryd.prog 36 1 = true := by kernel_rfl
theorem un36 : Tryd.prog.underlying 36 = some (.slice 77) := by kernel_rfl
theorem ty38 : tyOf Tryd.prog 38 = some (5, true) := by kernel_rfl
theorem fd38_0 : fieldOf Tryd.prog 38 0 = some (0, 1, false) := by kernel_rfl
theorem fd38_1 : fieldOf Tryd.prog 38 1 = some (1, 1, false) := by kernel_rfl
theorem fd38_2 : fieldOf Tryd.prog 38 2 = some (2, 1, false) := by kernel_rfl
theorem fd38_3 : fieldOf Tryd.prog 38 3 = some (3, 1, false) := by kernel_rfl
theorem fd38_4 : fieldOf Tryd.prog 38 4 = some (4, 1, false) := by kernel_rfl
theorem ze38 : zeroOf Tryd.prog 38 = some [.int .i64 0, .slice none 0 0, .int .i64 0, .int .i64 0, .bool false] := by kernel_rfl
theorem bl38 : builtOf Tryd.prog 38 = some ([.int .i64 0, .slice none 0 0, .int .i64 0, .int .i64 0, .bool false], [(0, 1), (1, 1), (2, 1), (3, 1), (4, 1)]) := by kernel_rfl
theorem ap38 : appOf Tryd.prog 38 5 = true := by kernel_rfl
theorem ty59 : tyOf Tryd.prog 59 = some (2, true) := by kernel_rfl
theorem fd59_0 : fieldOf Tryd.prog 59 0 = some (0, 1, false) := by kernel_rfl
theorem fd59_1 : fieldOf Tryd.prog 59 1 = some (1, 1, false) := by kernel_rfl
theorem ze59 : zeroOf Tryd.prog 59 = some [.slice none 0 0, .nilIface] := by kernel_rfl
theorem bl59 : builtOf Tryd.prog 59 = some ([.slice none 0 0, .nilIface], [(0, 1), (1, 1)]) := by kernel_rfl
theorem ap59 : appOf Tryd.prog 59 2 = true := by kernel_rfl
theorem ty71 : tyOf Tryd.prog 71 = some (1, false) := by kernel_rfl
theorem ze71 : zeroOf Tryd.prog 71 = some [.int .i64 0] := by kernel_rfl
theorem ap71 : appOf Tryd.prog 71 1 = true := by kernel_rfl
theorem ui71 : Tryd.prog.underlying 71 = some (.int .i64) := by kernel_rfl
theorem ty77 : tyOf Tryd.prog 77 = some (3, true) := by kernel_rfl
theorem fd77_0 : fieldOf Tryd.prog 77 0 = some (0, 1, false) := by kernel_rfl
theorem fd77_1 : fieldOf Tryd.prog 77 1 = some (1, 1, false) := by kernel_rfl
theorem fd77_2 : fieldOf Tryd.prog 77 2 = some (2, 1, false) := by kernel_rfl
theorem ze77 : zeroOf Tryd.prog 77 = some [.int .i64 0, .int .i64 0, .slice none 0 0] := by kernel_rfl
theorem bl77 : builtOf Tryd.prog 77 = some ([.int .i64 0, .int .i64 0, .slice none 0 0], [(0, 1), (1, 1), (2, 1)]) := by kernel_rfl
theorem ap77 : appOf Tryd.prog 77 3 = true := by kernel_rfl
theorem ty80 : tyOf Tryd.prog 80 = some (1, false) := by kernel_rfl
theorem ze80 : zeroOf Tryd.prog 80 = some [.slice none 0 0] := by kernel_rfl
theorem ap80 : appOf Tryd.prog 80 1 = true := by kernel_rfl
theorem un80 : Tryd.prog.underlying 80 = some (.slice 3) := by kernel_rfl
theorem ty83 : tyOf Tryd.prog 83 = some (2, true) := by kernel_rfl
theorem fd83_0 : fieldOf Tryd.prog 83 0 = some (0, 1, false) := by kernel_rfl
theorem fd83_1 : fieldOf Tryd.prog 83 1 = some (1, 1, false) := by kernel_rfl
theorem ze83 : zeroOf Tryd.prog 83 = some [.slice none 0 0, .int .i64 0] := by kernel_rfl
theorem bl83 : builtOf Tryd.prog 83 = some ([.slice none 0 0, .int .i64 0], [(0, 1), (1, 1)]) := by kernel_rfl
theorem ap83 : appOf Tryd.prog 83 2 = true := by kernel_rfl
theorem ty89 : tyOf Tryd.prog 89 = some (3, true) := by kernel_rfl
theorem fd89_0 : fieldOf Tryd.prog 89 0 = some (0, 1, false) := by kernel_rfl
theorem fd89_1 : fieldOf Tryd.prog 89 1 = some (1, 1, false) := by kernel_rfl
theorem fd89_2 : fieldOf Tryd.prog 89 2 = some (2, 1, false) := by kernel_rfl
theorem ze89 : zeroOf Tryd.prog 89 = some [.int .i64 0, .int .i64 0, .slice none 0 0] := by kernel_rfl
theorem bl89 : builtOf Tryd.prog 89 = some ([.int .i64 0, .int .i64 0, .slice none 0 0], [(0, 1), (1, 1), (2, 1)]) := by kernel_rfl
theorem ap89 : appOf Tryd.prog 89 3 = true := by kernel_rfl
theorem ty91 : tyOf Tryd.prog 91 = some (6, true) := by kernel_rfl
theorem fd91_0 : fieldOf Tryd.prog 91 0 = some (0, 1, false) := by kernel_rfl
theorem fd91_1 : fieldOf Tryd.prog 91 1 = some (1, 1, false) := by kernel_rfl
theorem fd91_2 : fieldOf Tryd.prog 91 2 = some (2, 1, false) := by kernel_rfl
theorem fd91_3 : fieldOf Tryd.prog 91 3 = some (3, 3, true) := by kernel_rfl
theorem ze91 : zeroOf Tryd.prog 91 = some [.int .i64 0, .int .i64 0, .bool false, .int .i64 0, .int .i64 0, .slice none 0 0] := by kernel_rfl
theorem bl91 : builtOf Tryd.prog 91 = some ([.int .i64 0, .int .i64 0, .bool false, .int .i64 0, .int .i64 0, .slice none 0 0], [(0, 1), (1, 1), (2, 1), (3, 3)]) := by kernel_rfl
theorem ap91 : appOf Tryd.prog 91 6 = true := by kernel_rfl
theorem ty93 : tyOf Tryd.prog 93 = some (4, true) := by kernel_rfl
theorem fd93_0 : fieldOf Tryd.prog 93 0 = some (0, 1, false) := by kernel_rfl
theorem fd93_1 : fieldOf Tryd.prog 93 1 = some (1, 1, false) := by kernel_rfl
theorem fd93_2 : fieldOf Tryd.prog 93 2 = some (2, 1, false) := by kernel_rfl
theorem fd93_3 : fieldOf Tryd.prog 93 3 = some (3, 1, false) := by kernel_rfl
theorem ze93 : zeroOf Tryd.prog 93 = some [.int .i64 0, .bool false, .bool false, .int .i64 0] := by kernel_rfl
theorem bl93 : builtOf Tryd.prog 93 = some ([.int .i64 0, .bool false, .bool false, .int .i64 0], [(0, 1), (1, 1), (2, 1), (3, 1)]) := by kernel_rfl
theorem ap93 : appOf Tryd.prog 93 4 = true := by kernel_rfl
theorem ty95 : tyOf Tryd.prog 95 = some (3, true) := by kernel_rfl
theorem fd95_0 : fieldOf Tryd.prog 95 0 = some (0, 3, true) := by kernel_rfl
theorem ze95 : zeroOf Tryd.prog 95 = some [.int .i64 0, .int .i64 0, .slice none 0 0] := by kernel_rfl
theorem bl95 : builtOf Tryd.prog 95 = some ([.int .i64 0, .int .i64 0, .slice none 0 0], [(0, 3)]) := by kernel_rfl
theorem ap95 : appOf Tryd.prog 95 3 = true := by kernel_rfl
theorem ty97 : tyOf Tryd.prog 97 = some (1, true) := by kernel_rfl
theorem fd97_0 : fieldOf Tryd.prog 97 0 = some (0, 1, false) := by kernel_rfl
theorem ze97 : zeroOf Tryd.prog 97 = some [.int .i64 0] := by kernel_rfl
theorem bl97 : builtOf Tryd.prog 97 = some ([.int .i64 0], [(0, 1)]) := by kernel_rfl
theorem ap97 : appOf Tryd.prog 97 1 = true := by kernel_rfl
end Go.Proofs.YthnlpdjjnfkmeaaDoor

/- A list of the call's own is read by itself from an operation on. -/
namespace Go.Proofs.YthnlpdjjnfkmeaaDoor
open Go
def thawSt (t i : Nat) (ds : List (List D)) (σ : St) : St := (σ.put (T t) (.a (.d (.row ds)))).put (B i) (.b .none)
def Thawable (t i : Nat) (ds : List (List D)) (σ : St) : Prop := ∃ k e sz es, σ.t t = .own i k ∧ σ.b i = .own k e sz es ∧ asData es ds
def thawC (t i : Nat) (ds : List (List D)) (c : Cert) : Cert := ⟨T t :: B i :: c.rd, T t :: B i :: c.wr, fun σ => (Thawable t i ds σ ∧ (c.beh (thawSt t i ds σ)).1, fun us => ∃ us', us = .a (.d (.row ds)) :: .b .none :: us' ∧ (c.beh (thawSt t i ds σ)).2 us')⟩
theorem XB.nox {C : Ctx} (h : XB C []) : ∀ b, ¬ C.X b := fun b hb => by
  obtain ⟨j, x, hx, _⟩ := h b hb
  cases hx
section
variable {P : Program} {C : Ctx} {ops : Array Oper} {os : List Oper} {o : Oper} {c : Cert} {cs : List Cert} {σ : St} {K : St → Prop}
theorem ok_thaw (ho : OpOk P C ops o c) (t i : Nat) (ds : List (List D)) (hX : ∀ b, ¬ C.X b) : OpOk P C ops o (thawC t i ds c) := by
  obtain ⟨⟨ht, hl⟩, hdst, hs⟩ := ho
  refine ⟨⟨fun σ h => ?_, fun σ => ?_⟩, ?_, fun σ a w K Q hR hsafe hK => ?_⟩
  · obtain ⟨us, hus⟩ := ht _ h.2
    exact ⟨_, us, rfl, hus⟩
  · have e1 : (σ.mask (T t :: B i :: c.rd)).t t = σ.t t := by simp [St.mask]
    have e2 : (σ.mask (T t :: B i :: c.rd)).b i = σ.b i := bx_mask (by simp)
    have e3 : c.beh (thawSt t i ds (σ.mask (T t :: B i :: c.rd))) = c.beh (thawSt t i ds σ) := by
      rw [← hl (thawSt t i ds (σ.mask _)), ← hl (thawSt t i ds σ)]
      congr 1
      unfold thawSt St.mask St.put upd
      simp only
      congr 1
      · funext q
        by_cases hq : q = t
        · subst hq; simp
        · by_cases hqr : (true, q) ∈ c.rd
          · simp [hq, hqr]
          · simp [hqr]
      · funext q
        by_cases hq : q = i
        · subst hq; simp
        · by_cases hqr : (false, q) ∈ c.rd
          · simp [hq, hqr]
          · simp [hqr]
    unfold thawC Thawable
    simp only [e1, e2, e3]
  · unfold thawC
    cases hd : o.dst with
    | none => rfl
    | some d =>
      rw [hd] at hdst
      simp only [dstIn] at hdst ⊢
      simp at hdst ⊢
      exact .inr hdst
  · obtain ⟨⟨k, e, sz, es, h1, h2, h3⟩, hsf⟩ := hsafe
    have hR2 : Rel C (thawSt t i ds σ) a w := Rel.thaw ds h1 h2 h3 (fun b hb => absurd hb (hX b)) hR
    exact hs (thawSt t i ds σ) a w K Q hR2 hsf fun us a' w' hus hR' => hK _ a' w' ⟨us, rfl, hus⟩ hR'
/-- Ahead of an operation: the list that slot t holds is read by itself from now on. -/
theorem Wk.thaw (t i : Nat) (ds : List (List D)) (hX : XB C []) {k : Nat} {e : TypeId} {sz : Nat} {es : List (List A)} (ht : σ.t t = .own i k) (hb : σ.b i = .own k e sz es) (hd : asData es ds)
    (h : Wk P C ops (o :: os) (c :: cs) (thawSt t i ds σ) K) : Wk P C ops (o :: os) (thawC t i ds c :: cs) σ K := by
  obtain ⟨⟨ho, hos⟩, hsafe, hr⟩ := h
  refine ⟨⟨ok_thaw ho t i ds hX.nox, hos⟩, ⟨⟨k, e, sz, es, ht, hb, hd⟩, hsafe⟩, fun us hus => ?_⟩
  obtain ⟨us', rfl, hus'⟩ := hus
  exact hr us' hus'
end
end Go.Proofs.YthnlpdjjnfkmeaaDoor

/- The greater of two ints. -/
namespace Go.Proofs.YthnlpdjjnfkmeaaDoor
open Go Go.RowKit
section
variable {P : Program} {C : Ctx} {ops : Array Oper} {os : List Oper} {cs : List Cert} {σ : St} {K : St → Prop} {d : Nat} {ty : TypeId} {pos : String} {af : Array Edge}
def rMax (x y : Operand) (σ : St) : Option A := (sc (aev σ x)).bind fun u => (sc (aev σ y)).bind fun v => match u, v with | .int k a, .int _ b => some (.d (.v (.int k (if b > a then b else a)))) | _, _ => none
theorem ok_max (x y : Operand) {at_ : Array TypeId} : OpOk P C ops ⟨some d, .call { callee := .builtin .max, args := #[x, y], argTypes := at_ }, ty, pos, af, none⟩ ⟨kof x ++ kof y, [T d], beh1 (rMax x y) d⟩ :=
  OpOk.read rfl rfl (fun σ => by unfold rMax; rw [aev_mask (fun k h => List.mem_append_left _ h), aev_mask (fun k h => List.mem_append_right _ h)]) fun σ a w F E H r hR h => by
    simp only [rMax, Option.bind_eq_some_iff] at h
    obtain ⟨u, hu, v, hv, h⟩ := h
    have e1 := den_sc hu (hR.ev x)
    have e2 := den_sc hv (hR.ev y)
    split at h
    · obtain rfl := Option.some.inj h
      refine ⟨_, ?_, .d _ _ (.v _)⟩
      simp [execOp, resolve, invoke, builtin, e1, e2, Builtin.max_, Builtin.max2]
    · cases h
theorem Wk.max2 {x y : Operand} {at_ : Array TypeId} {k k' : IntKind} {u v r : Int} (hx : aev σ x = .d (.v (.int k u))) (hy : aev σ y = .d (.v (.int k' v))) (hr : (if v > u then v else u) = r) (hd : d < σ.n)
    (h : Wk P C ops os cs (σ.put (T d) (.a (.d (.v (.int k r))))) K) : Wk P C ops (⟨some d, .call { callee := .builtin .max, args := #[x, y], argTypes := at_ }, ty, pos, af, none⟩ :: os) (⟨kof x ++ kof y, [T d], beh1 (rMax x y) d⟩ :: cs) σ K :=
  Wk.read (ok_max x y) _ hd (by simp only [rMax, hx, hy, sc, Option.bind_some, hr]) h
end
end Go.Proofs.YthnlpdjjnfkmeaaDoor

/- A list of the call's own under another name; a nil list as one of the call's own; draws that leave lists of the call's own. -/
namespace Go.Proofs.YthnlpdjjnfkmeaaDoor
open Go
section
variable {P : Program} {C : Ctx} {c c' : Code} {Q : Exit → St → Prop} {σ : St}
/-- The names of a list's own that are not used yet, from k' on. -/
def freeFrom (σ : St) (i' k' : Nat) : Prop := (σ.b i' = .fresh ∧ k' = 0) ∨ ∃ k e sz es, σ.b i' = .own k e sz es ∧ k' = k + 1
theorem freeFrom.none {F : Nat → Prop} {E : Nat → Option Nat} {H : Nat → Nat → Option Value} {w : World} {i' k' : Nat} (h : freeFrom σ i' k') (hb : BoxOk w F E H i' (σ.b i')) : ∀ q, k' ≤ q → H i' q = none := by
  rcases h with ⟨h1, rfl⟩ | ⟨k, e, sz, es, h1, rfl⟩
  · rw [h1] at hb; exact fun q _ => hb.2 q
  · rw [h1] at hb
    obtain ⟨v, xs, _, hk, _⟩ := hb
    exact fun q hq => hk q (by omega)
/-- A list of the call's own, held by a variable, goes by another name from now on. -/
theorem Rel.renc {j c i k i' k' : Nat} {e : TypeId} {sz : Nat} {es : List (List A)} {aas : List A} (hj : σ.b j = .var aas) (hc : aas[c]? = some (.own i k)) (hb : σ.b i = .own k e sz es) (hf : freeFrom σ i' k') (hii : i ≠ i') {a : Act} {w : World} (hR : Rel C σ a w) :
    Rel C (((σ.put (B j) (.b (.var (aas.set c (.own i' k'))))).put (B i) (.b .none)).put (B i') (.b (.own k' e sz es))) a w := by
  obtain ⟨F, E, H, hR⟩ := hR.e
  have hji : j ≠ i := fun e => by subst e; rw [hj] at hb; cases hb
  have hji' : j ≠ i' := fun e => by
    subst e
    rcases hf with ⟨h1, _⟩ | ⟨_, _, _, _, h1, _⟩ <;> rw [hj] at h1 <;> cases h1
  have hnone := hf.none (hR.env.box i')
  have hbox := hR.env.box i
  rw [hb] at hbox
  obtain ⟨v, xs, hv, hk, ho, hz, hp⟩ := hbox
  have hblk : blk E H i (σ.b i) = v.ownBlock := by rw [hb]; simp only [blk, hv, Option.bind_some]
  have hbj := hR.env.box j
  rw [hj] at hbj
  obtain ⟨bj, ct, tt, hE, hh, hpj⟩ := hbj
  have hblkj : blk E H j (σ.b j) = some bj := by rw [hj]; exact hE
  let H' : Nat → Nat → Option Value := fun x y => if x = i' ∧ y = k' then some v else H x y
  have hHs : H' i' k' = some v := if_pos ⟨rfl, rfl⟩
  have hHo : ∀ x y, ¬ (x = i' ∧ y = k') → H' x y = H x y := fun x y h => if_neg h
  have hHm : ∀ x y u, H x y = some u → H' x y = some u := fun x y u h => by
    rw [hHo x y (fun ⟨h1, h2⟩ => by subst h1; subst h2; rw [hnone y (Nat.le_refl _)] at h; cases h)]
    exact h
  have h1v : v.oneCell' = true := by
    have hlt2 : c < aas.length := (List.getElem?_eq_some_iff.1 hc).1
    obtain ⟨u, hu, h⟩ := hpj.get hc
    have h2 := den_own h.2
    rw [hv] at h2
    obtain rfl := Option.some.inj h2
    exact h.1
  have env : Env C w F E H' (upd (upd (upd σ.b j (.var (aas.set c (.own i' k')))) i .none) i' (.own k' e sz es)) := by
    refine hR.env.step (fun q => q = i ∨ q = j ∨ q = i') rfl rfl rfl (Nat.le_refl _) (fun b _ _ => rfl) (fun b hb => hb) (fun b hb => .inl hb) (fun _ _ h => h) hHm (fun _ _ => rfl) ?_ ?_ ?_ ?_ ?_
    · intro x y hx
      exact hHo x y fun ⟨h1, _⟩ => hx (.inr (.inr h1))
    · intro q hq
      rw [upd_ne _ _ (fun e => hq (.inr (.inr e))), upd_ne _ _ (fun e => hq (.inl e)), upd_ne _ _ (fun e => hq (.inr (.inl e)))]
    · rintro q (rfl | rfl | rfl)
      · rw [upd_ne _ _ hii, upd_same]; trivial
      · rw [upd_ne _ _ hji', upd_ne _ _ hji, upd_same]
        refine ⟨bj, ct, tt, hE, hh, by simp [hpj.1], fun n x u hx hu => ?_⟩
        by_cases hn : n = c
        · subst hn
          have hlt2 : n < aas.length := (List.getElem?_eq_some_iff.1 hc).1
          rw [List.getElem?_set_self hlt2] at hx
          obtain rfl := Option.some.inj hx
          have h1 := hpj.2 n _ u hc hu
          have h2 := den_own h1.2
          rw [hv] at h2
          obtain rfl := Option.some.inj h2
          exact ⟨h1.1, .own _ _ _ hHs h1.1⟩
        · rw [List.getElem?_set_ne (Ne.symm hn)] at hx
          have h1 := hpj.2 n x u hx hu
          exact ⟨h1.1, h1.2.mono (fun _ h => h) (fun _ _ => rfl) (fun _ _ h => h) hHm⟩
      · rw [upd_same]
        exact ⟨v, xs, hHs, fun y hy => by rw [hHo _ _ (fun ⟨_, h⟩ => by omega)]; exact hnone y (by omega), ho, hz, hp.mono fun x u h => ⟨h.1, h.2.mono (fun _ h => h) (fun _ _ => rfl) (fun _ _ h => h) hHm⟩⟩
    · rintro q (rfl | rfl | rfl) b hb2
      · rw [upd_ne _ _ hii, upd_same] at hb2; cases hb2
      · rw [upd_ne _ _ hji', upd_ne _ _ hji, upd_same] at hb2
        have h3 : blk E H q (σ.b q) = some b := by rw [hj]; exact hb2
        exact ⟨(hR.env.live q b h3).1, .inr ⟨q, .inr (.inl rfl), h3⟩⟩
      · rw [upd_same] at hb2
        simp only [blk, hHs, Option.bind_some] at hb2
        have h3 : blk E H i (σ.b i) = some b := hblk.trans hb2
        exact ⟨(hR.env.live i b h3).1, .inr ⟨i, .inl rfl, h3⟩⟩
    · have key : ∀ b, v.ownBlock = some b → E j ≠ some b := fun b h1 h2 => hR.env.sep i j b (Ne.symm hji) (hblk.trans h1) (by rw [hj]; exact h2)
      rintro q r b (rfl | rfl | rfl) (rfl | rfl | rfl) hqr h1 h2
      all_goals first
        | exact hqr rfl
        | (rw [upd_ne _ _ hii, upd_same] at h1; cases h1)
        | (rw [upd_ne _ _ hii, upd_same] at h2; cases h2)
        | skip
      · rw [upd_ne _ _ hji', upd_ne _ _ hji, upd_same] at h1
        rw [upd_same] at h2
        simp only [blk, hHs, Option.bind_some] at h2
        exact key b h2 h1
      · rw [upd_ne _ _ hji', upd_ne _ _ hji, upd_same] at h2
        rw [upd_same] at h1
        simp only [blk, hHs, Option.bind_some] at h1
        exact key b h1 h2
  have hmove := hR.move env (fun b hb => hb) (fun _ _ => rfl) (fun _ _ h => h) hHm
  exact hmove.r
/-- A nil list that a variable holds as one of the call's own. -/
theorem Rel.nilc {j c i' : Nat} (e : TypeId) (sz : Nat) {aas : List A} (hj : σ.b j = .var aas) (hc : aas[c]? = some (.d (.v (.slice none 0 0)))) (hf : σ.b i' = .fresh) {a : Act} {w : World} (hR : Rel C σ a w) :
    Rel C ((σ.put (B j) (.b (.var (aas.set c (.own i' 0))))).put (B i') (.b (.own 0 e sz []))) a w := by
  obtain ⟨F, E, H, hR⟩ := hR.e
  have hji' : j ≠ i' := fun e => by subst e; rw [hj] at hf; cases hf
  have hbi := hR.env.box i'
  rw [hf] at hbi
  have hbj := hR.env.box j
  rw [hj] at hbj
  obtain ⟨bj, ct, tt, hE, hh, hpj⟩ := hbj
  let v : Value := .slice none 0 0
  let H' : Nat → Nat → Option Value := fun x y => if x = i' ∧ y = 0 then some v else H x y
  have hHs : H' i' 0 = some v := if_pos ⟨rfl, rfl⟩
  have hHo : ∀ x y, ¬ (x = i' ∧ y = 0) → H' x y = H x y := fun x y h => if_neg h
  have hHm : ∀ x y u, H x y = some u → H' x y = some u := fun x y u h => by
    rw [hHo x y (fun ⟨h1, h2⟩ => by subst h1; rw [hbi.2 y] at h; cases h)]
    exact h
  have env : Env C w F E H' (upd (upd σ.b j (.var (aas.set c (.own i' 0)))) i' (.own 0 e sz [])) := by
    refine hR.env.step (fun q => q = j ∨ q = i') rfl rfl rfl (Nat.le_refl _) (fun b _ _ => rfl) (fun b hb => hb) (fun b hb => .inl hb) (fun _ _ h => h) hHm (fun _ _ => rfl) ?_ ?_ ?_ ?_ ?_
    · intro x y hx
      exact hHo x y fun ⟨h1, _⟩ => hx (.inr h1)
    · intro q hq
      rw [upd_ne _ _ (fun e => hq (.inr e)), upd_ne _ _ (fun e => hq (.inl e))]
    · rintro q (rfl | rfl)
      · rw [upd_ne _ _ hji', upd_same]
        refine ⟨bj, ct, tt, hE, hh, by simp [hpj.1], fun n x u hx hu => ?_⟩
        by_cases hn : n = c
        · subst hn
          have hlt2 : n < aas.length := (List.getElem?_eq_some_iff.1 hc).1
          rw [List.getElem?_set_self hlt2] at hx
          obtain rfl := Option.some.inj hx
          have h1 := hpj.2 n _ u hc hu
          obtain rfl := den_v h1.2
          exact ⟨h1.1, .own _ _ _ hHs h1.1⟩
        · rw [List.getElem?_set_ne (Ne.symm hn)] at hx
          have h1 := hpj.2 n x u hx hu
          exact ⟨h1.1, h1.2.mono (fun _ h => h) (fun _ _ => rfl) (fun _ _ h => h) hHm⟩
      · rw [upd_same]
        exact ⟨v, [], hHs, fun y hy => by rw [hHo _ _ (fun ⟨_, h⟩ => by omega)]; exact hbi.2 y, World.ownsRow_nil w 0 e sz, by simp, Pw.nil⟩
    · rintro q (rfl | rfl) b hb2
      · rw [upd_ne _ _ hji', upd_same] at hb2
        have h3 : blk E H q (σ.b q) = some b := by rw [hj]; exact hb2
        exact ⟨(hR.env.live q b h3).1, .inr ⟨q, .inl rfl, h3⟩⟩
      · rw [upd_same] at hb2
        simp only [blk, hHs, Option.bind_some] at hb2
        cases hb2
    · rintro q r b (rfl | rfl) (rfl | rfl) hqr h1 h2
      · exact hqr rfl
      · rw [upd_same] at h2
        simp only [blk, hHs, Option.bind_some] at h2
        cases h2
      · rw [upd_same] at h1
        simp only [blk, hHs, Option.bind_some] at h1
        cases h1
      · exact hqr rfl
  have hmove := hR.move env (fun b hb => hb) (fun _ _ => rfl) (fun _ _ h => h) hHm
  exact hmove.r
theorem AW.renc {j n i k i' k' : Nat} {e : TypeId} {sz : Nat} {es : List (List A)} {aas : List A} (hj : σ.b j = .var aas) (hc : aas[n]? = some (.own i k)) (hb : σ.b i = .own k e sz es) (hf : freeFrom σ i' k') (hii : i ≠ i')
    (h : AW P C c Q (((σ.put (B j) (.b (.var (aas.set n (.own i' k'))))).put (B i) (.b .none)).put (B i') (.b (.own k' e sz es)))) : AW P C c Q σ := fun a w hR => h a w (Rel.renc hj hc hb hf hii hR)
theorem AW.nilc {j n i' : Nat} (e : TypeId) (sz : Nat) {aas : List A} (hj : σ.b j = .var aas) (hc : aas[n]? = some (.d (.v (.slice none 0 0)))) (hf : σ.b i' = .fresh)
    (h : AW P C c Q ((σ.put (B j) (.b (.var (aas.set n (.own i' 0))))).put (B i') (.b (.own 0 e sz [])))) : AW P C c Q σ := fun a w hR => h a w (Rel.nilc e sz hj hc hf hR)
end
/-- A draw that leaves boxes besides the reader. -/
def DrawX (P : Program) (f : FuncId) (pre : List A → Prop) (post : List A → A → List (Nat × Bx) → Prop) (n : Nat) (M : List Nat) : Prop :=
  (∀ zs p rest, pre rest → p + n ≤ 2000000000 → Spec P f (.ptr 0 0 :: rest) [(0, rdr zs p)] (fun r bs => ∃ zs' p' ex, bs = (0, rdr zs' p') :: ex ∧ p' ≤ p + n ∧ post rest r ex)) ∧
  (∀ rest, pre rest → ∃ r ex, post rest r ex) ∧ ∀ rest r ex, post rest r ex → r.within (0 :: M) = true ∧ ex.all (fun x => M.contains x.1 && x.2.within (0 :: M)) = true
def conDrawX (pre : List A → Prop) (post : List A → A → List (Nat × Bx) → Prop) (n : Nat) : Con :=
  ⟨fun aas bs => ∃ zs p rest, aas = .ptr 0 0 :: rest ∧ bs = [(0, rdr zs p)] ∧ pre rest ∧ p + n ≤ 2000000000,
   fun aas bs r bs' => ∃ zs' p' ex, bs' = (0, rdr zs' p') :: ex ∧ p' ≤ rdP bs + n ∧ post aas.tail r ex⟩
theorem conDrawX_ok {P : Program} {f : FuncId} {pre : List A → Prop} {post : List A → A → List (Nat × Bx) → Prop} {n : Nat} {M : List Nat} (h : DrawX P f pre post n M) : (conDrawX pre post n).ok P f ([0] ++ M) := by
  rintro aas bs ⟨zs, p, rest, rfl, rfl, hpre, hp⟩
  have e : rdP [(0, rdr zs p)] = p := by simp [rdP, rdr]
  refine ⟨?_, ?_⟩
  · have := h.1 zs p rest hpre hp
    simp only [conDrawX, List.tail_cons, e]
    exact this
  · rintro r bs' ⟨zs', p', ex, rfl, _, hpost⟩
    obtain ⟨h1, h2⟩ := h.2.2 _ _ _ hpost
    refine ⟨h1, inAll ?_⟩
    simp only [List.all_cons, Bool.and_eq_true]
    refine ⟨⟨by simp, by rfl⟩, List.all_eq_true.2 fun x hx => ?_⟩
    have := List.all_eq_true.1 h2 x hx
    simp only [Bool.and_eq_true] at this ⊢
    exact ⟨by have h3 := this.1; simp at h3 ⊢; exact .inr h3, this.2⟩
theorem Wk.drx {P : Program} {C : Ctx} {ops : Array Oper} {os : List Oper} {cs : List Cert} {σ : St} {K : St → Prop} {d : Nat} {ty : TypeId} {pos : String} {af : Array Edge} {f : FuncId} {fn : Func} {at_ : Array TypeId} {xs : List Operand} {pre : List A → Prop} {post : List A → A → List (Nat × Bx) → Prop} {n : Nat} (M : List Nat) (h : DrawX P f pre post n M) (hf : P.funcs[f]? = some fn) (hbody : fn.body.isSome = true) (hname : (fn.name == "runtime.NumGoroutine") = false)
    {rest : List A} {zs : List (Fin 256)} {p : Nat} (hargs : argsA σ xs = .ptr 0 0 :: rest) (hb : σ.b 0 = rdr zs p) (hpre : pre rest) (hp : p + n ≤ 2000000000) (hw : A.withins [0] rest = true) (hM : ∀ i ∈ M, σ.b i = .fresh) (hd : d < σ.n)
    (hk : ∀ r zs' p' ex, post rest r ex → p' ≤ p + n → Wk P C ops os cs (σ.puts (T d :: B 0 :: M.map B) (.a r :: .b (rdr zs' p') :: M.map fun i => .b ((((0, rdr zs' p') :: ex).lookup i).getD .none))) K) :
    Wk P C ops (⟨some d, .call { callee := .value (.func f), args := xs.toArray, argTypes := at_ }, ty, pos, af, none⟩ :: os) (⟨xs.flatMap kof ++ ([0] ++ M).map B, T d :: ([0] ++ M).map B, behCall (conDrawX pre post n) xs [0] M d⟩ :: cs) σ K := by
  have hbx : boxesA σ [0] = [(0, rdr zs p)] := by simp [boxesA, hb]
  have e : rdP [(0, rdr zs p)] = p := by simp [rdP, rdr]
  refine Wk.cons (ok_call [0] M hf hbody hname (conDrawX_ok h)) ?_ ?_
  · obtain ⟨r, ex, hr⟩ := h.2.1 rest hpre
    refine ⟨hd, hM, ?_, fun j hj => ?_, ⟨zs, p, rest, hargs, hbx, hpre, hp⟩, r, (0, rdr zs p) :: ex, zs, p, ex, rfl, by rw [hbx, e]; omega, ?_⟩
    · rw [hargs]
      simp [A.withins, A.within, hw]
    · obtain rfl : j = 0 := by simpa using hj
      rw [hb]; rfl
    · rw [hargs]; exact hr
  · rintro us ⟨r, bs', ⟨zs', p', ex, rfl, hp', hpost⟩, rfl⟩
    rw [hargs, List.tail_cons] at hpost
    rw [hbx, e] at hp'
    have := hk r zs' p' ex hpost hp'
    simpa [St.puts] using this
end Go.Proofs.YthnlpdjjnfkmeaaDoor

/- What a listed variable gives that holds an error of errors.New's make: the variable, its text, and the block in which that lies. -/
namespace Go.Proofs.YthnlpdjjnfkmeaaDoor
open Go
theorem laid_block {P : Program} {n nm : String} {text : List UInt8} {r : List (String × _root_.Go.DataW Unit)} {W : World} {g : Nat} {ti tp te ts : TypeId} {ms : Array (String × TypeId)} {f : Field}
    (h : laidMet P ((n, .iface nm (.ptr (.agg [.lit (.string text)]))) :: r) W)
    (hg : P.globalNamed n = some g) (ht : (P.globals[g]?).map (·.type) = some ti) (hi : P.underlying ti = some (.interface ms)) (hrow : ∀ u, P.typeName? 3 u = some nm → u = tp)
    (hp : P.underlying tp = some (.pointer te)) (he : P.underlying te = some (.struct #[f])) (hft : f.type = ts) (hfo : f.offset = 0) (hs : P.underlying ts = some .string) (hc : P.cellsOf te = 1) (hcs : P.cellsOf ts = 1) :
    ∃ (a : Addr) (s : ByteArray) (c : Array Value) (t : TypeId), W.var? P n = some #[.iface tp (.pointer (some a))] ∧ W.cell? a = some (.string s) ∧ s.data.toList = text ∧ W.heap[a.block]? = some (.cells c t (0, 0)) := by
  obtain ⟨ps, ⟨g', t', cs, fu, p, q, hg', ht', hv, hd, _, e0⟩, _, hrows⟩ := h
  obtain rfl := Option.some.inj (hg.symm.trans hg')
  obtain rfl := Option.some.inj (ht.symm.trans ht')
  subst e0
  obtain ⟨l⟩ := cs
  have ok : ∀ u v, l = [.iface u v] → Value.okWide P W .any 0 u v := fun u v e => by
    subst e
    exact (hrows g 0 (by simp [MemPlace.row])).2 u v (by simpa using World.var?_cell hg' hv 0)
  obtain ⟨a, s, rfl, hc0, hs0, _, rfl⟩ := errorString_of_trod hi hrow hp he hft hfo hs hc hcs hd ok
  obtain ⟨c, t, hb⟩ := (hrows a.block a.off (by simp [MemPlace.row])).1
  exact ⟨a, s, c, t, hv, hc0, hs0, hb⟩
end Go.Proofs.YthnlpdjjnfkmeaaDoor
