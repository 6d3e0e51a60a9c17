/- Elements of a call's own lists; a call's own list is read by itself from then on. -/
import Derived.Test.YtpdndapegiglcaaAbsApp
namespace Go.Proofs.Ytpdndapegiglcaa
open Go

section
variable {P : Program} {C : Ctx} {ops : Array Oper} {os : List Oper} {cs : List Cert} {σ : St} {K : St → Prop} {d : Nat} {ty : TypeId} {pos : String} {af : Array Edge}

/-- An element's address in the call's own list. -/
def rIAddrO (x y : Operand) (i sz : Nat) (σ : St) : Option A :=
  match aev σ x, aev σ y, σ.b i with
  | .own i' k', .d (.v (.int _ q)), .own k _ sz' es => if i' = i ∧ k' = k ∧ sz' = sz ∧ 0 ≤ q ∧ q < es.length then some (.optr i k (q.toNat * sz)) else none
  | _, _, _ => none
theorem ok_iaddro {xt e : TypeId} {x y : Operand} (i : Nat) {sz : Nat} {row : Bool} (hu : P.underlying xt = some (.slice e)) (ht : tyOf P e = some (sz, row)) :
    OpOk P C ops ⟨some d, .indexAddr xt x y, ty, pos, af, none⟩ ⟨kof x ++ (kof y ++ [B i]), [T d], beh1 (rIAddrO x y i sz) d⟩ :=
  OpOk.read rfl rfl (fun σ => by unfold rIAddrO; rw [aev_mask (fun k h => List.mem_append_left _ h), aev_mask (fun k h => List.mem_append_right _ (List.mem_append_left _ h)), bx_mask (by simp)]) fun σ a w F E H r hR h => by
    unfold rIAddrO at h
    split at h
    · rename_i i' k' kd q k e' sz' es he hq hb
      split at h
      · rename_i hc
        obtain ⟨rfl, rfl, rfl, h0, hlt⟩ := hc
        obtain rfl := Option.some.inj h
        have hbox := hR.env.box i'
        rw [hb] at hbox
        obtain ⟨v, xs, hv, _, ho, hzz, hp⟩ := hbox
        have hd := hR.ev x
        rw [he] at hd
        have hx : a.eval x = v := by
          have := den_own hd
          rw [hv] at this
          exact (Option.some.inj this).symm
        have hd2 := hR.ev y
        rw [hq] at hd2
        have e2 := den_v hd2
        rcases ho.2 with ⟨_, h2⟩ | ⟨g, cap, cur, h1, _⟩
        · omega
        · subst h1
          refine ⟨.pointer (some ⟨g, q.toNat * sz', none⟩), ?_, .optr i' k' _ g _ _ hv⟩
          have hin : 0 ≤ q ∧ q < (es.length : Int) := ⟨h0, hlt⟩
          simp [execOp, hx, e2, Instr.indexAt, asIntOf, run_underlying hu, run_size ht, hin, add_at']
      · cases h
    · cases h
theorem Wk.iado {xt e : TypeId} {x y : Operand} {e' : TypeId} (i sz : Nat) (row : Bool) {kd : IntKind} {k q : Nat} {es : List (List A)} (hu : P.underlying xt = some (.slice e)) (ht : tyOf P e = some (sz, row)) (hx : aev σ x = .own i k) (hy : aev σ y = .d (.v (.int kd (q : Int))))
    (hb : σ.b i = .own k e' sz es) (hq : q < es.length) (hd : d < σ.n) (h : Wk P C ops os cs (σ.put (T d) (.a (.optr i k (q * sz)))) K) :
    Wk P C ops (⟨some d, .indexAddr xt x y, ty, pos, af, none⟩ :: os) (⟨kof x ++ (kof y ++ [B i]), [T d], beh1 (rIAddrO x y i sz) d⟩ :: cs) σ K :=
  Wk.read (ok_iaddro i hu ht) _ hd (by simp only [rIAddrO, hx, hy, hb]; rw [if_pos ⟨trivial, trivial, trivial, by omega, by omega⟩]; simp) h

/-- A load out of the call's own list. -/
def rLoadO (x : Operand) (i n : Nat) (row : Bool) (σ : St) : Option A :=
  match aev σ x, σ.b i with
  | .optr i' k' o, .own k _ _ es => if i' = i ∧ k' = k then partA es.flatten o n row else none
  | _, _ => none
theorem ok_loado {t : TypeId} {x : Operand} (i : Nat) {n : Nat} {row : Bool} (ht : tyOf P t = some (n, row)) :
    OpOk P C ops ⟨some d, .load t x, ty, pos, af, none⟩ ⟨kof x ++ [B i], [T d], beh1 (rLoadO x i n row) d⟩ :=
  OpOk.read rfl rfl (fun σ => by unfold rLoadO; rw [aev_mask (fun k h => List.mem_append_left _ h), bx_mask (by simp)]) fun σ a w F E H r hR h => by
    unfold rLoadO at h
    split at h
    · rename_i i' k' o k e sz es he hb
      split at h
      · rename_i hc
        obtain ⟨rfl, rfl⟩ := hc
        have hbox := hR.env.box i'
        rw [hb] at hbox
        obtain ⟨v, xs, hv, _, ho, hzz, hp⟩ := hbox
        have hd := hR.ev x
        rw [he] at hd
        obtain ⟨b, m, c, hH, hx⟩ := den_optr hd
        rw [hv] at hH
        obtain rfl := Option.some.inj hH
        obtain ⟨u, h1, h2⟩ := run_load_cells (b := b) (o := 0) ht hp (fun j q hj => by
          have := ho.cells (g := b) rfl j q hj
          rw [add_at'] at this
          exact this) h
        rw [Nat.zero_add] at h1
        exact ⟨u, by simp [execOp, hx, Instr.loadAt, Instr.sureAddr, h1], h2⟩
      · cases h
    · cases h
theorem Wk.ldo {t : TypeId} {x : Operand} {i k o : Nat} {e : TypeId} {sz : Nat} {es : List (List A)} (n : Nat) (row : Bool) (ht : tyOf P t = some (n, row)) {r : A} (hx : aev σ x = .optr i k o) (hb : σ.b i = .own k e sz es) (hr : partA es.flatten o n row = some r) (hd : d < σ.n)
    (h : Wk P C ops os cs (σ.put (T d) (.a r)) K) : Wk P C ops (⟨some d, .load t x, ty, pos, af, none⟩ :: os) (⟨kof x ++ [B i], [T d], beh1 (rLoadO x i n row) d⟩ :: cs) σ K :=
  Wk.read (ok_loado i ht) r hd (by simp only [rLoadO, hx, hb]; rw [if_pos ⟨trivial, trivial⟩]; exact hr) h

/-- How many elements the call's own list has. -/
def rLenO (x : Operand) (i : Nat) (σ : St) : Option A := match aev σ x, σ.b i with | .own i' k', .own k _ _ es => if i' = i ∧ k' = k then some (.d (.v (.int .i64 (es.length : Int)))) else none | _, _ => none
theorem ok_leno {t e : TypeId} {x : Operand} (i : Nat) (hu : P.underlying t = some (.slice e)) :
    OpOk P C ops ⟨some d, .call { callee := .builtin .len, args := #[x], argTypes := #[t] }, ty, pos, af, none⟩ ⟨kof x ++ [B i], [T d], beh1 (rLenO x i) d⟩ :=
  OpOk.read rfl rfl (fun σ => by unfold rLenO; rw [aev_mask (fun k h => List.mem_append_left _ h), bx_mask (by simp)]) fun σ a w F E H r hR h => by
    unfold rLenO at h
    split at h
    · rename_i i' k' k e' sz es he hb
      split at h
      · rename_i hc
        obtain ⟨rfl, rfl⟩ := hc
        obtain rfl := Option.some.inj h
        have hbox := hR.env.box i'
        rw [hb] at hbox
        obtain ⟨v, xs, hv, _, ho, hzz, hp⟩ := hbox
        have hd := hR.ev x
        rw [he] at hd
        have hx : a.eval x = v := by
          have := den_own hd
          rw [hv] at this
          exact (Option.some.inj this).symm
        refine ⟨.int .i64 (es.length : Int), ?_, .d _ _ (.v _)⟩
        rcases ho.2 with ⟨h1, h2⟩ | ⟨g, cap, cur, h1, _⟩
        · simp [execOp, resolve, invoke, builtin, hx, h1, Builtin.len_, run_underlying hu, goInt, h2]
        · simp [execOp, resolve, invoke, builtin, hx, h1, Builtin.len_, run_underlying hu, goInt]
      · cases h
    · cases h
theorem Wk.leno {t e : TypeId} {x : Operand} {i k : Nat} {e' : TypeId} {sz : Nat} {es : List (List A)} (hu : P.underlying t = some (.slice e)) (hx : aev σ x = .own i k) (hb : σ.b i = .own k e' sz es) (hd : d < σ.n) (h : Wk P C ops os cs (σ.put (T d) (.a (.d (.v (.int .i64 (es.length : Int)))))) K) :
    Wk P C ops (⟨some d, .call { callee := .builtin .len, args := #[x], argTypes := #[t] }, ty, pos, af, none⟩ :: os) (⟨kof x ++ [B i], [T d], beh1 (rLenO x i) d⟩ :: cs) σ K :=
  Wk.read (ok_leno i hu) _ hd (by simp only [rLenO, hx, hb]; rw [if_pos ⟨trivial, trivial⟩]) h
end

/-! A list of the call's own that nobody turns any more. -/
section
variable {P : Program} {C : Ctx} {c c' : Code} {Q : Exit → St → Prop} {σ : St}
/-- The elements of a list read as data. -/
def asData (es : List (List A)) (ds : List (List D)) : Prop := es.map nrms = ds.map (·.map A.d)
theorem nrm_cell {w : World} {F : Nat → Prop} {E : Nat → Option Nat} {H : Nat → Nat → Option Value} : ∀ {as : List A} {vs : List Value}, Pw (CellOk w F E H) as vs → Pw (CellOk w F E H) (nrms as) vs := by
  intro as vs h
  refine ⟨by rw [nrms_length]; exact h.1, fun j a v ha hv => ?_⟩
  obtain ⟨b, hb, rfl⟩ := nrms_get ha
  have := h.2 j b v hb hv
  exact ⟨this.1, this.2.nrm⟩
theorem nrms_append : ∀ (as bs : List A), nrms (as ++ bs) = nrms as ++ nrms bs
  | [], bs => rfl
  | a :: as, bs => by simp [nrms, nrms_append as bs]
theorem nrms_flatten : ∀ (es : List (List A)), nrms es.flatten = (es.map nrms).flatten
  | [] => rfl
  | e :: es => by rw [List.flatten_cons, nrms_append, nrms_flatten es]; rfl
theorem own_rowA {w : World} {F : Nat → Prop} {E : Nat → Option Nat} {H : Nat → Nat → Option Value} {e : TypeId} {sz : Nat} {es : List (List A)} {ds : List (List D)} {v : Value} {xs : List Value} (ho : w.ownsRow 0 e sz v es.length xs) (hz : ∀ c ∈ es, c.length = sz) (hp : Pw (CellOk w F E H) es.flatten xs) (hd : asData es ds) :
    FDen w (fun b => F b ∨ v.ownBlock = some b) (.row ds) v := by
  have hlen : es.length = ds.length := by have := congrArg List.length hd; simpa using this
  have hz' : ∀ l ∈ ds, l.length = sz := fun l hl => by
    have : l.map A.d ∈ es.map nrms := by rw [hd]; exact List.mem_map.2 ⟨l, hl, rfl⟩
    obtain ⟨c, hc, hcl⟩ := List.mem_map.1 this
    have h1 := congrArg List.length hcl
    rw [nrms_length, List.length_map, hz c hc] at h1
    exact h1.symm
  have hpn : Pw (CellOk w F E H) (ds.map (·.map A.d)).flatten xs := by
    have := nrm_cell hp
    rwa [nrms_flatten, hd] at this
  rcases ho.2 with ⟨h1, h2⟩ | ⟨g, cap, cur, h1, _, hg, hnc, hm, hcs, htake⟩
  · have : ds = [] := List.length_eq_zero_iff.1 (by omega)
    rw [this, h1]
    exact .nil
  · have hcell : ∀ j u, xs[j]? = some u → w.cell? ⟨g, j, none⟩ = some u := fun j u hj => by
      have := ho.cells (g := g) (by rw [h1]; rfl) j u hj
      rwa [add_at', Nat.zero_add] at this
    have key : ∀ i j l x, ds[i]? = some l → l[j]? = some x → ∃ u, xs[i * sz + j]? = some u ∧ CellOk w F E H (.d x) u := by
      intro i j l x hl hx
      have hi := (List.getElem?_eq_some_iff.1 hl).1
      have hjl := (List.getElem?_eq_some_iff.1 hx).1
      have hll := hz' l (List.mem_of_getElem? hl)
      have hm2 : ∀ m ∈ ds.map (·.map A.d), m.length = sz := fun m hm => by
        obtain ⟨q, hq, rfl⟩ := List.mem_map.1 hm
        simp [hz' q hq]
      have hfl := flatten_len hm2
      rw [List.length_map] at hfl
      have hlt : i * sz + j < (ds.map (·.map A.d)).flatten.length := by
        rw [hfl]
        have : (i + 1) * sz ≤ ds.length * sz := Nat.mul_le_mul_right _ hi
        rw [Nat.add_mul] at this
        omega
      obtain ⟨m, h1, h2⟩ := flatten_at hm2 (i * sz + j) _ (List.getElem?_eq_getElem hlt)
      have hsp : 0 < sz := by omega
      have e1 : (i * sz + j) / sz = i := by rw [Nat.add_comm, Nat.add_mul_div_right _ _ hsp, Nat.div_eq_of_lt (by omega)]; omega
      have e2 : (i * sz + j) % sz = j := by rw [Nat.add_comm, Nat.add_mul_mod_self_right, Nat.mod_eq_of_lt (by omega)]
      rw [e1] at h1
      rw [e2] at h2
      simp only [List.getElem?_map, hl, Option.map_some, Option.some.injEq] at h1
      subst h1
      simp only [List.getElem?_map, hx, Option.map_some, Option.some.injEq] at h2
      obtain ⟨u, hu, hc⟩ := hpn.get (List.getElem?_eq_getElem hlt)
      exact ⟨u, hu, h2 ▸ hc⟩
    rw [h1]
    refine .row sz g 0 cap es.length ds (fun i j => xs.getD (i * sz + j) undef) (.inr (by rfl)) hlen.symm hnc hm hz' (fun i j l x hl hx => ?_) (fun i j l x hl hx => ?_) (fun i j l x hl hx => ?_)
    · obtain ⟨u, hu, _⟩ := key i j l x hl hx
      rw [Nat.zero_add, hcell _ u hu]
      simp [List.getD_eq_getElem?_getD, hu]
    · obtain ⟨u, hu, hc⟩ := key i j l x hl hx
      simpa [List.getD_eq_getElem?_getD, hu] using hc.1
    · obtain ⟨u, hu, hc⟩ := key i j l x hl hx
      have := (den_d hc.2).mono (F' := fun b => F b ∨ (Value.slice (some ⟨g, 0, none⟩) es.length cap).ownBlock = some b) (w' := w) (fun b hb => .inl hb) (fun _ _ => rfl)
      simpa [List.getD_eq_getElem?_getD, hu] using this

/-- The list that slot t holds is read by itself from now on. -/
theorem Rel.thaw {t i k : Nat} {e : TypeId} {sz : Nat} {es : List (List A)} (ds : List (List D)) (ht : σ.t t = .own i k) (hb : σ.b i = .own k e sz es) (hd : asData es ds) (hX : ∀ b, C.X b → ∃ j cs, j ≠ i ∧ C.E0 j = some b ∧ σ.b j = .var cs) {a : Act} {w : World} (hR : Rel C σ a w) : Rel C ((σ.put (T t) (.a (.d (.row ds)))).put (B i) (.b .none)) a w := by
  obtain ⟨F, E, H, hR⟩ := hR.e
  have hbox := hR.env.box i
  rw [hb] at hbox
  obtain ⟨v, xs, hv, hk, ho, hz, hp⟩ := hbox
  have hrow := own_rowA ho hz hp hd
  have hblk : blk E H i (σ.b i) = v.ownBlock := by rw [hb]; simp only [blk, hv, Option.bind_some]
  have hslot := hR.den t
  rw [ht] at hslot
  have hval : a.tmps.getD t undef = v := by
    have := den_own hslot
    rw [hv] at this
    exact (Option.some.inj this).symm
  have hlt : ∀ b, v.ownBlock = some b → b < w.heap.size := fun b hb2 => (World.ownsRow.lt ho b hb2).2
  have env : Env C w (fun b => F b ∨ v.ownBlock = some b) E H (upd σ.b i .none) := hR.env.step (· = i) rfl rfl rfl (Nat.le_refl _) (fun b _ _ => rfl) (fun b hb => .inl hb)
    (fun b hb2 => by
      rcases hb2 with h1 | h1
      · exact .inl h1
      · refine .inr ⟨hlt b h1, .inr ⟨?_, i, rfl, hblk.trans h1⟩⟩
        rcases (hR.env.live i b (hblk.trans h1)).2 with hx | hx
        · obtain ⟨j, cs, hj, hE, hbj⟩ := hX b hx
          exact absurd (by rw [hbj]; exact hR.env.E0 j b hE) (hR.env.sep i j b (Ne.symm hj) (hblk.trans h1))
        · exact hx)
    (fun _ _ h => h) (fun _ _ _ h => h) (fun _ _ => rfl) (fun _ _ _ => rfl) (fun j hj => upd_ne _ _ hj)
    (fun j hj => by subst hj; rw [upd_same]; trivial) (fun j hj b hb2 => by subst hj; rw [upd_same] at hb2; cases hb2) (fun j q b hj hq hjq => by subst hj; subst hq; exact absurd rfl hjq)
  have hmove := hR.move env (fun b hb => .inl hb) (fun _ _ => rfl) (fun _ _ h => h) (fun _ _ _ h => h)
  refine (RelE.r (F := fun b => F b ∨ v.ownBlock = some b) (E := E) (H := H) ⟨hmove.dfr, hmove.n, hmove.env, fun q => ?_⟩)
  show Den w _ E H (upd σ.t t (.d (.row ds)) q) _
  by_cases hq : q = t
  · subst hq
    rw [upd_same, hval]
    exact .d _ _ hrow
  · rw [upd_ne _ _ hq]
    exact hmove.den q
theorem AW.thaw {t i k : Nat} {e : TypeId} {sz : Nat} {es : List (List A)} (ds : List (List D)) (ht : σ.t t = .own i k) (hb : σ.b i = .own k e sz es) (hd : asData es ds) (hX : ∀ b, C.X b → ∃ j cs, j ≠ i ∧ C.E0 j = some b ∧ σ.b j = .var cs) (h : AW P C c Q ((σ.put (T t) (.a (.d (.row ds)))).put (B i) (.b .none))) : AW P C c Q σ := fun a w hR => h a w (Rel.thaw ds ht hb hd hX hR)
/-- The same of a list that a variable holds. -/
theorem Rel.thawc {j c i k : Nat} {e : TypeId} {sz : Nat} {es : List (List A)} {as : List A} (ds : List (List D)) (hj : σ.b j = .var as) (hc : as[c]? = some (.own i k)) (hb : σ.b i = .own k e sz es) (hd : asData es ds) (hX : ∀ b, C.X b → ∃ j cs, j ≠ i ∧ C.E0 j = some b ∧ σ.b j = .var cs) {a : Act} {w : World} (hR : Rel C σ a w) : Rel C ((σ.put (B j) (.b (.var (as.set c (.d (.row ds)))))).put (B i) (.b .none)) a w := by
  obtain ⟨F, E, H, hR⟩ := hR.e
  have hji : j ≠ i := fun e => by subst e; rw [hj] at hb; cases hb
  have hbox := hR.env.box i
  rw [hb] at hbox
  obtain ⟨v, xs, hv, hk, ho, hz, hp⟩ := hbox
  have hrow := own_rowA ho hz hp hd
  have hblk : blk E H i (σ.b i) = v.ownBlock := by rw [hb]; simp only [blk, hv, Option.bind_some]
  have hbj := hR.env.box j
  rw [hj] at hbj
  obtain ⟨bj, ct, tt, hE, hh, hpj⟩ := hbj
  have hlt : ∀ b, v.ownBlock = some b → b < w.heap.size := fun b hb2 => (World.ownsRow.lt ho b hb2).2
  have hFm : ∀ b, F b → (F b ∨ v.ownBlock = some b) := fun b hb => .inl hb
  have env : Env C w (fun b => F b ∨ v.ownBlock = some b) E H (upd (upd σ.b j (.var (as.set c (.d (.row ds))))) i .none) := by
    refine hR.env.step (fun q => q = i ∨ q = j) rfl rfl rfl (Nat.le_refl _) (fun b _ _ => rfl) hFm ?_ (fun _ _ h => h) (fun _ _ _ h => h) (fun _ _ => rfl) (fun _ _ _ => rfl) ?_ ?_ ?_ ?_
    · intro b hb2
      rcases hb2 with h1 | h1
      · exact .inl h1
      · refine .inr ⟨hlt b h1, .inr ⟨?_, i, .inl rfl, hblk.trans h1⟩⟩
        rcases (hR.env.live i b (hblk.trans h1)).2 with hx | hx
        · obtain ⟨q, cs, hq, hEq, hbq⟩ := hX b hx
          exact absurd (by rw [hbq]; exact hR.env.E0 q b hEq) (hR.env.sep i q b (Ne.symm hq) (hblk.trans h1))
        · exact hx
    · intro q hq
      rw [upd_ne _ _ (fun e => hq (.inl e)), upd_ne _ _ (fun e => hq (.inr e))]
    · rintro q (rfl | rfl)
      · rw [upd_same]; trivial
      · rw [upd_ne _ _ hji, upd_same]
        refine ⟨bj, ct, tt, hE, hh, by simp [hpj.1], fun n x u hx hu => ?_⟩
        by_cases hn : n = c
        · subst hn
          have hlt2 : n < as.length := (List.getElem?_eq_some_iff.1 hc).1
          rw [List.getElem?_set_self hlt2] at hx
          obtain rfl := Option.some.inj hx
          have h1 := hpj.2 n _ u hc hu
          have h2 := den_own h1.2
          rw [hv] at h2
          obtain rfl := Option.some.inj h2
          exact ⟨h1.1, .d _ _ hrow⟩
        · rw [List.getElem?_set_ne (Ne.symm hn)] at hx
          have h1 := hpj.2 n x u hx hu
          exact ⟨h1.1, h1.2.mono hFm (fun _ _ => rfl) (fun _ _ h => h) (fun _ _ _ h => h)⟩
    · rintro q (rfl | rfl) b hb2
      · rw [upd_same] at hb2; cases hb2
      · rw [upd_ne _ _ hji, upd_same] at hb2
        have h3 : blk E H q (σ.b q) = some b := by rw [hj]; exact hb2
        refine ⟨fun hf => ?_, .inr ⟨q, .inr rfl, h3⟩⟩
        rcases hf with hf | hf
        · exact (hR.env.live q b h3).1 hf
        · exact hR.env.sep q i b hji h3 (hblk.trans hf)
    · rintro q r b (rfl | rfl) (rfl | rfl) hqr h1 h2
      · exact hqr rfl
      · rw [upd_same] at h1; cases h1
      · rw [upd_same] at h2; cases h2
      · exact hqr rfl
  have hmove := hR.move env hFm (fun _ _ => rfl) (fun _ _ h => h) (fun _ _ _ h => h)
  exact hmove.r
theorem AW.thawc {j c i k : Nat} {e : TypeId} {sz : Nat} {es : List (List A)} {as : List A} (ds : List (List D)) (hj : σ.b j = .var as) (hc : as[c]? = some (.own i k)) (hb : σ.b i = .own k e sz es) (hd : asData es ds) (hX : ∀ b, C.X b → ∃ j cs, j ≠ i ∧ C.E0 j = some b ∧ σ.b j = .var cs) (h : AW P C c' Q ((σ.put (B j) (.b (.var (as.set c (.d (.row ds)))))).put (B i) (.b .none))) : AW P C c' Q σ := fun a w hR => h a w (Rel.thawc ds hj hc hb hd hX hR)
/-- Nil lists that a variable holds read as empty ones. -/
theorem Rel.nrmb {j : Nat} {as : List A} (hj : σ.b j = .var as) {a : Act} {w : World} (hR : Rel C σ a w) : Rel C (σ.put (B j) (.b (.var (nrms as)))) a w := by
  obtain ⟨F, E, H, hR⟩ := hR.e
  have hbj := hR.env.box j
  rw [hj] at hbj
  obtain ⟨bj, ct, tt, hE, hh, hp⟩ := hbj
  have env : Env C w F E H (upd σ.b j (.var (nrms as))) := hR.env.step (· = j) rfl rfl rfl (Nat.le_refl _) (fun b _ _ => rfl) (fun b hb => hb)
    (fun b hb => .inl hb) (fun _ _ h => h) (fun _ _ _ h => h) (fun _ _ => rfl) (fun _ _ _ => rfl) (fun q hq => upd_ne _ _ hq)
    (fun q hq => by subst hq; rw [upd_same]; exact ⟨bj, ct, tt, hE, hh, nrm_cell hp⟩)
    (fun q hq b hb => by
      subst hq
      rw [upd_same] at hb
      have h3 : blk E H q (σ.b q) = some b := by rw [hj]; exact hb
      exact ⟨(hR.env.live q b h3).1, .inr ⟨q, rfl, h3⟩⟩)
    (fun q r b hq hr hqr => by subst hq; subst hr; exact absurd rfl hqr)
  have hmove := hR.move env (fun b hb => hb) (fun _ _ => rfl) (fun _ _ h => h) (fun _ _ _ h => h)
  exact RelE.r hmove
theorem AW.nrmb {j : Nat} {as : List A} (hj : σ.b j = .var as) (h : AW P C c Q (σ.put (B j) (.b (.var (nrms as))))) : AW P C c Q σ := fun a w hR => h a w (Rel.nrmb hj hR)
/-- A part that leaves one of some states, and what comes behind it from each of them. -/
theorem AW.via {α : Type} (inv : α → St) (ok : α → Prop) (h1 : AW P C c (Exit.thenA (fun σ' => ∃ k, ok k ∧ ∀ a w, Rel C σ' a w → Rel C (inv k) a w) Q) σ) (h2 : ∀ k, ok k → AW P C c' Q (inv k)) : AW P C (.seq c c') Q σ :=
  AW.seq (h1.mono fun e σ' h => by
    cases e with
    | normal =>
      obtain ⟨k, hk, hr⟩ := h
      exact fun a w hR => h2 k hk a w (hr a w hR)
    | _ => exact h)
end
end Go.Proofs.Ytpdndapegiglcaa
