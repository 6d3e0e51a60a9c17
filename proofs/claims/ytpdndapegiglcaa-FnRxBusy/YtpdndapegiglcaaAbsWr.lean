/- Operations that make variables and lists, and turn them. -/
import Derived.Test.YtpdndapegiglcaaAbsMem
namespace Go.Proofs.Ytpdndapegiglcaa
open Go

def upd2 (H : Nat → Nat → Option Value) (i k : Nat) (v : Value) : Nat → Nat → Option Value := fun j q => if j = i ∧ q = k then some v else H j q
theorem upd_same {α : Type} (f : Nat → α) (k : Nat) (x : α) : upd f k x k = x := by simp [upd]
theorem upd_ne {α : Type} (f : Nat → α) {k j : Nat} (x : α) (h : j ≠ k) : upd f k x j = f j := by simp [upd, h]
theorem upd2_same (H : Nat → Nat → Option Value) (i k : Nat) (v : Value) : upd2 H i k v i k = some v := by simp [upd2]
theorem upd2_ne (H : Nat → Nat → Option Value) {i k j q : Nat} (v : Value) (h : ¬ (j = i ∧ q = k)) : upd2 H i k v j q = H j q := by simp [upd2, h]

section
variable {C : Ctx} {σ : St} {a : Act} {w w' : World} {F : Nat → Prop} {E : Nat → Option Nat} {H : Nat → Nat → Option Value}

theorem old_alloc (w : World) (o : Obj) (b : Nat) (hb : b < w.heap.size) : (w.alloc o).heap[b]? = w.heap[b]? := by
  show (w.heap.push o)[b]? = w.heap[b]?
  rw [Array.getElem?_push, if_neg (Nat.ne_of_lt hb)]
theorem new_alloc (w : World) (o : Obj) : (w.alloc o).heap[w.heap.size]? = some o := by
  show (w.heap.push o)[w.heap.size]? = some o
  simp
/-- A new variable. -/
theorem RelE.newvar (h : RelE C σ a w F E H) {i : Nat} (hb : σ.b i = .fresh) {as : List A} {vs : Array Value} (t : TypeId) (hp : Pw (CellOk w F E H) as vs.toList) :
    RelE C (σ.put (B i) (.b (.var as))) a (w.alloc (.cells vs t)) F (upd E i (some w.heap.size)) H := by
  have hfr := h.env.box i
  rw [hb] at hfr
  have hE : ∀ j b, E j = some b → upd E i (some w.heap.size) j = some b := fun j b hj => by
    by_cases e : j = i
    · subst e; rw [hfr.1] at hj; cases hj
    · rw [upd_ne _ _ e]; exact hj
  have hold : ∀ b, b < w.heap.size → (w.alloc (.cells vs t)).heap[b]? = w.heap[b]? := fun b hb => old_alloc w _ b hb
  refine h.move (b' := upd σ.b i (.var as)) (h.env.step (· = i) rfl rfl rfl (by simp) (fun b hb _ => hold b hb) (fun _ h => h) (fun _ h => .inl h) hE (fun _ _ _ h => h) (fun j hj => upd_ne _ _ hj) (fun _ _ _ => rfl) (fun j hj => upd_ne _ _ hj) ?_ ?_ ?_) (fun _ h => h) (fun b hb => hold b (h.env.Flt b hb)) hE (fun _ _ _ h => h)
  · rintro j rfl
    rw [upd_same]
    exact ⟨w.heap.size, vs, t, upd_same _ _ _, new_alloc w _, hp.mono fun a v hc => ⟨hc.1, hc.2.mono (fun _ h => h) (fun b hb => hold b (h.env.Flt b hb)) hE (fun _ _ _ h => h)⟩⟩
  · rintro j rfl b hbk
    rw [upd_same] at hbk
    simp only [blk, upd_same, Option.some.injEq] at hbk
    subst hbk
    exact ⟨fun hf => absurd (h.env.Flt _ hf) (by omega), .inl (Nat.le_refl _)⟩
  · rintro j k b rfl rfl hjk
    exact absurd rfl hjk

/-- A variable's cells turned. -/
theorem RelE.setvar (h : RelE C σ a w F E H) {i b : Nat} {cs as : List A} {ct vs : Array Value} {t : TypeId} (hb : σ.b i = .var cs) (hE : E i = some b) (hh : w.heap[b]? = some (.cells ct t (0, 0))) (hp : Pw (CellOk w F E H) as vs.toList) :
    RelE C (σ.put (B i) (.b (.var as))) a (w.setRow b vs) F E H := by
  have hbk : blk E H i (σ.b i) = some b := by rw [hb]; exact hE
  have hold : ∀ q, q ≠ b → (w.setRow b vs).heap[q]? = w.heap[q]? := fun q hq => setRow_other w b q vs hq
  have hF : ∀ q, F q → (w.setRow b vs).heap[q]? = w.heap[q]? := fun q hq => hold q (fun e => h.env.frozen hq i (e ▸ hbk))
  refine h.move (b' := upd σ.b i (.var as)) (h.env.step (· = i) rfl rfl rfl (by simp [World.setRow]) (fun q hq hn => hold q (fun e => hn i rfl (e ▸ hbk))) (fun _ h => h) (fun _ h => .inl h) (fun _ _ h => h) (fun _ _ _ h => h) (fun _ _ => rfl) (fun _ _ _ => rfl) (fun j hj => upd_ne _ _ hj) ?_ ?_ ?_) (fun _ h => h) hF (fun _ _ h => h) (fun _ _ _ h => h)
  · rintro j rfl
    rw [upd_same]
    exact ⟨b, vs, t, hE, setRow_heap w b ct vs t (0, 0) hh, hp.mono fun a v hc => ⟨hc.1, hc.2.mono (fun _ h => h) hF (fun _ _ h => h) (fun _ _ _ h => h)⟩⟩
  · rintro j rfl q hq
    rw [upd_same] at hq
    obtain rfl : b = q := Option.some.inj (hE.symm.trans hq)
    exact ⟨(h.env.live j b hbk).1, .inr ⟨j, rfl, hbk⟩⟩
  · rintro j k q rfl rfl hjk
    exact absurd rfl hjk

/-- A list of the call's own, made or turned. -/
theorem RelE.setown (h : RelE C σ a w F E H) {i k sz : Nat} {e : TypeId} {es : List (List A)} {v : Value} {xs : List Value} (hE : ∀ b, blk E H i (σ.b i) = some b → b < w.heap.size)
    (hk : ∀ q, k ≤ q → H i q = none) (hg : w.grownBy w' (blk E H i (σ.b i))) (ho : w'.ownsRow 0 e sz v es.length xs) (hz : ∀ c ∈ es, c.length = sz) (hp : Pw (CellOk w F E H) es.flatten xs)
    (hv : v.ownBlock = none ∨ v.ownBlock = blk E H i (σ.b i) ∨ v.ownBlock = some w.heap.size) :
    RelE C (σ.put (B i) (.b (.own k e sz es))) a w' F E (upd2 H i k v) := by
  have hH : ∀ j q u, H j q = some u → upd2 H i k v j q = some u := fun j q u hj => by
    by_cases e : j = i ∧ q = k
    · obtain ⟨rfl, rfl⟩ := e; rw [hk _ (Nat.le_refl _)] at hj; cases hj
    · rw [upd2_ne _ _ e]; exact hj
  have hF : ∀ q, F q → w'.heap[q]? = w.heap[q]? := fun q hq => hg.block q (h.env.Flt q hq) (fun e => h.env.frozen hq i e.symm)
  refine h.move (b' := upd σ.b i (.own k e sz es)) (h.env.step (· = i) hg.os hg.tape hg.output hg.size (fun q hq hn => hg.block q hq (fun e => hn i rfl e.symm)) (fun _ h => h) (fun _ h => .inl h) (fun _ _ h => h) hH (fun _ _ => rfl) (fun j q hj => upd2_ne _ _ (fun e => hj e.1)) (fun j hj => upd_ne _ _ hj) ?_ ?_ ?_) (fun _ h => h) hF (fun _ _ h => h) hH
  · rintro j rfl
    rw [upd_same]
    exact ⟨v, xs, upd2_same _ _ _ _, fun q hq => by rw [upd2_ne _ _ (by omega)]; exact hk q (by omega), ho, hz, hp.mono fun a v hc => ⟨hc.1, hc.2.mono (fun _ h => h) hF (fun _ _ h => h) hH⟩⟩
  · rintro j rfl q hq
    rw [upd_same] at hq
    simp only [blk, upd2_same, Option.bind_some] at hq
    rcases hv with hv | hv | hv
    · rw [hv] at hq; cases hq
    · rw [hv] at hq; exact ⟨(h.env.live j q hq).1, .inr ⟨j, rfl, hq⟩⟩
    · rw [hv] at hq
      obtain rfl := Option.some.inj hq
      exact ⟨fun hf => absurd (h.env.Flt _ hf) (by omega), .inl (Nat.le_refl _)⟩
  · rintro j q b rfl rfl hjk
    exact absurd rfl hjk
end

/-- The cells of a value. -/
def cellsA : A → Option (List A)
  | .agg as => some as
  | .tup _ => none
  | .any => none
  | .d (.v x) => if x.oneCell' then some [.d (.v x)] else none
  | x => some [x]
/-- A type's zero, cell by cell. -/
def zeroOf (P : Program) (t : TypeId) : Option (List Value) := ((P.info? t).bind (·.zero)).map (·.cells.toList)

section
variable {P : Program} {C : Ctx} {ops : Array Oper} {os : List Oper} {cs : List Cert} {σ : St} {K : St → Prop} {d : Nat} {ty : TypeId} {pos : String} {af : Array Edge}
variable {a : Act} {w w' : World} {F : Nat → Prop} {E : Nat → Option Nat} {H : Nat → Nat → Option Value}

theorem den_cellsA {x : A} {as : List A} {v : Value} (h : cellsA x = some as) (hd : Den w F E H x v) : Pw (CellOk w F E H) as v.cells.toList := by
  cases hd with
  | any x => cases h
  | d x v hx =>
    cases hx with
    | v x =>
      simp only [cellsA] at h
      split at h
      · rename_i h1
        obtain rfl := Option.some.inj h
        have : v.cells = #[v] := by cases v <;> first | rfl | (simp [Value.oneCell'] at h1)
        rw [this]
        exact Pw.one ⟨h1, .d _ _ (.v v)⟩
      · cases h
    | emp a c h0 => obtain rfl := Option.some.inj h; exact Pw.one ⟨rfl, .d _ _ (.emp a c h0)⟩
    | row sz b o cap n es vs hF hn hcap hmax hsz hc h1 hd => obtain rfl := Option.some.inj h; exact Pw.one ⟨rfl, .d _ _ (.row sz b o cap n es vs hF hn hcap hmax hsz hc h1 hd)⟩
  | ptr i o b hb => obtain rfl := Option.some.inj h; exact Pw.one ⟨rfl, .ptr i o b hb⟩
  | own i k v hb h1 =>
    obtain rfl := Option.some.inj h
    have : v.cells = #[v] := by cases v <;> first | rfl | (simp [Value.oneCell'] at h1)
    rw [this]
    exact Pw.one ⟨h1, .own i k v hb h1⟩
  | optr i k o b n c hb => obtain rfl := Option.some.inj h; exact Pw.one ⟨rfl, .optr i k o b n c hb⟩
  | rptr sz b o cap n es i j hr hi hz => obtain rfl := Option.some.inj h; exact Pw.one ⟨rfl, .rptr sz b o cap n es i j hr hi hz⟩
  | agg bs cs hs h1 hc =>
    obtain rfl := Option.some.inj h
    obtain ⟨cs', e, hp⟩ := den_cells (.agg bs cs hs h1 hc)
    injection e with e
    subst e
    exact hp
  | tup as cs hs hc => cases h
  | fn f as bs cs ds hs ht hc hc' => obtain rfl := Option.some.inj h; exact Pw.one ⟨rfl, .fn f as bs cs ds hs ht hc hc'⟩
  | ifc t a v hv => obtain rfl := Option.some.inj h; exact Pw.one ⟨rfl, .ifc t a v hv⟩

/-- A behaviour that turns boxes and slots, told by a function of the state. -/
def behs (f : St → Option (List V)) (d : Nat) : St → Prop × (List V → Prop) := fun σ => (d < σ.n ∧ (f σ).isSome = true, fun us => f σ = some us)
theorem OpOk.turn {o : Oper} {f : St → Option (List V)} {rd wr : List Key} {d : Nat} (hg : o.guard = none) (hdst : dstIn o.dst wr = true) (hl : ∀ σ, f (σ.mask rd) = f σ)
    (hs : ∀ (σ : St) (a : Act) (w : World) (F : Nat → Prop) (E : Nat → Option Nat) (H : Nat → Nat → Option Value) (K : Act → World → Prop) (Q : Exit → Act → World → Prop) (us : List V), RelE C σ a w F E H → d < σ.n → f σ = some us →
      (∀ a' w', Rel C (σ.puts wr us) a' w' → K a' w') → o.wp P a w K Q) : OpOk P C ops o ⟨rd, wr, behs f d⟩ := by
  refine OpOk.of hg hdst (fun σ h => ?_) (fun σ => ?_) (fun σ a w F E H K Q hR hsafe hK => ?_)
  · exact Option.isSome_iff_exists.1 h.2
  · unfold behs
    rw [hl]
    rfl
  · obtain ⟨us, hu⟩ := Option.isSome_iff_exists.1 hsafe.2
    exact hs σ a w F E H K Q us hR hsafe.1 hu (fun a' w' h => hK us a' w' hu h)
theorem Wk.turn {o : Oper} {f : St → Option (List V)} {rd wr : List Key} {d : Nat} (ho : OpOk P C ops o ⟨rd, wr, behs f d⟩) (us : List V) (hd : d < σ.n) (hr : f σ = some us) (h : Wk P C ops os cs (σ.puts wr us) K) :
    Wk P C ops (o :: os) (⟨rd, wr, behs f d⟩ :: cs) σ K :=
  Wk.det ho ⟨hd, by rw [hr]; rfl⟩ us (fun us' h' => Option.some.inj (h'.symm.trans hr)) h

theorem run_zero {t : TypeId} {zs : List Value} (h : zeroOf P t = some zs) (w : World) : ∃ z : Value, (zeroValue t).run P w = .ok z w ∧ z.cells.toList = zs := by
  unfold zeroOf at h
  simp only [Option.map_eq_some_iff, Option.bind_eq_some_iff] at h
  obtain ⟨z, ⟨i, hi, hz⟩, e⟩ := h
  exact ⟨z, by simp [zeroValue, typeInfo, hi, hz], e⟩
theorem pw_zero {zs : List Value} (h1 : zs.all (·.oneCell') = true) : Pw (CellOk w F E H) (zs.map fun x => .d (.v x)) zs := by
  refine ⟨by simp, fun j a v ha hv => ?_⟩
  simp only [List.getElem?_map, hv, Option.map_some, Option.some.injEq] at ha
  subst ha
  exact ⟨List.all_eq_true.1 h1 v (List.mem_of_getElem? hv), .d _ _ (.v v)⟩

/-- A new variable with its type's zero in it. -/
def rAlloc (i : Nat) (zs : List Value) (σ : St) : Option (List V) := match σ.b i with | .fresh => some [.a (.ptr i 0), .b (.var (zs.map fun x => .d (.v x)))] | _ => none
theorem ok_alloc {t : TypeId} (i : Nat) {zs : List Value} (hz : zeroOf P t = some zs) (h1 : zs.all (·.oneCell') = true) :
    OpOk P C ops ⟨some d, .alloc t, ty, pos, af, none⟩ ⟨[B i], [T d, B i], behs (rAlloc i zs) d⟩ :=
  OpOk.turn rfl (by simp [dstIn]) (fun σ => by unfold rAlloc; rw [bx_mask (by simp)]) fun σ a w F E H K Q us hR hd h hK => by
    unfold rAlloc at h
    split at h
    · rename_i hb
      obtain rfl := Option.some.inj h
      obtain ⟨z, hz1, hz2⟩ := run_zero hz w
      have hn := hR.newvar hb t (vs := z.cells) (by rw [hz2]; exact pw_zero h1)
      unfold Oper.wp
      have hrun : (execOp a.eval ⟨some d, .alloc t, ty, pos, af, none⟩).run P w = .ok (.value (.pointer (some ⟨w.heap.size, 0, none⟩))) (w.alloc (.cells z.cells t)) := by
        simp [execOp, Instr.alloc, hz1, newVar, newRow, go_sem]
      rw [hrun, Oper.upon_value]
      refine hK _ _ ?_
      exact (RelE.put (d := d) (r := .ptr i 0) hn hd (.ptr i 0 _ (upd_same _ _ _))).r
    · cases h
theorem Wk.alc {t : TypeId} (i : Nat) (zs : List Value) (hz : zeroOf P t = some zs) (h1 : zs.all (·.oneCell') = true) (hb : σ.b i = .fresh) (hd : d < σ.n)
    (h : Wk P C ops os cs ((σ.put (T d) (.a (.ptr i 0))).put (B i) (.b (.var (zs.map fun x => .d (.v x))))) K) : Wk P C ops (⟨some d, .alloc t, ty, pos, af, none⟩ :: os) (⟨[B i], [T d, B i], behs (rAlloc i zs) d⟩ :: cs) σ K :=
  Wk.turn (ok_alloc i hz h1) [.a (.ptr i 0), .b (.var (zs.map fun x => .d (.v x)))] hd (by simp only [rAlloc, hb]) h

/-- A new variable with a value in it. -/
def rBox (i : Nat) (x : Operand) (σ : St) : Option (List V) := match σ.b i with | .fresh => (cellsA (aev σ x)).map fun as => [.a (.ptr i 0), .b (.var as)] | _ => none
theorem ok_box {t : TypeId} {x : Operand} (i : Nat) :
    OpOk P C ops ⟨some d, .box t x, ty, pos, af, none⟩ ⟨kof x ++ [B i], [T d, B i], behs (rBox i x) d⟩ :=
  OpOk.turn rfl (by simp [dstIn]) (fun σ => by unfold rBox; rw [bx_mask (by simp), aev_mask (fun k h => List.mem_append_left _ h)]) fun σ a w F E H K Q us hR hd h hK => by
    unfold rBox at h
    split at h
    · rename_i hb
      simp only [Option.map_eq_some_iff] at h
      obtain ⟨as, ha, rfl⟩ := h
      have hn := hR.newvar hb t (den_cellsA ha (hR.ev x))
      unfold Oper.wp
      have hrun : (execOp a.eval ⟨some d, .box t x, ty, pos, af, none⟩).run P w = .ok (.value (.pointer (some ⟨w.heap.size, 0, none⟩))) (w.alloc (.cells (a.eval x).cells t)) := by
        simp [execOp, Instr.box, newVar, newRow, go_sem]
      rw [hrun, Oper.upon_value]
      refine hK _ _ ?_
      exact (RelE.put (d := d) (r := .ptr i 0) hn hd (.ptr i 0 _ (upd_same _ _ _))).r
    · cases h
theorem Wk.bx {t : TypeId} {x : Operand} (i : Nat) {as : List A} (hb : σ.b i = .fresh) (hx : cellsA (aev σ x) = some as) (hd : d < σ.n)
    (h : Wk P C ops os cs ((σ.put (T d) (.a (.ptr i 0))).put (B i) (.b (.var as))) K) : Wk P C ops (⟨some d, .box t x, ty, pos, af, none⟩ :: os) (⟨kof x ++ [B i], [T d, B i], behs (rBox i x) d⟩ :: cs) σ K :=
  Wk.turn (ok_box i) [.a (.ptr i 0), .b (.var as)] hd (by simp only [rBox, hb, hx, Option.map_some]) h

/-- Cells put into others from a place on. -/
def setA (cs : List A) (o : Nat) (as : List A) : List A := cs.take o ++ as ++ cs.drop (o + as.length)
/-- A store into a variable. -/
def rStore (x y : Operand) (i n : Nat) (σ : St) : Option (List V) :=
  match aev σ x, σ.b i with
  | .ptr i' o, .var cs => if i' = i then (cellsA (aev σ y)).bind fun as => if as.length = n ∧ o + n ≤ cs.length then some [.b (.var (setA cs o as))] else none else none
  | _, _ => none
theorem run_store_cells {t : TypeId} {n b o : Nat} {row : Bool} (ht : tyOf P t = some (n, row)) {ct : Array Value} {tt : TypeId} (hh : w.heap[b]? = some (.cells ct tt (0, 0))) {v : Value} (hn : v.cells.size = n) (ho : o + n ≤ ct.size)
    (h1 : ∀ u ∈ v.cells.toList, u.oneCell' = true) : (storeVar t ⟨b, o, none⟩ v).run P w = .ok () (w.setRow b (ct.toList.take o ++ v.cells.toList ++ ct.toList.drop (o + v.cells.toList.length)).toArray) := by
  have := run_storeCells_at (P := P) b o tt v.cells.toList 0 ct w hh (by simp; omega) h1
  simp only [Nat.add_zero] at this
  simp [storeVar, run_size ht, hn, this]
theorem ok_store {t : TypeId} {x y : Operand} (i : Nat) {n : Nat} {row : Bool} (ht : tyOf P t = some (n, row)) :
    OpOk P C ops ⟨none, .store t x y, ty, pos, af, none⟩ ⟨kof x ++ (kof y ++ [B i]), [B i], behs (rStore x y i n) 0⟩ :=
  OpOk.turn rfl (by simp [dstIn]) (fun σ => by unfold rStore; rw [bx_mask (by simp), aev_mask (fun k h => List.mem_append_left _ h), aev_mask (fun k h => List.mem_append_right _ (List.mem_append_left _ h))]) fun σ a w F E H K Q us hR hd h hK => by
    unfold rStore at h
    split at h
    · rename_i i' o cs he hb
      split at h
      · rename_i hi
        subst hi
        simp only [Option.bind_eq_some_iff] at h
        obtain ⟨as, ha, h⟩ := h
        split at h
        · rename_i hc
          obtain ⟨hl, hoc⟩ := hc
          obtain rfl := Option.some.inj h
          have hdx := hR.ev x
          rw [he] at hdx
          obtain ⟨b, hE, hv⟩ := den_ptr hdx
          have hbox := hR.env.box i'
          rw [hb] at hbox
          obtain ⟨b', ct, tt, hE', hh, hp⟩ := hbox
          obtain rfl := Option.some.inj (hE'.symm.trans hE)
          have hpy := den_cellsA ha (hR.ev y)
          have hn : (a.eval y).cells.size = n := by have := hpy.1; simp only [Array.length_toList] at this; omega
          have hrun := run_store_cells (w := w) (o := o) ht hh (v := a.eval y) hn (by have := hp.1; simp only [Array.length_toList] at this; omega) (hpy.all fun _ _ h => h.1)
          have hset := hR.setvar (as := setA cs o as) (vs := (ct.toList.take o ++ (a.eval y).cells.toList ++ ct.toList.drop (o + (a.eval y).cells.toList.length)).toArray) hb hE' hh (by
            simp only [setA]
            rw [← hpy.1]
            exact ((hp.take o).append hpy).append (hp.drop _))
          unfold Oper.wp
          have hex : (execOp a.eval ⟨none, .store t x y, ty, pos, af, none⟩).run P w = .ok .skip (w.setRow b' (ct.toList.take o ++ (a.eval y).cells.toList ++ ct.toList.drop (o + (a.eval y).cells.toList.length)).toArray) := by
            simp only [execOp, hv, Instr.storeAt, Instr.sureAddr, Sem.run_bind, Sem.run_pure, Result.andThen_ok, hrun]
          rw [hex, Oper.upon_skip]
          exact hK _ _ hset.r
        · cases h
      · cases h
    · cases h
theorem Wk.sto {t : TypeId} {x y : Operand} {i o : Nat} (n : Nat) (row : Bool) (ht : tyOf P t = some (n, row)) {bs as : List A} (hx : aev σ x = .ptr i o) (hb : σ.b i = .var bs) (hy : cellsA (aev σ y) = some as) (hl : as.length = n) (ho : o + n ≤ bs.length) (hd : 0 < σ.n)
    (h : Wk P C ops os cs (σ.put (B i) (.b (.var (setA bs o as)))) K) : Wk P C ops (⟨none, .store t x y, ty, pos, af, none⟩ :: os) (⟨kof x ++ (kof y ++ [B i]), [B i], behs (rStore x y i n) 0⟩ :: cs) σ K :=
  Wk.turn (ok_store i ht) [.b (.var (setA bs o as))] hd (by simp only [rStore, hx, hb, if_true, hy, Option.bind_some]; rw [if_pos ⟨hl, ho⟩]) h
end
end Go.Proofs.Ytpdndapegiglcaa
