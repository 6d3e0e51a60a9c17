/- Operations on structs, variables and lists: reads. -/
import Derived.Test.YtpdndapegiglcaaAbsOps
namespace Go.Proofs.Ytpdndapegiglcaa
open Go

/-- Size of a type in cells, and whether a value of it is a row of cells. -/
def tyOf (P : Program) (t : TypeId) : Option (Nat × Bool) :=
  match P.underlying t, P.info? t with
  | some du, some i => some (i.size, du.isRow)
  | _, _ => none
def fieldOf (P : Program) (t : TypeId) (k : Nat) : Option (Nat × Nat × Bool) :=
  match P.underlying t with
  | some (.struct fs) => match fs[k]? with
    | some f => (tyOf P f.type).map fun (n, r) => (f.offset, n, r)
    | none => none
  | _ => none
/-- A part of cells: a row of them, or one. -/
def partA (as : List A) (off n : Nat) (row : Bool) : Option A := if row then (if off + n ≤ as.length then some (.agg ((as.drop off).take n)) else none) else as[off]?

section
variable {P : Program} {C : Ctx} {ops : Array Oper} {os : List Oper} {cs : List Cert} {σ : St} {K : St → Prop} {d : Nat} {ty : TypeId} {pos : String} {af : Array Edge}
variable {a : Act} {w w' : World} {F : Nat → Prop} {E : Nat → Option Nat} {H : Nat → Nat → Option Value}

theorem tyOf_parts {t : TypeId} {n : Nat} {r : Bool} (h : tyOf P t = some (n, r)) : ∃ du i, P.underlying t = some du ∧ P.info? t = some i ∧ i.size = n ∧ du.isRow = r := by
  unfold tyOf at h
  split at h
  · rename_i du i h1 h2
    simp only [Option.some.injEq, Prod.mk.injEq] at h
    exact ⟨du, i, h1, h2, h.1, h.2⟩
  · cases h
theorem run_agg {t : TypeId} {n : Nat} {r : Bool} (h : tyOf P t = some (n, r)) (w : World) : (isAgg t).run P w = .ok r w := by
  obtain ⟨du, i, h1, h2, h3, h4⟩ := tyOf_parts h
  unfold isAgg
  rw [Sem.run_bind, run_underlying h1 w, ← h4]
  cases du <;> rfl
theorem run_size {t : TypeId} {n : Nat} {r : Bool} (h : tyOf P t = some (n, r)) (w : World) : (sizeOf t).run P w = .ok n w := by
  obtain ⟨du, i, h1, h2, h3, h4⟩ := tyOf_parts h
  simp [sizeOf, typeInfo, h2, h3]

/-- A part of cells, as the program takes it. -/
theorem run_part {t : TypeId} {n off : Nat} {row : Bool} (ht : tyOf P t = some (n, row)) {as : List A} {vs : Array Value} (hp : Pw (CellOk w F E H) as vs.toList) {r : A} (hr : partA as off n row = some r) :
    ∃ v, (part t vs off).run P w = .ok v w ∧ Den w F E H r v := by
  unfold partA at hr
  cases row with
  | true =>
    simp only [if_true] at hr
    split at hr
    · rename_i hl
      obtain rfl := Option.some.inj hr
      refine ⟨_, ?_, agg_den ((hp.drop off).take n)⟩
      have : vs.extract off (off + n) = (List.take n (List.drop off vs.toList)).toArray := by
        apply Array.ext'
        simp [List.extract_eq_take_drop]
      simp [part, run_agg ht, run_size ht, this]
    · cases hr
  | false =>
    simp only [Bool.false_eq_true, if_false] at hr
    obtain ⟨v, hv, h1⟩ := hp.get hr
    rw [Array.getElem?_toList] at hv
    exact ⟨v, by simp [part, run_agg ht, hv], h1.2⟩

def rField (x : Operand) (off n : Nat) (row : Bool) (σ : St) : Option A := match aev σ x with | .agg as => partA as off n row | _ => none
theorem ok_field {xt : TypeId} {x : Operand} {k off n : Nat} {row : Bool} (hf : fieldOf P xt k = some (off, n, row)) :
    OpOk P C ops ⟨some d, .field xt x k, ty, pos, af, none⟩ ⟨kof x, [T d], beh1 (rField x off n row) d⟩ :=
  OpOk.read rfl rfl (fun σ => by unfold rField; rw [aev_mask (fun k h => h)]) fun σ a w F E H r hR h => by
    unfold rField at h
    split at h
    · rename_i as he
      have hd := hR.ev x
      rw [he] at hd
      obtain ⟨vs, hv, hp⟩ := den_cells hd
      unfold fieldOf at hf
      split at hf
      · rename_i fs hu
        split at hf
        · rename_i f hk
          simp only [Option.map_eq_some_iff, Prod.mk.injEq] at hf
          obtain ⟨⟨n', r'⟩, ht, rfl, rfl, rfl⟩ := hf
          obtain ⟨v, h1, h2⟩ := run_part ht hp h
          refine ⟨v, ?_, h2⟩
          simp [execOp, hv, Instr.field, run_underlying hu, hk, h1, asAgg]
        · cases hf
      · cases hf
    · cases h
theorem Wk.fld {xt : TypeId} {x : Operand} {k : Nat} (off n : Nat) (row : Bool) (hf : fieldOf P xt k = some (off, n, row)) {as : List A} {r : A} (hx : aev σ x = .agg as) (hr : partA as off n row = some r) (hd : d < σ.n)
    (h : Wk P C ops os cs (σ.put (T d) (.a r)) K) : Wk P C ops (⟨some d, .field xt x k, ty, pos, af, none⟩ :: os) (⟨kof x, [T d], beh1 (rField x off n row) d⟩ :: cs) σ K :=
  Wk.read (ok_field hf) r hd (by simp only [rField, hx, hr]) h

/-! Loads. -/
theorem run_load_cells {t : TypeId} {n b o : Nat} {row : Bool} (ht : tyOf P t = some (n, row)) {as : List A} {vs : List Value} (hp : Pw (CellOk w F E H) as vs) (hc : ∀ j v, vs[j]? = some v → w.cell? ⟨b, o + j, none⟩ = some v)
    {off : Nat} {r : A} (hr : partA as off n row = some r) : ∃ v, (loadVar t ⟨b, o + off, none⟩).run P w = .ok v w ∧ Den w F E H r v := by
  unfold partA at hr
  cases row with
  | true =>
    simp only [if_true] at hr
    split at hr
    · rename_i hl
      obtain rfl := Option.some.inj hr
      refine ⟨_, ?_, agg_den ((hp.drop off).take n)⟩
      obtain ⟨du, i, h1, h2, h3, h4⟩ := tyOf_parts ht
      refine run_loadVar_mid w b (o + off) t _ du (fun j v hv => ?_) h1 h4 ?_
      · rw [List.getElem?_take] at hv
        split at hv
        · rw [List.getElem?_drop] at hv
          rw [Nat.add_assoc]
          exact hc _ v hv
        · cases hv
      · have := hp.1
        simp [h2, h3]
        omega
    · cases hr
  | false =>
    simp only [Bool.false_eq_true, if_false] at hr
    obtain ⟨v, hv, h1⟩ := hp.get hr
    exact ⟨v, by simp [loadVar, run_agg ht, hc off v hv, go_sem], h1.2⟩

/-- A load out of a variable. -/
def rLoad (x : Operand) (i n : Nat) (row : Bool) (σ : St) : Option A := match aev σ x, σ.b i with | .ptr i' o, .var cs => if i' = i then partA cs o n row else none | _, _ => none
theorem ok_load {t : TypeId} {x : Operand} (i : Nat) {n : Nat} {row : Bool} (ht : tyOf P t = some (n, row)) :
    OpOk P C ops ⟨some d, .load t x, ty, pos, af, none⟩ ⟨kof x ++ [B i], [T d], beh1 (rLoad x i n row) d⟩ :=
  OpOk.read rfl rfl (fun σ => by unfold rLoad; rw [aev_mask (fun k h => List.mem_append_left _ h), bx_mask (by simp)]) fun σ a w F E H r hR h => by
    unfold rLoad at h
    split at h
    · rename_i i' o cs he hb
      split at h
      · rename_i hi
        subst hi
        have hd := hR.ev x
        rw [he] at hd
        obtain ⟨b, hE, hv⟩ := den_ptr hd
        have hbox := hR.env.box i'
        rw [hb] at hbox
        obtain ⟨b', ct, tt, hE', hh, hp⟩ := hbox
        obtain rfl := Option.some.inj (hE'.symm.trans hE)
        obtain ⟨v, h1, h2⟩ := run_load_cells (b := b') (o := 0) ht hp (fun j v hj => by
          rw [Nat.zero_add]
          simp only [World.cell?, hh]
          rw [← Array.getElem?_toList, hj]
          rfl) h
        rw [Nat.zero_add] at h1
        exact ⟨v, by simp [execOp, hv, Instr.loadAt, Instr.sureAddr, h1], h2⟩
      · cases h
    · cases h
theorem Wk.ld {t : TypeId} {x : Operand} {i o : Nat} (n : Nat) (row : Bool) (ht : tyOf P t = some (n, row)) {as : List A} {r : A} (hx : aev σ x = .ptr i o) (hb : σ.b i = .var as) (hr : partA as o n row = some r) (hd : d < σ.n)
    (h : Wk P C ops os cs (σ.put (T d) (.a r)) K) : Wk P C ops (⟨some d, .load t x, ty, pos, af, none⟩ :: os) (⟨kof x ++ [B i], [T d], beh1 (rLoad x i n row) d⟩ :: cs) σ K :=
  Wk.read (ok_load i ht) r hd (by simp only [rLoad, hx, hb, if_true, hr]) h

/-- A load out of a list that nobody turns. -/
def rLoadR (x : Operand) (n : Nat) (row : Bool) (σ : St) : Option A := match aev σ x with | .rptr _ es i j => (es[i]?).bind fun e => partA (e.map .d) j n row | _ => none
theorem ok_loadr {t : TypeId} {x : Operand} {n : Nat} {row : Bool} (ht : tyOf P t = some (n, row)) :
    OpOk P C ops ⟨some d, .load t x, ty, pos, af, none⟩ ⟨kof x, [T d], beh1 (rLoadR x n row) d⟩ :=
  OpOk.read rfl rfl (fun σ => by unfold rLoadR; rw [aev_mask (fun k h => h)]) fun σ a w F E H r hR h => by
    unfold rLoadR at h
    split at h
    · rename_i sz es i j he
      have hd := hR.ev x
      rw [he] at hd
      obtain ⟨b, o, cap, m, hv, hrow, him, hz⟩ := den_rptr hd
      rw [Option.bind_eq_some_iff] at h
      obtain ⟨e, hei, h⟩ := h
      cases hrow with
      | emp => simp at hei
      | row sz' _ _ _ _ _ vs hF hn hcap hmax hsz hc h1 hdd =>
        have hmem : e ∈ es := List.mem_of_getElem? hei
        have e1 : sz' = sz := (hsz e hmem).symm.trans (hz e hmem)
        subst e1
        have hp : Pw (CellOk w F E H) (e.map .d) ((List.range e.length).map (vs i)) := by
          refine ⟨by simp, fun q x v hx hv => ?_⟩
          simp only [List.getElem?_map, Option.map_eq_some_iff] at hx hv
          obtain ⟨dd, hdq, rfl⟩ := hx
          obtain ⟨q', hq', rfl⟩ := hv
          have hql := (List.getElem?_eq_some_iff.1 hdq).1
          rw [List.getElem?_range hql] at hq'
          obtain rfl := Option.some.inj hq'
          exact ⟨h1 i q e dd hei hdq, .d _ _ (hdd i q e dd hei hdq)⟩
        obtain ⟨v, h2, h3⟩ := run_load_cells (b := b) (o := o + i * sz') ht hp (fun q v hq => by
          simp only [List.getElem?_map, Option.map_eq_some_iff] at hq
          obtain ⟨q', hq', rfl⟩ := hq
          have hql : q < e.length := by
            have := (List.getElem?_eq_some_iff.1 hq').1
            simpa using this
          rw [List.getElem?_range hql] at hq'
          obtain rfl := Option.some.inj hq'
          rw [Nat.add_assoc]
          exact hc i q e _ hei (List.getElem?_eq_getElem hql)) h
        rw [Nat.add_assoc] at h2
        exact ⟨v, by simp [execOp, hv, Instr.loadAt, Instr.sureAddr, h2], h3⟩
    · cases h
theorem Wk.ldr {t : TypeId} {x : Operand} {sz i j : Nat} {es : List (List D)} {e : List D} (n : Nat) (row : Bool) (ht : tyOf P t = some (n, row)) {r : A} (hx : aev σ x = .rptr sz es i j) (he : es[i]? = some e) (hr : partA (e.map .d) j n row = some r) (hd : d < σ.n)
    (h : Wk P C ops os cs (σ.put (T d) (.a r)) K) : Wk P C ops (⟨some d, .load t x, ty, pos, af, none⟩ :: os) (⟨kof x, [T d], beh1 (rLoadR x n row) d⟩ :: cs) σ K :=
  Wk.read (ok_loadr ht) r hd (by simp only [rLoadR, hx, he, Option.bind_some, hr]) h

/-- What a slice reads as, if nobody turns it. -/
def asRow : A → Option (List (List D))
  | .d (.row es) => some es
  | .d (.v (.slice none 0 0)) => some []
  | _ => none
theorem den_asRow {x : A} {es : List (List D)} {v : Value} (h : asRow x = some es) (hd : Den w F E H x v) : FDen w F (.row es) v := by
  unfold asRow at h
  split at h
  · obtain rfl := Option.some.inj h; exact den_d hd
  · obtain rfl := Option.some.inj h; rw [den_v hd]; exact .nil
  · cases h

/-! Addresses. -/
def rFAddr (x : Operand) (off : Nat) (σ : St) : Option A := match aev σ x with | .ptr i o => some (.ptr i (o + off)) | .rptr sz es i j => some (.rptr sz es i (j + off)) | .optr i k o => some (.optr i k (o + off)) | _ => none
theorem add_at' (b off j : Nat) : (⟨b, off, none⟩ : Addr).add j = ⟨b, off + j, none⟩ := Addr.add_mid b off j
theorem ok_faddr {xt : TypeId} {x : Operand} {k off n : Nat} {row : Bool} (hf : fieldOf P xt k = some (off, n + 1, row)) :
    OpOk P C ops ⟨some d, .fieldAddr xt x k, ty, pos, af, none⟩ ⟨kof x, [T d], beh1 (rFAddr x off) d⟩ :=
  OpOk.read rfl rfl (fun σ => by unfold rFAddr; rw [aev_mask (fun k h => h)]) fun σ a w F E H r hR h => by
    unfold fieldOf at hf
    split at hf
    · rename_i fs hu
      split at hf
      · rename_i f hk
        simp only [Option.map_eq_some_iff, Prod.mk.injEq] at hf
        obtain ⟨⟨n', r'⟩, ht, rfl, hn, rfl⟩ := hf
        simp only at hn
        subst hn
        have hd := hR.ev x
        have go : ∀ b o, a.eval x = .pointer (some ⟨b, o, none⟩) → (execOp a.eval ⟨some d, .fieldAddr xt x k, ty, pos, af, none⟩).run P w = .ok (.value (.pointer (some ⟨b, o + f.offset, none⟩))) w := fun b o e => by
          simp [execOp, e, Instr.fieldAt, run_underlying hu, hk, Instr.sureAddr, fieldPlace, run_size ht, add_at']
        unfold rFAddr at h
        split at h
        · rename_i i o he
          obtain rfl := Option.some.inj h
          rw [he] at hd
          obtain ⟨b, hE, hv⟩ := den_ptr hd
          exact ⟨_, go b o hv, .ptr i _ b hE⟩
        · rename_i sz es i j he
          obtain rfl := Option.some.inj h
          rw [he] at hd
          obtain ⟨b, o, cap, m, hv, hrow, him, hz⟩ := den_rptr hd
          refine ⟨_, go b _ hv, ?_⟩
          rw [Nat.add_assoc, Nat.add_assoc]
          exact .rptr sz b o cap m es i _ hrow him hz
        · rename_i i k' o he
          obtain rfl := Option.some.inj h
          rw [he] at hd
          obtain ⟨b, m, c, hH, hv⟩ := den_optr hd
          exact ⟨_, go b o hv, .optr i k' _ b m c hH⟩
        · cases h
      · cases hf
    · cases hf
theorem Wk.fad {xt : TypeId} {x : Operand} {k : Nat} (off n : Nat) (row : Bool) (hf : fieldOf P xt k = some (off, n + 1, row)) {r : A} (hr : rFAddr x off σ = some r) (hd : d < σ.n) (h : Wk P C ops os cs (σ.put (T d) (.a r)) K) :
    Wk P C ops (⟨some d, .fieldAddr xt x k, ty, pos, af, none⟩ :: os) (⟨kof x, [T d], beh1 (rFAddr x off) d⟩ :: cs) σ K := Wk.read (ok_faddr hf) r hd hr h

/-- An element's address: of a list that nobody turns. -/
def rIAddr (x y : Operand) (sz : Nat) (σ : St) : Option A :=
  match asRow (aev σ x), aev σ y with
  | some es, .d (.v (.int _ i)) => if 0 ≤ i ∧ i < es.length ∧ ∀ e ∈ es, e.length = sz then some (.rptr sz es i.toNat 0) else none
  | _, _ => none
theorem ok_iaddr {xt e : TypeId} {x y : Operand} {sz : Nat} {row : Bool} (hu : P.underlying xt = some (.slice e)) (ht : tyOf P e = some (sz, row)) :
    OpOk P C ops ⟨some d, .indexAddr xt x y, ty, pos, af, none⟩ ⟨kof x ++ kof y, [T d], beh1 (rIAddr x y sz) d⟩ :=
  OpOk.read rfl rfl (fun σ => by unfold rIAddr; rw [aev_mask (fun k h => List.mem_append_left _ h), aev_mask (fun k h => List.mem_append_right _ h)]) fun σ a w F E H r hR h => by
    unfold rIAddr at h
    split at h
    · rename_i es kd i he hi
      split at h
      · rename_i hc
        obtain ⟨h0, hlt, hz⟩ := hc
        obtain rfl := Option.some.inj h
        have hd2 := hR.ev y
        rw [hi] at hd2
        have e2 := den_v hd2
        have hrow := den_asRow he (hR.ev x)
        obtain ⟨b, n, c, hv, hn⟩ := den_row hrow
        rw [hv] at hrow
        have hlen : 0 < es.length := by omega
        cases hrow with
        | emp => simp at hlen
        | row sz' b' o _ _ _ vs hF hnn hcap hmax hsz hc h1 hdd =>
          have e1 : sz' = sz := by
            have hm : es[0] ∈ es := List.getElem_mem hlen
            exact (hsz _ hm).symm.trans (hz _ hm)
          subst e1
          refine ⟨.pointer (some ⟨b', o + (i.toNat * sz' + 0), none⟩), ?_, .rptr sz' b' o c n es i.toNat 0 (.row sz' b' o c n es vs hF hnn hcap hmax hsz hc h1 hdd) (by omega) hz⟩
          have hin : 0 ≤ i ∧ i < (n : Int) := ⟨h0, by omega⟩
          simp [execOp, hv, e2, Instr.indexAt, asIntOf, run_underlying hu, run_size ht, hin, add_at']
      · cases h
    · cases h
theorem Wk.iad {xt e : TypeId} {x y : Operand} (sz : Nat) (row : Bool) {kd : IntKind} {k : Nat} {es : List (List D)} (hu : P.underlying xt = some (.slice e)) (ht : tyOf P e = some (sz, row)) (hx : asRow (aev σ x) = some es) (hy : aev σ y = .d (.v (.int kd (k : Int))))
    (hk : k < es.length) (hz : ∀ e ∈ es, e.length = sz) (hd : d < σ.n) (h : Wk P C ops os cs (σ.put (T d) (.a (.rptr sz es k 0))) K) :
    Wk P C ops (⟨some d, .indexAddr xt x y, ty, pos, af, none⟩ :: os) (⟨kof x ++ kof y, [T d], beh1 (rIAddr x y sz) d⟩ :: cs) σ K :=
  Wk.read (ok_iaddr hu ht) _ hd (by simp only [rIAddr, hx, hy]; rw [if_pos ⟨by omega, by omega, hz⟩]; simp) h

/-- How many elements a list has. -/
def rLen (x : Operand) (σ : St) : Option A := match asRow (aev σ x) with | some es => some (.d (.v (.int .i64 (es.length : Int)))) | none => none
theorem ok_len {t e : TypeId} {x : Operand} (hu : P.underlying t = some (.slice e)) :
    OpOk P C ops ⟨some d, .call { callee := .builtin .len, args := #[x], argTypes := #[t] }, ty, pos, af, none⟩ ⟨kof x, [T d], beh1 (rLen x) d⟩ :=
  OpOk.read rfl rfl (fun σ => by unfold rLen; rw [aev_mask (fun k h => h)]) fun σ a w F E H r hR h => by
    unfold rLen at h
    split at h
    · rename_i es he
      obtain rfl := Option.some.inj h
      obtain ⟨b, n, c, hv, hn⟩ := den_row (den_asRow he (hR.ev x))
      refine ⟨.int .i64 (es.length : Int), ?_, .d _ _ (.v _)⟩
      simp [execOp, resolve, invoke, builtin, hv, Builtin.len_, run_underlying hu, goInt, hn]
    · cases h
theorem Wk.len {t e : TypeId} {x : Operand} {es : List (List D)} (hu : P.underlying t = some (.slice e)) (hx : asRow (aev σ x) = some es) (hd : d < σ.n) (h : Wk P C ops os cs (σ.put (T d) (.a (.d (.v (.int .i64 (es.length : Int)))))) K) :
    Wk P C ops (⟨some d, .call { callee := .builtin .len, args := #[x], argTypes := #[t] }, ty, pos, af, none⟩ :: os) (⟨kof x, [T d], beh1 (rLen x) d⟩ :: cs) σ K :=
  Wk.read (ok_len hu) _ hd (by simp only [rLen, hx]) h

/-- A part of a list that nobody turns. -/
theorem FDen.part {es : List (List D)} {b : Option Addr} {n c : Nat} {sz : Nat} (h : FDen w F (.row es) (.slice b n c)) (hz : ∀ e ∈ es, e.length = sz) (l m : Nat) (hlm : l ≤ m) (hm : m ≤ n) (b' : Option Addr) (hb : b' = if c = l then b else b.map (·.add (l * sz))) :
    FDen w F (.row ((es.drop l).take (m - l))) (.slice b' (m - l) (c - l)) := by
  cases h with
  | emp _ _ h0 =>
    obtain rfl : m = 0 := by omega
    obtain rfl : l = 0 := by omega
    refine .emp b' c (fun e => ?_)
    by_cases hc : c = 0
    · exact hc
    · rw [if_neg hc] at hb
      exact h0 (Option.map_eq_none_iff.1 (hb.symm.trans e))
  | row sz' g o _ _ _ vs hF hn hcap hmax hsz hc h1 hd =>
    by_cases hlt : m - l = 0
    · -- nothing is left of it
      have he : (es.drop l).take (m - l) = [] := by rw [hlt]; rfl
      rw [he, hlt]
      have hg : ∃ o', b' = some ⟨g, o', none⟩ := by
        rw [hb]
        split
        · exact ⟨o, rfl⟩
        · exact ⟨_, by rw [Option.map_some, add_at']⟩
      obtain ⟨o', rfl⟩ := hg
      exact .row 0 g o' (c - l) 0 [] vs hF rfl (by omega) (by omega) (by simp) (fun i j e d h => by simp at h) (fun i j e d h => by simp at h) (fun i j e d h => by simp at h)
    · have hne : es ≠ [] := fun e => by subst e; simp at hn; omega
      have e1 : sz' = sz := by
        obtain ⟨e, r, rfl⟩ := List.exists_cons_of_ne_nil hne
        exact (hsz e List.mem_cons_self).symm.trans (hz e List.mem_cons_self)
      subst e1
      rw [if_neg (by omega), Option.map_some, add_at'] at hb
      subst hb
      have hget : ∀ i e, ((es.drop l).take (m - l))[i]? = some e → es[l + i]? = some e := fun i e he => by
        rw [List.getElem?_take] at he
        split at he
        · rwa [List.getElem?_drop] at he
        · cases he
      refine .row sz' g (o + l * sz') (c - l) (m - l) _ (fun i j => vs (l + i) j) hF (by simp; omega) (by omega) (by omega) (fun e he => hz e (List.mem_of_mem_drop (List.mem_of_mem_take he))) (fun i j e d he hj => ?_) (fun i j e d he hj => h1 _ j e d (hget i e he) hj) (fun i j e d he hj => hd _ j e d (hget i e he) hj)
      have := hc (l + i) j e d (hget i e he) hj
      rw [Nat.add_mul] at this
      rw [← this]
      congr 2
      omega

/-- Bounds of a part. -/
def rBound (σ : St) (len : Nat) (dflt : Nat) : Option Operand → Option Nat
  | none => some dflt
  | some x => match sc (aev σ x) with | some (.int _ i) => if 0 ≤ i ∧ i ≤ len then some i.toNat else none | _ => none
def kofo : Option Operand → List Key
  | none => []
  | some x => kof x
def rSlice (x : Operand) (lo hi : Option Operand) (sz : Nat) (σ : St) : Option A :=
  match asRow (aev σ x) with
  | some es => (rBound σ es.length es.length hi).bind fun m => (rBound σ m 0 lo).bind fun l => if ∀ e ∈ es, e.length = sz then some (.d (.row ((es.drop l).take (m - l)))) else none
  | _ => none
theorem rBound_mask {rd : List Key} {x : Option Operand} (h : ∀ k ∈ kofo x, k ∈ rd) (len dflt : Nat) : rBound (σ.mask rd) len dflt x = rBound σ len dflt x := by
  cases x with
  | none => rfl
  | some x => simp only [rBound, aev_mask (σ := σ) (x := x) (rd := rd) (fun k hk => h k hk)]
theorem ok_slice {t e : TypeId} {x : Operand} {lo hi : Option Operand} {sz : Nat} {row : Bool} (hu : P.underlying t = some (.slice e)) (ht : tyOf P e = some (sz, row)) :
    OpOk P C ops ⟨some d, .slice t x lo hi none, ty, pos, af, none⟩ ⟨kof x ++ (kofo lo ++ kofo hi), [T d], beh1 (rSlice x lo hi sz) d⟩ :=
  OpOk.read rfl rfl (fun σ => by
    unfold rSlice
    rw [aev_mask (fun k h => List.mem_append_left _ h)]
    simp only [rBound_mask (σ := σ) (rd := kof x ++ (kofo lo ++ kofo hi)) (x := hi) (fun k h => List.mem_append_right _ (List.mem_append_right _ h)), rBound_mask (σ := σ) (rd := kof x ++ (kofo lo ++ kofo hi)) (x := lo) (fun k h => List.mem_append_right _ (List.mem_append_left _ h))]) fun σ a w F E H r hR h => by
    unfold rSlice at h
    split at h
    · rename_i es he
      simp only [Option.bind_eq_some_iff] at h
      obtain ⟨m, hm, l, hl, h⟩ := h
      split at h
      · rename_i hz
        obtain rfl := Option.some.inj h
        have hrow := den_asRow he (hR.ev x)
        obtain ⟨b, n, c, hv, hn⟩ := den_row hrow
        rw [hv] at hrow
        have hnc : n ≤ c := by
          cases hrow with
          | emp => exact Nat.zero_le _
          | row _ _ _ _ _ _ _ _ _ hcap => exact hcap
        have bound : ∀ (y : Option Operand) (len dflt k cp : Nat) (code : BoundsCode), rBound σ len dflt y = some k → len ≤ cp → k ≤ len ∨ y = none ∧ k = dflt := by
          intro y len dflt k cp code hy _
          cases y with
          | none => exact .inr ⟨rfl, (Option.some.inj hy).symm⟩
          | some y =>
            simp only [rBound] at hy
            split at hy
            · split at hy
              · rename_i hc; obtain rfl := Option.some.inj hy; exact .inl (by omega)
              · cases hy
            · cases hy
        have hmn : m ≤ n := by
          rcases bound hi _ _ m n .index hm (Nat.le_of_eq hn.symm) with h | h <;> omega
        have hlm : l ≤ m := by
          rcases bound lo _ _ l n .index hl hmn with h | h <;> omega
        have ev : ∀ (y : Operand) (len dflt k : Nat), rBound σ len dflt (some y) = some k → ∃ kd, a.eval y = .int kd (k : Int) := by
          intro y len dflt k hy
          simp only [rBound] at hy
          split at hy
          · rename_i kd i hs
            split at hy
            · rename_i hc
              obtain rfl := Option.some.inj hy
              refine ⟨kd, ?_⟩
              have := den_sc hs (hR.ev y)
              rw [this, Int.toNat_of_nonneg hc.1]
            · cases hy
          · cases hy
        refine ⟨.slice (if c = l then b else b.map (·.add (l * sz))) (m - l) (c - l), ?_, .d _ _ (hrow.part hz l m hlm hmn _ rfl)⟩
        have hund : ∀ w, (underlying t).run P w = .ok (.slice e) w := run_underlying hu
        have hb1 : ∀ (kd : IntKind) (k y : Nat) (code : BoundsCode), k ≤ y → (Instr.sliceBound (.int kd (k : Int)) y code).run P w = .ok k w := by
          intro kd k y code hk
          simp [Instr.sliceBound, asIntOf, hk]
        have key : (Instr.sliceBounds true n c (lo.map a.eval) (hi.map a.eval) none).run P w = .ok (l, m, c) w := by
          unfold Instr.sliceBounds
          cases hi with
          | none =>
            obtain rfl : es.length = m := Option.some.inj hm
            cases lo with
            | none =>
              obtain rfl : 0 = l := Option.some.inj hl
              simp [hn]
            | some y =>
              obtain ⟨kd, ey⟩ := ev y _ _ l hl
              simp [ey, hn]
              rw [hb1 kd l es.length _ (by omega)]
              rfl
          | some z =>
            obtain ⟨kz, ez⟩ := ev z _ _ m hm
            cases lo with
            | none =>
              obtain rfl : 0 = l := Option.some.inj hl
              simp [ez, hb1 kz m c _ (by omega)]
            | some y =>
              obtain ⟨kd, ey⟩ := ev y _ _ l hl
              simp [ey, ez, hb1 kz m c _ (by omega), hb1 kd l m _ hlm]
        simp only [execOp, Instr.sliceAt, Sem.run_bind, hund, Result.andThen_ok, hv, Option.map_none, Instr.slice, key, run_size ht, Sem.run_pure]
      · cases h
    · cases h
theorem Wk.slc {t e : TypeId} {x : Operand} {lo hi : Option Operand} (sz : Nat) (row : Bool) {es : List (List D)} {l m : Nat} (hu : P.underlying t = some (.slice e)) (ht : tyOf P e = some (sz, row)) (hx : asRow (aev σ x) = some es) (hm : rBound σ es.length es.length hi = some m) (hl : rBound σ m 0 lo = some l)
    (hz : ∀ e ∈ es, e.length = sz) (hd : d < σ.n) (h : Wk P C ops os cs (σ.put (T d) (.a (.d (.row ((es.drop l).take (m - l)))))) K) :
    Wk P C ops (⟨some d, .slice t x lo hi none, ty, pos, af, none⟩ :: os) (⟨kof x ++ (kofo lo ++ kofo hi), [T d], beh1 (rSlice x lo hi sz) d⟩ :: cs) σ K :=
  Wk.read (ok_slice hu ht) _ hd (by simp only [rSlice, hx, hm, hl, Option.bind_some]; rw [if_pos hz]) h
end
end Go.Proofs.Ytpdndapegiglcaa
