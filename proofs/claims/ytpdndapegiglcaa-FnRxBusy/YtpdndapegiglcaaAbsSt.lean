/- The state of a walk: what slots and boxes read as (St, Rel); what one operation asks and leaves (Cert, OpOk); a statement whose order is open may be walked in the order in which it is written, if what each operation looks at and turns is apart from that of those that it does not wait for (wp_draw). -/
import Derived.Test.YtpdndapegiglcaaAbsDen
namespace Go.Proofs.Ytpdndapegiglcaa
open Go

structure St where
  n : Nat
  t : Nat → A
  b : Nat → Bx

abbrev Key := Bool × Nat
abbrev T (i : Nat) : Key := (true, i)
abbrev B (i : Nat) : Key := (false, i)
inductive V where
  | a (x : A)
  | b (x : Bx)
def upd {α : Type} (f : Nat → α) (k : Nat) (x : α) : Nat → α := fun i => if i = k then x else f i
def St.get (σ : St) : Key → V
  | (true, i) => .a (σ.t i)
  | (false, i) => .b (σ.b i)
def St.put (σ : St) : Key → V → St
  | (true, i), .a x => { σ with t := upd σ.t i x }
  | (false, i), .b x => { σ with b := upd σ.b i x }
  | _, _ => σ
def St.puts (σ : St) : List Key → List V → St
  | k :: ks, v :: vs => (σ.put k v).puts ks vs
  | _, _ => σ

theorem upd_comm {α : Type} (f : Nat → α) {i j : Nat} (x y : α) (h : i ≠ j) : upd (upd f i x) j y = upd (upd f j y) i x := by
  funext k
  simp only [upd]
  split <;> split <;> simp_all
theorem St.put_comm (σ : St) {k k' : Key} (v v' : V) (h : k ≠ k') : (σ.put k v).put k' v' = (σ.put k' v').put k v := by
  obtain ⟨p, i⟩ := k
  obtain ⟨q, j⟩ := k'
  cases p <;> cases q <;> cases v <;> cases v' <;> simp only [St.put] <;> (try rfl)
  all_goals
    have : i ≠ j := fun e => h (by rw [e])
    rw [upd_comm _ _ _ this]
theorem St.get_put (σ : St) {k k' : Key} (v : V) (h : k ≠ k') : (σ.put k v).get k' = σ.get k' := by
  obtain ⟨p, i⟩ := k
  obtain ⟨q, j⟩ := k'
  cases p <;> cases q <;> cases v <;> simp only [St.put, St.get]
  all_goals
    have : ¬ j = i := fun e => h (by rw [e])
    simp [upd, this]
theorem St.get_puts {k : Key} : ∀ (ks : List Key) (vs : List V) (σ : St), k ∉ ks → (σ.puts ks vs).get k = σ.get k
  | [], vs, σ, _ => by cases vs <;> rfl
  | _ :: _, [], _, _ => rfl
  | k' :: ks, v :: vs, σ, h => by
    rw [St.puts, St.get_puts ks vs _ (fun e => h (List.mem_cons_of_mem _ e)), St.get_put _ _ (fun e => h (by rw [e]; exact List.mem_cons_self))]
theorem St.puts_put_comm {k : Key} {v : V} : ∀ (ks : List Key) (vs : List V) (σ : St), k ∉ ks → (σ.puts ks vs).put k v = (σ.put k v).puts ks vs
  | [], vs, σ, _ => by cases vs <;> rfl
  | _ :: _, [], _, _ => rfl
  | k' :: ks, v' :: vs, σ, h => by
    rw [St.puts, St.puts_put_comm ks vs _ (fun e => h (List.mem_cons_of_mem _ e)), St.put_comm _ _ _ (fun e => h (by rw [e]; exact List.mem_cons_self)), St.puts]
theorem St.puts_comm : ∀ (ks : List Key) (vs : List V) (ks' : List Key) (vs' : List V) (σ : St), (∀ k ∈ ks, k ∉ ks') → (σ.puts ks vs).puts ks' vs' = (σ.puts ks' vs').puts ks vs
  | [], vs, ks', vs', σ, _ => by cases vs <;> rfl
  | _ :: _, [], _, _, _, _ => rfl
  | k :: ks, v :: vs, ks', vs', σ, h => by
    rw [St.puts, St.puts_comm ks vs ks' vs' _ (fun q hq => h q (List.mem_cons_of_mem _ hq)), ← St.puts_put_comm ks' vs' σ (h k List.mem_cons_self), St.puts]

def Rel (C : Ctx) (σ : St) (a : Act) (w : World) : Prop :=
  a.defers = [] ∧ a.tmps.size = σ.n ∧ ∃ F E H, Env C w F E H σ.b ∧ ∀ t, Den w F E H (σ.t t) (a.tmps.getD t undef)

theorem Env.heap {C : Ctx} {w w' : World} {F : Nat → Prop} {E : Nat → Option Nat} {H : Nat → Nat → Option Value} {bx : Nat → Bx} (h : Env C w F E H bx)
    (hh : w'.heap = w.heap) (hos : w'.os = w.os) (hta : w'.tape = w.tape) (hou : w'.output = w.output) : Env C w' F E H bx :=
  h.step (fun _ => False) hos hta hou (by rw [hh]; exact Nat.le_refl _) (fun b _ _ => by rw [hh]) (fun _ h => h) (fun _ h => .inl h) (fun _ _ h => h) (fun _ _ _ h => h) (fun _ _ => rfl) (fun _ _ _ => rfl) (fun _ _ => rfl)
    (fun _ h => h.elim) (fun _ h => h.elim) (fun _ _ _ h => h.elim)
theorem Rel.heap {C : Ctx} {σ : St} {a : Act} {w w' : World} (h : Rel C σ a w) (hh : w'.heap = w.heap) (hos : w'.os = w.os) (hta : w'.tape = w.tape) (hou : w'.output = w.output) : Rel C σ a w' := by
  obtain ⟨h1, h2, F, E, H, he, hd⟩ := h
  exact ⟨h1, h2, F, E, H, he.heap hh hos hta hou, fun t => (hd t).mono (fun _ h => h) (fun b _ => by rw [hh]) (fun _ _ h => h) (fun _ _ _ h => h)⟩

/-- What a state says of some slots and boxes alone. -/
def St.mask (σ : St) (rd : List Key) : St := ⟨σ.n, fun i => if rd.contains (T i) then σ.t i else .any, fun i => if rd.contains (B i) then σ.b i else .none⟩
structure Cert where
  rd : List Key
  wr : List Key
  beh : St → Prop × (List V → Prop)
def Cert.safe (c : Cert) (σ : St) : Prop := (c.beh σ).1
def Cert.rel (c : Cert) (σ : St) (us : List V) : Prop := (c.beh σ).2 us
def Cert.total (c : Cert) : Prop := (∀ σ, (c.beh σ).1 → ∃ us, (c.beh σ).2 us) ∧ ∀ σ, c.beh (σ.mask c.rd) = c.beh σ

def dstIn : Option Nat → List Key → Bool
  | some d, ks => ks.contains (T d)
  | none, _ => true
/-- What an operation asks and leaves holds of it. -/
def OpOk (P : Program) (C : Ctx) (ops : Array Oper) (o : Oper) (c : Cert) : Prop :=
  c.total ∧ dstIn o.dst c.wr = true ∧ ∀ (σ : St) (a : Act) (w : World) (K : Act → World → Prop) (Q : Exit → Act → World → Prop), Rel C σ a w → c.safe σ →
    (∀ us a' w', c.rel σ us → Rel C (σ.puts c.wr us) a' w' → K a' w') →
    if Region.wanted o (yielded ops a.tmps) then o.wp P a w K Q else K (a.put o.dst undef) w

/-- The operations, in the order in which they are written. -/
def Wc : List Cert → St → (St → Prop) → Prop
  | [], σ, K => K σ
  | c :: cs, σ, K => c.safe σ ∧ ∀ us, c.rel σ us → Wc cs (σ.puts c.wr us) K

/-- c' need not wait for c, nor c for c'. -/
def Cert.apart (c' c : Cert) : Bool :=
  c'.wr.all (fun k => !c.rd.contains k && !c.wr.contains k) && c.wr.all (fun k => !c'.rd.contains k)

theorem St.puts_n : ∀ (ks : List Key) (vs : List V) (σ : St), (σ.puts ks vs).n = σ.n
  | [], vs, σ => by cases vs <;> rfl
  | _ :: _, [], _ => rfl
  | (p, i) :: ks, v :: vs, σ => by
    rw [St.puts, St.puts_n ks vs]
    cases p <;> cases v <;> rfl
theorem mask_puts {ks : List Key} {vs : List V} {σ : St} {l : List Key} (h : ∀ k ∈ l, k ∉ ks) : (σ.puts ks vs).mask l = σ.mask l := by
  have ht : ∀ i, T i ∈ l → (σ.puts ks vs).t i = σ.t i := fun i hi => by
    have := St.get_puts ks vs σ (h _ hi)
    simpa [St.get] using this
  have hb : ∀ i, B i ∈ l → (σ.puts ks vs).b i = σ.b i := fun i hi => by
    have := St.get_puts ks vs σ (h _ hi)
    simpa [St.get] using this
  unfold St.mask
  rw [St.puts_n]
  congr 1
  · funext i
    split
    · rename_i hi; exact ht i (by simpa using hi)
    · rfl
  · funext i
    split
    · rename_i hi; exact hb i (by simpa using hi)
    · rfl

theorem apart_iff {c' c : Cert} (h : c'.apart c = true) : (∀ k ∈ c.rd, k ∉ c'.wr) ∧ (∀ k ∈ c'.wr, k ∉ c.wr) ∧ (∀ k ∈ c'.rd, k ∉ c.wr) := by
  simp only [Cert.apart, Bool.and_eq_true, List.all_eq_true, Bool.not_eq_true', List.contains_eq_mem, decide_eq_false_iff_not] at h
  exact ⟨fun k hk h2 => (h.1 k h2).1 hk, fun k hk => (h.1 k hk).2, fun k hk h2 => h.2 k h2 hk⟩

theorem Wc_pick {K : St → Prop} {c : Cert} {L2 : List Cert} (hto0 : c.total) : ∀ (L1 : List Cert) (σ : St), (∀ c' ∈ L1, c'.apart c = true ∧ c'.total) → Wc (L1 ++ c :: L2) σ K →
    c.safe σ ∧ ∀ us, c.rel σ us → Wc (L1 ++ L2) (σ.puts c.wr us) K
  | [], σ, _, h => h
  | c' :: L1, σ, hL, h => by
    obtain ⟨hs, hr⟩ := h
    obtain ⟨hap, hto⟩ := hL c' List.mem_cons_self
    obtain ⟨h1, h2, h3⟩ := apart_iff hap
    have ih := fun us hus => Wc_pick hto0 L1 (σ.puts c'.wr us) (fun q hq => hL q (List.mem_cons_of_mem _ hq)) (hr us hus)
    have e1 : ∀ us, c.safe (σ.puts c'.wr us) = c.safe σ := fun us => by unfold Cert.safe; rw [← hto0.2, mask_puts h1, hto0.2]
    have e2 : ∀ us, c.rel (σ.puts c'.wr us) = c.rel σ := fun us => by funext q; unfold Cert.rel; rw [← hto0.2, mask_puts h1, hto0.2]
    have e3 : ∀ us, c'.safe (σ.puts c.wr us) = c'.safe σ := fun us => by unfold Cert.safe; rw [← hto.2, mask_puts h3, hto.2]
    have e4 : ∀ us, c'.rel (σ.puts c.wr us) = c'.rel σ := fun us => by funext q; unfold Cert.rel; rw [← hto.2, mask_puts h3, hto.2]
    obtain ⟨u0, hu0⟩ := hto.1 _ hs
    refine ⟨by have := (ih u0 hu0).1; rwa [e1] at this, fun us hus => ⟨by rw [e3]; exact hs, fun us' hus' => ?_⟩⟩
    rw [e4] at hus'
    have := (ih us' hus').2 us (by rw [e2]; exact hus)
    rwa [St.puts_comm _ _ _ _ _ h2] at this

/-- For each operation the ones that it waits for, as the bits of a number. -/
def waitsTo (ops : List Oper) : Nat → List Nat
  | 0 => []
  | n + 1 =>
    let acc := waitsTo ops n
    acc ++ [(ops.getD n default).after.toList.foldl (fun s e => if Region.binds .any e then s ||| 2 ^ e.on ||| acc.getD e.on 0 else s) 0]
def edgesOk (ops : List Oper) : Bool := ops.zipIdx.all fun (o, i) => o.after.toList.all fun e => !Region.binds .any e || decide (e.on < i)
def apartOk (ops : List Oper) (cs : List Cert) : Bool :=
  let ws := waitsTo ops ops.length
  cs.zipIdx.all fun (c, i) => (cs.take i).zipIdx.all fun (c', j) => (ws.getD i 0).testBit j || c'.apart c

/-- A set of operations that has with each one all that it waits for. -/
def Down (ops : List Oper) (L : Nat → Prop) : Prop := ∀ i o, ops[i]? = some o → L i → ∀ e ∈ o.after.toList, Region.binds .any e = true → L e.on

theorem fold_bit {acc : List Nat} {L : Nat → Prop} : ∀ (es : List Edge) (s : Nat), (∀ j, s.testBit j = true → L j) → (∀ e ∈ es, Region.binds .any e = true → L e.on ∧ ∀ j, (acc.getD e.on 0).testBit j = true → L j) →
    ∀ j, (es.foldl (fun s e => if Region.binds .any e then s ||| 2 ^ e.on ||| acc.getD e.on 0 else s) s).testBit j = true → L j
  | [], s, hs, _, j, h => hs j h
  | e :: es, s, hs, he, j, h => by
    rw [List.foldl_cons] at h
    refine fold_bit es _ ?_ (fun q hq => he q (List.mem_cons_of_mem _ hq)) j h
    intro j hj
    split at hj
    · rename_i hb
      obtain ⟨h1, h2⟩ := he e List.mem_cons_self hb
      rw [Nat.testBit_or, Nat.testBit_or, Bool.or_eq_true, Bool.or_eq_true, Nat.testBit_two_pow] at hj
      rcases hj with (hj | hj) | hj
      · exact hs j hj
      · rw [decide_eq_true_eq] at hj; exact hj ▸ h1
      · exact h2 j hj
    · exact hs j hj

theorem waitsTo_length (ops : List Oper) : ∀ n, (waitsTo ops n).length = n
  | 0 => rfl
  | n + 1 => by rw [waitsTo, List.length_append, waitsTo_length ops n]; rfl
theorem waitsTo_down {ops : List Oper} {L : Nat → Prop} (hL : Down ops L) : ∀ n, n ≤ ops.length → ∀ i o, i < n → ops[i]? = some o → (∀ e ∈ o.after.toList, Region.binds .any e = true → L e.on) →
    ∀ j, ((waitsTo ops n).getD i 0).testBit j = true → L j
  | 0, _, _, _, hi, _, _ => by omega
  | n + 1, hn, i, o, hi, ho, he => by
    have hl := waitsTo_length ops n
    by_cases h : i < n
    · have : (waitsTo ops (n + 1)).getD i 0 = (waitsTo ops n).getD i 0 := by
        rw [waitsTo]
        simp only [List.getD_eq_getElem?_getD]
        rw [List.getElem?_append_left (by omega)]
      rw [this]
      exact waitsTo_down hL n (by omega) i o h ho he
    · obtain rfl : i = n := by omega
      have e1 : ops.getD i default = o := by simp [List.getD_eq_getElem?_getD, ho]
      have : (waitsTo ops (i + 1)).getD i 0 = o.after.toList.foldl (fun s e => if Region.binds .any e then s ||| 2 ^ e.on ||| (waitsTo ops i).getD e.on 0 else s) 0 := by
        rw [waitsTo, e1]
        simp only [List.getD_eq_getElem?_getD]
        rw [List.getElem?_append_right (by omega), hl]
        simp
      rw [this]
      refine fold_bit _ 0 (fun j hj => by simp at hj) (fun e hee hb => ⟨he e hee hb, fun j hj => ?_⟩)
      by_cases hlt : e.on < i
      · have hLe := he e hee hb
        obtain ⟨o', ho'⟩ : ∃ o', ops[e.on]? = some o' := ⟨ops[e.on]'(by omega), List.getElem?_eq_getElem (by omega)⟩
        exact waitsTo_down hL i (by omega) e.on o' hlt ho' (hL e.on o' ho' hLe) j hj
      · rw [List.getD_eq_getElem?_getD, List.getElem?_eq_none (by omega)] at hj
        simp at hj

/-- Those that are not yet done, in the order in which they are written. -/
def left (cs : List Cert) (listed : Array Bool) : List Cert := (cs.zipIdx.filter fun x => !listed.getD x.2 true).map (·.1)

theorem left_split {cs : List Cert} {listed : Array Bool} {i : Nat} {c : Cert} (hc : cs[i]? = some c) (hi : listed.getD i true = false) (hs : listed.size = cs.length) :
    left cs listed = ((cs.zipIdx.take i).filter fun x => !listed.getD x.2 true).map (·.1) ++ c :: (((cs.zipIdx.drop (i + 1)).filter fun x => !listed.getD x.2 true).map (·.1)) ∧
    left cs (listed.setIfInBounds i true) = ((cs.zipIdx.take i).filter fun x => !listed.getD x.2 true).map (·.1) ++ (((cs.zipIdx.drop (i + 1)).filter fun x => !listed.getD x.2 true).map (·.1)) := by
  have hlt : i < cs.length := (List.getElem?_eq_some_iff.1 hc).1
  have hci : cs[i] = c := (List.getElem?_eq_some_iff.1 hc).2
  have hz : cs.zipIdx = cs.zipIdx.take i ++ (c, i) :: cs.zipIdx.drop (i + 1) := by
    have h1 : i < cs.zipIdx.length := by simpa using hlt
    have h2 : cs.zipIdx[i] = (c, i) := by simp [hci]
    rw [← h2, ← List.drop_eq_getElem_cons h1, List.take_append_drop]
  have hne : ∀ x ∈ cs.zipIdx.take i, x.2 ≠ i := by
    intro x hx
    obtain ⟨k, hk, rfl⟩ := List.getElem_of_mem hx
    simp only [List.length_take, List.length_zipIdx] at hk
    simp only [List.getElem_take, List.getElem_zipIdx]
    omega
  have hne2 : ∀ x ∈ cs.zipIdx.drop (i + 1), x.2 ≠ i := by
    intro x hx
    obtain ⟨k, hk, rfl⟩ := List.getElem_of_mem hx
    simp only [List.getElem_drop, List.getElem_zipIdx]
    omega
  have hget : ∀ x : Cert × Nat, x.2 ≠ i → (listed.setIfInBounds i true).getD x.2 true = listed.getD x.2 true := by
    intro x hx
    simp only [Array.getD_eq_getD_getElem?]
    rw [Array.getElem?_setIfInBounds_ne (Ne.symm hx)]
  have hgi : (listed.setIfInBounds i true).getD i true = true := by
    simp only [Array.getD_eq_getD_getElem?]
    cases h : (listed.setIfInBounds i true)[i]? with
    | none => rfl
    | some b =>
      have hsz : i < listed.size := by omega
      simp [hsz] at h
      simp [← h]
  refine ⟨?_, ?_⟩
  · unfold left
    rw [hz]
    simp only [List.filter_append, List.filter_cons, List.map_append]
    simp [hi, ← hz]
  · unfold left
    rw [hz]
    simp only [List.filter_append, List.filter_cons, List.map_append]
    rw [← hz]
    simp only [hgi, Bool.not_true, Bool.false_eq_true, if_false]
    congr 2
    · exact List.filter_congr fun x hx => by rw [hget x (hne x hx)]
    · exact List.filter_congr fun x hx => by rw [hget x (hne2 x hx)]

def Lst (listed : Array Bool) (i : Nat) : Prop := listed.getD i false = true

theorem getD_ff {l : Array Bool} {i : Nat} (h : i < l.size) : l.getD i true = l.getD i false := by simp [Array.getD, h]

theorem mem_ready {md : Region.Mode} {ops : Array Oper} {listed : Array Bool} {i : Nat} (h : i ∈ Region.ready md ops listed) :
    listed.getD i true = false ∧ ∃ o, ops[i]? = some o ∧ ∀ e ∈ o.after.toList, Region.binds md e = true → listed.getD e.on false = true := by
  simp only [Region.ready, List.mem_filter, List.mem_range, Bool.and_eq_true, Bool.not_eq_true'] at h
  obtain ⟨_, h1, h2⟩ := h
  refine ⟨h1, ?_⟩
  cases ho : ops[i]? with
  | none => simp [ho] at h2
  | some o =>
    refine ⟨o, rfl, fun e he hb => ?_⟩
    simp only [ho, Option.map_some, Option.getD_some, Array.all_eq_true'] at h2
    have := h2 e (by simpa using he)
    simpa [hb] using this

theorem ready_of {md : Region.Mode} {ops : Array Oper} {listed : Array Bool} {i : Nat} {o : Oper} (ho : ops[i]? = some o) (hi : listed.getD i true = false)
    (he : ∀ e ∈ o.after.toList, Region.binds md e = true → listed.getD e.on false = true) : i ∈ Region.ready md ops listed := by
  simp only [Region.ready, List.mem_filter, List.mem_range, Bool.and_eq_true, Bool.not_eq_true']
  refine ⟨(Array.getElem?_eq_some_iff.1 ho).1, hi, ?_⟩
  simp only [ho, Option.map_some, Option.getD_some, Array.all_eq_true']
  intro e hee
  by_cases hb : Region.binds md e = true
  · simp [he e (by simpa using hee) hb]
  · simp [Bool.eq_false_iff.2 hb]

theorem apartOk_get {ops : List Oper} {cs : List Cert} (h : apartOk ops cs = true) {i j : Nat} {c c' : Cert} (hi : cs[i]? = some c) (hj : cs[j]? = some c') (hji : j < i) :
    ((waitsTo ops ops.length).getD i 0).testBit j = true ∨ c'.apart c = true := by
  simp only [apartOk, List.all_eq_true] at h
  have hlt : i < cs.length := (List.getElem?_eq_some_iff.1 hi).1
  have h1 := h (c, i) (by
    have : (cs.zipIdx)[i]? = some (c, i) := by simp [hi]
    exact List.mem_of_getElem? this) (c', j) (by
    have : ((cs.take i).zipIdx)[j]? = some (c', j) := by simp [hj, hji]
    exact List.mem_of_getElem? this)
  simpa using h1

theorem wp_any {P : Program} {C : Ctx} {ops : Array Oper} {cs : List Cert} {Q : Exit → Act → World → Prop} (hlen : cs.length = ops.size)
    (hok : ∀ (i : Nat) (o : Oper) (c : Cert), ops[i]? = some o → cs[i]? = some c → OpOk P C ops o c) (hed : edgesOk ops.toList = true) (hind : apartOk ops.toList cs = true) :
    ∀ (fuel : Nat) (listed : Array Bool) (σ : St) (a : Act) (w : World), listed.size = cs.length → Down ops.toList (Lst listed) → (left cs listed).length = fuel → Rel C σ a w →
      Wc (left cs listed) σ (fun σ' => ∀ a w, Rel C σ' a w → Q .normal a w) → wpAny P .any ops Q fuel listed a w
  | 0, listed, σ, a, w, hs, hd, hf, hR, hW => by
    have hnil : left cs listed = [] := List.eq_nil_of_length_eq_zero hf
    rw [hnil] at hW
    refine ⟨?_, hW a w hR⟩
    apply List.eq_nil_iff_forall_not_mem.2
    intro i hi
    obtain ⟨h1, o, ho, _⟩ := mem_ready hi
    have hlt : i < cs.length := by rw [hlen]; exact (Array.getElem?_eq_some_iff.1 ho).1
    have := (left_split (List.getElem?_eq_getElem hlt) h1 hs).1
    rw [hnil] at this
    simp at this
  | fuel + 1, listed, σ, a, w, hs, hd, hf, hR, hW => by
    refine ⟨fun hn => ?_, fun i hi => ?_⟩
    · exfalso
      -- the first that is not done is ready
      have all : ∀ m, m ≤ cs.length → ∀ i, i < m → listed.getD i false = true := by
        intro m
        induction m with
        | zero => intro _ i hi; omega
        | succ m ih =>
          intro hm i hi
          by_cases hlt : i < m
          · exact ih (by omega) i hlt
          · obtain rfl : i = m := by omega
            cases hli : listed.getD i false with
            | true => rfl
            | false =>
              exfalso
              have hio : i < ops.size := by omega
              have hmem : i ∈ Region.ready .any ops listed := ready_of (Array.getElem?_eq_getElem hio) (by rw [getD_ff (by omega)]; exact hli) (fun e he hb => by
                have h3 : e.on < i := by
                  simp only [edgesOk, List.all_eq_true] at hed
                  have h4 := hed (ops[i], i) (by
                    have : (ops.toList.zipIdx)[i]? = some (ops[i], i) := by simp [hio]
                    exact List.mem_of_getElem? this) e he
                  simpa [hb] using h4
                exact ih (by omega) e.on h3)
              rw [hn] at hmem
              cases hmem
      have : left cs listed = [] := by
        unfold left
        rw [List.map_eq_nil_iff, List.filter_eq_nil_iff]
        intro x hx
        obtain ⟨k, hk, rfl⟩ := List.getElem_of_mem hx
        simp only [List.length_zipIdx] at hk
        simp only [List.getElem_zipIdx, Nat.zero_add]
        have := all cs.length (Nat.le_refl _) k hk
        rw [getD_ff (by omega), this]
        simp
      rw [this] at hf
      simp at hf
    · obtain ⟨h1, o, ho, he⟩ := mem_ready hi
      have hio : i < ops.size := (Array.getElem?_eq_some_iff.1 ho).1
      have hlt : i < cs.length := by omega
      have hc : cs[i]? = some cs[i] := List.getElem?_eq_getElem hlt
      obtain ⟨e1, e2⟩ := left_split hc h1 hs
      rw [e1] at hW
      have hho := hok i o cs[i] ho hc
      have hoi : ops.toList[i]? = some o := by simpa using ho
      obtain ⟨hsafe, hrel⟩ := Wc_pick hho.1 _ σ (fun c' hc' => by
        obtain ⟨x, hx, rfl⟩ := List.mem_map.1 hc'
        obtain ⟨hx1, hx2⟩ := List.mem_filter.1 hx
        obtain ⟨k, hk, rfl⟩ := List.getElem_of_mem hx1
        simp only [List.length_take, List.length_zipIdx] at hk
        simp only [List.getElem_take, List.getElem_zipIdx, Nat.zero_add] at hx2 ⊢
        have hk2 : k < cs.length := by omega
        have hkc : cs[k]? = some cs[k] := List.getElem?_eq_getElem hk2
        have hko : k < ops.size := by omega
        refine ⟨?_, (hok k ops[k] cs[k] (Array.getElem?_eq_getElem hko) hkc).1⟩
        rcases apartOk_get hind hc hkc (by omega) with h | h
        · exfalso
          have := waitsTo_down hd ops.toList.length (Nat.le_refl _) i o (by simpa using hio) hoi he k h
          rw [getD_ff (by omega)] at hx2
          rw [Lst] at this
          rw [this] at hx2
          simp at hx2
        · exact h) hW
      have hst := hho.2.2 σ a w (wpAny P .any ops Q fuel (listed.setIfInBounds i true)) Q hR hsafe (fun us a' w' hus hR' => by
        refine wp_any hlen hok hed hind fuel _ _ a' w' (by simpa using hs) ?_ ?_ hR' ?_
        · intro k o' hk hL e hee hb
          have up : ∀ q, Lst listed q → Lst (listed.setIfInBounds i true) q := fun q hq => by
            unfold Lst at *
            by_cases hqi : q = i
            · subst hqi
              simp [Array.getD, show q < listed.size by omega]
            · simp only [Array.getD_eq_getD_getElem?] at *
              rw [Array.getElem?_setIfInBounds_ne (Ne.symm hqi)]
              exact hq
          by_cases hki : k = i
          · subst hki
            obtain rfl : o' = o := Option.some.inj (hk.symm.trans hoi)
            exact up _ (he e hee hb)
          · refine up _ (hd k o' hk ?_ e hee hb)
            unfold Lst at *
            simp only [Array.getD_eq_getD_getElem?] at *
            rwa [Array.getElem?_setIfInBounds_ne (Ne.symm hki)] at hL
        · rw [e2]
          rw [e1] at hf
          simp only [List.length_append, List.length_cons] at hf ⊢
          omega
        · rw [e2]; exact hrel us hus)
      unfold wpOp
      simp only [ho]
      split
      · rename_i hw
        rw [if_pos hw] at hst
        exact .inl hst
      · rename_i hw
        rw [if_neg hw] at hst
        exact hst

/-- A statement whose order is open. -/
theorem wp_draw {P : Program} {C : Ctx} {id : Nat} {ops : Array Oper} {Q : Exit → Act → World → Prop} {σ : St} {a : Act} {w : World} (hm : P.follows .mixedOrders = true) (cs : List Cert) (hlen : cs.length = ops.size)
    (hR : Rel C σ a w) (hok : ∀ (i : Nat) (o : Oper) (c : Cert), ops[i]? = some o → cs[i]? = some c → OpOk P C ops o c)
    (hW : Wc cs σ (fun σ' => ∀ a w, Rel C σ' a w → Q .normal a w)) (hed : edgesOk ops.toList = true) (hind : apartOk ops.toList cs = true) : (Code.region id ops true).wp P Q a w := by
  have hl : left cs (Array.replicate ops.size false) = cs := by
    unfold left
    have : (cs.zipIdx.filter fun x => !(Array.replicate ops.size false).getD x.2 true) = cs.zipIdx := by
      apply List.filter_eq_self.2
      intro x hx
      obtain ⟨k, hk, rfl⟩ := List.getElem_of_mem hx
      simp only [List.length_zipIdx] at hk
      simp only [List.getElem_zipIdx, Nat.zero_add, Array.getD, Array.size_replicate]
      rw [dif_pos (by omega)]
      simp
    rw [this]
    simp
  refine wp_region_any hm (wp_any hlen hok hed hind ops.size _ σ a _ (by simp [hlen]) ?_ (by rw [hl, hlen]) (hR.heap rfl rfl rfl rfl) (by rw [hl]; exact hW))
  intro i o _ hL
  unfold Lst at hL
  simp only [Array.getD, Array.size_replicate] at hL
  split at hL
  · simp at hL
  · cases hL
end Go.Proofs.Ytpdndapegiglcaa
