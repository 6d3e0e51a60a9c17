/- List literals; append. -/
import Derived.Test.YtpdndapegiglcaaAbsMake
namespace Go.Proofs.Ytpdndapegiglcaa
open Go

def allCells (σ : St) : List Operand → Option (List (List A))
  | [] => some []
  | x :: xs => match cellsA (aev σ x), allCells σ xs with | some c, some r => some (c :: r) | _, _ => none
theorem fillA_dense {sz : Nat} {σ : St} : ∀ (xs : List Operand) (k : Nat) (es : List (List A)) (cells : List A), allCells σ xs = some es → (∀ e ∈ es, e.length = sz) → (k + xs.length) * sz ≤ cells.length →
    fillA (fun i => some (i * sz, sz)) cells ((xs.zipIdx k).map fun x => (x.2, aev σ x.1)) = some (cells.take (k * sz) ++ es.flatten ++ cells.drop ((k + xs.length) * sz))
  | [], k, es, cells, h, _, _ => by
    obtain rfl := Option.some.inj h
    simp [fillA]
  | x :: xs, k, es, cells, h, hz, hl => by
    simp only [allCells] at h
    split at h
    · rename_i c r hc hr
      obtain rfl := Option.some.inj h
      have hcl : c.length = sz := hz c List.mem_cons_self
      have e0 : (k + (x :: xs).length) * sz = k * sz + sz + xs.length * sz := by rw [List.length_cons, Nat.add_mul, Nat.add_mul]; omega
      rw [e0] at hl ⊢
      rw [List.zipIdx_cons, List.map_cons, fillA]
      simp only [hc]
      rw [if_pos ⟨hcl, by omega⟩]
      have hsl : (setA cells (k * sz) c).length = cells.length := by
        simp only [setA, List.length_append, List.length_take, List.length_drop]
        omega
      have e5 : (k + 1 + xs.length) * sz = k * sz + sz + xs.length * sz := by rw [Nat.add_mul, Nat.add_mul]; omega
      rw [fillA_dense xs (k + 1) r _ hr (fun e he => hz e (List.mem_cons_of_mem _ he)) (by rw [hsl, e5]; omega)]
      have e1 : (k + 1) * sz = k * sz + sz := by rw [Nat.add_mul]; omega
      have hX : (cells.take (k * sz) ++ c).length = k * sz + sz := by rw [List.length_append, List.length_take]; omega
      rw [e5, e1]
      simp only [setA, List.flatten_cons, Option.some.injEq]
      rw [List.take_append_of_le_length (by omega), List.take_of_length_le (by omega), List.drop_append, hX]
      have t2 : (cells.take (k * sz) ++ c).drop (k * sz + sz + xs.length * sz) = [] := List.drop_eq_nil_of_le (by omega)
      have t4 : k * sz + c.length + (k * sz + sz + xs.length * sz - (k * sz + sz)) = k * sz + sz + xs.length * sz := by omega
      rw [t2, List.nil_append, List.drop_drop, t4]
      simp [List.append_assoc]
    · cases h

section
variable {P : Program} {C : Ctx} {ops : Array Oper} {os : List Oper} {cs : List Cert} {σ : St} {K : St → Prop} {d : Nat} {ty : TypeId} {pos : String} {af : Array Edge}

/-- A list literal: the call's own. -/
def rBuildS (i : Nat) (e : TypeId) (sz : Nat) (xs : List Operand) (σ : St) : Option (List V) :=
  match σ.b i, allCells σ xs with
  | .fresh, some es => if ∀ c ∈ es, c.length = sz then some [.a (.own i 0), .b (.own 0 e sz es)] else none
  | _, _ => none
theorem allCells_mask {rd : List Key} : ∀ {xs : List Operand}, (∀ k ∈ xs.flatMap kof, k ∈ rd) → allCells (σ.mask rd) xs = allCells σ xs
  | [], _ => rfl
  | x :: xs, h => by
    simp only [allCells]
    rw [aev_mask fun k hk => h k (by simp [hk]), allCells_mask fun k hk => h k (by simp only [List.flatMap_cons, List.mem_append]; exact .inr hk)]
theorem allCells_len : ∀ {xs : List Operand} {es : List (List A)}, allCells σ xs = some es → es.length = xs.length
  | [], es, h => by obtain rfl := Option.some.inj h; rfl
  | x :: xs, es, h => by
    simp only [allCells] at h
    split at h
    · rename_i c r hc hr
      obtain rfl := Option.some.inj h
      simp [allCells_len hr]
    · cases h
theorem run_buildS {t e : TypeId} {n sz : Nat} {row : Bool} {w : World} {z : Value} {parts : Array (Nat × Value)} {vs : Array Value} (hu : P.underlying t = some (.slice e)) (ht : tyOf P e = some (sz, row)) (hz : (zeroValue e).run P w = .ok z w) (hs : n * sz ≤ 16777216)
    (hf : Instr.fill (fun i => some (i * sz, sz)) ((Array.range (n * sz)).map (fun q => (if n * sz = 0 then #[] else z.cells)[q % (if n * sz = 0 then #[] else z.cells).size]!)) parts.toList = some vs) :
    (Instr.buildSlice t n parts).run P w = .ok (.slice (some ⟨w.heap.size, 0, none⟩) n n) (w.alloc (.cells vs e)) := by
  have hsz' : ¬ (n * sz > 2 ^ 24) := by omega
  unfold Instr.buildSlice
  rw [Sem.run_bind, run_underlying hu, Result.andThen_ok]
  simp only
  rw [Sem.run_bind, run_size ht, Result.andThen_ok]
  simp only [hsz', if_false]
  by_cases h0 : n * sz = 0
  · simp only [h0, if_true] at hf ⊢
    rw [show Array.map (fun q => (#[] : Array Value)[q % (#[] : Array Value).size]!) (Array.range 0) = #[] from by simp] at hf
    simp [hf, newRow, go_sem]
  · simp only [h0, if_false] at hf ⊢
    simp only [Value.cells] at hf
    simp [hf, newRow, hz, go_sem]
theorem ok_buildS {t e : TypeId} {n sz : Nat} {row : Bool} {zs : List Value} {ps : List (Nat × Operand)} (i : Nat) (hu : P.underlying t = some (.slice e)) (ht : tyOf P e = some (sz, row)) (hz : zeroOf P e = some zs) (h1 : zs.all (·.oneCell') = true) (hzl : zs.length = sz)
    (hps : ps = ((ps.map (·.2)).zipIdx.map fun x => (x.2, x.1))) (hn : n = ps.length) (hs : n * sz ≤ 16777216) (hn2 : n ≤ 16777216) :
    OpOk P C ops ⟨some d, .buildSlice t n ps.toArray, ty, pos, af, none⟩ ⟨(ps.map (·.2)).flatMap kof ++ [B i], [T d, B i], behs (rBuildS i e sz (ps.map (·.2))) d⟩ :=
  OpOk.turn rfl (by simp [dstIn]) (fun σ => by unfold rBuildS; rw [bx_mask (by simp), allCells_mask fun k hk => List.mem_append_left _ hk]) fun σ a w F E H K Q us hR hd h hK => by
    unfold rBuildS at h
    split at h
    · rename_i es hb hes
      split at h
      · rename_i hlen
        obtain rfl := Option.some.inj h
        have hel := allCells_len hes
        rw [List.length_map] at hel
        obtain ⟨z, hz1, hz2⟩ := run_zero hz w
        -- the cells that a literal begins with
        obtain ⟨c0, hc0, hc1, hc2⟩ : ∃ c0 : Array Value, c0.size = n * sz ∧ (∀ u ∈ c0.toList, u.oneCell' = true) ∧ c0 = (Array.range (n * sz)).map (fun q => (if n * sz = 0 then #[] else z.cells)[q % (if n * sz = 0 then #[] else z.cells).size]!) := by
          refine ⟨_, by simp, fun u hu => ?_, rfl⟩
          simp only [Array.toList_map, Array.toList_range, List.mem_map, List.mem_range] at hu
          obtain ⟨q, hq, rfl⟩ := hu
          rw [if_neg (by omega)]
          have hzs : z.cells.size = sz := by rw [← hzl, ← hz2]; simp
          have hsp : 0 < sz := by
            rcases Nat.eq_zero_or_pos sz with h0 | h0
            · subst h0; omega
            · exact h0
          have hqs : q % z.cells.size < z.cells.size := Nat.mod_lt _ (by omega)
          have hx : z.cells[q % z.cells.size]! = z.cells[q % z.cells.size] := by simp [hqs]
          rw [hx]
          exact List.all_eq_true.1 h1 _ (by rw [← hz2]; simp)
        have hfa := fillA_dense (σ := σ) (ps.map (·.2)) 0 es (List.replicate (n * sz) .any) hes hlen (by simp [hn])
        have hpw0 : Pw (CellOk w F E H) (List.replicate (n * sz) A.any) c0.toList := ⟨by simp [hc0], fun j a v ha hv => by
          have : a = .any := (List.mem_replicate.1 (List.mem_of_getElem? ha)).2
          rw [this]
          exact ⟨hc1 v (List.mem_of_getElem? hv), .any _⟩⟩
        have hpd : Pw (fun (p : Nat × A) (q : Nat × Value) => p.1 = q.1 ∧ Den w F E H p.2 q.2) (((ps.map (·.2)).zipIdx 0).map fun x => (x.2, aev σ x.1)) (ps.map fun p => (p.1, a.eval p.2)) := by
          have := partsA_den hR ps
          have e : partsA σ ps = ((ps.map (·.2)).zipIdx 0).map fun x => (x.2, aev σ x.1) := by
            unfold partsA
            conv => lhs; rw [hps]
            simp [List.map_map, Function.comp_def]
          rwa [e] at this
        obtain ⟨vs, e1, e2⟩ := fill_den _ _ _ c0 _ hpw0 hpd hfa
        have hsimp : (List.replicate (n * sz) A.any).take (0 * sz) ++ es.flatten ++ (List.replicate (n * sz) A.any).drop ((0 + (ps.map (·.2)).length) * sz) = es.flatten := by
          simp [hn]
        rw [hsimp] at e2
        have hfl := flatten_len hlen
        have hvs : vs.size = n * sz := by have := e2.1; simp only [Array.length_toList] at this; rw [← this, hfl, hel, hn]
        have hrun : (execOp a.eval ⟨some d, .buildSlice t n ps.toArray, ty, pos, af, none⟩).run P w = .ok (.value (.slice (some ⟨w.heap.size, 0, none⟩) n n)) (w.alloc (.cells vs e)) := by
          have hpa : (ps.toArray.map fun (i, x) => (i, a.eval x)).toList = ps.map fun p => (p.1, a.eval p.2) := by simp
          rw [hc2, ← hpa] at e1
          simp only [execOp, Sem.run_bind, run_buildS hu ht hz1 hs e1, Result.andThen_ok, Sem.run_pure]
        unfold Oper.wp
        rw [hrun, Oper.upon_value]
        have hfr := hR.env.box i
        rw [hb] at hfr
        have hset := hR.setown (i := i) (k := 0) (sz := sz) (e := e) (es := es) (v := .slice (some ⟨w.heap.size, 0, none⟩) n n) (xs := vs.toList) (w' := w.alloc (.cells vs e)) (fun b hbk => by rw [hb] at hbk; cases hbk) (fun q _ => hfr.2 q) (World.grownBy_alloc w _ _)
          (by
            have := World.ownsRow_lit (base := 0) (e := e) (size := sz) w vs n (Nat.zero_le _) (by unfold maxLen; omega) hvs
            rw [hel, ← hn]
            exact this) hlen e2 (.inr (.inr rfl))
        refine hK _ _ ?_
        exact (RelE.put (d := d) (r := .own i 0) hset hd (.own i 0 _ (upd2_same _ _ _ _) rfl)).r
      · cases h
    · cases h
theorem Wk.lst {t e : TypeId} {n : Nat} {ps : List (Nat × Operand)} (i sz : Nat) (row : Bool) (zs : List Value) {es : List (List A)} (hu : P.underlying t = some (.slice e)) (ht : tyOf P e = some (sz, row)) (hz : zeroOf P e = some zs) (h1 : zs.all (·.oneCell') = true) (hzl : zs.length = sz)
    (hps : ps = ((ps.map (·.2)).zipIdx.map fun x => (x.2, x.1))) (hn : n = ps.length) (hs : n * sz ≤ 16777216) (hn2 : n ≤ 16777216) (hb : σ.b i = .fresh) (hes : allCells σ (ps.map (·.2)) = some es) (hlen : ∀ c ∈ es, c.length = sz) (hd : d < σ.n)
    (h : Wk P C ops os cs ((σ.put (T d) (.a (.own i 0))).put (B i) (.b (.own 0 e sz es))) K) :
    Wk P C ops (⟨some d, .buildSlice t n ps.toArray, ty, pos, af, none⟩ :: os) (⟨(ps.map (·.2)).flatMap kof ++ [B i], [T d, B i], behs (rBuildS i e sz (ps.map (·.2))) d⟩ :: cs) σ K :=
  Wk.turn (ok_buildS i hu ht hz h1 hzl hps hn hs hn2) [.a (.own i 0), .b (.own 0 e sz es)] hd (by simp only [rBuildS, hb, hes]; rw [if_pos hlen]) h

/-! append -/
/-- The list that is appended to: nothing yet, or the call's own. -/
def dest (σ : St) (s : Operand) (i : Nat) : Option (Nat × List (List A)) :=
  match aev σ s, σ.b i with
  | .d (.v (.slice none 0 0)), .fresh => some (0, [])
  | .own i' k', .own k _ _ es => if i' = i ∧ k' = k then some (k + 1, es) else none
  | _, _ => none
/-- What is appended: a list that nobody turns, or the call's own. -/
def srcA (σ : St) (x : Operand) (j : Nat) : Option (List (List A)) :=
  match asRow (aev σ x) with
  | some ds => some (ds.map (·.map A.d))
  | none => match aev σ x, σ.b j with
    | .own j' k', .own k _ _ es => if j' = j ∧ k' = k then some es else none
    | _, _ => none
def sameRow (i : Nat) (e : TypeId) (sz : Nat) (σ : St) : Bool := match σ.b i with | .own _ e' sz' _ => e' == e && sz' == sz | _ => true
def rAppend (s x : Operand) (i j : Nat) (e : TypeId) (sz : Nat) (σ : St) : Option (List V) :=
  match dest σ s i, srcA σ x j with
  | some (k, es), some fs => if sameRow i e sz σ = true ∧ sameRow j e sz σ = true ∧ i ≠ j ∧ (∀ c ∈ fs, c.length = sz) ∧ (∀ c ∈ es, c.length = sz) ∧ es.length + fs.length ≤ 1000000 then some [.a (.own i k), .b (.own k e sz (es ++ fs))] else none
  | _, _ => none

theorem srcA_cells {a : Act} {w : World} {F : Nat → Prop} {E : Nat → Option Nat} {H : Nat → Nat → Option Value} {x : Operand} {i j : Nat} {e : TypeId} {sz : Nat} {fs : List (List A)} (hR : RelE C σ a w F E H) (h : srcA σ x j = some fs) (hz : ∀ c ∈ fs, c.length = sz) (hs : sameRow j e sz σ = true) (_hij : i ≠ j) :
    (fs = [] ∧ a.eval x = .slice none 0 0) ∨ ∃ (ad : Addr) (c : Nat) (news : List Value), a.eval x = .slice (some ad) fs.length c ∧ news.length = fs.length * sz ∧ (∀ q u, news[q]? = some u → w.cell? (ad.add q) = some u) ∧ Pw (CellOk w F E H) fs.flatten news := by
  unfold srcA at h
  split at h
  · rename_i ds hds
    obtain rfl := Option.some.inj h
    have hrow := den_asRow hds (hR.ev x)
    have hz' : ∀ e ∈ ds, e.length = sz := fun e he => by
      have := hz (e.map A.d) (List.mem_map.2 ⟨e, he, rfl⟩)
      simpa using this
    rcases row_cells (H := H) (E := E) hrow hz' with ⟨h1, h2⟩ | ⟨ad, c, news, h1, h2, h3, h4⟩
    · exact .inl ⟨by simp [h1], h2⟩
    · exact .inr ⟨ad, c, news, by simpa using h1, by simpa using h2, h3, h4⟩
  · split at h
    · rename_i j' k' k e' sz' es he hb
      split at h
      · rename_i hc
        obtain ⟨rfl, rfl⟩ := hc
        obtain rfl := Option.some.inj h
        have hbox := hR.env.box j'
        rw [hb] at hbox
        obtain ⟨v, xs, hv, _, ho, hzz, hp⟩ := hbox
        have hd := hR.ev x
        rw [he] at hd
        have hx : a.eval x = v := by
          have := den_own hd
          rw [hv] at this
          exact (Option.some.inj this).symm
        have hsz : sz' = sz := by simp only [sameRow, hb, Bool.and_eq_true, beq_iff_eq] at hs; exact hs.2
        subst hsz
        rcases ho.2 with ⟨h1, h2⟩ | ⟨g, cap, cur, h1, _⟩
        · exact .inl ⟨List.length_eq_zero_iff.1 h2, by rw [hx, h1]⟩
        · refine .inr ⟨⟨g, 0, none⟩, cap, xs, by rw [hx, h1], ho.1, fun q u hq => ?_, hp⟩
          exact ho.cells (g := g) (by rw [h1]; rfl) q u hq
      · cases h
    · cases h

theorem ok_append {t e : TypeId} {s x : Operand} {sz : Nat} {ti : TypeInfo} {z : Value} (i j : Nat) (hu : P.underlying t = some (.slice e)) (hi : P.info? e = some ti) (hz : ti.zero = some z) (hsz : ti.size = sz) (hzs : z.cells.size = sz) (hpos : 0 < sz) (hby : ti.bytes ≤ 100000000) :
    OpOk P C ops ⟨some d, .call { callee := .builtin .append, args := #[s, x], argTypes := #[t, t] }, ty, pos, af, none⟩ ⟨kof s ++ (kof x ++ [B i, B j]), [T d, B i], behs (rAppend s x i j e sz) d⟩ :=
  OpOk.turn rfl (by simp [dstIn]) (fun σ => by
    have e1 : aev (σ.mask (kof s ++ (kof x ++ [B i, B j]))) s = aev σ s := aev_mask fun k h => List.mem_append_left _ h
    have e2 : aev (σ.mask (kof s ++ (kof x ++ [B i, B j]))) x = aev σ x := aev_mask fun k h => List.mem_append_right _ (List.mem_append_left _ h)
    have e3 : (σ.mask (kof s ++ (kof x ++ [B i, B j]))).b i = σ.b i := bx_mask (by simp)
    have e4 : (σ.mask (kof s ++ (kof x ++ [B i, B j]))).b j = σ.b j := bx_mask (by simp)
    unfold rAppend dest srcA sameRow
    rw [e1, e2, e3, e4]) fun σ a w F E H K Q us hR hd h hK => by
    unfold rAppend at h
    split at h
    · rename_i k es fs hdst hsrc
      split at h
      · rename_i hc
        obtain ⟨hsi, hsj, hij, hfz, hez, hlen⟩ := hc
        obtain rfl := Option.some.inj h
        -- what is appended to
        obtain ⟨v, xs, hv, hown, hpx, hH, hbk⟩ : ∃ v xs, a.eval s = v ∧ w.ownsRow 0 e sz v es.length xs ∧ Pw (CellOk w F E H) es.flatten xs ∧ (∀ q, k ≤ q → H i q = none) ∧ v.ownBlock = blk E H i (σ.b i) := by
          unfold dest at hdst
          split at hdst
          · rename_i he hb
            simp only [Option.some.injEq, Prod.mk.injEq] at hdst
            obtain ⟨rfl, rfl⟩ := hdst
            have hds := hR.ev s
            rw [he] at hds
            have hbox := hR.env.box i
            rw [hb] at hbox
            exact ⟨_, [], den_v hds, World.ownsRow_nil w 0 e sz, Pw.nil, fun q _ => hbox.2 q, by rw [hb]; rfl⟩
          · rename_i i' k' k0 e' sz' es' he hb
            split at hdst
            · rename_i hc
              obtain ⟨rfl, rfl⟩ := hc
              simp only [Option.some.injEq, Prod.mk.injEq] at hdst
              obtain ⟨rfl, rfl⟩ := hdst
              have hbox := hR.env.box i'
              rw [hb] at hbox
              obtain ⟨v, xs, hv, hk, ho, hzz, hp⟩ := hbox
              have hds := hR.ev s
              rw [he] at hds
              have hx : a.eval s = v := by
                have := den_own hds
                rw [hv] at this
                exact (Option.some.inj this).symm
              simp only [sameRow, hb, Bool.and_eq_true, beq_iff_eq] at hsi
              obtain ⟨rfl, rfl⟩ := hsi
              exact ⟨v, xs, hx, ho, hp, fun q hq => hk q (by omega), by rw [hb]; simp only [blk, hv, Option.bind_some]⟩
            · cases hdst
          · cases hdst
        have hall : ∀ c ∈ es ++ fs, c.length = sz := fun c hc => by
          rcases List.mem_append.1 hc with h | h
          · exact hez c h
          · exact hfz c h
        have fin : ∀ v' w' news, (Builtin.append_ #[t, t] ty #[a.eval s, a.eval x]).run P w = .ok v' w' → w'.ownsRow 0 e sz v' (es.length + fs.length) (xs ++ news) → w.grownBy w' v.ownBlock → (v'.ownBlock = v.ownBlock ∨ v'.ownBlock = some w.heap.size) → v'.oneCell' = true → Pw (CellOk w F E H) fs.flatten news →
            Oper.wp P ⟨some d, .call { callee := .builtin .append, args := #[s, x], argTypes := #[t, t] }, ty, pos, af, none⟩ a w K Q := by
          intro v' w' news hrun ho hg hat h1 hpn
          have hset := hR.setown (i := i) (k := k) (sz := sz) (e := e) (es := es ++ fs) (v := v') (xs := xs ++ news) (w' := w') (fun b hb => (hR.env.box i).lt hb) hH (by rw [← hbk]; exact hg) (by rw [List.length_append]; exact ho) hall (by rw [List.flatten_append]; exact hpx.append hpn)
            (by rcases hat with h | h
                · exact .inr (.inl (by rw [h, hbk]))
                · exact .inr (.inr h))
          unfold Oper.wp
          have hex : (execOp a.eval ⟨some d, .call { callee := .builtin .append, args := #[s, x], argTypes := #[t, t] }, ty, pos, af, none⟩).run P w = .ok (.value v') w' := by
            simp only [execOp, resolve, invoke, builtin, Sem.run_bind, Sem.run_pure, Result.andThen_ok, List.map_toArray, List.map_cons, List.map_nil, hrun]
          rw [hex, Oper.upon_value]
          refine hK _ _ ?_
          exact (RelE.put (d := d) (r := .own i k) hset hd (.own i k _ (upd2_same _ _ _ _) h1)).r
        rcases srcA_cells (i := i) hR hsrc hfz hsj hij with ⟨h1, h2⟩ | ⟨ad, c, news, h1, h2, h3, h4⟩
        · subst h1
          have hr := run_append_owned_none (P := P) (w := w) 0 t ty e ti sz hu hi v es.length xs hown
          refine fin v w [] (by rw [hv, h2]; exact hr) (by simpa using hown) ⟨rfl, rfl, rfl, Nat.le_refl _, fun _ _ _ => rfl⟩ (.inl rfl) ?_ Pw.nil
          rcases hown.2 with ⟨h, _⟩ | ⟨g, cap, cur, h, _⟩ <;> rw [h] <;> rfl
        · obtain ⟨v', w', hr, ho, hg, _, hat⟩ := run_append_own_at (P := P) w 0 t ty e ti z sz ti.bytes hu hi hz hsz rfl hzs hpos v es.length xs hown ad fs.length c news h2 h3 (h4.all fun _ _ h => h.1) (by unfold maxLen; omega)
            (by
              have h5 : (es.length + fs.length) * ti.bytes ≤ 1000000 * 100000000 := Nat.mul_le_mul hlen hby
              omega) (Nat.zero_le _)
          refine fin v' w' news (by rw [hv, h1]; exact hr) ho hg hat ?_ h4
          rcases ho.2 with ⟨h, _⟩ | ⟨g, cap, cur, h, _⟩ <;> rw [h] <;> rfl
      · cases h
    · cases h
/-- A type of which lists may grow. -/
def appOf (P : Program) (e : TypeId) (sz : Nat) : Bool := match P.info? e with
  | some i => (match i.zero with | some z => z.cells.size == sz | none => false) && i.size == sz && decide (0 < sz) && decide (i.bytes ≤ 100000000)
  | none => false
theorem ok_app {t e : TypeId} {s x : Operand} {sz : Nat} (i j : Nat) (hu : P.underlying t = some (.slice e)) (ha : appOf P e sz = true) :
    OpOk P C ops ⟨some d, .call { callee := .builtin .append, args := #[s, x], argTypes := #[t, t] }, ty, pos, af, none⟩ ⟨kof s ++ (kof x ++ [B i, B j]), [T d, B i], behs (rAppend s x i j e sz) d⟩ := by
  unfold appOf at ha
  split at ha
  · rename_i ti hi
    simp only [Bool.and_eq_true, beq_iff_eq, decide_eq_true_eq] at ha
    obtain ⟨⟨⟨h1, h2⟩, h3⟩, h4⟩ := ha
    split at h1
    · rename_i z hz
      exact ok_append i j hu hi hz h2 (by simpa using h1) h3 h4
    · cases h1
  · cases ha
theorem all_len {α : Type} {es : List (List α)} {sz : Nat} (h : es.all (fun c => c.length == sz) = true) : ∀ c ∈ es, c.length = sz := fun c hc => by simpa using List.all_eq_true.1 h c hc
theorem Wk.app {t e : TypeId} {s x : Operand} (i j sz : Nat) (hu : P.underlying t = some (.slice e)) (ha : appOf P e sz = true)
    {k : Nat} {es fs : List (List A)} (hdst : dest σ s i = some (k, es)) (hsrc : srcA σ x j = some fs) (hc : sameRow i e sz σ = true ∧ sameRow j e sz σ = true ∧ i ≠ j ∧ (∀ c ∈ fs, c.length = sz) ∧ (∀ c ∈ es, c.length = sz) ∧ es.length + fs.length ≤ 1000000) (hd : d < σ.n)
    (h : Wk P C ops os cs ((σ.put (T d) (.a (.own i k))).put (B i) (.b (.own k e sz (es ++ fs)))) K) :
    Wk P C ops (⟨some d, .call { callee := .builtin .append, args := #[s, x], argTypes := #[t, t] }, ty, pos, af, none⟩ :: os) (⟨kof s ++ (kof x ++ [B i, B j]), [T d, B i], behs (rAppend s x i j e sz) d⟩ :: cs) σ K :=
  Wk.turn (ok_app i j hu ha) [.a (.own i k), .b (.own k e sz (es ++ fs))] hd (by simp only [rAppend, hdst, hsrc]; rw [if_pos hc]) h
section
variable {t e : TypeId} {s x : Operand}
theorem Wk.appOO (i j sz : Nat) (hu : P.underlying t = some (.slice e)) (ha : appOf P e sz = true) {k q : Nat} {es fs : List (List A)} (hs : aev σ s = .own i k) (hb : σ.b i = .own k e sz es) (hx : aev σ x = .own j q) (hbj : σ.b j = .own q e sz fs) (hij : i ≠ j)
    (hfz : ∀ c ∈ fs, c.length = sz) (hez : ∀ c ∈ es, c.length = sz) (hl : es.length + fs.length ≤ 1000000) (hd : d < σ.n) (h : Wk P C ops os cs ((σ.put (T d) (.a (.own i (k + 1)))).put (B i) (.b (.own (k + 1) e sz (es ++ fs)))) K) :
    Wk P C ops (⟨some d, .call { callee := .builtin .append, args := #[s, x], argTypes := #[t, t] }, ty, pos, af, none⟩ :: os) (⟨kof s ++ (kof x ++ [B i, B j]), [T d, B i], behs (rAppend s x i j e sz) d⟩ :: cs) σ K :=
  Wk.app i j sz hu ha (k := k + 1) (es := es) (fs := fs) (by simp only [dest, hs, hb]; rw [if_pos ⟨trivial, trivial⟩]) (by simp only [srcA, hx, asRow, hbj]; rw [if_pos ⟨trivial, trivial⟩])
    ⟨by simp [sameRow, hb], by simp [sameRow, hbj], hij, hfz, hez, hl⟩ hd h
theorem Wk.appOR (i j sz : Nat) (hu : P.underlying t = some (.slice e)) (ha : appOf P e sz = true) {k : Nat} {es : List (List A)} {ds : List (List D)} (hs : aev σ s = .own i k) (hb : σ.b i = .own k e sz es) (hx : asRow (aev σ x) = some ds) (hbj : σ.b j = .none ∨ σ.b j = .fresh) (hij : i ≠ j)
    (hfz : ∀ c ∈ ds, c.length = sz) (hez : ∀ c ∈ es, c.length = sz) (hl : es.length + ds.length ≤ 1000000) (hd : d < σ.n) (h : Wk P C ops os cs ((σ.put (T d) (.a (.own i (k + 1)))).put (B i) (.b (.own (k + 1) e sz (es ++ ds.map (·.map A.d))))) K) :
    Wk P C ops (⟨some d, .call { callee := .builtin .append, args := #[s, x], argTypes := #[t, t] }, ty, pos, af, none⟩ :: os) (⟨kof s ++ (kof x ++ [B i, B j]), [T d, B i], behs (rAppend s x i j e sz) d⟩ :: cs) σ K :=
  Wk.app i j sz hu ha (k := k + 1) (es := es) (fs := ds.map (·.map A.d)) (by simp only [dest, hs, hb]; rw [if_pos ⟨trivial, trivial⟩]) (by simp only [srcA, hx])
    ⟨by simp [sameRow, hb], by rcases hbj with h | h <;> simp [sameRow, h], hij, fun c hc => by obtain ⟨q, hq, rfl⟩ := List.mem_map.1 hc; simp [hfz q hq], hez, by simpa using hl⟩ hd h
theorem Wk.appNR (i j sz : Nat) (hu : P.underlying t = some (.slice e)) (ha : appOf P e sz = true) {ds : List (List D)} (hs : aev σ s = .d (.v (.slice none 0 0))) (hb : σ.b i = .fresh) (hx : asRow (aev σ x) = some ds) (hbj : σ.b j = .none ∨ σ.b j = .fresh) (hij : i ≠ j)
    (hfz : ∀ c ∈ ds, c.length = sz) (hl : ds.length ≤ 1000000) (hd : d < σ.n) (h : Wk P C ops os cs ((σ.put (T d) (.a (.own i 0))).put (B i) (.b (.own 0 e sz (ds.map (·.map A.d))))) K) :
    Wk P C ops (⟨some d, .call { callee := .builtin .append, args := #[s, x], argTypes := #[t, t] }, ty, pos, af, none⟩ :: os) (⟨kof s ++ (kof x ++ [B i, B j]), [T d, B i], behs (rAppend s x i j e sz) d⟩ :: cs) σ K :=
  Wk.app i j sz hu ha (k := 0) (es := []) (fs := ds.map (·.map A.d)) (by simp only [dest, hs, hb]) (by simp only [srcA, hx])
    ⟨by simp [sameRow, hb], by rcases hbj with h | h <;> simp [sameRow, h], hij, fun c hc => by obtain ⟨q, hq, rfl⟩ := List.mem_map.1 hc; simp [hfz q hq], (fun c hc => by cases hc), by simpa using hl⟩ hd (by simpa using h)
theorem Wk.appNO (i j sz : Nat) (hu : P.underlying t = some (.slice e)) (ha : appOf P e sz = true) {k : Nat} {fs : List (List A)} (hs : aev σ s = .d (.v (.slice none 0 0))) (hb : σ.b i = .fresh) (hx : aev σ x = .own j k) (hbj : σ.b j = .own k e sz fs) (hij : i ≠ j)
    (hfz : ∀ c ∈ fs, c.length = sz) (hl : fs.length ≤ 1000000) (hd : d < σ.n) (h : Wk P C ops os cs ((σ.put (T d) (.a (.own i 0))).put (B i) (.b (.own 0 e sz fs))) K) :
    Wk P C ops (⟨some d, .call { callee := .builtin .append, args := #[s, x], argTypes := #[t, t] }, ty, pos, af, none⟩ :: os) (⟨kof s ++ (kof x ++ [B i, B j]), [T d, B i], behs (rAppend s x i j e sz) d⟩ :: cs) σ K :=
  Wk.app i j sz hu ha (k := 0) (es := []) (fs := fs) (by simp only [dest, hs, hb]) (by simp only [srcA, hx, asRow, hbj]; rw [if_pos ⟨trivial, trivial⟩])
    ⟨by simp [sameRow, hb], by simp [sameRow, hbj], hij, hfz, (fun c hc => by cases hc), by simpa using hl⟩ hd (by simpa using h)
end
end
end Go.Proofs.Ytpdndapegiglcaa
