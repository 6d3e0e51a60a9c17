/- Laws and contracts that the proof stands on: AbsMk8, AbsPartOr1, AbsPartD, AbsL20Tx, AbsL20Ctx, LiParts, AbsLiCtx. -/
import Derived.Test.YtejafihfbncaoaaDoorMa
import Derived.Test.YtejafihfbncaoaaDoorMb
import Derived.Test.YtejafihfbncaoaaDoorMc
import Derived.Test.YtejafihfbncaoaaDoorMd
import Derived.Test.YtejafihfbncaoaaDoorMe
import Derived.Laws.OwnMore
/- Lists of zero bytes are made; the lesser of two numbers; over what values read as. -/
namespace Go.Proofs.YtejafihfbncaoaaDoor
open Go Go.RowKit
section
variable {C : Ctx} {ops : Array Oper} {os : List Oper} {cs : List Cert} {σ : St} {K : St → Prop} {d : Nat} {ty : TypeId} {pos : String} {af : Array Edge}
def zero8 (n : Nat) : List (List A) := List.replicate n [A.d (.v (.int .u8 0))]
def rMk8 (x : Operand) (i : Nat) (e : TypeId) (σ : St) : Option (List V) :=
  match aev σ x, σ.b i with
  | .d (.v (.int .i64 n)), .fresh => if 0 ≤ n ∧ n ≤ 1000 then some [.a (.own i 0), .b (.own 0 e 1 (zero8 n.toNat))] else none
  | _, _ => none
set_option maxRecDepth 100000 in
theorem ok_mk8 {x : Operand} (i : Nat) : OpOk Tryd.prog C ops ⟨some d, .makeSlice 22 x x, ty, pos, af, none⟩ ⟨kof x ++ [B i], [T d, B i], behs (rMk8 x i 5) d⟩ :=
  OpOk.turn rfl (by simp [dstIn]) (fun σ => by unfold rMk8; rw [aev_mask fun k hk => List.mem_append_left _ hk, bx_mask (by simp)]) fun σ a w F E H K Q us hR hd h hK => by
    unfold rMk8 at h
    split at h
    · rename_i n hx hb
      split at h
      · rename_i hn
        obtain rfl := Option.some.inj h
        obtain ⟨m, rfl⟩ := Int.eq_ofNat_of_zero_le hn.1
        have hm : m ≤ 1000 := by omega
        have hv : a.eval x = .int .i64 (m : Int) := by
          have := hR.ev x
          rw [hx] at this
          exact den_v this
        obtain ⟨i0, hi, hz0, hz1, hz2⟩ := info_parts Tryd.infoB
        obtain ⟨w', hr, ho, hg⟩ := run_makeSlice_full (P := Tryd.prog) w 0 22 5 i0 _ 1 Tryd.underlying22 hi hz0 hz1 .i64 .i64 m (by omega) (by rw [hz2]; omega) (by unfold maxLen; omega) (Nat.zero_le _)
        have hfr := hR.env.box i
        rw [hb] at hfr
        have hlen : (zero8 m).length = m := by simp [zero8]
        have hflat : (zero8 m).flatten = List.replicate m (A.d (.v (.int .u8 0))) := by
          simp only [zero8]
          clear hR hK h hb hx hv hr ho hn hm hfr hlen
          induction m with
          | zero => rfl
          | succ m ih => rw [List.replicate_succ, List.flatten_cons, ih, List.replicate_succ]; rfl
        have hset := hR.setown (i := i) (k := 0) (sz := 1) (e := 5) (es := zero8 m) (v := .slice (some ⟨w.heap.size, 0, none⟩) m m) (w' := w') (fun b hbk => by rw [hb] at hbk; cases hbk) (fun q _ => hfr.2 q) (by rw [hb]; exact hg)
          (by rw [hlen]; exact ho) (by intro c hc; rw [(List.mem_replicate.1 hc).2]; rfl) (by
            rw [hflat]
            have hl1 := ho.1
            refine ⟨by rw [List.length_replicate, hl1]; omega, fun j q u hq hu => ?_⟩
            obtain rfl := (List.mem_replicate.1 (List.mem_of_getElem? hq)).2
            have hu0 : u = .int .u8 0 := by
              simp only [madeCells, Array.toList_map, Array.toList_range, List.getElem?_map, Option.map_eq_some_iff] at hu
              obtain ⟨y, _, rfl⟩ := hu
              simp [Value.cells, Nat.mod_one]
            rw [hu0]
            exact ⟨rfl, .d _ _ (.v _)⟩) (.inr (.inr rfl))
        unfold Oper.wp
        have hrun : (execOp a.eval ⟨some d, .makeSlice 22 x x, ty, pos, af, none⟩).run Tryd.prog w = .ok (.value (.slice (some ⟨w.heap.size, 0, none⟩) m m)) w' := by simp only [execOp, Sem.run_bind, hv, hr, Result.andThen_ok, Sem.run_pure]
        rw [hrun, Oper.upon_value]
        refine hK _ _ ?_
        exact (RelE.put (d := d) (r := .own i 0) hset hd (.own i 0 _ (upd2_same _ _ _ _) rfl)).r
      · cases h
    · cases h
set_option maxRecDepth 100000 in
theorem Wk.mk8 {x : Operand} (i n : Nat) (hx : aev σ x = .d (.v (.int .i64 (n : Int)))) (hb : σ.b i = .fresh) (hn : n ≤ 1000) (hd : d < σ.n) (h : Wk Tryd.prog C ops os cs ((σ.put (T d) (.a (.own i 0))).put (B i) (.b (.own 0 5 1 (zero8 n)))) K) :
    Wk Tryd.prog C ops (⟨some d, .makeSlice 22 x x, ty, pos, af, none⟩ :: os) (⟨kof x ++ [B i], [T d, B i], behs (rMk8 x i 5) d⟩ :: cs) σ K :=
  Wk.turn (ok_mk8 i) [.a (.own i 0), .b (.own 0 5 1 (zero8 n))] hd (by simp only [rMk8, hx, hb]; rw [if_pos ⟨by omega, by omega⟩]; simp) h
set_option maxRecDepth 100000 in
theorem asData_zero8 (n : Nat) : asData (zero8 n) ((List.replicate n (0 : Fin 256)).map (fun z => z.val) |>.map fun z : Nat => [D.v (.int .u8 (z : Int))]) := by
  simp [asData, zero8, nrms, nrm]
variable {P : Program}
def rMin (x y : Operand) (σ : St) : Option A := (sc (aev σ x)).bind fun u => (sc (aev σ y)).bind fun v => match u, v with | .int k a, .int _ b => some (.d (.v (.int k (if b < a then b else a)))) | _, _ => none
set_option maxRecDepth 100000 in
theorem ok_min (x y : Operand) {at_ : Array TypeId} : OpOk P C ops ⟨some d, .call { callee := .builtin .min, args := #[x, y], argTypes := at_ }, ty, pos, af, none⟩ ⟨kof x ++ kof y, [T d], beh1 (rMin x y) d⟩ :=
  OpOk.read rfl rfl (fun σ => by unfold rMin; rw [aev_mask (fun k h => List.mem_append_left _ h), aev_mask (fun k h => List.mem_append_right _ h)]) fun σ a w F E H r hR h => by
    simp only [rMin, Option.bind_eq_some_iff] at h
    obtain ⟨u, hu, v, hv, h⟩ := h
    have e1 := den_sc hu (hR.ev x)
    have e2 := den_sc hv (hR.ev y)
    split at h
    · obtain rfl := Option.some.inj h
      refine ⟨_, ?_, .d _ _ (.v _)⟩
      simp [execOp, resolve, invoke, builtin, e1, e2, Builtin.min_, Builtin.min2]
    · cases h
set_option maxRecDepth 100000 in
theorem Wk.min2 {x y : Operand} {at_ : Array TypeId} {k k' : IntKind} {u v r : Int} (hx : aev σ x = .d (.v (.int k u))) (hy : aev σ y = .d (.v (.int k' v))) (hr : (if v < u then v else u) = r) (hd : d < σ.n)
    (h : Wk P C ops os cs (σ.put (T d) (.a (.d (.v (.int k r))))) K) : Wk P C ops (⟨some d, .call { callee := .builtin .min, args := #[x, y], argTypes := at_ }, ty, pos, af, none⟩ :: os) (⟨kof x ++ kof y, [T d], beh1 (rMin x y) d⟩ :: cs) σ K :=
  Wk.read (ok_min x y) _ hd (by simp only [rMin, hx, hy, sc, Option.bind_some, hr]) h
end
end Go.Proofs.YtejafihfbncaoaaDoor

/- A piece, drawn, perhaps with something wrong; over what values read as. -/
namespace Go.Proofs.YtejafihfbncaoaaDoor
open Go Go.RowKit
def partPost (_ : List A) (r : A) : Prop := ∃ (sg ln : Int) (bs : List (Fin 256)), r = partA3 sg ln bs ∧ (-1 ≤ sg ∧ sg ≤ 4) ∧ (-1 ≤ ln ∧ ln ≤ 40) ∧ bs.length ≤ 16
set_option maxHeartbeats 4000000 in
set_option maxRecDepth 100000 in
theorem partOr_ok : DrawOk Tryd.prog 73 (fun rest => ∃ n : Int, rest = [.d (.v (.int .i64 n))] ∧ n ≤ 1000000 ∧ -1000000 ≤ n) partPost 3010 := by
 refine DrawOk.zero ?_ ?_ ?_ ?_
 · rintro zs p rest ⟨n, rfl, hn, hn'⟩ hp
   refine Spec.intro (n := 35) (rv := [.cell 4 41]) Tryd.func73 rfl rfl rfl (by simp) fun C hN hX => ?_
   let inv : List (Fin 256) × Nat × Int × Int × Nat × List (Fin 256) → St := fun x => St.of 35 [(0, .ptr 0 0), (4, .ptr 4 0), (5, .ptr 5 0)] [(0, rdr x.1 x.2.1), (4, .var [.d (.v (.int .i64 0)), .d (.v (.int .i64 0)), .d (.v (.slice none 0 0))]), (5, .var (partOA x.2.2.1 x.2.2.2.1 x.2.2.2.2.1)), (7, ownB x.2.2.2.2.1 x.2.2.2.2.2)]
   have fin : ∀ (zs : List (Fin 256)) (p : Nat) (sg ln : Int) (q : Nat) (bs : List (Fin 256)) (σ : St), σ.n = 35 → σ.t 0 = .ptr 0 0 → σ.t 4 = .ptr 4 0 → σ.t 5 = .ptr 5 0 → σ.b 0 = rdr zs p → σ.b 4 = .var [.d (.v (.int .i64 0)), .d (.v (.int .i64 0)), .d (.v (.slice none 0 0))] → σ.b 5 = .var (partOA sg ln q) → σ.b 7 = ownB q bs →
       ∀ a w, Rel C σ a w → Rel C (inv (zs, p, sg, ln, q, bs)) a w := fun zs p sg ln q bs σ h0 h1 h2 h3 h4 h5 h6 h7 a w => Rel.keep ⟨h0.symm, .cons h1 rfl (.cons h2 rfl (.cons h3 rfl .nil)), .cons h4 rfl (.cons h5 rfl (.cons h6 rfl (.cons h7 ownB_in .nil))), hN.mono (by simp [keys])⟩
   refine AW.seq ?_
   apply AW.list
   apply Wk.alc 4 [.int .i64 0, .int .i64 0, .slice none 0 0] ze41 rfl rfl (lt_of_ble rfl)
   refine Wk.nil ?_
   refine AW.seq ?_
   apply AW.list
   apply Wk.mv (by conv => lhs; whnf) (lt_of_ble rfl)
   apply Wk.drx [7] partO_ok Tryd.func60 rfl rfl rfl rfl rfl (by omega) rfl (by simp; rfl) (lt_of_ble rfl)
   rintro r2 zs2 p2 ex ⟨sg, ln, q, bs, rfl, rfl, hs1, hs2, hl1, hl2, hbl⟩ hp2
   apply Wk.alc 5 [.int .i64 0, .int .i64 0, .slice none 0 0] ze41 rfl rfl (lt_of_ble rfl)
   apply Wk.sto (i := 5) 3 true ty41 rfl rfl rfl rfl (Nat.le_of_ble_eq_true rfl) (lt_of_ble rfl)
   refine Wk.nil ?_
   refine AW.via inv (fun x => x.2.1 ≤ p + 3010 ∧ (-1 ≤ x.2.2.1 ∧ x.2.2.1 ≤ 4) ∧ (-1 ≤ x.2.2.2.1 ∧ x.2.2.2.1 ≤ 40) ∧ x.2.2.2.2.2.length ≤ 16) ?_ ?_
   · refine AW.seq ?_
     apply AW.list
     apply Wk.mv (by conv => lhs; whnf) (lt_of_ble rfl)
     apply Wk.mv (by conv => lhs; whnf) (lt_of_ble rfl)
     apply Wk.drw 0 odd_ok Tryd.func61 rfl rfl rfl rfl ⟨_, rfl, by omega⟩ (by omega) rfl (lt_of_ble rfl)
     rintro r3 zs3 p3 ⟨b3, rfl, _⟩ hp3
     refine Wk.nil ?_
     refine AW.cond rfl (fun hc => ?_) (fun hc => AW.skip (thenA_normal ?_))
     · refine AW.seq ?_
       apply AW.list
       apply Wk.mv (by conv => lhs; whnf) (lt_of_ble rfl)
       apply Wk.drw 0 pick_ok Tryd.func52 rfl rfl rfl rfl ⟨_, rfl, by omega⟩ (by omega) rfl (lt_of_ble rfl)
       rintro r4 zs4 p4 ⟨k4, rfl, hk4⟩ hp4
       refine Wk.nil (AW.block ?_)
       refine AW.seq ?_
       apply AW.list
       apply Wk.bin rfl rfl (fun w => by simp [go_sem] <;> rfl) (lt_of_ble rfl)
       apply Wk.asg (by conv => lhs; whnf) (lt_of_ble rfl)
       refine Wk.nil ?_
       refine AW.cond rfl (fun hc => ?_) (fun hc => ?_)
       · apply AW.list
         apply Wk.lst 20 1 false [.int .i64 0] un89 ty3 ze3 rfl rfl (by rfl) (by rfl) (by decide) (by decide) rfl rfl (all_len rfl) (lt_of_ble rfl)
         apply Wk.mv (by conv => lhs; whnf) (lt_of_ble rfl)
         apply Wk.drw 0 pick_ok Tryd.func52 rfl rfl rfl rfl ⟨_, rfl, by omega⟩ (by omega) rfl (lt_of_ble rfl)
         rintro r9 zs9 p9 ⟨k9, rfl, hk9⟩ hp9
         have hk9' : k9 < 3 := by have := hk9 3 rfl; omega
         obtain ⟨v, hv, hv1, hv2⟩ : ∃ v : Int, partA (List.flatten [[A.d (.v (.int .i64 (-1)))], [.d (.v (.int .i64 4))], [.d (.v (.int .i64 1))]]) (k9 * 1) 1 false = some (.d (.v (.int .i64 v))) ∧ -1 ≤ v ∧ v ≤ 4 := by
           rcases (show k9 = 0 ∨ k9 = 1 ∨ k9 = 2 by omega) with rfl | rfl | rfl
           · exact ⟨_, rfl, by omega, by omega⟩
           · exact ⟨_, rfl, by omega, by omega⟩
           · exact ⟨_, rfl, by omega, by omega⟩
         apply Wk.iado 20 1 false un89 ty3 rfl rfl rfl hk9' (lt_of_ble rfl)
         apply Wk.ldo (i := 20) 1 false ty3 rfl rfl hv (lt_of_ble rfl)
         apply Wk.fad 0 0 false fd41_0 rfl (lt_of_ble rfl)
         apply Wk.sto (i := 5) 1 false ty3 rfl rfl rfl rfl (Nat.le_of_ble_eq_true rfl) (lt_of_ble rfl)
         refine Wk.nil (inBlockA_normal (thenA_normal ?_))
         exact ⟨(zs9, p9, v, ln, q, bs), ⟨by simp only; omega, ⟨by simp only; omega, by simp only; omega⟩, ⟨by simp only; omega, by simp only; omega⟩, by simp only; omega⟩, fin _ _ _ _ _ _ _ rfl rfl rfl rfl rfl rfl rfl rfl⟩
       · refine AW.seq ?_
         apply AW.list
         apply Wk.bin rfl rfl (fun w => by simp [go_sem] <;> rfl) (lt_of_ble rfl)
         apply Wk.asg (by conv => lhs; whnf) (lt_of_ble rfl)
         refine Wk.nil ?_
         refine AW.cond rfl (fun hc => ?_) (fun hc => ?_)
         · apply AW.list
           apply Wk.lst 28 1 false [.int .i64 0] un89 ty3 ze3 rfl rfl (by rfl) (by rfl) (by decide) (by decide) rfl rfl (all_len rfl) (lt_of_ble rfl)
           apply Wk.mv (by conv => lhs; whnf) (lt_of_ble rfl)
           apply Wk.drw 0 pick_ok Tryd.func52 rfl rfl rfl rfl ⟨_, rfl, by omega⟩ (by omega) rfl (lt_of_ble rfl)
           rintro r9 zs9 p9 ⟨k9, rfl, hk9⟩ hp9
           have hk9' : k9 < 3 := by have := hk9 3 rfl; omega
           obtain ⟨v, hv, hv1, hv2⟩ : ∃ v : Int, partA (List.flatten [[A.d (.v (.int .i64 (-1)))], [.d (.v (.int .i64 25))], [.d (.v (.int .i64 3))]]) (k9 * 1) 1 false = some (.d (.v (.int .i64 v))) ∧ -1 ≤ v ∧ v ≤ 40 := by
             rcases (show k9 = 0 ∨ k9 = 1 ∨ k9 = 2 by omega) with rfl | rfl | rfl
             · exact ⟨_, rfl, by omega, by omega⟩
             · exact ⟨_, rfl, by omega, by omega⟩
             · exact ⟨_, rfl, by omega, by omega⟩
           apply Wk.iado 28 1 false un89 ty3 rfl rfl rfl hk9' (lt_of_ble rfl)
           apply Wk.ldo (i := 28) 1 false ty3 rfl rfl hv (lt_of_ble rfl)
           apply Wk.fad 1 0 false fd41_1 rfl (lt_of_ble rfl)
           apply Wk.sto (i := 5) 1 false ty3 rfl rfl rfl rfl (Nat.le_of_ble_eq_true rfl) (lt_of_ble rfl)
           refine Wk.nil (inBlockA_normal (thenA_normal ?_))
           exact ⟨(zs9, p9, sg, v, q, bs), ⟨by simp only; omega, ⟨by simp only; omega, by simp only; omega⟩, ⟨by simp only; omega, by simp only; omega⟩, by simp only; omega⟩, fin _ _ _ _ _ _ _ rfl rfl rfl rfl rfl rfl rfl rfl⟩
         · apply AW.list
           apply Wk.fad 2 0 false fd41_2 rfl (lt_of_ble rfl)
           apply Wk.ld (i := 5) 1 false ty22 rfl rfl (by conv => lhs; whnf) (lt_of_ble rfl)
           apply Wk.lst 15 1 false [.int .u8 0] un22 ty5 ze5 rfl rfl (by rfl) (by rfl) (by decide) (by decide) rfl rfl (all_len rfl) (lt_of_ble rfl)
           apply Wk.appOO 7 15 1 un22 ap5 rfl rfl rfl rfl (by decide) (all_len rfl) (one_cellsB bs) (by simp [cellsB]; omega) (lt_of_ble rfl)
           apply Wk.fad 2 0 false fd41_2 rfl (lt_of_ble rfl)
           apply Wk.sto (i := 5) 1 false ty22 rfl rfl rfl rfl (Nat.le_of_ble_eq_true rfl) (lt_of_ble rfl)
           refine Wk.nil (inBlockA_normal (thenA_normal ?_))
           have e9 : cellsB (bs ++ [1, 2, 3, 4, 5, 6, 7, 8]) = cellsB bs ++ cellsB [1, 2, 3, 4, 5, 6, 7, 8] := by simp [cellsB]
           exact ⟨(zs4, p4, sg, ln, q + 1, bs ++ [1, 2, 3, 4, 5, 6, 7, 8]), ⟨by simp only; omega, ⟨by simp only; omega, by simp only; omega⟩, ⟨by simp only; omega, by simp only; omega⟩, by simp; omega⟩, fin _ _ _ _ _ _ _ rfl rfl rfl rfl rfl rfl rfl (by unfold ownB; rw [e9]; rfl)⟩
     · exact ⟨(zs3, p3, sg, ln, q, bs), ⟨by simp only; omega, ⟨by simp only; omega, by simp only; omega⟩, ⟨by simp only; omega, by simp only; omega⟩, by simp only; omega⟩, fin _ _ _ _ _ _ _ rfl rfl rfl rfl rfl rfl rfl rfl⟩
   · rintro ⟨zs6, p6, s6, l6, q6, bs6⟩ ⟨hp6, hs6, hl6, hb6⟩
     simp only at hp6 hs6 hl6 hb6
     show AW Tryd.prog C _ _ (St.of 35 [(0, .ptr 0 0), (4, .ptr 4 0), (5, .ptr 5 0)] [(0, rdr zs6 p6), (4, .var [.d (.v (.int .i64 0)), .d (.v (.int .i64 0)), .d (.v (.slice none 0 0))]), (5, .var (partOA s6 l6 q6)), (7, ownB q6 bs6)])
     refine AW.thawc (j := 5) (c := 2) (i := 7) (cellsD bs6) rfl rfl (by rfl) (asData_cells bs6) (hX.one (by decide) rfl) ?_
     refine AW.seq ?_
     apply AW.list
     apply Wk.ld (i := 5) 3 true ty41 rfl rfl (by conv => lhs; whnf) (lt_of_ble rfl)
     apply Wk.sto (i := 4) 3 true ty41 rfl rfl rfl rfl (Nat.le_of_ble_eq_true rfl) (lt_of_ble rfl)
     refine Wk.nil (AW.ret ?_)
     exact RetQ.ret [(0, rdr zs6 p6)] (.cons ⟨4, 0, _, _, _, rfl, rfl, ty41, rfl⟩ .nil) ⟨⟨s6, l6, bs6, rfl, hs6, hl6, hb6⟩, _, _, rfl, hp6⟩ (kept1 rfl)
 · rintro rest ⟨n, rfl, _⟩; rfl
 · rintro rest _; exact ⟨_, 0, 0, [], rfl, by simp⟩
 · rintro rest r ⟨sg, ln, bs, rfl, _⟩; rfl
end Go.Proofs.YtejafihfbncaoaaDoor

/- A piece, drawn, as data. Out of AbsPart. -/
namespace Go.Proofs.YtejafihfbncaoaaDoor
open Go
set_option maxRecDepth 100000 in
theorem partD_ok : DrawOk Tryd.prog 60 (fun rest => rest = []) partPost 3003 := by
 refine DrawOk.zero ?_ ?_ ?_ ?_
 · rintro zs p rest rfl hp
   refine Spec.intro (n := 43) (rv := [.cell 2 41]) Tryd.func60 rfl rfl rfl (by simp) fun C hN hX => ?_
   refine AW.seq ?_
   apply AW.list
   apply Wk.alc 2 [.int .i64 0, .int .i64 0, .slice none 0 0] ze41 rfl rfl (lt_of_ble rfl)
   refine Wk.nil ?_
   refine AW.seq ?_
   apply AW.list
   apply Wk.mv (by conv => lhs; whnf) (lt_of_ble rfl)
   apply Wk.drw 0 pick_ok Tryd.func52 rfl rfl rfl rfl ⟨_, rfl, by omega⟩ (by omega) rfl (lt_of_ble rfl)
   rintro r1 zs1 p1 ⟨k1, rfl, hk1⟩ hp1
   apply Wk.mv (by conv => lhs; whnf) (lt_of_ble rfl)
   apply Wk.drx [7] bytesO_ok Tryd.func72 rfl rfl rfl rfl ⟨8, rfl, by decide⟩ (by omega) rfl (by simp; rfl) (lt_of_ble rfl)
   rintro r zs2 p2 ex ⟨q, bs, rfl, rfl, hbl⟩ hp2
   replace hbl := hbl 8 rfl
   apply Wk.bld [.int .i64 0, .int .i64 0, .slice none 0 0] [(0, 1), (1, 1), (2, 1)] bl41 rfl (by conv => lhs; whnf) (lt_of_ble rfl)
   apply Wk.alc 3 [.int .i64 0, .int .i64 0, .slice none 0 0] ze41 rfl rfl (lt_of_ble rfl)
   apply Wk.sto (i := 3) 3 true ty41 rfl rfl rfl rfl (Nat.le_of_ble_eq_true rfl) (lt_of_ble rfl)
   refine Wk.nil ?_
   have hk1' : k1 < 4 := by have := hk1 4 rfl; omega
   let inv : List (Fin 256) × Nat × Int × Nat × List (Fin 256) → St := fun x => St.of 43 [(0, .ptr 0 0), (2, .ptr 2 0), (3, .ptr 3 0)] [(0, rdr x.1 x.2.1), (2, .var [.d (.v (.int .i64 0)), .d (.v (.int .i64 0)), .d (.v (.slice none 0 0))]), (3, .var (partOA (k1 : Int) x.2.2.1 x.2.2.2.1)), (7, ownB x.2.2.2.1 x.2.2.2.2)]
   let ok : Nat → List (Fin 256) × Nat × Int × Nat × List (Fin 256) → Prop := fun m x => x.2.1 ≤ p + m ∧ 0 ≤ x.2.2.1 ∧ x.2.2.1 ≤ 40 ∧ x.2.2.2.2.length ≤ 8
   have fin : ∀ (zs : List (Fin 256)) (p : Nat) (ln : Int) (q : Nat) (bs : List (Fin 256)) (σ : St), σ.n = 43 → σ.t 0 = .ptr 0 0 → σ.t 2 = .ptr 2 0 → σ.t 3 = .ptr 3 0 → σ.b 0 = rdr zs p → σ.b 2 = .var [.d (.v (.int .i64 0)), .d (.v (.int .i64 0)), .d (.v (.slice none 0 0))] → σ.b 3 = .var (partOA (k1 : Int) ln q) → σ.b 7 = ownB q bs →
       ∀ a w, Rel C σ a w → Rel C (inv (zs, p, ln, q, bs)) a w := fun zs p ln q bs σ h0 h1 h2 h3 h4 h5 h6 h7 a w => Rel.keep ⟨h0.symm, .cons h1 rfl (.cons h2 rfl (.cons h3 rfl .nil)), .cons h4 rfl (.cons h5 rfl (.cons h6 rfl (.cons h7 ownB_in .nil))), hN.mono (by simp [keys])⟩
   refine AW.via inv (ok 3002) ?_ ?_
   · refine AW.seq ?_
     by_cases h1 : k1 = 0
     · subst h1
       apply AW.list
       apply Wk.fad 0 0 false fd41_0 rfl (lt_of_ble rfl)
       apply Wk.ld (i := 3) 1 false ty3 rfl rfl (by conv => lhs; whnf) (lt_of_ble rfl)
       apply Wk.bin rfl rfl (r := .bool false) (fun w => by simp [go_sem]) (lt_of_ble rfl)
       apply Wk.mv (by conv => lhs; whnf) (lt_of_ble rfl)
       apply Wk.goff 12 (ok_faddr fd41_2) rfl rfl (by decide)
       apply Wk.goff 12 (ok_load 3 ty22) rfl rfl (by decide)
       apply Wk.goff 12 (ok_leno 7 un22) rfl rfl (by decide)
       apply Wk.goff 12 (ok_bin _ _ _ _ _) rfl rfl (by decide)
       apply Wk.pckF rfl (by conv => lhs; whnf) (lt_of_ble rfl)
       refine Wk.nil ?_
       refine AW.cond rfl (fun hc => by cases hc) (fun _ => AW.skip (thenA_normal ?_))
       exact ⟨(zs2, p2, 0, q, bs), ⟨by simp only; omega, by simp only; omega, by simp only; omega, hbl⟩, fin _ _ _ _ _ _ rfl rfl rfl rfl rfl rfl rfl rfl⟩
     · apply AW.list
       apply Wk.fad 0 0 false fd41_0 rfl (lt_of_ble rfl)
       apply Wk.ld (i := 3) 1 false ty3 rfl rfl (by conv => lhs; whnf) (lt_of_ble rfl)
       apply Wk.bin rfl rfl (r := .bool true) (fun w => by simp [go_sem, h1]) (lt_of_ble rfl)
       apply Wk.mv (by conv => lhs; whnf) (lt_of_ble rfl)
       apply Wk.gon 12 rfl rfl
       apply Wk.fad 2 0 false fd41_2 rfl (lt_of_ble rfl)
       apply Wk.gon 12 rfl rfl
       apply Wk.ld (i := 3) 1 false ty22 rfl rfl (by conv => lhs; whnf) (lt_of_ble rfl)
       apply Wk.gon 12 rfl rfl
       apply Wk.leno (i := 7) un22 rfl rfl (lt_of_ble rfl)
       apply Wk.gon 12 rfl rfl
       apply Wk.bin rfl rfl (fun w => by simp [go_sem] <;> rfl) (lt_of_ble rfl)
       apply Wk.pckT rfl (by conv => lhs; whnf) (lt_of_ble rfl)
       refine Wk.nil ?_
       refine AW.cond rfl (fun hc => ?_) (fun hc => AW.skip (thenA_normal ?_))
       · apply AW.list
         apply Wk.lst 18 1 false [.int .u8 0] un22 ty5 ze5 rfl rfl (by rfl) (by rfl) (by decide) (by decide) rfl rfl (all_len rfl) (lt_of_ble rfl)
         apply Wk.fad 2 0 false fd41_2 rfl (lt_of_ble rfl)
         apply Wk.sto (i := 3) 1 false ty22 rfl rfl rfl rfl (Nat.le_of_ble_eq_true rfl) (lt_of_ble rfl)
         refine Wk.nil (thenA_normal ?_)
         refine ⟨(zs2, p2, 0, q + 1, [7]), ⟨by simp only; omega, by simp only; omega, by simp only; omega, by simp⟩, fun a w hR => ?_⟩
         have h := Rel.renc (j := 3) (c := 2) (i := 18) (i' := 7) (k' := q + 1) rfl rfl (by rfl) (.inr ⟨_, _, _, _, rfl, rfl⟩) (by decide) hR
         exact fin _ _ _ _ _ _ rfl rfl rfl rfl rfl rfl rfl rfl a w h
       · exact ⟨(zs2, p2, 0, q, bs), ⟨by simp only; omega, by simp only; omega, by simp only; omega, hbl⟩, fin _ _ _ _ _ _ rfl rfl rfl rfl rfl rfl rfl rfl⟩
   · rintro ⟨zs3, p3, l3, q3, bs3⟩ ⟨hp3, hl1, hl2, hb3⟩
     simp only at hp3 hl1 hl2 hb3
     show AW Tryd.prog C _ _ (St.of 43 [(0, .ptr 0 0), (2, .ptr 2 0), (3, .ptr 3 0)] [(0, rdr zs3 p3), (2, .var [.d (.v (.int .i64 0)), .d (.v (.int .i64 0)), .d (.v (.slice none 0 0))]), (3, .var (partOA (k1 : Int) l3 q3)), (7, ownB q3 bs3)])
     refine AW.via inv (ok 3002) ?_ ?_
     · refine AW.seq ?_
       apply AW.list
       apply Wk.fad 0 0 false fd41_0 rfl (lt_of_ble rfl)
       apply Wk.ld (i := 3) 1 false ty3 rfl rfl (by conv => lhs; whnf) (lt_of_ble rfl)
       apply Wk.bin rfl rfl (fun w => by simp [go_sem] <;> rfl) (lt_of_ble rfl)
       refine Wk.nil ?_
       refine AW.cond rfl (fun hc => ?_) (fun hc => AW.skip (thenA_normal ?_))
       · apply AW.list
         apply Wk.fad 2 0 false fd41_2 rfl (lt_of_ble rfl)
         apply Wk.ld (i := 3) 1 false ty22 rfl rfl (by conv => lhs; whnf) (lt_of_ble rfl)
         apply Wk.leno (i := 7) un22 rfl rfl (lt_of_ble rfl)
         apply Wk.fad 1 0 false fd41_1 rfl (lt_of_ble rfl)
         apply Wk.sto (i := 3) 1 false ty3 rfl rfl rfl rfl (Nat.le_of_ble_eq_true rfl) (lt_of_ble rfl)
         refine Wk.nil (thenA_normal ?_)
         have e5 : (cellsB bs3).length = bs3.length := by simp [cellsB]
         refine ⟨(zs3, p3, ((cellsB bs3).length : Int), q3, bs3), ⟨hp3, by simp only; omega, by simp only; omega, hb3⟩, fin _ _ _ _ _ _ rfl rfl rfl rfl rfl rfl rfl rfl⟩
       · exact ⟨(zs3, p3, l3, q3, bs3), ⟨hp3, hl1, hl2, hb3⟩, fin _ _ _ _ _ _ rfl rfl rfl rfl rfl rfl rfl rfl⟩
     · rintro ⟨zs4, p4, l4, q4, bs4⟩ ⟨hp4, hl3, hl4, hb4⟩
       simp only at hp4 hl3 hl4 hb4
       show AW Tryd.prog C _ _ (St.of 43 [(0, .ptr 0 0), (2, .ptr 2 0), (3, .ptr 3 0)] [(0, rdr zs4 p4), (2, .var [.d (.v (.int .i64 0)), .d (.v (.int .i64 0)), .d (.v (.slice none 0 0))]), (3, .var (partOA (k1 : Int) l4 q4)), (7, ownB q4 bs4)])
       have e5 : (cellsB bs4).length = bs4.length := by simp [cellsB]
       refine AW.via inv (ok 3003) ?_ ?_
       · refine AW.seq ?_
         apply AW.list
         apply Wk.fad 0 0 false fd41_0 rfl (lt_of_ble rfl)
         apply Wk.ld (i := 3) 1 false ty3 rfl rfl (by conv => lhs; whnf) (lt_of_ble rfl)
         apply Wk.bin rfl rfl (fun w => by simp [go_sem] <;> rfl) (lt_of_ble rfl)
         refine Wk.nil ?_
         refine AW.cond rfl (fun hc => ?_) (fun hc => AW.skip (thenA_normal ?_))
         · apply AW.draw (hm := hmix) (cs := _)
           · apply Wk.fad 2 0 false fd41_2 rfl (lt_of_ble rfl)
             apply Wk.ld (i := 3) 1 false ty22 rfl rfl (by conv => lhs; whnf) (lt_of_ble rfl)
             apply Wk.leno (i := 7) un22 rfl rfl (lt_of_ble rfl)
             apply Wk.addi rfl rfl (by omega) (lt_of_ble rfl)
             apply Wk.mv (by conv => lhs; whnf) (lt_of_ble rfl)
             apply Wk.fad 2 0 false fd41_2 rfl (lt_of_ble rfl)
             apply Wk.ld (i := 3) 1 false ty22 rfl rfl (by conv => lhs; whnf) (lt_of_ble rfl)
             apply Wk.leno (i := 7) un22 rfl rfl (lt_of_ble rfl)
             apply Wk.subi rfl rfl (by omega) (lt_of_ble rfl)
             apply Wk.drw 0 pick_ok Tryd.func52 rfl rfl rfl rfl ⟨_, rfl, by omega⟩ (by omega) rfl (lt_of_ble rfl)
             rintro r9 zs9 p9 ⟨k9, rfl, hk9⟩ hp9
             replace hk9 := hk9 _ rfl
             apply Wk.addi rfl rfl (by omega) (lt_of_ble rfl)
             apply Wk.fad 1 0 false fd41_1 rfl (lt_of_ble rfl)
             apply Wk.sto (i := 3) 1 false ty3 rfl rfl rfl rfl (Nat.le_of_ble_eq_true rfl) (lt_of_ble rfl)
             refine Wk.nil (thenA_normal ?_)
             refine ⟨(zs9, p9, ((cellsB bs4).length : Int) + 1 + (k9 : Int), q4, bs4), ⟨by simp only; omega, by simp only; omega, by simp only; omega, hb4⟩, fin _ _ _ _ _ _ rfl rfl rfl rfl rfl rfl rfl rfl⟩
           · rfl
           · rfl
         · exact ⟨(zs4, p4, l4, q4, bs4), ⟨by simp only; omega, hl3, hl4, hb4⟩, fin _ _ _ _ _ _ rfl rfl rfl rfl rfl rfl rfl rfl⟩
       · rintro ⟨zs5, p5, l5, q5, bs5⟩ ⟨hp5, hl5, hl6, hb5⟩
         simp only at hp5 hl5 hl6 hb5
         show AW Tryd.prog C _ _ (St.of 43 [(0, .ptr 0 0), (2, .ptr 2 0), (3, .ptr 3 0)] [(0, rdr zs5 p5), (2, .var [.d (.v (.int .i64 0)), .d (.v (.int .i64 0)), .d (.v (.slice none 0 0))]), (3, .var (partOA (k1 : Int) l5 q5)), (7, ownB q5 bs5)])
         refine AW.thawc (j := 3) (c := 2) (i := 7) (cellsD bs5) rfl rfl (by rfl) (asData_cells bs5) (hX.one (by decide) rfl) ?_
         refine AW.seq ?_
         apply AW.list
         apply Wk.ld (i := 3) 3 true ty41 rfl rfl (by conv => lhs; whnf) (lt_of_ble rfl)
         apply Wk.sto (i := 2) 3 true ty41 rfl rfl rfl rfl (Nat.le_of_ble_eq_true rfl) (lt_of_ble rfl)
         refine Wk.nil (AW.ret ?_)
         exact RetQ.ret [(0, rdr zs5 p5)] (.cons ⟨2, 0, _, _, _, rfl, rfl, ty41, rfl⟩ .nil) ⟨⟨(k1 : Int), l5, bs5, rfl, by omega, by omega, by omega⟩, _, _, rfl, by omega⟩ (kept1 rfl)
 · rintro rest rfl; rfl
 · rintro rest _; exact ⟨_, 0, 0, [], rfl, by simp⟩
 · rintro rest r ⟨sg, ln, bs, rfl, _⟩; rfl
end Go.Proofs.YtejafihfbncaoaaDoor

/- Who sends, drawn; over what values read as. Written by tools/mk_AbsL20Tx.py. -/
namespace Go.Proofs.YtejafihfbncaoaaDoor
open Go Go.RowKit
def tx0 : TX := ⟨0, 0, [], 0, [], false, 0, false, 0, false⟩
theorem tx0_good : tx0.good 0 := by simp [TX.good, tx0]
/-- Who sends, drawn: within bounds. -/
def TX.wide (x : TX) : Prop := (-1 ≤ x.n ∧ x.n ≤ 8) ∧ (-1 ≤ x.a ∧ x.a ≤ 8) ∧ (x.fl.length ≤ 11 ∧ ∀ d ∈ x.fl, (Byt d.2.2 ∧ d.2.2.length ≤ 24)) ∧ (-1 ≤ x.s ∧ x.s ≤ 11) ∧ (x.qu.length ≤ 25 ∧ ∀ d ∈ x.qu, (Byt d.2.2 ∧ d.2.2.length ≤ 24)) ∧ (-1 ≤ x.t ∧ x.t ≤ 10) ∧ (-1 ≤ x.c ∧ (x.c ≤ 1000 ∨ x.c = 10000))
theorem TX.good.wide {cm : Int} {x : TX} (h : x.good cm) (hm : cm ≤ 1000 := by omega) : x.wide := ⟨by have := h.1; omega, by have := h.2.1; omega, ⟨by have := h.2.2.1.1; omega, h.2.2.1.2⟩, by have := h.2.2.2.1; omega, ⟨by have := h.2.2.2.2.1.1; omega, h.2.2.2.2.1.2⟩, by have := h.2.2.2.2.2.1; omega, by have := h.2.2.2.2.2.2; omega⟩
theorem TX.wide.few {x : TX} (h : x.wide) : x.few := ⟨⟨by have := h.2.2.1.1; omega, fun d hd => by have := h.2.2.1.2 d hd; omega⟩, ⟨by have := h.2.2.2.2.1.1; omega, fun d hd => by have := h.2.2.2.2.1.2 d hd; omega⟩⟩
def txPre (rest : List A) : Prop := ∃ m w p u y n : Int, rest = [cfgA m w p u y, .d (.v (.int .i64 n))] ∧ (0 ≤ m ∧ m ≤ 3 ∧ 0 ≤ w ∧ w ≤ 5 ∧ 0 ≤ p ∧ p ≤ 9 ∧ 0 ≤ u ∧ u ≤ 25 ∧ 0 ≤ y ∧ y ≤ 6) ∧ n ≤ 1000000 ∧ -1000000 ≤ n
def txPost (_ : List A) (r : A) : Prop := ∃ x : TX, r = txA x ∧ x.wide
theorem asData_more {es : List (List A)} {ds : List Dat} (h : asData es (ds.map datD)) (d : Dat) (c : List A) (hc : nrms c = (datD d).map A.d) : asData (es ++ [c]) ((ds ++ [d]).map datD) := by
  simp only [asData, List.map_append, List.map_cons, List.map_nil] at h ⊢
  rw [h, hc]
end Go.Proofs.YtejafihfbncaoaaDoor

/- Who sends for credits, drawn; over what values read as. Written by tools/mk_AbsL20Ctx.py. -/
namespace Go.Proofs.YtejafihfbncaoaaDoor
open Go Go.RowKit
def CX.good (x : CX) : Prop := (0 ≤ x.v ∧ x.v ≤ 255) ∧ (x.qu.length ≤ 24 ∧ ∀ d ∈ x.qu, (Byt d.2.2 ∧ d.2.2.length ≤ 24)) ∧ (0 ≤ x.g ∧ x.g ≤ 9999) ∧ (0 ≤ x.s ∧ x.s ≤ 9999)
def CX.wide (x : CX) : Prop := (-1 ≤ x.v ∧ x.v ≤ 256) ∧ (x.qu.length ≤ 25 ∧ ∀ d ∈ x.qu, (Byt d.2.2 ∧ d.2.2.length ≤ 24)) ∧ (-1 ≤ x.g ∧ x.g ≤ 10000) ∧ (-1 ≤ x.s ∧ x.s ≤ 10000)
theorem CX.good.wide {x : CX} (h : x.good) : x.wide := ⟨by have := h.1; omega, ⟨by have := h.2.1.1; omega, h.2.1.2⟩, by have := h.2.2.1; omega, by have := h.2.2.2; omega⟩
theorem CX.good.few {x : CX} (h : x.good) : x.few := ⟨by have := h.2.1.1; omega, fun d hd => by have := (h.2.1.2 d hd).2; omega⟩
def cx0 : CX := ⟨0, [], 0, 0, false⟩
theorem cx0_good : cx0.good := by simp [CX.good, cx0]
def CxR (r : A) (bs : List (Nat × Bx)) : Prop := (∃ x : CX, x.good ∧ r = cxO x x.qu.length ∧ bs = cxB x.qu x.qu.length) ∨ (r = cxNil ∧ bs = [])
theorem CxR.in_ {r : A} {bs : List (Nat × Bx)} (h : CxR r bs) : r.within [66] = true ∧ ∀ i x, bs.lookup i = some x → i ∈ [66] ∧ x.within [66] = true := by
  rcases h with ⟨x, _, rfl, rfl⟩ | ⟨rfl, rfl⟩
  · exact ⟨in_cxO _ _, fun i z h => in_cxB h⟩
  · exact ⟨rfl, fun i z h => by cases h⟩
def cputPre (aas : List A) : Prop := ∃ (m w p u y : Int) (x : CX) (bs : List (Fin 256)), aas = [cfgA m w p u y, cxA x, .d (fbytes bs)] ∧ x.good ∧ bs.length ≤ 1000
def cputPost (_ : List A) (r : A) (bs : List (Nat × Bx)) : Prop := ∃ (T : A) (b : Bool), r = .tup [T, .d (.v (.bool b))] ∧ CxR T bs
def csendPre (aas : List A) : Prop := ∃ (m w p u y : Int) (x : CX), aas = [cfgA m w p u y, cxA x] ∧ x.good
def csendPost (_ : List A) (r : A) (bs : List (Nat × Bx)) : Prop := ∃ (T : A) (k s c : Int) (p f : Bool) (y g l : Int) (z : D) (b : Bool), r = .tup [T, frmZ k s c p f y g l z, .d (.v (.bool b))] ∧ CxR T bs
def ctakePre (aas : List A) : Prop := ∃ (m w p u y : Int) (x : CX) (n : Int), aas = [cfgA m w p u y, cxA x, .d (.v (.int .i64 n))] ∧ x.good
theorem cputW : FunX Tryd.prog 71 cputPre cputPost [66] := by
  refine ⟨?_, ?_, ?_⟩
  · rintro aas ⟨m, w, p, u, y, x, bs, rfl, hx, hl⟩
    cases hok : crdOkB ⟨m, w, p, u, y⟩ x
    · refine (scputNo m w p u y x (fbytes bs) hok).imp ?_
      rintro r bs' ⟨rfl, rfl⟩
      exact ⟨_, _, rfl, .inr ⟨rfl, rfl⟩⟩
    · have hcut := scut_ok (bs.map (·.val)) p (fin_byt bs) (by rw [List.length_map]; omega)
      have hcl := cutD_length (bs.map (·.val)) p
      have hcs := cutD_small (bs.map (·.val)) p (fin_byt bs)
      have hlq := hx.2.1.1
      by_cases hfull : fullC u x (bs.map (·.val)).length (cutD (bs.map (·.val)) p).length
      · refine (scputFull m w p u y x (bs.map (·.val)) _ hok hcut (by omega) (by omega) hx.few hfull).imp ?_
        rintro r bs' ⟨rfl, rfl⟩
        exact ⟨_, _, rfl, .inl ⟨x, hx, rfl, rfl⟩⟩
      · have hx' : CX.good { x with qu := x.qu ++ cutD (bs.map (·.val)) p } := by
          simp only [fullC, not_or] at hfull
          refine ⟨hx.1, ⟨by simp only [List.length_append]; omega, fun d hd => ?_⟩, hx.2.2⟩
          rcases List.mem_append.1 hd with hd | hd
          · exact hx.2.1.2 d hd
          · exact hcs d hd
        refine (scputYes m w p u y x (bs.map (·.val)) _ hok hcut hx.few hx'.few hfull).imp ?_
        rintro r bs' ⟨rfl, rfl⟩
        exact ⟨_, _, rfl, .inl ⟨_, hx', rfl, rfl⟩⟩
  · rintro aas _
    exact ⟨_, _, cxNil, false, rfl, .inr ⟨rfl, rfl⟩⟩
  · rintro aas r bs ⟨T, b, rfl, h⟩
    have := h.in_
    exact ⟨by simp [A.within, A.withins, this.1], this.2⟩
theorem csendW : FunX Tryd.prog 9 csendPre csendPost [66] := by
  refine ⟨?_, ?_, ?_⟩
  · rintro aas ⟨m, w, p, u, y, x, rfl, hx⟩
    cases hok : crdOkB ⟨m, w, p, u, y⟩ x
    · refine (scsendNo m w p u y x hok).imp ?_
      rintro r bs' ⟨rfl, rfl⟩
      exact ⟨cxNil, 0, 0, 0, false, false, 0, 0, 0, .v (.slice none 0 0), false, rfl, .inr ⟨rfl, rfl⟩⟩
    · by_cases hi : idleC x
      · refine (scsendIdle m w p u y x hok hx.few hi).imp ?_
        rintro r bs' ⟨rfl, rfl⟩
        exact ⟨_, 0, 0, 0, false, false, 0, 0, 0, .v (.slice none 0 0), false, rfl, .inl ⟨_, hx, rfl, rfl⟩⟩
      · obtain ⟨v, qu, g, s, d⟩ := x
        simp only [idleC, not_or, Bool.not_eq_true] at hi
        obtain ⟨rfl, h2, h3, h4⟩ := hi
        obtain ⟨e, qs, rfl⟩ : ∃ e qs, qu = e :: qs := by
          cases qu with
          | nil => exact absurd rfl h3
          | cons e qs => exact ⟨e, qs, rfl⟩
        obtain ⟨g1, g2, g3, g4⟩ := hx
        simp only [List.length_cons] at g1 g2 g3 g4
        have hx' : CX.good ⟨v - 1, qs, g, s + 1, false⟩ := ⟨by simp only; omega, ⟨by simp only; omega, fun d hd => g2.2 d (List.mem_cons_of_mem _ hd)⟩, g3, by simp only; omega⟩
        refine (scsendOn m w p u y v (e :: qs) g s e qs rfl hok ⟨by simp only [List.length_cons]; omega, fun d hd => by have := (g2.2 d hd).2; omega⟩ h2 h4).imp ?_
        rintro r bs' ⟨rfl, rfl⟩
        exact ⟨_, _, _, _, _, _, _, _, _, _, _, rfl, .inl ⟨_, hx', rfl, rfl⟩⟩
  · rintro aas _
    exact ⟨_, _, cxNil, 0, 0, 0, false, false, 0, 0, 0, .v (.slice none 0 0), false, rfl, .inr ⟨rfl, rfl⟩⟩
  · rintro aas r bs ⟨T, k, s, c, p, f, y, g, l, z, b, rfl, h⟩
    have := h.in_
    exact ⟨by simp [A.within, A.withins, this.1, frmZ, frmZC], this.2⟩
theorem ctakeW : FunX Tryd.prog 20 ctakePre (fun _ => CxR) [66] := by
  refine ⟨?_, ?_, fun aas r bs h => h.in_⟩
  · rintro aas ⟨m, w, p, u, y, x, n, rfl, hx⟩
    by_cases hno : crdOkB ⟨m, w, p, u, y⟩ x = false ∨ inB n 1 255 = false
    · refine (sctakeNo m w p u y x n hno).imp ?_
      rintro r bs' ⟨rfl, rfl⟩
      exact .inr ⟨rfl, rfl⟩
    · simp only [not_or, Bool.not_eq_false] at hno
      have hn := (inB_iff _ _ _).1 hno.2
      have hx' : (takeX x n).good := by
        unfold takeX
        split
        · exact hx
        · split
          · exact hx
          · rename_i h1 h2
            have g1 := hx.1
            have g3 := hx.2.2.1
            exact ⟨by simp only; omega, hx.2.1, by simp only; omega, hx.2.2.2⟩
      have e : (takeX x n).qu = x.qu := by unfold takeX; split <;> (try split) <;> rfl
      refine (sctakeYes m w p u y x n hno.1 hno.2 hx.few).imp ?_
      rintro r bs' ⟨rfl, rfl⟩
      exact .inl ⟨_, hx', by rw [e], by rw [e]⟩
  · rintro aas _
    exact ⟨_, _, .inr ⟨rfl, rfl⟩⟩
def cxPost (_ : List A) (r : A) : Prop := ∃ x : CX, r = cxA x ∧ x.wide
set_option maxHeartbeats 16000000 in
set_option maxRecDepth 100000 in
theorem l20Ctx_ok : DrawOk Tryd.prog 38 txPre cxPost 60000 := by
 refine DrawOk.zero ?_ ?_ ?_ ?_
 · rintro zs p rest ⟨m, w, pp, u, y, nn, rfl, hcf, hn, hn'⟩ hp
   refine Spec.intro (n := 97) (rv := [.cell 6 27]) Tryd.func38 rfl rfl rfl (by simp) fun C hN hX => ?_
   let inv : List (Fin 256) × Nat × Nat × CX → St := fun z => St.of 97 [(0, .ptr 0 0), (2, .d (.v (.int .i64 nn))), (4, .ptr 4 0), (6, .ptr 6 0), (7, .ptr 70 0), (8, .d (.v (.int .i64 (z.2.2.1 : Int))))] [(0, rdr z.1 z.2.1), (4, .var (cfgC m w pp u y)), (6, .var cxN), (66, .own z.2.2.2.qu.length 41 3 (piecesA z.2.2.2.qu)), (70, .var (cxOC z.2.2.2 z.2.2.2.qu.length))]
   let inv2 : List (Fin 256) × Nat × CX → St := fun z => St.of 97 [(0, .ptr 0 0), (6, .ptr 6 0), (7, .ptr 70 0)] [(0, rdr z.1 z.2.1), (6, .var cxN), (70, .var (cxC z.2.2))]
   have fin1 : ∀ (zs : List (Fin 256)) (p k : Nat) (x : CX) (σ : St), σ.n = 97 → σ.t 0 = .ptr 0 0 → σ.t 2 = .d (.v (.int .i64 nn)) → σ.t 4 = .ptr 4 0 → σ.t 6 = .ptr 6 0 → σ.t 7 = .ptr 70 0 → σ.t 8 = .d (.v (.int .i64 (k : Int))) → σ.b 0 = rdr zs p → σ.b 4 = .var (cfgC m w pp u y) → σ.b 6 = .var cxN → σ.b 70 = .var (cxOC x x.qu.length) → σ.b 66 = .own x.qu.length 41 3 (piecesA x.qu) →
       ∀ a w, Rel C σ a w → Rel C (inv (zs, p, k, x)) a w := fun zs p k x σ h0 h1 h2 h3 h4 h5 h6 h7 h8 h9 h10 h12 a w => Rel.keep ⟨h0.symm, .cons h1 rfl (.cons h2 rfl (.cons h3 rfl (.cons h4 rfl (.cons h5 rfl (.cons h6 rfl .nil))))), .cons h7 rfl (.cons h8 rfl (.cons h9 rfl (.cons h12 (within_parts _) (.cons h10 rfl .nil)))), hN.mono (by simp [keys])⟩
   have finN : ∀ (zs : List (Fin 256)) (p k : Nat) (σ : St), σ.n = 97 → σ.t 0 = .ptr 0 0 → σ.t 2 = .d (.v (.int .i64 nn)) → σ.t 4 = .ptr 4 0 → σ.t 6 = .ptr 6 0 → σ.t 7 = .ptr 70 0 → σ.t 8 = .d (.v (.int .i64 (k : Int))) → σ.b 0 = rdr zs p → σ.b 4 = .var (cfgC m w pp u y) → σ.b 6 = .var cxN → σ.b 70 = .var cxN →
       ∀ a w, Rel C σ a w → Rel C (inv (zs, p, k, cx0)) a w := by
     intro zs p k σ h0 h1 h2 h3 h4 h5 h6 h7 h8 h9 h10 a wd hR
     have g0 := Rel.keep (n := 97) (ts := [(0, .ptr 0 0), (2, .d (.v (.int .i64 nn))), (4, .ptr 4 0), (6, .ptr 6 0), (7, .ptr 70 0), (8, .d (.v (.int .i64 (k : Int))))]) (bs := [(0, rdr zs p), (4, .var (cfgC m w pp u y)), (6, .var cxN), (70, .var cxN)]) ⟨h0.symm, .cons h1 rfl (.cons h2 rfl (.cons h3 rfl (.cons h4 rfl (.cons h5 rfl (.cons h6 rfl .nil))))), .cons h7 rfl (.cons h8 rfl (.cons h9 rfl (.cons h10 rfl .nil))), hN.mono (by simp [keys])⟩ hR
     have g1 := Rel.nilc (j := 70) (c := 1) (i' := 66) 41 3 rfl rfl rfl g0
     exact fin1 zs p k cx0 _ rfl rfl rfl rfl rfl rfl rfl rfl rfl rfl rfl rfl a wd g1
   have fin2 : ∀ (zs : List (Fin 256)) (p : Nat) (x : CX) (l : Nat) (qs : List (List A)) (σ : St), asData qs (x.qu.map datD) → σ.n = 97 → σ.t 0 = .ptr 0 0 → σ.t 6 = .ptr 6 0 → σ.t 7 = .ptr 70 0 → σ.b 0 = rdr zs p → σ.b 6 = .var cxN → σ.b 70 = .var (cxOC x l) → σ.b 66 = .own l 41 3 qs →
       ∀ a w, Rel C σ a w → Rel C (inv2 (zs, p, x)) a w := by
     intro zs p x l qs σ hqs h0 h1 h2 h3 h4 h5 h6 h8 a w hR
     have g2 := Rel.thawc (j := 70) (c := 1) (i := 66) (k := l) _ h6 rfl h8 hqs (hX.one (by decide) h4) hR
     refine Rel.keep ?_ g2
     exact ⟨h0.symm, .cons h1 rfl (.cons h2 rfl (.cons h3 rfl .nil)), .cons h4 rfl (.cons h5 rfl (.cons rfl rfl .nil)), hN.mono (by simp [keys])⟩
   refine AW.seq ?_
   apply AW.list
   apply Wk.bx 4 rfl rfl (lt_of_ble rfl)
   apply Wk.alc 6 [.int .i64 0, .slice none 0 0, .int .i64 0, .int .i64 0, .bool false] ze27 rfl rfl (lt_of_ble rfl)
   refine Wk.nil ?_
   refine AW.seq ?_
   apply AW.list
   apply Wk.bld [.int .i64 0, .slice none 0 0, .int .i64 0, .int .i64 0, .bool false] [(0, 1), (1, 1), (2, 1), (3, 1), (4, 1)] bl27 rfl (by conv => lhs; whnf) (lt_of_ble rfl)
   apply Wk.alc 70 [.int .i64 0, .slice none 0 0, .int .i64 0, .int .i64 0, .bool false] ze27 rfl rfl (lt_of_ble rfl)
   apply Wk.sto (i := 70) 5 true ty27 rfl rfl rfl rfl (Nat.le_of_ble_eq_true rfl) (lt_of_ble rfl)
   refine Wk.nil ?_
   refine AW.seq (AW.seq ?_)
   apply AW.list
   apply Wk.mv (by conv => lhs; whnf) (lt_of_ble rfl)
   apply Wk.drw 0 pick_ok Tryd.func52 rfl rfl rfl rfl ⟨_, rfl, by omega⟩ (by omega) rfl (lt_of_ble rfl)
   rintro r1 zs1 p1 ⟨k1, rfl, hk1⟩ hp1
   apply Wk.asg (by conv => lhs; whnf) (lt_of_ble rfl)
   have hk1' : k1 < 16 := by have := hk1 16 rfl; omega
   refine Wk.nil (AW.block ?_)
   refine AW.loop inv (fun z => z.2.2.1 ≤ k1 ∧ z.2.1 + 3100 * z.2.2.1 ≤ p + 1 + 3100 * k1 ∧ z.2.2.2.good) (fun z => z.2.2.1) (zs1, p1, k1, cx0) ⟨Nat.le_refl _, by simp only; omega, cx0_good⟩ (finN zs1 p1 k1 _ rfl rfl rfl rfl rfl rfl rfl rfl rfl rfl rfl) ?_
   rintro ⟨zs2, p2, k2, x2⟩ ⟨hk2, hp2, hx2⟩
   simp only at hk2 hp2 hx2
   show AW Tryd.prog C _ _ (St.of 97 [(0, .ptr 0 0), (2, .d (.v (.int .i64 nn))), (4, .ptr 4 0), (6, .ptr 6 0), (7, .ptr 70 0), (8, .d (.v (.int .i64 (k2 : Int))))] [(0, rdr zs2 p2), (4, .var (cfgC m w pp u y)), (6, .var cxN), (66, .own x2.qu.length 41 3 (piecesA x2.qu)), (70, .var (cxOC x2 x2.qu.length))])
   refine AW.seq (AW.seq ?_)
   apply AW.list
   apply Wk.mv (by conv => lhs; whnf) (lt_of_ble rfl)
   apply Wk.bin rfl rfl (fun w => by simp [go_sem] <;> rfl) (lt_of_ble rfl)
   refine Wk.nil ?_
   refine AW.cond rfl (fun hc => ?_) (fun hc => ?_)
   · have hpos : 0 < k2 := by simpa using hc
     refine AW.skip ?_
     repeat (first | refine thenA_normal ?_ | refine inBlockA_normal ?_)
     refine AW.via inv (fun z => z.2.2.1 = k2 ∧ z.2.1 ≤ p2 + 3100 ∧ z.2.2.2.good) ?_ ?_
     · refine AW.block ?_
       refine AW.thawc (j := 70) (c := 1) (i := 66) _ rfl rfl rfl (asData_parts x2.qu) (hX.one (by decide) rfl) ?_
       refine AW.keep (n := 97) (ts := [(0, .ptr 0 0), (2, .d (.v (.int .i64 nn))), (4, .ptr 4 0), (6, .ptr 6 0), (7, .ptr 70 0), (8, .d (.v (.int .i64 (k2 : Int))))]) (bs := [(0, rdr zs2 p2), (4, .var (cfgC m w pp u y)), (6, .var cxN), (70, .var (cxC x2))]) ⟨rfl, .cons rfl rfl (.cons rfl rfl (.cons rfl rfl (.cons rfl rfl (.cons rfl rfl (.cons rfl rfl .nil))))), .cons rfl rfl (.cons rfl rfl (.cons rfl rfl (.cons rfl rfl .nil))), hN.mono (by simp [keys])⟩ ?_
       refine AW.seq ?_
       apply AW.list
       apply Wk.mv (by conv => lhs; whnf) (lt_of_ble rfl)
       apply Wk.drw 0 pick_ok Tryd.func52 rfl rfl rfl rfl ⟨_, rfl, by omega⟩ (by omega) rfl (lt_of_ble rfl)
       rintro r3 zs3 p3 ⟨k3, rfl, hk3⟩ hp3
       have hk3' : k3 < 4 := by have := hk3 4 rfl; omega
       refine Wk.nil (AW.block ?_)
       rcases (show k3 = 0 ∨ k3 = 1 ∨ k3 = 2 ∨ k3 = 3 by omega) with rfl | rfl | rfl | rfl
       · skip
         refine AW.seq (AW.seq ?_)
         apply AW.list
         apply Wk.bin rfl rfl (fun w => by simp [go_sem] <;> rfl) (lt_of_ble rfl)
         apply Wk.asg (by conv => lhs; whnf) (lt_of_ble rfl)
         refine Wk.nil ?_
         refine AW.cond rfl (fun _ => AW.skip ?_) (fun hc => by cases hc)
         repeat (first | refine thenA_normal ?_ | refine inBlockA_normal ?_)
         refine AW.cond rfl (fun _ => ?_) (fun hc => by cases hc)
         apply AW.draw (hm := hmix) (cs := _)
         · apply Wk.ld (i := 4) 5 true ty24 rfl rfl (by conv => lhs; whnf) (lt_of_ble rfl)
           apply Wk.ld (i := 70) 5 true ty27 rfl rfl (by conv => lhs; whnf) (lt_of_ble rfl)
           apply Wk.mv (by conv => lhs; whnf) (lt_of_ble rfl)
           apply Wk.fad 3 0 false fd24_3 rfl (lt_of_ble rfl)
           apply Wk.ld (i := 4) 1 false ty3 rfl rfl (by conv => lhs; whnf) (lt_of_ble rfl)
           apply Wk.drw 0 bytes_ok Tryd.func72 rfl rfl rfl rfl ⟨_, rfl, by omega⟩ (by omega) rfl (lt_of_ble rfl)
           rintro r4 zs4 p4 ⟨bs4, rfl, hb4⟩ hp4
           have hl4 : bs4.length ≤ 1000 := by rcases hb4 _ rfl with h | h <;> first | omega | (rw [h]; simp)
           apply Wk.fnx [66] cputW Tryd.func71 rfl rfl rfl ⟨m, w, pp, u, y, x2, bs4, rfl, hx2, hl4⟩ rfl (by simp; rfl) (lt_of_ble rfl)
           rintro r9 ex ⟨T, b9, rfl, ⟨x9, hx9, rfl, rfl⟩ | ⟨rfl, rfl⟩⟩
           · apply Wk.mv (by conv => lhs; whnf) (lt_of_ble rfl)
             apply Wk.ext rfl rfl (lt_of_ble rfl)
             apply Wk.ext rfl rfl (lt_of_ble rfl)
             apply Wk.sto (i := 70) 5 true ty27 rfl rfl rfl rfl (Nat.le_of_ble_eq_true rfl) (lt_of_ble rfl)
             refine Wk.nil ?_
             repeat (first | refine inBlockA_normal ?_ | refine thenA_normal ?_)
             exact ⟨(zs4, p4, k2, x9), ⟨rfl, by simp only; omega, hx9⟩, fin1 zs4 p4 k2 x9 _ rfl rfl rfl rfl rfl rfl rfl rfl rfl rfl rfl rfl⟩
           · apply Wk.mv (by conv => lhs; whnf) (lt_of_ble rfl)
             apply Wk.ext rfl rfl (lt_of_ble rfl)
             apply Wk.ext rfl rfl (lt_of_ble rfl)
             apply Wk.sto (i := 70) 5 true ty27 rfl rfl rfl rfl (Nat.le_of_ble_eq_true rfl) (lt_of_ble rfl)
             refine Wk.nil ?_
             repeat (first | refine inBlockA_normal ?_ | refine thenA_normal ?_)
             exact ⟨(zs4, p4, k2, cx0), ⟨rfl, by simp only; omega, cx0_good⟩, finN zs4 p4 k2 _ rfl rfl rfl rfl rfl rfl rfl rfl rfl rfl rfl⟩
         · rfl
         · rfl
       · skip
         refine AW.seq (AW.seq ?_)
         apply AW.list
         apply Wk.bin rfl rfl (fun w => by simp [go_sem] <;> rfl) (lt_of_ble rfl)
         apply Wk.asg (by conv => lhs; whnf) (lt_of_ble rfl)
         refine Wk.nil ?_
         refine AW.cond rfl (fun hc => by cases hc) (fun _ => ?_)
         apply AW.list
         apply Wk.bin rfl rfl (fun w => by simp [go_sem] <;> rfl) (lt_of_ble rfl)
         apply Wk.asg (by conv => lhs; whnf) (lt_of_ble rfl)
         refine Wk.nil (thenA_normal ?_)
         refine AW.cond rfl (fun _ => ?_) (fun hc => by cases hc)
         apply AW.draw (hm := hmix) (cs := _)
         · apply Wk.ld (i := 4) 5 true ty24 rfl rfl (by conv => lhs; whnf) (lt_of_ble rfl)
           apply Wk.ld (i := 70) 5 true ty27 rfl rfl (by conv => lhs; whnf) (lt_of_ble rfl)
           apply Wk.mv (by conv => lhs; whnf) (lt_of_ble rfl)
           apply Wk.fad 3 0 false fd24_3 rfl (lt_of_ble rfl)
           apply Wk.ld (i := 4) 1 false ty3 rfl rfl (by conv => lhs; whnf) (lt_of_ble rfl)
           apply Wk.drw 0 bytes_ok Tryd.func72 rfl rfl rfl rfl ⟨_, rfl, by omega⟩ (by omega) rfl (lt_of_ble rfl)
           rintro r4 zs4 p4 ⟨bs4, rfl, hb4⟩ hp4
           have hl4 : bs4.length ≤ 1000 := by rcases hb4 _ rfl with h | h <;> first | omega | (rw [h]; simp)
           apply Wk.fnx [66] cputW Tryd.func71 rfl rfl rfl ⟨m, w, pp, u, y, x2, bs4, rfl, hx2, hl4⟩ rfl (by simp; rfl) (lt_of_ble rfl)
           rintro r9 ex ⟨T, b9, rfl, ⟨x9, hx9, rfl, rfl⟩ | ⟨rfl, rfl⟩⟩
           · apply Wk.mv (by conv => lhs; whnf) (lt_of_ble rfl)
             apply Wk.ext rfl rfl (lt_of_ble rfl)
             apply Wk.ext rfl rfl (lt_of_ble rfl)
             apply Wk.sto (i := 70) 5 true ty27 rfl rfl rfl rfl (Nat.le_of_ble_eq_true rfl) (lt_of_ble rfl)
             refine Wk.nil ?_
             repeat (first | refine inBlockA_normal ?_ | refine thenA_normal ?_)
             exact ⟨(zs4, p4, k2, x9), ⟨rfl, by simp only; omega, hx9⟩, fin1 zs4 p4 k2 x9 _ rfl rfl rfl rfl rfl rfl rfl rfl rfl rfl rfl rfl⟩
           · apply Wk.mv (by conv => lhs; whnf) (lt_of_ble rfl)
             apply Wk.ext rfl rfl (lt_of_ble rfl)
             apply Wk.ext rfl rfl (lt_of_ble rfl)
             apply Wk.sto (i := 70) 5 true ty27 rfl rfl rfl rfl (Nat.le_of_ble_eq_true rfl) (lt_of_ble rfl)
             refine Wk.nil ?_
             repeat (first | refine inBlockA_normal ?_ | refine thenA_normal ?_)
             exact ⟨(zs4, p4, k2, cx0), ⟨rfl, by simp only; omega, cx0_good⟩, finN zs4 p4 k2 _ rfl rfl rfl rfl rfl rfl rfl rfl rfl rfl rfl⟩
         · rfl
         · rfl
       · skip
         refine AW.seq (AW.seq ?_)
         apply AW.list
         apply Wk.bin rfl rfl (fun w => by simp [go_sem] <;> rfl) (lt_of_ble rfl)
         apply Wk.asg (by conv => lhs; whnf) (lt_of_ble rfl)
         refine Wk.nil ?_
         refine AW.cond rfl (fun hc => by cases hc) (fun _ => ?_)
         apply AW.list
         apply Wk.bin rfl rfl (fun w => by simp [go_sem] <;> rfl) (lt_of_ble rfl)
         apply Wk.asg (by conv => lhs; whnf) (lt_of_ble rfl)
         refine Wk.nil (thenA_normal ?_)
         refine AW.cond rfl (fun hc => by cases hc) (fun _ => ?_)
         refine AW.seq ?_
         apply AW.list
         apply Wk.bin rfl rfl (fun w => by simp [go_sem] <;> rfl) (lt_of_ble rfl)
         apply Wk.asg (by conv => lhs; whnf) (lt_of_ble rfl)
         refine Wk.nil ?_
         refine AW.cond rfl (fun _ => ?_) (fun hc => by cases hc)
         apply AW.draw (hm := hmix) (cs := _)
         · apply Wk.ld (i := 4) 5 true ty24 rfl rfl (by conv => lhs; whnf) (lt_of_ble rfl)
           apply Wk.ld (i := 70) 5 true ty27 rfl rfl (by conv => lhs; whnf) (lt_of_ble rfl)
           apply Wk.mv (by conv => lhs; whnf) (lt_of_ble rfl)
           apply Wk.drw 0 pick_ok Tryd.func52 rfl rfl rfl rfl ⟨_, rfl, by omega⟩ (by omega) rfl (lt_of_ble rfl)
           rintro r4 zs4 p4 ⟨k4, rfl, hk4⟩ hp4
           have hk4i : (k4 : Int) < 6 := by have := hk4 6 rfl; omega
           apply Wk.addi rfl rfl (by omega) (lt_of_ble rfl)
           apply Wk.mv (by conv => lhs; whnf) (lt_of_ble rfl)
           apply Wk.drw 0 pick_ok Tryd.func52 rfl rfl rfl rfl ⟨_, rfl, by omega⟩ (by omega) rfl (lt_of_ble rfl)
           rintro r5 zs5 p5 ⟨k5, rfl, hk5⟩ hp5
           have hk5i : (k5 : Int) < 250 := by have := hk5 250 rfl; omega
           apply Wk.addi rfl rfl (by omega) (lt_of_ble rfl)
           apply Wk.lst 48 1 false [.int .i64 0] un89 ty3 ze3 rfl rfl (by rfl) (by rfl) (by decide) (by decide) rfl rfl (all_len rfl) (lt_of_ble rfl)
           apply Wk.mv (by conv => lhs; whnf) (lt_of_ble rfl)
           apply Wk.drw 0 pick_ok Tryd.func52 rfl rfl rfl rfl ⟨_, rfl, by omega⟩ (by omega) rfl (lt_of_ble rfl)
           rintro r6 zs6 p6 ⟨k9, rfl, hk9⟩ hp6
           have hk9' : k9 < 2 := by have := hk9 2 rfl; omega
           obtain ⟨v, hv⟩ : ∃ v : Int, partA (List.flatten [[A.d (.v (.int .i64 (1 + (k4 : Int))))], [A.d (.v (.int .i64 (1 + (k5 : Int))))]]) (k9 * 1) 1 false = some (.d (.v (.int .i64 v))) := by
             rcases (show k9 = 0 ∨ k9 = 1 by omega) with rfl | rfl <;> exact ⟨_, rfl⟩
           apply Wk.iado 48 1 false un89 ty3 rfl rfl rfl hk9' (lt_of_ble rfl)
           apply Wk.ldo (i := 48) 1 false ty3 rfl rfl hv (lt_of_ble rfl)
           apply Wk.fnx [66] ctakeW Tryd.func20 rfl rfl rfl ⟨m, w, pp, u, y, x2, v, rfl, hx2⟩ rfl (by simp; rfl) (lt_of_ble rfl)
           rintro r9 ex (⟨x9, hx9, rfl, rfl⟩ | ⟨rfl, rfl⟩)
           · apply Wk.sto (i := 70) 5 true ty27 rfl rfl rfl rfl (Nat.le_of_ble_eq_true rfl) (lt_of_ble rfl)
             refine Wk.nil ?_
             repeat (first | refine inBlockA_normal ?_ | refine thenA_normal ?_)
             exact ⟨(zs6, p6, k2, x9), ⟨rfl, by simp only; omega, hx9⟩, fin1 zs6 p6 k2 x9 _ rfl rfl rfl rfl rfl rfl rfl rfl rfl rfl rfl rfl⟩
           · apply Wk.sto (i := 70) 5 true ty27 rfl rfl rfl rfl (Nat.le_of_ble_eq_true rfl) (lt_of_ble rfl)
             refine Wk.nil ?_
             repeat (first | refine inBlockA_normal ?_ | refine thenA_normal ?_)
             exact ⟨(zs6, p6, k2, cx0), ⟨rfl, by simp only; omega, cx0_good⟩, finN zs6 p6 k2 _ rfl rfl rfl rfl rfl rfl rfl rfl rfl rfl rfl⟩
         · rfl
         · rfl
       · skip
         refine AW.seq (AW.seq ?_)
         apply AW.list
         apply Wk.bin rfl rfl (fun w => by simp [go_sem] <;> rfl) (lt_of_ble rfl)
         apply Wk.asg (by conv => lhs; whnf) (lt_of_ble rfl)
         refine Wk.nil ?_
         refine AW.cond rfl (fun hc => by cases hc) (fun _ => ?_)
         apply AW.list
         apply Wk.bin rfl rfl (fun w => by simp [go_sem] <;> rfl) (lt_of_ble rfl)
         apply Wk.asg (by conv => lhs; whnf) (lt_of_ble rfl)
         refine Wk.nil (thenA_normal ?_)
         refine AW.cond rfl (fun hc => by cases hc) (fun _ => ?_)
         refine AW.seq ?_
         apply AW.list
         apply Wk.bin rfl rfl (fun w => by simp [go_sem] <;> rfl) (lt_of_ble rfl)
         apply Wk.asg (by conv => lhs; whnf) (lt_of_ble rfl)
         refine Wk.nil ?_
         refine AW.cond rfl (fun hc => by cases hc) (fun _ => ?_)
         apply AW.list
         apply Wk.ld (i := 4) 5 true ty24 rfl rfl (by conv => lhs; whnf) (lt_of_ble rfl)
         apply Wk.ld (i := 70) 5 true ty27 rfl rfl (by conv => lhs; whnf) (lt_of_ble rfl)
         apply Wk.fnx [66] csendW Tryd.func9 rfl rfl rfl ⟨m, w, pp, u, y, x2, rfl, hx2⟩ rfl (by simp; rfl) (lt_of_ble rfl)
         rintro r9 ex ⟨T, i1, i2, i3, b1, b2, i4, i5, i6, z9, b9, rfl, ⟨x9, hx9, rfl, rfl⟩ | ⟨rfl, rfl⟩⟩
         · apply Wk.mv (by conv => lhs; whnf) (lt_of_ble rfl)
           apply Wk.ext rfl rfl (lt_of_ble rfl)
           apply Wk.ext rfl rfl (lt_of_ble rfl)
           apply Wk.ext rfl rfl (lt_of_ble rfl)
           apply Wk.sto (i := 70) 5 true ty27 rfl rfl rfl rfl (Nat.le_of_ble_eq_true rfl) (lt_of_ble rfl)
           refine Wk.nil ?_
           repeat (first | refine inBlockA_normal ?_ | refine thenA_normal ?_)
           exact ⟨(zs3, p3, k2, x9), ⟨rfl, by simp only; omega, hx9⟩, fin1 zs3 p3 k2 x9 _ rfl rfl rfl rfl rfl rfl rfl rfl rfl rfl rfl rfl⟩
         · apply Wk.mv (by conv => lhs; whnf) (lt_of_ble rfl)
           apply Wk.ext rfl rfl (lt_of_ble rfl)
           apply Wk.ext rfl rfl (lt_of_ble rfl)
           apply Wk.ext rfl rfl (lt_of_ble rfl)
           apply Wk.sto (i := 70) 5 true ty27 rfl rfl rfl rfl (Nat.le_of_ble_eq_true rfl) (lt_of_ble rfl)
           refine Wk.nil ?_
           repeat (first | refine inBlockA_normal ?_ | refine thenA_normal ?_)
           exact ⟨(zs3, p3, k2, cx0), ⟨rfl, by simp only; omega, cx0_good⟩, finN zs3 p3 k2 _ rfl rfl rfl rfl rfl rfl rfl rfl rfl rfl rfl⟩
     · rintro ⟨zs4, p4, k4, x4⟩ ⟨rfl, hp4, hx4⟩
       simp only at hp4 hx4 hk2 hp2 hpos ⊢
       show AW Tryd.prog C _ _ (St.of 97 [(0, .ptr 0 0), (2, .d (.v (.int .i64 nn))), (4, .ptr 4 0), (6, .ptr 6 0), (7, .ptr 70 0), (8, .d (.v (.int .i64 (k4 : Int))))] [(0, rdr zs4 p4), (4, .var (cfgC m w pp u y)), (6, .var cxN), (66, .own x4.qu.length 41 3 (piecesA x4.qu)), (70, .var (cxOC x4 x4.qu.length))])
       apply AW.list
       apply Wk.mv (by conv => lhs; whnf) (lt_of_ble rfl)
       apply Wk.subn (b := 1) rfl rfl (by omega) (by omega) (lt_of_ble rfl)
       apply Wk.asg (by conv => lhs; whnf) (lt_of_ble rfl)
       refine Wk.nil ?_
       exact ⟨(zs4, p4, k4 - 1, x4), ⟨by simp only; omega, by simp only; omega, hx4⟩, by simp only; omega, fin1 zs4 p4 (k4 - 1) x4 _ rfl rfl rfl rfl rfl rfl rfl rfl rfl rfl rfl rfl⟩
   · obtain rfl : k2 = 0 := by simp at hc; omega
     refine AW.exit ?_
     repeat (first | refine inBlockA_same ?_ | refine thenA_exit ?_)
     repeat (first | refine thenA_normal ?_ | refine inBlockA_normal ?_)
     refine AW.via inv2 (fun z => z.2.1 ≤ p + 59999 ∧ z.2.2.wide) ?_ ?_
     · refine AW.seq ?_
       apply AW.list
       apply Wk.mv (by conv => lhs; whnf) (lt_of_ble rfl)
       apply Wk.mv (by conv => lhs; whnf) (lt_of_ble rfl)
       apply Wk.drw 0 odd_ok Tryd.func61 rfl rfl rfl rfl ⟨_, rfl, by omega⟩ (by omega) rfl (lt_of_ble rfl)
       rintro r3 zs3 p3 ⟨b3, rfl, _⟩ hp3
       refine Wk.nil ?_
       refine AW.cond rfl (fun hc => ?_) (fun hc => AW.skip (thenA_normal ?_))
       · refine AW.seq ?_
         apply AW.list
         apply Wk.mv (by conv => lhs; whnf) (lt_of_ble rfl)
         apply Wk.drw 0 pick_ok Tryd.func52 rfl rfl rfl rfl ⟨_, rfl, by omega⟩ (by omega) rfl (lt_of_ble rfl)
         rintro r4 zs4 p4 ⟨k4, rfl, hk4⟩ hp4
         have hk4' : k4 < 4 := by have := hk4 4 rfl; omega
         refine Wk.nil (AW.block ?_)
         rcases (show k4 = 0 ∨ k4 = 1 ∨ k4 = 2 ∨ k4 = 3 by omega) with rfl | rfl | rfl | rfl
         · have hw2 := hx2.wide
           refine AW.seq ?_
           apply AW.list
           apply Wk.bin rfl rfl (fun w => by simp [go_sem] <;> rfl) (lt_of_ble rfl)
           apply Wk.asg (by conv => lhs; whnf) (lt_of_ble rfl)
           refine Wk.nil ?_
           refine AW.cond rfl (fun _ => ?_) (fun hc => by cases hc)
           have hv0 := hx2.1
           apply AW.draw (hm := hmix) (cs := _)
           · apply Wk.fad 0 0 false fd27_0 rfl (lt_of_ble rfl)
             apply Wk.ld (i := 70) 1 false ty3 rfl rfl (by conv => lhs; whnf) (lt_of_ble rfl)
             apply Wk.addi rfl rfl (by omega) (lt_of_ble rfl)
             apply Wk.lst 71 1 false [.int .i64 0] un89 ty3 ze3 rfl rfl (by rfl) (by rfl) (by decide) (by decide) rfl rfl (all_len rfl) (lt_of_ble rfl)
             apply Wk.mv (by conv => lhs; whnf) (lt_of_ble rfl)
             apply Wk.drw 0 pick_ok Tryd.func52 rfl rfl rfl rfl ⟨_, rfl, by omega⟩ (by omega) rfl (lt_of_ble rfl)
             rintro r9 zs9 p9 ⟨k9, rfl, hk9⟩ hp9
             have hk9' : k9 < 3 := by have := hk9 3 rfl; omega
             obtain ⟨v, hv, hv1, hv2⟩ : ∃ v : Int, partA (List.flatten [[A.d (.v (.int .i64 (-1)))], [A.d (.v (.int .i64 256))], [A.d (.v (.int .i64 (x2.v + 1)))]]) (k9 * 1) 1 false = some (.d (.v (.int .i64 v))) ∧ -1 ≤ v ∧ v ≤ 256 := by
               rcases (show k9 = 0 ∨ k9 = 1 ∨ k9 = 2 by omega) with rfl | rfl | rfl
               · exact ⟨_, rfl, by omega, by omega⟩
               · exact ⟨_, rfl, by omega, by omega⟩
               · exact ⟨_, rfl, by omega, by omega⟩
             apply Wk.iado 71 1 false un89 ty3 rfl rfl rfl hk9' (lt_of_ble rfl)
             apply Wk.ldo (i := 71) 1 false ty3 rfl rfl hv (lt_of_ble rfl)
             apply Wk.fad 0 0 false fd27_0 rfl (lt_of_ble rfl)
             apply Wk.sto (i := 70) 1 false ty3 rfl rfl rfl rfl (Nat.le_of_ble_eq_true rfl) (lt_of_ble rfl)
             refine Wk.nil ?_
             repeat (first | refine inBlockA_normal ?_ | refine thenA_normal ?_)
             exact ⟨(zs9, p9, { x2 with v := v }), ⟨by simp only; omega, ⟨⟨hv1, hv2⟩, hw2.2⟩⟩, fin2 zs9 p9 { x2 with v := v } _ _ _ (asData_parts _) rfl rfl rfl rfl rfl rfl rfl rfl⟩
           · rfl
           · rfl
         · have hw2 := hx2.wide
           refine AW.seq ?_
           apply AW.list
           apply Wk.bin rfl rfl (fun w => by simp [go_sem] <;> rfl) (lt_of_ble rfl)
           apply Wk.asg (by conv => lhs; whnf) (lt_of_ble rfl)
           refine Wk.nil ?_
           refine AW.cond rfl (fun hc => by cases hc) (fun _ => ?_)
           refine AW.seq ?_
           apply AW.list
           apply Wk.bin rfl rfl (fun w => by simp [go_sem] <;> rfl) (lt_of_ble rfl)
           apply Wk.asg (by conv => lhs; whnf) (lt_of_ble rfl)
           refine Wk.nil ?_
           refine AW.cond rfl (fun _ => ?_) (fun hc => by cases hc)
           have hv0 := hx2.2.2.2
           apply AW.draw (hm := hmix) (cs := _)
           · apply Wk.fad 3 0 false fd27_3 rfl (lt_of_ble rfl)
             apply Wk.ld (i := 70) 1 false ty3 rfl rfl (by conv => lhs; whnf) (lt_of_ble rfl)
             apply Wk.addi rfl rfl (by omega) (lt_of_ble rfl)
             apply Wk.lst 81 1 false [.int .i64 0] un89 ty3 ze3 rfl rfl (by rfl) (by rfl) (by decide) (by decide) rfl rfl (all_len rfl) (lt_of_ble rfl)
             apply Wk.mv (by conv => lhs; whnf) (lt_of_ble rfl)
             apply Wk.drw 0 pick_ok Tryd.func52 rfl rfl rfl rfl ⟨_, rfl, by omega⟩ (by omega) rfl (lt_of_ble rfl)
             rintro r9 zs9 p9 ⟨k9, rfl, hk9⟩ hp9
             have hk9' : k9 < 3 := by have := hk9 3 rfl; omega
             obtain ⟨v, hv, hv1, hv2⟩ : ∃ v : Int, partA (List.flatten [[A.d (.v (.int .i64 (-1)))], [A.d (.v (.int .i64 10000))], [A.d (.v (.int .i64 (x2.s + 1)))]]) (k9 * 1) 1 false = some (.d (.v (.int .i64 v))) ∧ -1 ≤ v ∧ v ≤ 10000 := by
               rcases (show k9 = 0 ∨ k9 = 1 ∨ k9 = 2 by omega) with rfl | rfl | rfl
               · exact ⟨_, rfl, by omega, by omega⟩
               · exact ⟨_, rfl, by omega, by omega⟩
               · exact ⟨_, rfl, by omega, by omega⟩
             apply Wk.iado 81 1 false un89 ty3 rfl rfl rfl hk9' (lt_of_ble rfl)
             apply Wk.ldo (i := 81) 1 false ty3 rfl rfl hv (lt_of_ble rfl)
             apply Wk.fad 3 0 false fd27_3 rfl (lt_of_ble rfl)
             apply Wk.sto (i := 70) 1 false ty3 rfl rfl rfl rfl (Nat.le_of_ble_eq_true rfl) (lt_of_ble rfl)
             refine Wk.nil ?_
             repeat (first | refine inBlockA_normal ?_ | refine thenA_normal ?_)
             exact ⟨(zs9, p9, { x2 with s := v }), ⟨by simp only; omega, ⟨hw2.1, hw2.2.1, hw2.2.2.1, ⟨hv1, hv2⟩⟩⟩, fin2 zs9 p9 { x2 with s := v } _ _ _ (asData_parts _) rfl rfl rfl rfl rfl rfl rfl rfl⟩
           · rfl
           · rfl
         · have hw2 := hx2.wide
           refine AW.seq ?_
           apply AW.list
           apply Wk.bin rfl rfl (fun w => by simp [go_sem] <;> rfl) (lt_of_ble rfl)
           apply Wk.asg (by conv => lhs; whnf) (lt_of_ble rfl)
           refine Wk.nil ?_
           refine AW.cond rfl (fun hc => by cases hc) (fun _ => ?_)
           refine AW.seq ?_
           apply AW.list
           apply Wk.bin rfl rfl (fun w => by simp [go_sem] <;> rfl) (lt_of_ble rfl)
           apply Wk.asg (by conv => lhs; whnf) (lt_of_ble rfl)
           refine Wk.nil ?_
           refine AW.cond rfl (fun hc => by cases hc) (fun _ => ?_)
           refine AW.seq ?_
           apply AW.list
           apply Wk.bin rfl rfl (fun w => by simp [go_sem] <;> rfl) (lt_of_ble rfl)
           apply Wk.asg (by conv => lhs; whnf) (lt_of_ble rfl)
           refine Wk.nil ?_
           refine AW.cond rfl (fun _ => ?_) (fun hc => by cases hc)
           have hlq := hx2.2.1.1
           apply AW.draw (hm := hmix) (cs := _)
           · apply Wk.fad 1 0 false fd27_1 rfl (lt_of_ble rfl)
             apply Wk.ld (i := 70) 1 false ty25 rfl rfl (by conv => lhs; whnf) (lt_of_ble rfl)
             apply Wk.mv (by conv => lhs; whnf) (lt_of_ble rfl)
             apply Wk.drw 0 partOr_ok Tryd.func73 rfl rfl rfl rfl ⟨_, rfl, by omega⟩ (by omega) rfl (lt_of_ble rfl)
             rintro r9 zs9 p9 ⟨sg, ln, bs, rfl, hs1, hl1, hb1⟩ hp9
             apply Wk.lst 93 3 true [.int .i64 0, .int .i64 0, .slice none 0 0] un25 ty41 ze41 rfl rfl (by rfl) (by rfl) (by decide) (by decide) rfl rfl (all_len rfl) (lt_of_ble rfl)
             apply Wk.appOO 66 93 3 un25 ap41 rfl rfl rfl rfl (by decide) (all_len rfl) (three_parts _) (by simp [piecesA]; omega) (lt_of_ble rfl)
             apply Wk.fad 1 0 false fd27_1 rfl (lt_of_ble rfl)
             apply Wk.sto (i := 70) 1 false ty25 rfl rfl rfl rfl (Nat.le_of_ble_eq_true rfl) (lt_of_ble rfl)
             have ha9 : asData (piecesA x2.qu ++ [[A.d (.v (.int .i64 sg)), A.d (.v (.int .i64 ln)), A.d (fbytes bs)]]) ((x2.qu ++ [(sg, ln, bs.map (·.val))]).map datD) := asData_more (asData_parts _) _ _ rfl
             have hq9 : (x2.qu ++ [(sg, ln, bs.map (·.val))]).length ≤ 25 ∧ ∀ d ∈ x2.qu ++ [(sg, ln, bs.map (·.val))], (Byt d.2.2 ∧ d.2.2.length ≤ 24) := by
               refine ⟨by simp only [List.length_append, List.length_singleton]; omega, fun d hd => ?_⟩
               rcases List.mem_append.1 hd with hd | hd
               · exact hx2.2.1.2 d hd
               · rw [List.mem_singleton.1 hd]; exact ⟨fin_byt bs, by simp; omega⟩
             refine Wk.nil ?_
             repeat (first | refine inBlockA_normal ?_ | refine thenA_normal ?_)
             exact ⟨(zs9, p9, { x2 with qu := x2.qu ++ [(sg, ln, bs.map (·.val))] }), ⟨by simp only; omega, ⟨hw2.1, hq9, hw2.2.2⟩⟩, fin2 zs9 p9 { x2 with qu := x2.qu ++ [(sg, ln, bs.map (·.val))] } _ _ _ ha9 rfl rfl rfl rfl rfl rfl rfl rfl⟩
           · rfl
           · rfl
         · have hw2 := hx2.wide
           refine AW.seq ?_
           apply AW.list
           apply Wk.bin rfl rfl (fun w => by simp [go_sem] <;> rfl) (lt_of_ble rfl)
           apply Wk.asg (by conv => lhs; whnf) (lt_of_ble rfl)
           refine Wk.nil ?_
           refine AW.cond rfl (fun hc => by cases hc) (fun _ => ?_)
           refine AW.seq ?_
           apply AW.list
           apply Wk.bin rfl rfl (fun w => by simp [go_sem] <;> rfl) (lt_of_ble rfl)
           apply Wk.asg (by conv => lhs; whnf) (lt_of_ble rfl)
           refine Wk.nil ?_
           refine AW.cond rfl (fun hc => by cases hc) (fun _ => ?_)
           refine AW.seq ?_
           apply AW.list
           apply Wk.bin rfl rfl (fun w => by simp [go_sem] <;> rfl) (lt_of_ble rfl)
           apply Wk.asg (by conv => lhs; whnf) (lt_of_ble rfl)
           refine Wk.nil ?_
           refine AW.cond rfl (fun hc => by cases hc) (fun _ => ?_)
           apply AW.list
           apply Wk.lst 59 1 false [.int .i64 0] un89 ty3 ze3 rfl rfl (by rfl) (by rfl) (by decide) (by decide) rfl rfl (all_len rfl) (lt_of_ble rfl)
           apply Wk.mv (by conv => lhs; whnf) (lt_of_ble rfl)
           apply Wk.drw 0 pick_ok Tryd.func52 rfl rfl rfl rfl ⟨_, rfl, by omega⟩ (by omega) rfl (lt_of_ble rfl)
           rintro r9 zs9 p9 ⟨k9, rfl, hk9⟩ hp9
           have hk9' : k9 < 2 := by have := hk9 2 rfl; omega
           obtain ⟨v, hv, hv1, hv2⟩ : ∃ v : Int, partA (List.flatten [[A.d (.v (.int .i64 (-1)))], [A.d (.v (.int .i64 10000))]]) (k9 * 1) 1 false = some (.d (.v (.int .i64 v))) ∧ -1 ≤ v ∧ v ≤ 10000 := by
             rcases (show k9 = 0 ∨ k9 = 1 by omega) with rfl | rfl
             · exact ⟨_, rfl, by omega, by omega⟩
             · exact ⟨_, rfl, by omega, by omega⟩
           apply Wk.iado 59 1 false un89 ty3 rfl rfl rfl hk9' (lt_of_ble rfl)
           apply Wk.ldo (i := 59) 1 false ty3 rfl rfl hv (lt_of_ble rfl)
           apply Wk.fad 2 0 false fd27_2 rfl (lt_of_ble rfl)
           apply Wk.sto (i := 70) 1 false ty3 rfl rfl rfl rfl (Nat.le_of_ble_eq_true rfl) (lt_of_ble rfl)
           refine Wk.nil ?_
           repeat (first | refine inBlockA_normal ?_ | refine thenA_normal ?_)
           exact ⟨(zs9, p9, { x2 with g := v }), ⟨by simp only; omega, ⟨hw2.1, hw2.2.1, ⟨hv1, hv2⟩, hw2.2.2.2⟩⟩, fin2 zs9 p9 { x2 with g := v } _ _ _ (asData_parts _) rfl rfl rfl rfl rfl rfl rfl rfl⟩
       · exact ⟨(zs3, p3, x2), ⟨by simp only; omega, hx2.wide⟩, fin2 zs3 p3 x2 _ _ _ (asData_parts _) rfl rfl rfl rfl rfl rfl rfl rfl⟩
     · rintro ⟨zs9, p9, x9⟩ ⟨hp9, hx9⟩
       simp only at hp9 hx9
       show AW Tryd.prog C _ _ (St.of 97 [(0, .ptr 0 0), (6, .ptr 6 0), (7, .ptr 70 0)] [(0, rdr zs9 p9), (6, .var cxN), (70, .var (cxC x9))])
       refine AW.seq ?_
       apply AW.list
       apply Wk.ld (i := 70) 5 true ty27 rfl rfl (by conv => lhs; whnf) (lt_of_ble rfl)
       apply Wk.sto (i := 6) 5 true ty27 rfl rfl rfl rfl (Nat.le_of_ble_eq_true rfl) (lt_of_ble rfl)
       refine Wk.nil (AW.ret ?_)
       exact RetQ.ret [(0, rdr zs9 p9)] (.cons ⟨6, 0, _, _, _, rfl, rfl, ty27, rfl⟩ .nil) ⟨⟨x9, rfl, hx9⟩, _, _, rfl, by omega⟩ (kept1 rfl)
 · rintro rest ⟨m, w, pp, u, y, nn, rfl, _⟩; rfl
 · rintro rest _; exact ⟨_, cx0, rfl, cx0_good.wide⟩
 · rintro rest r ⟨x, rfl, _⟩; rfl
end Go.Proofs.YtejafihfbncaoaaDoor

/- Pieces that are the same, by the laws' own words. -/
namespace Go.Proofs.YtejafihfbncaoaaDoor
open Go Go.RowKit
theorem liBytesE (zs : List Nat) : DataOk Tryd.prog 35 [.d (bytesD zs), .d (bytesD zs)] (.d (.v (.bool true))) := by
  have h := liBytes_ok zs zs
  simpa using h
theorem liPartE (d : Dat) : DataOk Tryd.prog 16 [partN d, partN d] (.d (.v (.bool true))) := by
  obtain ⟨g, l, ys⟩ := d
  refine Spec.intro (n := 24) (rv := [.tmp 4]) Tryd.func16 rfl rfl rfl (by simp) fun C hN hX => ?_
  refine AW.seq ?_
  apply AW.list
  apply Wk.bx 2 rfl rfl (lt_of_ble rfl)
  apply Wk.bx 3 rfl rfl (lt_of_ble rfl)
  apply Wk.asg (by conv => lhs; whnf) (lt_of_ble rfl)
  refine Wk.nil ?_
  refine AW.seq ?_
  apply AW.list
  apply Wk.fad 0 0 false fd41_0 rfl (lt_of_ble rfl)
  apply Wk.ld (i := 2) 1 false ty3 rfl rfl (by conv => lhs; whnf) (lt_of_ble rfl)
  apply Wk.fad 0 0 false fd41_0 rfl (lt_of_ble rfl)
  apply Wk.ld (i := 3) 1 false ty3 rfl rfl (by conv => lhs; whnf) (lt_of_ble rfl)
  apply Wk.bin rfl rfl (r := .bool true) (fun w => by simp [go_sem]) (lt_of_ble rfl)
  apply Wk.mv (by conv => lhs; whnf) (lt_of_ble rfl)
  apply Wk.gon 10 rfl rfl
  apply Wk.fad 1 0 false fd41_1 rfl (lt_of_ble rfl)
  apply Wk.gon 10 rfl rfl
  apply Wk.ld (i := 2) 1 false ty3 rfl rfl (by conv => lhs; whnf) (lt_of_ble rfl)
  apply Wk.gon 10 rfl rfl
  apply Wk.fad 1 0 false fd41_1 rfl (lt_of_ble rfl)
  apply Wk.gon 10 rfl rfl
  apply Wk.ld (i := 3) 1 false ty3 rfl rfl (by conv => lhs; whnf) (lt_of_ble rfl)
  apply Wk.gon 10 rfl rfl
  apply Wk.bin rfl rfl (r := .bool true) (fun w => by simp [go_sem]) (lt_of_ble rfl)
  apply Wk.pckT rfl (by conv => lhs; whnf) (lt_of_ble rfl)
  apply Wk.mv (by conv => lhs; whnf) (lt_of_ble rfl)
  apply Wk.gon 17 rfl rfl
  apply Wk.fad 2 0 false fd41_2 rfl (lt_of_ble rfl)
  apply Wk.gon 17 rfl rfl
  apply Wk.ld (i := 2) 1 false ty22 rfl rfl (by conv => lhs; whnf) (lt_of_ble rfl)
  apply Wk.gon 17 rfl rfl
  apply Wk.fad 2 0 false fd41_2 rfl (lt_of_ble rfl)
  apply Wk.gon 17 rfl rfl
  apply Wk.ld (i := 3) 1 false ty22 rfl rfl (by conv => lhs; whnf) (lt_of_ble rfl)
  apply Wk.gon 17 rfl rfl
  apply Wk.dat (liBytesE ys) Tryd.func35 rfl rfl rfl rfl rfl (lt_of_ble rfl)
  apply Wk.pckT rfl (by conv => lhs; whnf) (lt_of_ble rfl)
  apply Wk.asg (by conv => lhs; whnf) (lt_of_ble rfl)
  refine Wk.nil (AW.ret ?_)
  exact RetQ.ret [] (.cons rfl .nil) ⟨rfl, rfl⟩ none_kept
theorem liPartsE (ds : List Dat) : DataOk Tryd.prog 15 [.d (partsD ds), .d (partsD ds)] (.d (.v (.bool true))) := by
  refine Spec.intro (n := 27) (rv := [.tmp 4]) Tryd.func15 rfl rfl rfl (by simp) fun C hN hX => ?_
  refine AW.bound (x := .tmp 0) rfl fun hb => ?_
  simp only [List.length_map] at hb
  refine AW.seq ?_
  apply AW.list
  apply Wk.asg (by conv => lhs; whnf) (lt_of_ble rfl)
  refine Wk.nil ?_
  refine AW.seq (AW.seq ?_)
  apply AW.list
  apply Wk.mv (by conv => lhs; whnf) (lt_of_ble rfl)
  apply Wk.len un25 rfl (lt_of_ble rfl)
  apply Wk.mv (by conv => lhs; whnf) (lt_of_ble rfl)
  apply Wk.len un25 rfl (lt_of_ble rfl)
  apply Wk.bin rfl rfl (fun w => by simp [go_sem] <;> rfl) (lt_of_ble rfl)
  refine Wk.nil ?_
  refine AW.cond rfl (fun hc => by simp at hc) (fun _ => AW.skip (thenA_normal ?_))
  refine AW.seq (AW.seq ?_)
  apply AW.list
  apply Wk.asg (by conv => lhs; whnf) (lt_of_ble rfl)
  refine Wk.nil (AW.block ?_)
  refine AW.loop (fun q : Nat => St.of 27 [(0, .d (partsD ds)), (1, .d (partsD ds)), (5, .d (.v (.int .i64 (q : Int))))] []) (fun q => q ≤ ds.length) (fun q => ds.length - q) 0 (Nat.zero_le _) ?_ (fun q hq => ?_)
  · exact fun a w => Rel.keep ⟨rfl, .cons rfl rfl (.cons rfl rfl (.cons rfl rfl .nil)), .nil, hN⟩
  refine AW.seq (AW.seq ?_)
  apply AW.list
  apply Wk.mv (by conv => lhs; whnf) (lt_of_ble rfl)
  apply Wk.mv (by conv => lhs; whnf) (lt_of_ble rfl)
  apply Wk.len un25 rfl (lt_of_ble rfl)
  apply Wk.bin rfl rfl (fun w => by simp [go_sem] <;> rfl) (lt_of_ble rfl)
  refine Wk.nil ?_
  refine AW.cond rfl (fun hc => ?_) (fun hc => ?_)
  · have hlt : q < ds.length := by simpa using hc
    obtain ⟨d, hd⟩ : ∃ d, ds[q]? = some d := ⟨_, List.getElem?_eq_getElem hlt⟩
    have hget : (ds.map datD)[q]? = some (datD d) := by simp [hd]
    refine AW.skip ?_
    repeat (first | refine thenA_normal ?_ | refine inBlockA_normal ?_)
    refine AW.seq (AW.block (AW.seq ?_))
    apply AW.draw (hm := hmix) (cs := _)
    · apply Wk.mv (by conv => lhs; whnf) (lt_of_ble rfl)
      apply Wk.mv (by conv => lhs; whnf) (lt_of_ble rfl)
      apply Wk.iad 3 true un25 ty41 rfl rfl (by simpa using hlt) (datD_len ds) (lt_of_ble rfl)
      apply Wk.ldr 3 true ty41 rfl hget (by conv => lhs; whnf) (lt_of_ble rfl)
      apply Wk.mv (by conv => lhs; whnf) (lt_of_ble rfl)
      apply Wk.mv (by conv => lhs; whnf) (lt_of_ble rfl)
      apply Wk.iad 3 true un25 ty41 rfl rfl (by simpa using hlt) (datD_len ds) (lt_of_ble rfl)
      apply Wk.ldr 3 true ty41 rfl hget (by conv => lhs; whnf) (lt_of_ble rfl)
      apply Wk.dat (liPartE d) Tryd.func16 rfl rfl rfl rfl rfl (lt_of_ble rfl)
      apply Wk.un rfl (fun w => by simp [go_sem] <;> rfl) (lt_of_ble rfl)
      refine Wk.nil ?_
      refine AW.cond rfl (fun hn => by cases hn) (fun hn => ?_)
      refine AW.skip ?_
      repeat (first | refine thenA_normal ?_ | refine inBlockA_normal ?_)
      apply AW.list
      apply Wk.mv (by conv => lhs; whnf) (lt_of_ble rfl)
      apply Wk.addi rfl rfl (by omega) (lt_of_ble rfl)
      apply Wk.asg (by conv => lhs; whnf) (lt_of_ble rfl)
      refine Wk.nil ?_
      exact ⟨q + 1, by omega, by omega, fun a w => Rel.keep ⟨rfl, .cons rfl rfl (.cons rfl rfl (.cons rfl rfl .nil)), .nil, hN⟩⟩
    · rfl
    · rfl
  · refine AW.exit ?_
    repeat (first | refine inBlockA_same ?_ | refine thenA_exit ?_)
    repeat (first | refine thenA_normal ?_ | refine inBlockA_normal ?_)
    refine AW.seq ?_
    apply AW.list
    apply Wk.asg (by conv => lhs; whnf) (lt_of_ble rfl)
    refine Wk.nil (AW.ret ?_)
    repeat (first | refine thenA_ret ?_ | refine inBlockA_ret ?_)
    exact RetQ.ret [] (.cons rfl .nil) ⟨rfl, rfl⟩ none_kept
end Go.Proofs.YtejafihfbncaoaaDoor

/- Two of who sends for credits that are the same, by the laws' own words. Written by tools/mk_AbsCrdPutI.py. -/
namespace Go.Proofs.YtejafihfbncaoaaDoor
open Go Go.RowKit
set_option maxHeartbeats 4000000 in
set_option maxRecDepth 100000 in
theorem liCtxE (x : CX) : DataOk Tryd.prog 10 [cxA x, cxA x] (.d (.v (.bool true))) := by
  obtain ⟨v, qu, g, s, d⟩ := x
  refine Spec.intro (n := 38) (rv := [.tmp 4]) Tryd.func10 rfl rfl rfl (by simp) fun C hN hX => ?_
  refine AW.seq ?_
  apply AW.list
  apply Wk.bx 2 rfl rfl (lt_of_ble rfl)
  apply Wk.bx 3 rfl rfl (lt_of_ble rfl)
  apply Wk.asg (by conv => lhs; whnf) (lt_of_ble rfl)
  refine Wk.nil ?_
  refine AW.seq ?_
  apply AW.list
  apply Wk.fad 0 0 false fd27_0 rfl (lt_of_ble rfl)
  apply Wk.ld (i := 2) 1 false ty3 rfl rfl (by conv => lhs; whnf) (lt_of_ble rfl)
  apply Wk.fad 0 0 false fd27_0 rfl (lt_of_ble rfl)
  apply Wk.ld (i := 3) 1 false ty3 rfl rfl (by conv => lhs; whnf) (lt_of_ble rfl)
  apply Wk.bin rfl rfl (r := .bool true) (fun w => by simp [go_sem]) (lt_of_ble rfl)
  apply Wk.mv (by conv => lhs; whnf) (lt_of_ble rfl)
  apply Wk.gon 10 rfl rfl
  apply Wk.fad 1 0 false fd27_1 rfl (lt_of_ble rfl)
  apply Wk.gon 10 rfl rfl
  apply Wk.ld (i := 2) 1 false ty25 rfl rfl (by conv => lhs; whnf) (lt_of_ble rfl)
  apply Wk.gon 10 rfl rfl
  apply Wk.fad 1 0 false fd27_1 rfl (lt_of_ble rfl)
  apply Wk.gon 10 rfl rfl
  apply Wk.ld (i := 3) 1 false ty25 rfl rfl (by conv => lhs; whnf) (lt_of_ble rfl)
  apply Wk.gon 10 rfl rfl
  apply Wk.dat (liPartsE qu) Tryd.func15 rfl rfl rfl rfl rfl (lt_of_ble rfl)
  apply Wk.pckT rfl (by conv => lhs; whnf) (lt_of_ble rfl)
  apply Wk.mv (by conv => lhs; whnf) (lt_of_ble rfl)
  apply Wk.gon 17 rfl rfl
  apply Wk.fad 2 0 false fd27_2 rfl (lt_of_ble rfl)
  apply Wk.gon 17 rfl rfl
  apply Wk.ld (i := 2) 1 false ty3 rfl rfl (by conv => lhs; whnf) (lt_of_ble rfl)
  apply Wk.gon 17 rfl rfl
  apply Wk.fad 2 0 false fd27_2 rfl (lt_of_ble rfl)
  apply Wk.gon 17 rfl rfl
  apply Wk.ld (i := 3) 1 false ty3 rfl rfl (by conv => lhs; whnf) (lt_of_ble rfl)
  apply Wk.gon 17 rfl rfl
  apply Wk.bin rfl rfl (r := .bool true) (fun w => by simp [go_sem]) (lt_of_ble rfl)
  apply Wk.pckT rfl (by conv => lhs; whnf) (lt_of_ble rfl)
  apply Wk.mv (by conv => lhs; whnf) (lt_of_ble rfl)
  apply Wk.gon 24 rfl rfl
  apply Wk.fad 3 0 false fd27_3 rfl (lt_of_ble rfl)
  apply Wk.gon 24 rfl rfl
  apply Wk.ld (i := 2) 1 false ty3 rfl rfl (by conv => lhs; whnf) (lt_of_ble rfl)
  apply Wk.gon 24 rfl rfl
  apply Wk.fad 3 0 false fd27_3 rfl (lt_of_ble rfl)
  apply Wk.gon 24 rfl rfl
  apply Wk.ld (i := 3) 1 false ty3 rfl rfl (by conv => lhs; whnf) (lt_of_ble rfl)
  apply Wk.gon 24 rfl rfl
  apply Wk.bin rfl rfl (r := .bool true) (fun w => by simp [go_sem]) (lt_of_ble rfl)
  apply Wk.pckT rfl (by conv => lhs; whnf) (lt_of_ble rfl)
  apply Wk.mv (by conv => lhs; whnf) (lt_of_ble rfl)
  apply Wk.gon 31 rfl rfl
  apply Wk.fad 4 0 false fd27_4 rfl (lt_of_ble rfl)
  apply Wk.gon 31 rfl rfl
  apply Wk.ld (i := 2) 1 false ty4 rfl rfl (by conv => lhs; whnf) (lt_of_ble rfl)
  apply Wk.gon 31 rfl rfl
  apply Wk.fad 4 0 false fd27_4 rfl (lt_of_ble rfl)
  apply Wk.gon 31 rfl rfl
  apply Wk.ld (i := 3) 1 false ty4 rfl rfl (by conv => lhs; whnf) (lt_of_ble rfl)
  apply Wk.gon 31 rfl rfl
  apply Wk.bin rfl rfl (r := .bool true) (fun w => by simp [go_sem]) (lt_of_ble rfl)
  apply Wk.pckT rfl (by conv => lhs; whnf) (lt_of_ble rfl)
  apply Wk.asg (by conv => lhs; whnf) (lt_of_ble rfl)
  refine Wk.nil (AW.ret ?_)
  exact RetQ.ret [] (.cons rfl .nil) ⟨rfl, rfl⟩ none_kept
end Go.Proofs.YtejafihfbncaoaaDoor
