/- Lists of zero bytes are made; the lesser of two numbers; over what values read as. -/
import Derived.Test.YtpghbdigiplbiaaMa
import Derived.Test.YtpghbdigiplbiaaMb
import Derived.Test.YtpghbdigiplbiaaMc
import Derived.Test.YtpghbdigiplbiaaMd
import Derived.Laws.OwnMore
namespace Go.Proofs.Ytpghbdigiplbiaa
open Go Go.RowKit
section
variable {C : Ctx} {ops : Array Oper} {os : List Oper} {cs : List Cert} {σ : St} {K : St → Prop} {d : Nat} {ty : TypeId} {pos : String} {af : Array Edge}
def zero8 (n : Nat) : List (List A) := List.replicate n [A.d (.v (.int .u8 0))]
def rMk8 (x : Operand) (i : Nat) (e : TypeId) (σ : St) : Option (List V) :=
  match aev σ x, σ.b i with
  | .d (.v (.int .i64 n)), .fresh => if 0 ≤ n ∧ n ≤ 1000 then some [.a (.own i 0), .b (.own 0 e 1 (zero8 n.toNat))] else none
  | _, _ => none
theorem ok_mk8 {x : Operand} (i : Nat) : OpOk Try.prog C ops ⟨some d, .makeSlice 22 x x, ty, pos, af, none⟩ ⟨kof x ++ [B i], [T d, B i], behs (rMk8 x i 5) d⟩ :=
  OpOk.turn rfl (by simp [dstIn]) (fun σ => by unfold rMk8; rw [aev_mask fun k hk => List.mem_append_left _ hk, bx_mask (by simp)]) fun σ a w F E H K Q us hR hd h hK => by
    unfold rMk8 at h
    split at h
    · rename_i n hx hb
      split at h
      · rename_i hn
        obtain rfl := Option.some.inj h
        obtain ⟨m, rfl⟩ := Int.eq_ofNat_of_zero_le hn.1
        have hm : m ≤ 1000 := by omega
        have hv : a.eval x = .int .i64 (m : Int) := by
          have := hR.ev x
          rw [hx] at this
          exact den_v this
        obtain ⟨i0, hi, hz0, hz1, hz2⟩ := info_parts Try.infoB
        obtain ⟨w', hr, ho, hg⟩ := run_makeSlice_full (P := Try.prog) w 0 22 5 i0 _ 1 Try.underlying22 hi hz0 hz1 .i64 .i64 m (by omega) (by rw [hz2]; omega) (by unfold maxLen; omega) (Nat.zero_le _)
        have hfr := hR.env.box i
        rw [hb] at hfr
        have hlen : (zero8 m).length = m := by simp [zero8]
        have hflat : (zero8 m).flatten = List.replicate m (A.d (.v (.int .u8 0))) := by
          simp only [zero8]
          clear hR hK h hb hx hv hr ho hn hm hfr hlen
          induction m with
          | zero => rfl
          | succ m ih => rw [List.replicate_succ, List.flatten_cons, ih, List.replicate_succ]; rfl
        have hset := hR.setown (i := i) (k := 0) (sz := 1) (e := 5) (es := zero8 m) (v := .slice (some ⟨w.heap.size, 0, none⟩) m m) (w' := w') (fun b hbk => by rw [hb] at hbk; cases hbk) (fun q _ => hfr.2 q) (by rw [hb]; exact hg)
          (by rw [hlen]; exact ho) (by intro c hc; rw [(List.mem_replicate.1 hc).2]; rfl) (by
            rw [hflat]
            have hl1 := ho.1
            refine ⟨by rw [List.length_replicate, hl1]; omega, fun j q u hq hu => ?_⟩
            obtain rfl := (List.mem_replicate.1 (List.mem_of_getElem? hq)).2
            have hu0 : u = .int .u8 0 := by
              simp only [madeCells, Array.toList_map, Array.toList_range, List.getElem?_map, Option.map_eq_some_iff] at hu
              obtain ⟨y, _, rfl⟩ := hu
              simp [Value.cells, Nat.mod_one]
            rw [hu0]
            exact ⟨rfl, .d _ _ (.v _)⟩) (.inr (.inr rfl))
        unfold Oper.wp
        have hrun : (execOp a.eval ⟨some d, .makeSlice 22 x x, ty, pos, af, none⟩).run Try.prog w = .ok (.value (.slice (some ⟨w.heap.size, 0, none⟩) m m)) w' := by simp only [execOp, Sem.run_bind, hv, hr, Result.andThen_ok, Sem.run_pure]
        rw [hrun, Oper.upon_value]
        refine hK _ _ ?_
        exact (RelE.put (d := d) (r := .own i 0) hset hd (.own i 0 _ (upd2_same _ _ _ _) rfl)).r
      · cases h
    · cases h
theorem Wk.mk8 {x : Operand} (i n : Nat) (hx : aev σ x = .d (.v (.int .i64 (n : Int)))) (hb : σ.b i = .fresh) (hn : n ≤ 1000) (hd : d < σ.n) (h : Wk Try.prog C ops os cs ((σ.put (T d) (.a (.own i 0))).put (B i) (.b (.own 0 5 1 (zero8 n)))) K) :
    Wk Try.prog C ops (⟨some d, .makeSlice 22 x x, ty, pos, af, none⟩ :: os) (⟨kof x ++ [B i], [T d, B i], behs (rMk8 x i 5) d⟩ :: cs) σ K :=
  Wk.turn (ok_mk8 i) [.a (.own i 0), .b (.own 0 5 1 (zero8 n))] hd (by simp only [rMk8, hx, hb]; rw [if_pos ⟨by omega, by omega⟩]; simp) h
theorem asData_zero8 (n : Nat) : asData (zero8 n) ((List.replicate n (0 : Fin 256)).map (fun z => z.val) |>.map fun z : Nat => [D.v (.int .u8 (z : Int))]) := by
  simp [asData, zero8, nrms, nrm]
variable {P : Program}
def rMin (x y : Operand) (σ : St) : Option A := (sc (aev σ x)).bind fun u => (sc (aev σ y)).bind fun v => match u, v with | .int k a, .int _ b => some (.d (.v (.int k (if b < a then b else a)))) | _, _ => none
theorem ok_min (x y : Operand) {at_ : Array TypeId} : OpOk P C ops ⟨some d, .call { callee := .builtin .min, args := #[x, y], argTypes := at_ }, ty, pos, af, none⟩ ⟨kof x ++ kof y, [T d], beh1 (rMin x y) d⟩ :=
  OpOk.read rfl rfl (fun σ => by unfold rMin; rw [aev_mask (fun k h => List.mem_append_left _ h), aev_mask (fun k h => List.mem_append_right _ h)]) fun σ a w F E H r hR h => by
    simp only [rMin, Option.bind_eq_some_iff] at h
    obtain ⟨u, hu, v, hv, h⟩ := h
    have e1 := den_sc hu (hR.ev x)
    have e2 := den_sc hv (hR.ev y)
    split at h
    · obtain rfl := Option.some.inj h
      refine ⟨_, ?_, .d _ _ (.v _)⟩
      simp [execOp, resolve, invoke, builtin, e1, e2, Builtin.min_, Builtin.min2]
    · cases h
theorem Wk.min2 {x y : Operand} {at_ : Array TypeId} {k k' : IntKind} {u v r : Int} (hx : aev σ x = .d (.v (.int k u))) (hy : aev σ y = .d (.v (.int k' v))) (hr : (if v < u then v else u) = r) (hd : d < σ.n)
    (h : Wk P C ops os cs (σ.put (T d) (.a (.d (.v (.int k r))))) K) : Wk P C ops (⟨some d, .call { callee := .builtin .min, args := #[x, y], argTypes := at_ }, ty, pos, af, none⟩ :: os) (⟨kof x ++ kof y, [T d], beh1 (rMin x y) d⟩ :: cs) σ K :=
  Wk.read (ok_min x y) _ hd (by simp only [rMin, hx, hy, sc, Option.bind_some, hr]) h
end
end Go.Proofs.Ytpghbdigiplbiaa
