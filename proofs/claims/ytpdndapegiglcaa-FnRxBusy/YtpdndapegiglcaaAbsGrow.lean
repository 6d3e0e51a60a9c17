/- Literals, lists that grow; operations behind a guard, choices, pointers that are there. -/
import Derived.Test.YtpdndapegiglcaaAbsCall
import Derived.Laws.OwnMore
namespace Go.Proofs.Ytpdndapegiglcaa
open Go

section
variable {P : Program} {C : Ctx} {ops : Array Oper} {os : List Oper} {cs : List Cert} {σ : St} {K : St → Prop} {d : Nat} {ty : TypeId} {pos : String} {af : Array Edge}
variable {a : Act} {w w' : World} {F : Nat → Prop} {E : Nat → Option Nat} {H : Nat → Nat → Option Value}

/-! A pointer that is there. -/
def rNil (x : Operand) (σ : St) : Option A := match aev σ x with | .ptr i o => some (.ptr i o) | .optr i k o => some (.optr i k o) | .rptr sz es i j => some (.rptr sz es i j) | .ifc t a => some (.ifc t a) | _ => none
theorem ok_nil (x : Operand) : OpOk P C ops ⟨some d, .nilCheck x, ty, pos, af, none⟩ ⟨kof x, [T d], beh1 (rNil x) d⟩ :=
  OpOk.read rfl rfl (fun σ => by unfold rNil; rw [aev_mask (fun k h => h)]) fun σ a w F E H r hR h => by
    have hd := hR.ev x
    unfold rNil at h
    split at h
    all_goals
      first
      | (rename_i he
         obtain rfl := Option.some.inj h
         rw [he] at hd
         have : ∃ v, a.eval x = v := ⟨_, rfl⟩
         obtain ⟨v, hv⟩ := this
         rw [hv] at hd
         refine ⟨v, ?_, hd⟩
         simp only [execOp, hv]
         generalize v = u at hd
         cases hd <;> rfl)
      | cases h
theorem Wk.nilc {x : Operand} {r : A} (hr : rNil x σ = some r) (hd : d < σ.n) (h : Wk P C ops os cs (σ.put (T d) (.a r)) K) :
    Wk P C ops (⟨some d, .nilCheck x, ty, pos, af, none⟩ :: os) (⟨kof x, [T d], beh1 (rNil x) d⟩ :: cs) σ K := Wk.read (ok_nil x) r hd hr h

/-! One of two. -/
def rPick (x y z : Operand) (σ : St) : Option A := match aev σ x with | .d (.v (.bool true)) => some (aev σ y) | .d (.v (.bool false)) => some (aev σ z) | _ => none
theorem ok_pick (x y z : Operand) : OpOk P C ops ⟨some d, .pick x y z, ty, pos, af, none⟩ ⟨kof x ++ (kof y ++ kof z), [T d], beh1 (rPick x y z) d⟩ :=
  OpOk.read rfl rfl (fun σ => by unfold rPick; rw [aev_mask (fun k h => List.mem_append_left _ h), aev_mask (fun k h => List.mem_append_right _ (List.mem_append_left _ h)), aev_mask (fun k h => List.mem_append_right _ (List.mem_append_right _ h))]) fun σ a w F E H r hR h => by
    have hd := hR.ev x
    unfold rPick at h
    split at h
    · rename_i he
      obtain rfl := Option.some.inj h
      rw [he] at hd
      exact ⟨a.eval y, by simp [execOp, den_v hd, asBool], hR.ev y⟩
    · rename_i he
      obtain rfl := Option.some.inj h
      rw [he] at hd
      exact ⟨a.eval z, by simp [execOp, den_v hd, asBool], hR.ev z⟩
    · cases h
theorem Wk.pckT {x y z : Operand} {r : A} (hx : aev σ x = .d (.v (.bool true))) (hr : aev σ y = r) (hd : d < σ.n) (h : Wk P C ops os cs (σ.put (T d) (.a r)) K) :
    Wk P C ops (⟨some d, .pick x y z, ty, pos, af, none⟩ :: os) (⟨kof x ++ (kof y ++ kof z), [T d], beh1 (rPick x y z) d⟩ :: cs) σ K := Wk.read (ok_pick x y z) r hd (by simp only [rPick, hx, hr]) h
theorem Wk.pckF {x y z : Operand} {r : A} (hx : aev σ x = .d (.v (.bool false))) (hr : aev σ z = r) (hd : d < σ.n) (h : Wk P C ops os cs (σ.put (T d) (.a r)) K) :
    Wk P C ops (⟨some d, .pick x y z, ty, pos, af, none⟩ :: os) (⟨kof x ++ (kof y ++ kof z), [T d], beh1 (rPick x y z) d⟩ :: cs) σ K := Wk.read (ok_pick x y z) r hd (by simp only [rPick, hx, hr]) h

/-! Behind a guard. -/
def skipped (σ : St) : Key → V
  | (true, _) => .a .any
  | (false, i) => .b (σ.b i)
def gCert (g : Nat) (want : Bool) (c : Cert) : Cert :=
  ⟨T g :: (c.rd ++ c.wr), c.wr, fun σ => match σ.t g with | .d (.v (.bool b)) => if b = want then c.beh σ else (True, fun us => us = c.wr.map (skipped σ)) | _ => (False, fun _ => False)⟩
theorem puts_skipped : ∀ (ks : List Key) (σ σ0 : St), (∀ i, (false, i) ∈ ks → σ.b i = σ0.b i) → (σ.puts ks (ks.map (skipped σ0))).n = σ.n ∧ (σ.puts ks (ks.map (skipped σ0))).b = σ.b ∧ ∀ t, (σ.puts ks (ks.map (skipped σ0))).t t = if (true, t) ∈ ks then .any else σ.t t
  | [], σ, _, _ => ⟨rfl, rfl, fun t => by simp [St.puts]⟩
  | (true, i) :: ks, σ, σ0, h => by
    obtain ⟨h1, h2, h3⟩ := puts_skipped ks (σ.put (T i) (.a .any)) σ0 (fun j hj => h j (List.mem_cons_of_mem _ hj))
    refine ⟨h1, h2, fun t => ?_⟩
    show (St.puts (σ.put (T i) (.a .any)) ks (ks.map (skipped σ0))).t t = _
    rw [h3]
    by_cases e : t = i
    · subst e; simp [St.put, upd]
    · simp [St.put, upd, e]
  | (false, i) :: ks, σ, σ0, h => by
    have e0 : σ.put (B i) (.b (σ0.b i)) = σ := by
      have : upd σ.b i (σ0.b i) = σ.b := by
        funext j
        by_cases hj : j = i
        · subst hj; simp [upd, h j List.mem_cons_self]
        · simp [upd, hj]
      show St.mk σ.n σ.t (upd σ.b i (σ0.b i)) = σ
      rw [this]
    obtain ⟨h1, h2, h3⟩ := puts_skipped ks σ σ0 (fun j hj => h j (List.mem_cons_of_mem _ hj))
    have : σ.puts ((false, i) :: ks) (((false, i) :: ks).map (skipped σ0)) = σ.puts ks (ks.map (skipped σ0)) := by
      show St.puts (σ.put (B i) (.b (σ0.b i))) ks _ = _
      rw [e0]
    rw [this]
    exact ⟨h1, h2, fun t => by rw [h3]; simp⟩
theorem ok_guard {dst : Option Nat} {op : Op} {j g : Nat} {want : Bool} {c : Cert} (ho : OpOk P C ops ⟨dst, op, ty, pos, af, none⟩ c) (hj : (ops[j]?).bind (·.dst) = some g) :
    OpOk P C ops ⟨dst, op, ty, pos, af, some (j, want)⟩ (gCert g want c) := by
  obtain ⟨⟨ht, hl⟩, hdst, hs⟩ := ho
  replace hdst : dstIn dst c.wr = true := hdst
  refine ⟨⟨fun σ h => ?_, fun σ => ?_⟩, hdst, fun σ a w K Q hR hsafe hK => ?_⟩
  · unfold gCert at h ⊢
    simp only at h ⊢
    split at h
    · rename_i b he
      split at h
      · rename_i hb; rw [if_pos hb]; exact ht σ h
      · rename_i hb; rw [if_neg hb]; exact ⟨_, rfl⟩
    · exact h.elim
  · have e1 : (σ.mask (T g :: (c.rd ++ c.wr))).t g = σ.t g := by simp [St.mask]
    have mm : ∀ (l l' : List Key), (∀ k ∈ l, k ∈ l') → (σ.mask l').mask l = σ.mask l := fun l l' hll => by
      unfold St.mask
      congr 1
      · funext i
        split
        · rename_i hi; exact if_pos (by simpa using hll _ (by simpa using hi))
        · rfl
      · funext i
        split
        · rename_i hi; exact if_pos (by simpa using hll _ (by simpa using hi))
        · rfl
    have e2 : c.beh (σ.mask (T g :: (c.rd ++ c.wr))) = c.beh σ := by
      rw [← hl (σ.mask _), mm c.rd _ (fun k hk => List.mem_cons_of_mem _ (List.mem_append_left _ hk)), hl]
    have e3 : c.wr.map (skipped (σ.mask (T g :: (c.rd ++ c.wr)))) = c.wr.map (skipped σ) := by
      refine List.map_congr_left fun k hk => ?_
      obtain ⟨p, i⟩ := k
      cases p with
      | true => rfl
      | false => simp only [skipped]; rw [bx_mask (List.mem_cons_of_mem _ (List.mem_append_right _ hk))]
    unfold gCert
    simp only [e1, e2, e3]
  · obtain ⟨F, E, H, hR'⟩ := hR.e
    unfold Cert.safe gCert at hsafe
    simp only at hsafe
    split at hsafe
    · rename_i b he
      have hd := hR'.den g
      rw [he] at hd
      have hv := den_v hd
      have hgs : g < a.tmps.size := by
        refine Classical.byContradiction fun hn => ?_
        rw [Array.getD_eq_getD_getElem?, Array.getElem?_eq_none (by omega)] at hv
        cases hv
      have hy : yielded ops a.tmps j = some b := by
        unfold yielded
        rw [hj]
        have : a.tmps[g]? = some (.bool b) := by
          rw [Array.getD_eq_getD_getElem?, Array.getElem?_eq_getElem hgs] at hv
          rw [Array.getElem?_eq_getElem hgs]
          simpa using hv
        simp [this]
      have hw : Region.wanted ⟨dst, op, ty, pos, af, some (j, want)⟩ (yielded ops a.tmps) = (b == want) := by
        simp [Region.wanted, hy]
      by_cases hb : b = want
      · rw [if_pos hb] at hsafe
        rw [if_pos (by rw [hw]; simpa using hb)]
        have := hs σ a w K Q hR hsafe (fun us a' w' hus hR'' => hK us a' w' (by unfold Cert.rel gCert; simp only [he]; rw [if_pos hb]; exact hus) hR'')
        rw [if_pos (by simp [Region.wanted])] at this
        exact this
      · rw [if_neg (by rw [hw]; simpa using hb)]
        refine hK (c.wr.map (skipped σ)) _ _ (by unfold Cert.rel gCert; simp only [he]; rw [if_neg hb]) ?_
        obtain ⟨h1, h2, h3⟩ := puts_skipped c.wr σ σ (fun _ _ => rfl)
        refine ⟨(dfr_put _ _ _).trans hR'.dfr, (size_putA _ _ _).trans (hR'.n.trans h1.symm), F, E, H, by rw [show (σ.puts (gCert g want c).wr (c.wr.map (skipped σ))).b = σ.b from h2]; exact hR'.env, fun t => ?_⟩
        rw [show (σ.puts (gCert g want c).wr (c.wr.map (skipped σ))).t t = if (true, t) ∈ c.wr then .any else σ.t t from h3 t]
        split
        · exact .any _
        · rename_i hnt
          cases dst with
          | none => exact hR'.den t
          | some d =>
            have htd : t ≠ d := fun e => hnt (by subst e; simpa [dstIn] using hdst)
            have : (a.put (some d) undef).tmps.getD t undef = a.tmps.getD t undef := by
              simp only [Act.put, Array.getD_eq_getD_getElem?]
              rw [Array.getElem?_setIfInBounds_ne (Ne.symm htd)]
            show Den w F E H (σ.t t) ((a.put (some d) undef).tmps.getD t undef)
            rw [this]
            exact hR'.den t
    · exact hsafe.elim
/-- It is done. -/
theorem Wk.gon {dst : Option Nat} {op : Op} {j : Nat} (g : Nat) {want : Bool} {c : Cert} (hj : (ops[j]?).bind (·.dst) = some g) (hg : σ.t g = .d (.v (.bool want)))
    (h : Wk P C ops (⟨dst, op, ty, pos, af, none⟩ :: os) (c :: cs) σ K) : Wk P C ops (⟨dst, op, ty, pos, af, some (j, want)⟩ :: os) (gCert g want c :: cs) σ K := by
  obtain ⟨⟨ho, hos⟩, hsafe, hr⟩ := h
  refine ⟨⟨ok_guard ho hj, hos⟩, ?_, fun us hus => hr us ?_⟩
  · unfold Cert.safe gCert; simp only [hg, if_true]; exact hsafe
  · unfold Cert.rel gCert at hus; simp only [hg, if_true] at hus; exact hus
/-- It is passed by. -/
theorem Wk.goff {dst : Option Nat} {op : Op} {j : Nat} (g : Nat) {want b : Bool} {c : Cert} (ho : OpOk P C ops ⟨dst, op, ty, pos, af, none⟩ c) (hj : (ops[j]?).bind (·.dst) = some g)
    (hg : σ.t g = .d (.v (.bool b))) (hb : b ≠ want) (h : Wk P C ops os cs (σ.puts c.wr (c.wr.map (skipped σ))) K) : Wk P C ops (⟨dst, op, ty, pos, af, some (j, want)⟩ :: os) (gCert g want c :: cs) σ K :=
  Wk.det (ok_guard ho hj) (by unfold Cert.safe gCert; simp only [hg]; rw [if_neg hb]; trivial) _ (fun us' hus => by unfold Cert.rel gCert at hus; simp only [hg] at hus; rw [if_neg hb] at hus; exact hus) h
end
end Go.Proofs.Ytpdndapegiglcaa
