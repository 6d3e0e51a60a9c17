/- What the exact laws do with lists of pieces: a comparison, marks and a look at them. -/
import Derived.Test.YtaljdhcmikpmhaaPieces
import Derived.Test.YtaljdhcmikpmhaaXPart
import Derived.Test.YtaljdhcmikpmhaaOpenRead
namespace Go.Proofs.Ytaljdhcmikpmhaa
open Go.RowKit

theorem split_at {α : Type} (l : List α) (k : Nat) (h : k < l.length) : ∃ a q b, l = a ++ q :: b ∧ a.length = k :=
  ⟨l.take k, l[k], l.drop (k + 1), by rw [← List.drop_eq_getElem_cons h, List.take_append_drop], by rw [List.length_take]; omega⟩
set_option maxHeartbeats 2000000 in
theorem eqPieces_same (v u : Value) (ps qs : List Pc) (B C : Nat) (w : World) (hv : OwnP w B v ps) (hu : OwnP w C u qs) (hd : ps.map Pc.dat = qs.map Pc.dat) (hs : ∀ p ∈ ps, Byt p.bs ∧ p.bs.length ≤ 2000000) (hl : ps.length ≤ 2000000) :
    Calls Try.prog 10 #[v, u] w fun e w' => e = .returned (.bool true) ∧ Below w.heap.size w w' := by
  have hlen : qs.length = ps.length := by simpa using (congrArg List.length hd).symm
  by_cases hn : ps.length = 0
  · obtain ⟨a, c, rfl⟩ := hv.form
    obtain ⟨a', c', rfl⟩ := hu.form
    rw [hlen, hn]
    clear hv hu hd
    go_enter Try.func10, Try.ntmps10
    go_wp2
    go_loop [5] (fun i => i = .int .i64 0) (fun _ => 0)
    case atStart => exact rfl
    case round =>
      obtain rfl := hrel
      go_wp2
      go_ret
      exact ⟨rfl, Below.refl _ _⟩
  · obtain ⟨g, cap, rfl, _, hcap⟩ := hv.nonempty (by omega)
    obtain ⟨g', cap', rfl, _, hcap'⟩ := hu.nonempty (by omega)
    rw [hlen] at hcap' hu ⊢
    go_enter Try.func10, Try.ntmps10
    go_wp2
    go_loopw [5] (fun i wr => ∃ k : Nat, k ≤ ps.length ∧ i = .int .i64 k ∧ Below w.heap.size w wr) (fun i _ => ps.length - (intOf i).toNat)
    case atStart => exact ⟨0, Nat.zero_le _, rfl, Below.refl _ _⟩
    case round =>
      obtain ⟨k, hk, rfl, bl⟩ := hrel
      by_cases hlt : k < ps.length
      · obtain ⟨a, p, b, hp, ha⟩ := split_at ps k hlt
        obtain ⟨a', q, b', hq, ha'⟩ := split_at qs k (by omega)
        have hpq : q.dat = p.dat := by
          have h1 := congrArg (fun l => l[k]?) hd
          rw [hp, hq] at h1
          simp [ha, ha'] at h1
          exact h1.symm
        simp only [Pc.dat, Prod.mk.injEq] at hpq
        have ov := hv.kept bl
        have ou := hu.kept bl
        rw [hp] at ov
        rw [hq] at ou
        have c00 := ov.cell (by rw [← hp]) 0 (by omega)
        have c01 := ov.cell (by rw [← hp]) 1 (by omega)
        have c02 := ov.cell (by rw [← hp]) 2 (by omega)
        have c10 := ou.cell (by rw [← hq, hlen]) 0 (by omega)
        have c11 := ou.cell (by rw [← hq, hlen]) 1 (by omega)
        have c12 := ou.cell (by rw [← hq, hlen]) 2 (by omega)
        rw [ha] at c00 c01 c02
        rw [ha'] at c10 c11 c12
        have hby := hs p (by rw [hp]; simp)
        have rp := (ov.at).rd hby.1 hby.2
        have rq := (ou.at).rd (by rw [hpq.2.2]; exact hby.1) (by rw [hpq.2.2]; exact hby.2)
        rw [hpq.2.2] at rq
        obtain ⟨ap, kp, hup⟩ := rp.form
        obtain ⟨aq, kq, huq⟩ := rq.form
        rw [hup] at rp
        rw [huq] at rq
        simp only [Pc.cells, hup, huq, hpq.1, hpq.2.1, Nat.add_zero, List.getElem?_cons_zero, List.getElem?_cons_succ] at c00 c01 c02 c10 c11 c12
        have lg := ov.typ.lt
        have lg' := ou.typ.lt
        clear hp hq ov ou hv hu hd hpq ha ha' hup huq
        go_wp2_with fail
        obtain ⟨ι, W, inW, ofW⟩ := cls (fun w' => Below wr.heap.size wr.drew w')
        have ne : Nonempty ι := ⟨(inW _ (Below.refl _ _)).choose⟩
        have kW : ∀ x j, (W x).cell? ⟨g, j, none⟩ = wr.cell? ⟨g, j, none⟩ := fun x j => (ofW x).cell (p := ⟨g, j, none⟩) lg
        have kV : ∀ x j, (W x).cell? ⟨g', j, none⟩ = wr.cell? ⟨g', j, none⟩ := fun x j => (ofW x).cell (p := ⟨g', j, none⟩) lg'
        refine region_by (fun w' => ∃ x, w' = W x) 10 [(0, true), (1, true), (2, true), (3, true), (4, true), (5, true), (6, true), (7, true), (8, false), (9, true)] ⟨none, .assign (.tmp 0), 0, "", #[], none⟩ (by kernel_rfl) (by kernel_rfl) (inW _ (Below.refl _ _)) (fun x _ _ _ _ h => by cases x <;> exact h) ?_
        simp only [arrange, List.map_cons, List.map_nil, List.getD_cons_zero, List.getD_cons_succ]
        iterate 8 (refine by_read rfl (fun K hK => ?_); go_simp; refine hK _ ?_; clear hK K)
        refine by_move rfl (fun K hK => ?_)
        go_simp
        go_at_call 19
        refine (eqPart_same _ _ _ _ p.bs _ (rp.kept (Below.refl _ _).drew) (rq.kept (Below.refl _ _).drew)).mono ?_
        rintro e w1 ⟨rfl, b1⟩
        refine hK _ _ (fun _ => inW _ b1) ?_
        clear hK K
        iterate 1 (refine by_read rfl (fun K hK => ?_); go_simp; refine hK _ ?_; clear hK K)
        refine by_nil ?_
        clear kW kV
        clear ofW inW ne W ι
        go_wp2
        go_roundw
        case rel => exact ⟨k + 1, by omega, by go_num, bl.trans (((Below.refl _ _).drew.trans b1).mono bl.size)⟩
        case measure => simp [intOf]; omega
      · have : k = ps.length := by omega
        subst this
        go_wp2
        go_ret
        exact ⟨rfl, bl⟩
/-- Pieces with marks from k on, and how many numbers that takes. -/
def tot : List Pc → Nat
  | [] => 0
  | q :: r => q.bs.length + 2 + tot r
def Pc.mark (k : Nat) (q : Pc) : Pc := ⟨(k : Int), (k : Int) + 1, q.u, marks (k + 2) q.bs.length⟩
def markP (k : Nat) : List Pc → List Pc
  | [] => []
  | q :: r => q.mark k :: markP (k + 2 + q.bs.length) r
theorem tot_append (a b : List Pc) : tot (a ++ b) = tot a + tot b := by
  induction a with
  | nil => simp [tot]
  | cons q r ih => simp [tot, ih]; omega
theorem markP_append (k : Nat) (a b : List Pc) : markP k (a ++ b) = markP k a ++ markP (k + tot a) b := by
  induction a generalizing k with
  | nil => simp [markP, tot]
  | cons q r ih => simp [markP, tot, ih]; congr 1; omega
theorem markP_length (k : Nat) (a : List Pc) : (markP k a).length = a.length := by
  induction a generalizing k with
  | nil => rfl
  | cons q r ih => simp [markP, ih]
theorem marks_nil (k : Nat) : marks k 0 = [] := rfl
set_option maxHeartbeats 2000000 in
theorem markPieces_any (v : Value) (qs : List Pc) (k : Nat) (B : Nat) (w : World) (hv : OwnP w B v qs) (ht : tot qs ≤ 1000000) (hk : k ≤ 1000000) (hB : B ≤ w.heap.size) :
    Calls Try.prog 13 #[v, .int .i64 k] w fun e w' => e = .returned (.int .i64 ((k + tot qs : Nat) : Int)) ∧ OwnP w' B v (markP k qs) ∧ Below B w w' := by
  by_cases hn : qs.length = 0
  · obtain rfl := List.length_eq_zero_iff.1 hn
    obtain ⟨a, c, rfl⟩ := hv.form
    have hv0 := hide hv
    clear hv
    go_enter Try.func13, Try.ntmps13
    go_wp2
    go_loop [1, 5] (fun q i => i = .int .i64 0 ∧ q = .int .i64 k) (fun _ _ => 0)
    case atStart => exact ⟨rfl, rfl⟩
    case round =>
      obtain ⟨rfl, rfl⟩ := hrel
      go_wp2
      go_ret
      exact ⟨by simp [tot], unhide hv0, Below.refl _ _⟩
  · obtain ⟨g, cap, rfl, hBg, hcap⟩ := hv.nonempty (by omega)
    obtain ⟨n, hqn⟩ : ∃ n, qs.length = n := ⟨_, rfl⟩
    rw [hqn] at hv hcap hn ⊢
    have hq0 := hide hqn
    clear hqn
    have hn8 : n ≤ 1000000 := by
      have : qs.length ≤ tot qs := by
        clear hv ht hq0
        induction qs with
        | nil => simp
        | cons q r ih => simp [tot]; omega
      have e := unhide hq0
      omega
    go_enter Try.func13, Try.ntmps13
    go_wp2
    go_loopw [1, 5] (fun m i wr => ∃ xs ys, qs = xs ++ ys ∧ i = .int .i64 ((xs.length : Nat) : Int) ∧ m = .int .i64 ((k + tot xs : Nat) : Int) ∧ OwnP wr B (.slice (some ⟨g, 0, none⟩) n cap) (markP k xs ++ ys) ∧ Below B w wr) (fun _ i _ => n - (intOf i).toNat)
    case atStart => exact ⟨[], qs, rfl, rfl, by simp [tot], by simpa [markP] using hv, Below.refl _ _⟩
    case round =>
      obtain ⟨xs, ys, he, rfl, rfl, ho, bl⟩ := hrel
      have ll := congrArg List.length he
      have le := congrArg tot he
      rw [unhide hq0, List.length_append] at ll
      rw [tot_append] at le
      cases ys with
      | nil =>
        rw [List.append_nil] at he ho
        subst he
        have hx := unhide hq0
        clear ll le
        rw [hx]
        clear hx
        go_wp2
        go_ret
        exact ⟨rfl, ho, bl⟩
      | cons q ys =>
        have ll' : xs.length < n := by simp at ll; omega
        have le' : tot xs + q.bs.length + 2 ≤ 1000000 := by simp [tot] at le; omega
        have ml := markP_length k xs
        have hnn : n = (markP k xs ++ q :: ys).length := by simp [ml]; simp at ll; omega
        obtain ⟨m, hm⟩ : ∃ m, k + tot xs = m := ⟨_, rfl⟩
        have hm' := hide hm
        have he' := hide he
        rw [hm]
        have f0 := ho.frozen hnn
        have c0 := ho.cell hnn 0 (by omega)
        have c1 := ho.cell hnn 1 (by omega)
        have c2 := ho.cell hnn 2 (by omega)
        have o1 := ho.write (q' := ⟨(m : Int), q.len, q.u, q.bs⟩) hnn 0 (by omega) (.int .i64 (m : Int)) rfl rfl rfl
        have hn1 : n = (markP k xs ++ (⟨(m : Int), q.len, q.u, q.bs⟩ : Pc) :: ys).length := by rw [hnn]; simp
        have o2 := o1.write (q' := ⟨(m : Int), (m : Int) + 1, q.u, q.bs⟩) hn1 1 (by omega) (.int .i64 ((m : Int) + 1)) rfl rfl rfl
        have b2 := (bl.setCell (p := ⟨g, xs.length * 3, none⟩) hBg (.int .i64 (m : Int))).setCell (p := ⟨g, xs.length * 3 + 1, none⟩) hBg (.int .i64 ((m : Int) + 1))
        rw [ml] at c0 c1 c2 o1 o2
        simp only [Nat.add_zero] at c0 o1 o2
        have hn2 := hide (show n = (markP k xs ++ (⟨(m : Int), (m : Int) + 1, q.u, q.bs⟩ : Pc) :: ys).length by rw [hnn]; simp)
        have r2 := o2.at
        simp only [Pc.cells, List.getElem?_cons_zero, List.getElem?_cons_succ] at c0 c1 c2
        obtain ⟨au, ku, hu⟩ := r2.form
        simp only at hu
        rw [hu] at c2
        have hu' := hide hu
        have hmk : m ≤ 2000000 - 2 := by omega
        clear hn1 hnn ll le hm he o1 ml ho hu
        go_wp2_with fail
        have hm2 : (m : Int) + 1 + 1 = ((m + 2 : Nat) : Int) := by omega
        rw [hm2, ← unhide hu']
        refine (mark_any B _ q.bs (m + 2) _ r2 (by omega) (by omega)).mono ?_
        rintro e w3 ⟨rfl, o3, g3⟩
        have o4 := o2.row (q' := q.mark m) (unhide hn2) o3 g3 rfl rfl
        have b4 := b2.grown g3 (Nat.le_trans hB b2.size) (fun j e => (World.ownsRow.lt r2 j e).1)
        go_wp2
        go_roundw
        case rel =>
          refine ⟨xs ++ [q], ys, by rw [unhide he', List.append_assoc]; rfl, by simp, ?_, ?_, b4⟩
          · rw [tot_append, ← unhide hm']
            simp [tot]
            omega
          · rw [markP_append, List.append_assoc, unhide hm']
            exact o4
        case measure => simp [intOf]; omega
set_option maxHeartbeats 2000000 in
theorem heldPieces_any (v : Value) (qs : List Pc) (k : Nat) (B : Nat) (w : World) (hv : OwnP w B v (markP k qs)) (ht : tot qs ≤ 1000000) (hk : k ≤ 1000000) :
    Calls Try.prog 14 #[v, .int .i64 k] w fun e w' => e = .returned (.int .i64 ((k + tot qs : Nat) : Int)) ∧ Below w.heap.size w w' := by
  have hlen := markP_length k qs
  by_cases hn : qs.length = 0
  · obtain rfl := List.length_eq_zero_iff.1 hn
    obtain ⟨a, c, rfl⟩ := hv.form
    clear hv hlen
    simp only [markP, List.length_nil]
    go_enter Try.func14, Try.ntmps14
    go_wp2
    go_loop [1, 5] (fun q i => i = .int .i64 0 ∧ q = .int .i64 k) (fun _ _ => 0)
    case atStart => exact ⟨rfl, rfl⟩
    case round =>
      obtain ⟨rfl, rfl⟩ := hrel
      go_wp2
      go_ret
      exact ⟨by simp [tot], Below.refl _ _⟩
  · obtain ⟨g, cap, rfl, hBg, hcap⟩ := hv.nonempty (by omega)
    rw [hlen] at hv hcap ⊢
    obtain ⟨n, hqn⟩ : ∃ n, qs.length = n := ⟨_, rfl⟩
    rw [hqn] at hv hcap hn ⊢
    have hq0 := hide hqn
    clear hqn hlen
    have hn8 : n ≤ 1000000 := by
      have : qs.length ≤ tot qs := by
        clear hv ht hq0
        induction qs with
        | nil => simp
        | cons q r ih => simp [tot]; omega
      have e := unhide hq0
      omega
    go_enter Try.func14, Try.ntmps14
    go_wp2
    go_loop [1, 5] (fun m i => ∃ xs ys, qs = xs ++ ys ∧ i = .int .i64 ((xs.length : Nat) : Int) ∧ m = .int .i64 ((k + tot xs : Nat) : Int)) (fun _ i => n - (intOf i).toNat)
    case atStart => exact ⟨[], qs, rfl, rfl, by simp [tot]⟩
    case round =>
      obtain ⟨xs, ys, he, rfl, rfl⟩ := hrel
      have ll := congrArg List.length he
      have le := congrArg tot he
      rw [unhide hq0, List.length_append] at ll
      rw [tot_append] at le
      cases ys with
      | nil =>
        rw [List.append_nil] at he
        subst he
        have hx := unhide hq0
        clear ll le
        rw [hx]
        clear hx
        go_wp2
        go_ret
        exact ⟨rfl, Below.refl _ _⟩
      | cons q ys =>
        have ll' : xs.length < n := by simp at ll; omega
        have le' : tot xs + q.bs.length + 2 ≤ 1000000 := by simp [tot] at le; omega
        have ml := markP_length k xs
        have ho := hv
        rw [he, markP_append] at ho
        obtain ⟨m, hm⟩ : ∃ m, k + tot xs = m := ⟨_, rfl⟩
        rw [hm] at ho ⊢
        simp only [markP] at ho
        have hnn : n = (markP k xs ++ q.mark m :: markP (m + 2 + q.bs.length) ys).length := by simp [ml, markP_length]; simp at ll; omega
        have hm' := hide hm
        have he' := hide he
        have c0 := ho.cell hnn 0 (by omega)
        have c1 := ho.cell hnn 1 (by omega)
        have c2 := ho.cell hnn 2 (by omega)
        rw [ml] at c0 c1 c2
        simp only [Nat.add_zero] at c0
        have r2 := ho.at
        simp only [Pc.cells, Pc.mark, List.getElem?_cons_zero, List.getElem?_cons_succ] at c0 c1 c2 r2
        obtain ⟨au, ku, hu⟩ := r2.form
        rw [hu] at c2
        have hu' := hide hu
        have hmk : m ≤ 2000000 - 2 := by omega
        have r3 := r2.rd (marks_byt _ _) (by rw [marks_length]; omega)
        have hneg : ¬ ((m + 2 + q.bs.length : Nat) : Int) < 0 := by omega
        clear hnn ll le hm he ml ho hu hv r2
        go_wp2_with fail
        have hm2 : (m : Int) + 1 + 1 = ((m + 2 : Nat) : Int) := by omega
        rw [hm2, ← unhide hu']
        refine (held_any _ (m + 2) q.bs.length _ r3 (by omega) (by omega)).mono ?_
        rintro e w3 ⟨rfl, h3⟩
        subst h3
        go_wp2
        go_round
        case rel =>
          refine ⟨xs ++ [q], ys, by rw [unhide he', List.append_assoc]; rfl, by simp, ?_⟩
          rw [tot_append, ← unhide hm']
          simp [tot]
          omega
        case measure => simp [intOf]; omega
end Go.Proofs.Ytaljdhcmikpmhaa
