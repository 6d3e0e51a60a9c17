/- Draws of truths and of bytes, over what values read as. -/
import Derived.Test.YtpdndapegiglcaaAbsPick
namespace Go.Proofs.Ytpdndapegiglcaa
open Go
set_option maxRecDepth 100000 in
theorem odd_ok : DrawOk Try.prog 31 (fun rest => ∃ n : Int, rest = [.d (.v (.int .i64 n))] ∧ n ≤ 1000000 ∧ -1000000 ≤ n) (fun rest r => ∃ b : Bool, r = .d (.v (.bool b)) ∧ (rest = [.d (.v (.int .i64 0))] → b = false)) 1 := by
  refine DrawOk.zero ?_ ?_ ?_ ?_
  · rintro zs p rest ⟨n, rfl, hn, hn'⟩ hp
    refine Spec.intro (n := 15) (rv := [.tmp 4]) Try.func31 rfl rfl rfl (by simp) fun C hN hX => ?_
    refine AW.seq ?_
    apply AW.list
    apply Wk.asg (by conv => lhs; whnf) (lt_of_ble rfl)
    refine Wk.nil ?_
    refine AW.seq ?_
    by_cases h1 : 0 < n
    · apply AW.list
      apply Wk.mv (by conv => lhs; whnf) (lt_of_ble rfl)
      apply Wk.bin (r := .bool true) rfl rfl (fun w => by simp [go_sem, h1]) (lt_of_ble rfl)
      apply Wk.mv (by conv => lhs; whnf) (lt_of_ble rfl)
      apply Wk.gon 7 rfl rfl
      apply Wk.mv (by conv => lhs; whnf) (lt_of_ble rfl)
      apply Wk.gon 7 rfl rfl
      apply Wk.mv (by conv => lhs; whnf) (lt_of_ble rfl)
      apply Wk.gon 7 rfl rfl
      apply Wk.drw 0 pick_ok Try.func15 rfl rfl rfl rfl ⟨n, rfl, hn⟩ hp rfl (lt_of_ble rfl)
      rintro r zs' p' ⟨k, rfl, hk⟩ hp'
      apply Wk.gon 7 rfl rfl
      apply Wk.mv (by conv => lhs; whnf) (lt_of_ble rfl)
      apply Wk.gon 7 rfl rfl
      apply Wk.subi rfl rfl (by omega) (lt_of_ble rfl)
      apply Wk.gon 7 rfl rfl
      apply Wk.bin rfl rfl (fun w => by simp [go_sem] <;> rfl) (lt_of_ble rfl)
      apply Wk.pckT rfl (by conv => lhs; whnf) (lt_of_ble rfl)
      apply Wk.asg (by conv => lhs; whnf) (lt_of_ble rfl)
      refine Wk.nil (AW.ret ?_)
      refine RetQ.ret [(0, rdr zs' p')] (.cons rfl .nil) ⟨⟨_, rfl, fun e => ?_⟩, _, _, rfl, hp'⟩ (kept1 rfl)
      simp only [List.cons.injEq, A.d.injEq, D.v.injEq, Value.int.injEq, true_and, and_true] at e
      omega
    · apply AW.list
      apply Wk.mv (by conv => lhs; whnf) (lt_of_ble rfl)
      apply Wk.bin (r := .bool false) rfl rfl (fun w => by simp [go_sem, h1]) (lt_of_ble rfl)
      apply Wk.mv (by conv => lhs; whnf) (lt_of_ble rfl)
      apply Wk.goff 7 (ok_move _) rfl rfl (by decide)
      apply Wk.goff 7 (ok_move _) rfl rfl (by decide)
      apply Wk.goff 7 (ok_drw 0 pick_ok Try.func15 rfl rfl) rfl rfl (by decide)
      apply Wk.goff 7 (ok_move _) rfl rfl (by decide)
      apply Wk.goff 7 (ok_bin _ _ _ _ _) rfl rfl (by decide)
      apply Wk.goff 7 (ok_bin _ _ _ _ _) rfl rfl (by decide)
      apply Wk.pckF rfl (by conv => lhs; whnf) (lt_of_ble rfl)
      apply Wk.asg (by conv => lhs; whnf) (lt_of_ble rfl)
      refine Wk.nil (AW.ret ?_)
      exact RetQ.ret [(0, rdr zs p)] (.cons rfl .nil) ⟨⟨false, rfl, fun _ => rfl⟩, _, _, rfl, Nat.le_succ p⟩ (kept1 rfl)
  · rintro rest ⟨n, rfl, _⟩; rfl
  · rintro rest _; exact ⟨_, false, rfl, fun _ => rfl⟩
  · rintro rest r ⟨k, rfl, _⟩; rfl

def fbytes (zs : List (Fin 256)) : D := bytesD (zs.map (·.val))
def cellsB (zs : List (Fin 256)) : List (List A) := (zs.map (·.val)).map fun z : Nat => [A.d (.v (.int .u8 (z : Int)))]
def cellsD (zs : List (Fin 256)) : List (List D) := (zs.map (·.val)).map fun z : Nat => [D.v (.int .u8 (z : Int))]
theorem asData_cells (zs : List (Fin 256)) : asData (cellsB zs) (cellsD zs) := asData_bytes _
theorem one_cellsB (zs : List (Fin 256)) : ∀ c ∈ cellsB zs, c.length = 1 := by
  intro c hc
  obtain ⟨z, _, rfl⟩ := List.mem_map.1 hc
  rfl
theorem within_cellsB {K : List Nat} (zs : List (Fin 256)) : (cellsB zs).all (A.withins K) = true := by
  simp [cellsB, A.withins, A.within]
set_option maxRecDepth 100000 in
theorem bytes_ok : DrawOk Try.prog 37 (fun rest => ∃ n : Int, rest = [.d (.v (.int .i64 n))] ∧ n ≤ 1000 ∧ -1000 ≤ n) (fun rest r => ∃ bs : List (Fin 256), r = .d (fbytes bs) ∧ ∀ n : Int, rest = [.d (.v (.int .i64 n))] → (bs.length : Int) ≤ n ∨ bs = []) 3001 := by
  refine DrawOk.zero ?_ ?_ ?_ ?_
  · rintro zs p rest ⟨n, rfl, hn, hn'⟩ hp
    refine Spec.intro (n := 30) (rv := [.tmp 4]) Try.func37 rfl rfl rfl (by simp) fun C hN hX => ?_
    refine AW.seq ?_
    apply AW.list
    apply Wk.asg (by conv => lhs; whnf) (lt_of_ble rfl)
    refine Wk.nil ?_
    refine AW.seq ?_
    apply AW.list
    apply Wk.lst 7 1 false [.int .u8 0] un22 ty5 ze5 rfl rfl (by rfl) (by rfl) (by decide) (by decide) rfl rfl (all_len rfl) (lt_of_ble rfl)
    apply Wk.asg (by conv => lhs; whnf) (lt_of_ble rfl)
    refine Wk.nil ?_
    refine AW.seq (AW.seq ?_)
    apply AW.list
    apply Wk.mv (by conv => lhs; whnf) (lt_of_ble rfl)
    apply Wk.mv (by conv => lhs; whnf) (lt_of_ble rfl)
    apply Wk.addi rfl rfl (by omega) (lt_of_ble rfl)
    apply Wk.drw 0 pick_ok Try.func15 rfl rfl rfl rfl ⟨n + 1, rfl, by omega⟩ (by omega) rfl (lt_of_ble rfl)
    rintro r zs1 p1 ⟨k, rfl, hk⟩ hp1
    replace hk := hk _ rfl
    apply Wk.asg (by conv => lhs; whnf) (lt_of_ble rfl)
    refine Wk.nil ?_
    refine AW.block ?_
    let inv : Nat × Nat × List (Fin 256) × Nat × List (Fin 256) → St := fun x => St.of 30 [(0, .ptr 0 0), (5, .own 7 x.2.1), (6, .d (.v (.int .i64 (x.1 : Int))))] [(0, rdr x.2.2.1 x.2.2.2.1), (7, .own x.2.1 5 1 (cellsB x.2.2.2.2))]
    refine AW.loop inv (fun x => x.1 ≤ k ∧ x.2.2.2.1 + 3 * x.1 ≤ p + 1 + 3 * k ∧ x.2.2.2.2.length + x.1 ≤ k) (fun x => x.1) (k, 0, zs1, p1, []) ⟨Nat.le_refl _, by simp only; omega, by simp⟩ ?_ ?_
    · exact fun a w => Rel.keep ⟨rfl, .cons rfl rfl (.cons rfl rfl (.cons rfl rfl .nil)), .cons rfl rfl (.cons rfl rfl .nil), ⟨fun i b hb => by have := hN.1 i b hb; simp [keys] at this ⊢; exact .inl this, fun i q v hv => by have := hN.2 i q v hv; simp [keys] at this ⊢; exact .inl this⟩⟩
    · rintro ⟨m, q, zs2, p2, bs⟩ ⟨h1, h2, h3⟩
      simp only at h1 h2 h3
      show AW Try.prog C _ _ (St.of 30 [(0, .ptr 0 0), (5, .own 7 q), (6, .d (.v (.int .i64 (m : Int))))] [(0, rdr zs2 p2), (7, .own q 5 1 (cellsB bs))])
      refine AW.seq (AW.seq ?_)
      apply AW.list
      apply Wk.mv (by conv => lhs; whnf) (lt_of_ble rfl)
      apply Wk.bin rfl rfl (fun w => by simp [go_sem] <;> rfl) (lt_of_ble rfl)
      refine Wk.nil ?_
      refine AW.cond rfl (fun hc => ?_) (fun hc => ?_)
      · have hm : 0 < m := by simpa using hc
        refine AW.skip (thenA_normal ?_)
        refine AW.seq (AW.block ?_)
        apply AW.list
        apply Wk.mv (by conv => lhs; whnf) (lt_of_ble rfl)
        apply Wk.mv (by conv => lhs; whnf) (lt_of_ble rfl)
        apply Wk.drw 0 pick_ok Try.func15 rfl rfl rfl rfl ⟨_, rfl, by omega⟩ (by omega) rfl (lt_of_ble rfl)
        rintro r1 zs3 p3 ⟨k1, rfl, hk1⟩ hp3
        apply Wk.mv (by conv => lhs; whnf) (lt_of_ble rfl)
        apply Wk.drw 0 pick_ok Try.func15 rfl rfl rfl rfl ⟨_, rfl, by omega⟩ (by omega) rfl (lt_of_ble rfl)
        rintro r2 zs4 p4 ⟨k2, rfl, hk2⟩ hp4
        apply Wk.lst 21 1 false [.int .i64 0] un64 ty3 ze3 rfl rfl (by rfl) (by rfl) (by decide) (by decide) rfl rfl (all_len rfl) (lt_of_ble rfl)
        apply Wk.mv (by conv => lhs; whnf) (lt_of_ble rfl)
        apply Wk.drw 0 pick_ok Try.func15 rfl rfl rfl rfl ⟨_, rfl, by omega⟩ (by omega) rfl (lt_of_ble rfl)
        rintro r3 zs5 p5 ⟨k3, rfl, hk3⟩ hp5
        have hk3 : k3 < 3 := by have := hk3 3 rfl; omega
        obtain ⟨v, hv⟩ : ∃ v : Int, partA (List.flatten [[A.d (.v (.int .i64 (k1 : Int)))], [.d (.v (.int .i64 (k2 : Int)))], [.d (.v (.int .i64 255))]]) (k3 * 1) 1 false = some (.d (.v (.int .i64 v))) := by
          rcases (show k3 = 0 ∨ k3 = 1 ∨ k3 = 2 by omega) with rfl | rfl | rfl <;> exact ⟨_, rfl⟩
        apply Wk.iado 21 1 false un64 ty3 rfl rfl rfl hk3 (lt_of_ble rfl)
        apply Wk.ldo (i := 21) 1 false ty3 rfl rfl hv (lt_of_ble rfl)
        apply Wk.convb rfl ui3 ui5 (lt_of_ble rfl)
        intro z
        apply Wk.lst 27 1 false [.int .u8 0] un22 ty5 ze5 rfl rfl (by rfl) (by rfl) (by decide) (by decide) rfl rfl (all_len rfl) (lt_of_ble rfl)
        apply Wk.appOO 7 27 1 un22 ap5 rfl rfl rfl rfl (by decide) (all_len rfl) (one_cellsB bs) (by simp [cellsB]; omega) (lt_of_ble rfl)
        apply Wk.asg (by conv => lhs; whnf) (lt_of_ble rfl)
        refine Wk.nil (inBlockA_normal (thenA_normal ?_))
        apply AW.list
        apply Wk.mv (by conv => lhs; whnf) (lt_of_ble rfl)
        apply Wk.subn (b := 1) rfl rfl (by omega) (by omega) (lt_of_ble rfl)
        apply Wk.asg (by conv => lhs; whnf) (lt_of_ble rfl)
        refine Wk.nil ?_
        refine ⟨(m - 1, q + 1, zs5, p5, bs ++ [z]), ⟨by simp only; omega, by simp only; omega, by simp; omega⟩, by simp only; omega, ?_⟩
        refine fun a w => Rel.keep ⟨rfl, .cons rfl rfl (.cons rfl rfl (.cons rfl rfl .nil)), .cons rfl rfl (.cons ?_ ?_ .nil), ⟨fun i b hb => by have := hN.1 i b hb; simp [keys] at this ⊢; exact .inl this, fun i q v hv => by have := hN.2 i q v hv; simp [keys] at this ⊢; exact .inl this⟩⟩
        · simp only [cellsB, List.map_append]
          rfl
        · exact within_cellsB _
      · have hm : m = 0 := by simpa using hc
        refine AW.exit ?_
        repeat (first | refine inBlockA_same ?_ | refine thenA_exit ?_)
        refine thenA_normal ?_
        refine AW.thaw (t := 5) (i := 7) (cellsD bs) rfl rfl (asData_cells bs) (hX.one (by decide) rfl) ?_
        refine AW.seq ?_
        apply AW.list
        apply Wk.mv (by conv => lhs; whnf) (lt_of_ble rfl)
        apply Wk.asg (by conv => lhs; whnf) (lt_of_ble rfl)
        refine Wk.nil (AW.ret ?_)
        refine RetQ.ret [(0, rdr zs2 p2)] (.cons rfl .nil) ⟨⟨bs, rfl, fun n' e => ?_⟩, _, _, rfl, by omega⟩ (kept1 rfl)
        simp only [List.cons.injEq, A.d.injEq, D.v.injEq, Value.int.injEq, true_and, and_true] at e
        subst e
        rcases hk with hk | hk
        · exact .inl (by omega)
        · exact .inr (List.eq_nil_of_length_eq_zero (by omega))
  · rintro rest ⟨n, rfl, _⟩; rfl
  · rintro rest _; exact ⟨_, [], rfl, fun _ _ => .inr rfl⟩
  · rintro rest r ⟨k, rfl, _⟩; rfl
end Go.Proofs.Ytpdndapegiglcaa
