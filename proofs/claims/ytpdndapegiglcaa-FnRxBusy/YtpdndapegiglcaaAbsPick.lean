/- The reader of codes, over what values read as. -/
import Derived.Test.YtpdndapegiglcaaAbsNum
import Derived.Test.YtpdndapegiglcaaAbsTy
namespace Go.Proofs.Ytpdndapegiglcaa
open Go
set_option maxRecDepth 100000 in
theorem pick_ok : DrawOk Try.prog 15 (fun rest => ∃ n : Int, rest = [.d (.v (.int .i64 n))] ∧ n ≤ 1000000) (fun rest r => ∃ k : Nat, r = .d (.v (.int .i64 (k : Int))) ∧ ∀ n : Int, rest = [.d (.v (.int .i64 n))] → (k : Int) < n ∨ k = 0 ∧ n < 1) 1 := by
  refine DrawOk.zero ?_ ?_ ?_ ?_
  · rintro zs p rest ⟨n, rfl, hn⟩ hp
    refine Spec.intro (n := 99) (rv := [.tmp 4]) Try.func15 rfl rfl rfl (by simp) fun C hN hX => ?_
    refine AW.seq ?_
    apply AW.list
    apply Wk.asg (by conv => lhs; whnf) (lt_of_ble rfl)
    refine Wk.nil ?_
    refine AW.seq ?_
    apply AW.list
    apply Wk.mv (by conv => lhs; whnf) (lt_of_ble rfl)
    apply Wk.mv (by conv => lhs; whnf) (lt_of_ble rfl)
    apply Wk.nilc rfl (lt_of_ble rfl)
    apply Wk.fad 1 0 false fd61_1 rfl (lt_of_ble rfl)
    apply Wk.ld (i := 0) 1 false ty3 rfl rfl (by conv => lhs; whnf) (lt_of_ble rfl)
    apply Wk.addn (b := 1) rfl rfl (by omega) (lt_of_ble rfl)
    apply Wk.nilc rfl (lt_of_ble rfl)
    apply Wk.fad 1 0 false fd61_1 rfl (lt_of_ble rfl)
    apply Wk.sto (i := 0) 1 false ty3 rfl rfl rfl rfl (Nat.le_of_ble_eq_true rfl) (lt_of_ble rfl)
    refine Wk.nil ?_
    refine AW.keep (n := 99) (ts := [(0, .ptr 0 0), (1, .d (.v (.int .i64 n)))]) (bs := [(0, rdr zs (p + 1))]) ⟨rfl, .cons rfl rfl (.cons rfl rfl .nil), .cons rfl rfl .nil, hN⟩ ?_
    refine AW.seq (AW.seq ?_)
    have fin : ∀ (k : Nat) (σ : St), ((k : Int) < n ∨ k = 0 ∧ n < 1) → σ.t 4 = .d (.v (.int .i64 (k : Int))) → σ.b 0 = rdr zs (p + 1) → RetQ Try.prog [.tmp 4] (fun r bs => (∃ k : Nat, r = .d (.v (.int .i64 (k : Int))) ∧ ∀ m : Int, [A.d (.v (.int .i64 n))] = [.d (.v (.int .i64 m))] → (k : Int) < m ∨ k = 0 ∧ m < 1) ∧ ∃ zs' p', bs = [(0, rdr zs' p')] ∧ p' ≤ p + 1) .ret σ := by
      intro k σ hk h4 hb
      refine RetQ.ret [(0, rdr zs (p + 1))] (.cons h4 .nil) ⟨⟨k, rfl, fun m e => ?_⟩, zs, p + 1, rfl, Nat.le_refl _⟩ (fun i x hx => ?_)
      · simp only [List.cons.injEq, A.d.injEq, D.v.injEq, Value.int.injEq, true_and, and_true] at e
        rw [← e]; exact hk
      · rw [List.lookup_cons] at hx
        split at hx
        · rename_i he
          rw [eq_of_beq he, hb]
          exact Option.some.inj hx
        · cases hx
    by_cases h1 : n < 1
    · apply AW.list
      apply Wk.mv (by conv => lhs; whnf) (lt_of_ble rfl)
      apply Wk.bin (r := .bool true) rfl rfl (fun w => by simp [go_sem, h1]) (lt_of_ble rfl)
      apply Wk.mv (by conv => lhs; whnf) (lt_of_ble rfl)
      apply Wk.goff 17 (ok_move _) rfl rfl (by decide)
      apply Wk.goff 17 (ok_nil _) rfl rfl (by decide)
      apply Wk.goff 17 (ok_faddr fd61_0) rfl rfl (by decide)
      apply Wk.goff 17 (ok_load 0 ty22) rfl rfl (by decide)
      apply Wk.goff 17 (ok_len un22) rfl rfl (by decide)
      apply Wk.goff 17 (ok_bin _ _ _ _ _) rfl rfl (by decide)
      apply Wk.pckT rfl (by conv => lhs; whnf) (lt_of_ble rfl)
      refine Wk.nil ?_
      refine AW.cond rfl (fun _ => ?_) (fun h => by cases h)
      refine AW.seq ?_
      apply AW.list
      apply Wk.asg (by conv => lhs; whnf) (lt_of_ble rfl)
      refine Wk.nil (AW.ret ?_)
      exact fin 0 _ (.inr ⟨rfl, h1⟩) rfl rfl
    · apply AW.list
      apply Wk.mv (by conv => lhs; whnf) (lt_of_ble rfl)
      apply Wk.bin (r := .bool false) rfl rfl (fun w => by simp [go_sem, h1]) (lt_of_ble rfl)
      apply Wk.mv (by conv => lhs; whnf) (lt_of_ble rfl)
      apply Wk.gon 17 rfl rfl
      apply Wk.mv (by conv => lhs; whnf) (lt_of_ble rfl)
      apply Wk.gon 17 rfl rfl
      apply Wk.nilc rfl (lt_of_ble rfl)
      apply Wk.gon 17 rfl rfl
      apply Wk.fad 0 0 false fd61_0 rfl (lt_of_ble rfl)
      apply Wk.gon 17 rfl rfl
      apply Wk.ld (i := 0) 1 false ty22 rfl rfl (by conv => lhs; whnf) (lt_of_ble rfl)
      apply Wk.gon 17 rfl rfl
      apply Wk.len un22 rfl (lt_of_ble rfl)
      apply Wk.gon 17 rfl rfl
      apply Wk.bin rfl rfl (fun w => by simp [go_sem] <;> rfl) (lt_of_ble rfl)
      apply Wk.pckF rfl (by conv => lhs; whnf) (lt_of_ble rfl)
      refine Wk.nil ?_
      refine AW.cond rfl (fun h0 => ?_) (fun h0 => ?_)
      · refine AW.seq ?_
        apply AW.list
        apply Wk.asg (by conv => lhs; whnf) (lt_of_ble rfl)
        refine Wk.nil (AW.ret ?_)
        exact fin 0 _ (.inl (by omega)) rfl rfl
      · have hl : 0 < zs.length := by
          simp only [beq_eq_false_iff_ne, ne_eq] at h0
          omega
        obtain ⟨m, rfl⟩ : ∃ m : Nat, n = (m : Int) := ⟨n.toNat, by omega⟩
        refine AW.skip (thenA_normal ?_)
        refine AW.keep (n := 99) (ts := [(0, .ptr 0 0), (1, .d (.v (.int .i64 (m : Int))))]) (bs := [(0, rdr zs (p + 1))]) ⟨rfl, .cons rfl rfl (.cons rfl rfl .nil), .cons rfl rfl .nil, hN⟩ ?_
        refine AW.seq ?_
        apply AW.list
        apply Wk.mv (by conv => lhs; whnf) (lt_of_ble rfl)
        apply Wk.nilc rfl (lt_of_ble rfl)
        apply Wk.fad 1 0 false fd61_1 rfl (lt_of_ble rfl)
        apply Wk.ld (i := 0) 1 false ty3 rfl rfl (by conv => lhs; whnf) (lt_of_ble rfl)
        apply Wk.subn (b := 1) rfl rfl (by omega) (by omega) (lt_of_ble rfl)
        apply Wk.asg (by conv => lhs; whnf) (lt_of_ble rfl)
        refine Wk.nil ?_
        refine AW.seq (AW.seq ?_)
        apply AW.list
        apply Wk.mv (by conv => lhs; whnf) (lt_of_ble rfl)
        apply Wk.mv (by conv => lhs; whnf) (lt_of_ble rfl)
        apply Wk.nilc rfl (lt_of_ble rfl)
        apply Wk.fad 0 0 false fd61_0 rfl (lt_of_ble rfl)
        apply Wk.ld (i := 0) 1 false ty22 rfl rfl (by conv => lhs; whnf) (lt_of_ble rfl)
        apply Wk.len un22 rfl (lt_of_ble rfl)
        apply Wk.bin rfl rfl (fun w => by simp [go_sem] <;> rfl) (lt_of_ble rfl)
        refine Wk.nil ?_
        refine AW.cond rfl (fun hc => ?_) (fun hc => ?_)
        · have hlt : p < zs.length := by simpa using hc
          have hlt' : p < (zs.map (·.val)).length := by simpa using hlt
          have hm : 0 < m := by omega
          refine AW.keep (n := 99) (ts := [(0, .ptr 0 0), (1, .d (.v (.int .i64 (m : Int)))), (5, .d (.v (.int .i64 (p : Int))))]) (bs := [(0, rdr zs (p + 1))]) ⟨rfl, .cons rfl rfl (.cons rfl rfl (.cons rfl rfl .nil)), .cons rfl rfl .nil, hN⟩ ?_
          refine AW.seq ?_
          apply AW.list
          apply Wk.mv (by conv => lhs; whnf) (lt_of_ble rfl)
          apply Wk.nilc rfl (lt_of_ble rfl)
          apply Wk.fad 0 0 false fd61_0 rfl (lt_of_ble rfl)
          apply Wk.ld (i := 0) 1 false ty22 rfl rfl (by conv => lhs; whnf) (lt_of_ble rfl)
          apply Wk.mv (by conv => lhs; whnf) (lt_of_ble rfl)
          apply Wk.iad 1 false un22 ty5 rfl rfl (by simpa using hlt) (one_bytes _) (lt_of_ble rfl)
          apply Wk.ldr 1 false ty5 rfl (bytes_get (zs.map (·.val)) p hlt') (by conv => lhs; whnf) (lt_of_ble rfl)
          apply Wk.convn rfl ui5 ui3 (by have := fin_lt zs p; omega) (lt_of_ble rfl)
          apply Wk.mv (by conv => lhs; whnf) (lt_of_ble rfl)
          apply Wk.remn rfl rfl hm (lt_of_ble rfl)
          apply Wk.asg (by conv => lhs; whnf) (lt_of_ble rfl)
          refine Wk.nil (AW.ret ?_)
          exact fin _ _ (.inl (by have := Nat.mod_lt ((zs.map (·.val)).getD p 0) hm; omega)) rfl rfl
        · have hm : 0 < m := by omega
          refine AW.skip (thenA_normal ?_)
          refine AW.bound (x := .tmp 34) rfl fun hlen => ?_
          simp only [List.length_map] at hlen
          refine AW.keep (n := 99) (ts := [(0, .ptr 0 0), (1, .d (.v (.int .i64 (m : Int)))), (5, .d (.v (.int .i64 (p : Int))))]) (bs := [(0, rdr zs (p + 1))]) ⟨rfl, .cons rfl rfl (.cons rfl rfl (.cons rfl rfl .nil)), .cons rfl rfl .nil, hN⟩ ?_
          have hl' : 0 < ((zs.map (·.val)).map fun z : Nat => [D.v (.int .u8 (z : Int))]).length := by simpa using hl
          have hlm : ((zs.map (·.val)).map fun z : Nat => [D.v (.int .u8 (z : Int))]).length = (zs.map (·.val)).length := by simp
          have x1 := fin_lt zs (p % ((zs.map (·.val)).map fun z : Nat => [D.v (.int .u8 (z : Int))]).length)
          have x2 := fin_lt zs ((p * 7 + 3) % ((zs.map (·.val)).map fun z : Nat => [D.v (.int .u8 (z : Int))]).length)
          have q1 := Nat.mod_lt p hl'
          have q2 := Nat.mod_lt (p * 7 + 3) hl'
          have q3 := Nat.div_le_self p ((zs.map (·.val)).map fun z : Nat => [D.v (.int .u8 (z : Int))]).length
          refine AW.seq ?_
          apply AW.drawd (hm := hmix) (cs := _) (σ1 := _)
          · apply Wk.mv (by conv => lhs; whnf) (lt_of_ble rfl)
            apply Wk.nilc rfl (lt_of_ble rfl)
            apply Wk.fad 0 0 false fd61_0 rfl (lt_of_ble rfl)
            apply Wk.ld (i := 0) 1 false ty22 rfl rfl (by conv => lhs; whnf) (lt_of_ble rfl)
            apply Wk.mv (by conv => lhs; whnf) (lt_of_ble rfl)
            apply Wk.mv (by conv => lhs; whnf) (lt_of_ble rfl)
            apply Wk.nilc rfl (lt_of_ble rfl)
            apply Wk.fad 0 0 false fd61_0 rfl (lt_of_ble rfl)
            apply Wk.ld (i := 0) 1 false ty22 rfl rfl (by conv => lhs; whnf) (lt_of_ble rfl)
            apply Wk.len un22 rfl (lt_of_ble rfl)
            apply Wk.remn rfl rfl hl' (lt_of_ble rfl)
            apply Wk.iad 1 false un22 ty5 rfl rfl q1 (one_bytes _) (lt_of_ble rfl)
            apply Wk.ldr 1 false ty5 rfl (bytes_get (zs.map (·.val)) _ (hlm ▸ q1)) (by conv => lhs; whnf) (lt_of_ble rfl)
            apply Wk.convn rfl ui5 ui3 (by omega) (lt_of_ble rfl)
            apply Wk.muln (b := 131) rfl rfl (by omega) (lt_of_ble rfl)
            apply Wk.mv (by conv => lhs; whnf) (lt_of_ble rfl)
            apply Wk.nilc rfl (lt_of_ble rfl)
            apply Wk.fad 0 0 false fd61_0 rfl (lt_of_ble rfl)
            apply Wk.ld (i := 0) 1 false ty22 rfl rfl (by conv => lhs; whnf) (lt_of_ble rfl)
            apply Wk.mv (by conv => lhs; whnf) (lt_of_ble rfl)
            apply Wk.muln (b := 7) rfl rfl (by omega) (lt_of_ble rfl)
            apply Wk.addn (b := 3) rfl rfl (by omega) (lt_of_ble rfl)
            apply Wk.mv (by conv => lhs; whnf) (lt_of_ble rfl)
            apply Wk.nilc rfl (lt_of_ble rfl)
            apply Wk.fad 0 0 false fd61_0 rfl (lt_of_ble rfl)
            apply Wk.ld (i := 0) 1 false ty22 rfl rfl (by conv => lhs; whnf) (lt_of_ble rfl)
            apply Wk.len un22 rfl (lt_of_ble rfl)
            apply Wk.remn rfl rfl hl' (lt_of_ble rfl)
            apply Wk.iad 1 false un22 ty5 rfl rfl q2 (one_bytes _) (lt_of_ble rfl)
            apply Wk.ldr 1 false ty5 rfl (bytes_get (zs.map (·.val)) _ (hlm ▸ q2)) (by conv => lhs; whnf) (lt_of_ble rfl)
            apply Wk.convn rfl ui5 ui3 (by omega) (lt_of_ble rfl)
            apply Wk.muln (b := 1117) rfl rfl (by omega) (lt_of_ble rfl)
            apply Wk.addn rfl rfl (by omega) (lt_of_ble rfl)
            apply Wk.mv (by conv => lhs; whnf) (lt_of_ble rfl)
            apply Wk.muln (b := 29) rfl rfl (by omega) (lt_of_ble rfl)
            apply Wk.addn rfl rfl (by omega) (lt_of_ble rfl)
            apply Wk.mv (by conv => lhs; whnf) (lt_of_ble rfl)
            apply Wk.mv (by conv => lhs; whnf) (lt_of_ble rfl)
            apply Wk.nilc rfl (lt_of_ble rfl)
            apply Wk.fad 0 0 false fd61_0 rfl (lt_of_ble rfl)
            apply Wk.ld (i := 0) 1 false ty22 rfl rfl (by conv => lhs; whnf) (lt_of_ble rfl)
            apply Wk.len un22 rfl (lt_of_ble rfl)
            apply Wk.quon rfl rfl hl' (by omega) (lt_of_ble rfl)
            apply Wk.muln (b := 53) rfl rfl (by omega) (lt_of_ble rfl)
            apply Wk.addn rfl rfl (by omega) (lt_of_ble rfl)
            apply Wk.asg (by conv => lhs; whnf) (lt_of_ble rfl)
            exact Wk.nil rfl
          · rfl
          · rfl
          obtain ⟨X, hX1, hX2⟩ : ∃ X : Nat, X = (zs.map (·.val)).getD (p % ((zs.map (·.val)).map fun z : Nat => [D.v (.int .u8 (z : Int))]).length) 0 * 131 + (zs.map (·.val)).getD ((p * 7 + 3) % ((zs.map (·.val)).map fun z : Nat => [D.v (.int .u8 (z : Int))]).length) 0 * 1117 + p * 29 + p / ((zs.map (·.val)).map fun z : Nat => [D.v (.int .u8 (z : Int))]).length * 53 ∧ X ≤ 1000000000000000 := ⟨_, rfl, by omega⟩
          refine AW.keep (n := 99) (ts := [(1, .d (.v (.int .i64 (m : Int)))), (6, .d (.v (.int .i64 (X : Int))))]) (bs := [(0, rdr zs (p + 1))]) ⟨rfl, .cons rfl rfl (.cons (by rw [hX1]; rfl) rfl .nil), .cons rfl rfl .nil, hN⟩ ?_
          clear x1 x2 q1 q2 q3 hX1 hl' hlm
          have h64 : X / 64 ≤ X := Nat.div_le_self X 64
          refine AW.seq ?_
          apply AW.list
          apply Wk.mv (by conv => lhs; whnf) (lt_of_ble rfl)
          apply Wk.mv (by conv => lhs; whnf) (lt_of_ble rfl)
          apply Wk.quon (b := 64) rfl rfl (by omega) (by omega) (lt_of_ble rfl)
          apply Wk.xorn rfl rfl (by omega) (by omega) (lt_of_ble rfl)
          apply Wk.asg (by conv => lhs; whnf) (lt_of_ble rfl)
          refine Wk.nil ?_
          refine AW.seq ?_
          apply AW.list
          apply Wk.mv (by conv => lhs; whnf) (lt_of_ble rfl)
          apply Wk.mv (by conv => lhs; whnf) (lt_of_ble rfl)
          apply Wk.remn rfl rfl hm (lt_of_ble rfl)
          apply Wk.asg (by conv => lhs; whnf) (lt_of_ble rfl)
          refine Wk.nil (AW.ret ?_)
          exact fin _ _ (.inl (by have := Nat.mod_lt (X ^^^ X / 64) hm; omega)) rfl rfl
  · rintro rest ⟨n, rfl, _⟩
    rfl
  · rintro rest ⟨n, rfl, _⟩
    by_cases h : n < 1
    · exact ⟨_, 0, rfl, fun m e => by simp only [List.cons.injEq, A.d.injEq, D.v.injEq, Value.int.injEq, true_and, and_true] at e; omega⟩
    · exact ⟨_, 0, rfl, fun m e => by simp only [List.cons.injEq, A.d.injEq, D.v.injEq, Value.int.injEq, true_and, and_true] at e; omega⟩
  · rintro rest r ⟨k, rfl, _⟩
    rfl
end Go.Proofs.Ytpdndapegiglcaa
