/- Laws and contracts that the proof stands on: AbsNum, AbsPick, AbsBytes, AbsOpen, AbsJoin, AbsRx, AbsRun, AbsSay, AbsBusy, AbsCfg, AbsPart, AbsFrame, HearF, AbsLift, AbsHr. -/
import Derived.Test.YtlmadcpoaedagaaMa
import Derived.Test.YtlmadcpoaedagaaMb
import Derived.Test.YtlmadcpoaedagaaMc
/- Numbers, as operations of a walk. -/
namespace Go.Proofs.Ytlmadcpoaedagaa
open Go
section
variable {P : Program} {C : Ctx} {ops : Array Oper} {os : List Oper} {cs : List Cert} {σ : St} {K : St → Prop} {d : Nat} {ty : TypeId} {pos : String} {af : Array Edge} {t yt : TypeId} {x y : Operand} {a b : Nat}
theorem Wk.remn (hx : aev σ x = .d (.v (.int .i64 (a : Int)))) (hy : aev σ y = .d (.v (.int .i64 (b : Int)))) (hb : 0 < b) (hd : d < σ.n)
    (h : Wk P C ops os cs (σ.put (T d) (.a (.d (.v (.int .i64 ((a % b : Nat) : Int)))))) K) : Wk P C ops (⟨some d, .binOp .rem t x y yt, ty, pos, af, none⟩ :: os) (⟨kof x ++ kof y, [T d], beh1 (rBin P .rem t x y) d⟩ :: cs) σ K :=
  Wk.bin hx hy (fun w => by
    have : ¬ b = 0 := by omega
    simp [go_sem, this]
    exact Int.tmod_eq_emod_of_nonneg (by omega)) hd h
theorem Wk.quon (hx : aev σ x = .d (.v (.int .i64 (a : Int)))) (hy : aev σ y = .d (.v (.int .i64 (b : Int)))) (hb : 0 < b) (ha : a ≤ 9223372036854775807) (hd : d < σ.n)
    (h : Wk P C ops os cs (σ.put (T d) (.a (.d (.v (.int .i64 ((a / b : Nat) : Int)))))) K) : Wk P C ops (⟨some d, .binOp .quo t x y yt, ty, pos, af, none⟩ :: os) (⟨kof x ++ kof y, [T d], beh1 (rBin P .quo t x y) d⟩ :: cs) σ K :=
  Wk.bin hx hy (fun w => by
    have : ¬ b = 0 := by omega
    have h1 : a / b ≤ a := Nat.div_le_self a b
    have h2 : ((a : Int) / (b : Int)) = ((a / b : Nat) : Int) := by simp
    have h3 : IntKind.i64.wrap ((a : Int) / (b : Int)) = (a : Int) / (b : Int) := by
      rw [h2]
      generalize a / b = q at h1 ⊢
      exact wrap64 (by omega) (by omega)
    simp [go_sem, this, h3]) hd h
theorem Wk.muln (hx : aev σ x = .d (.v (.int .i64 (a : Int)))) (hy : aev σ y = .d (.v (.int .i64 (b : Int)))) (hb : a * b ≤ 9223372036854775807) (hd : d < σ.n)
    (h : Wk P C ops os cs (σ.put (T d) (.a (.d (.v (.int .i64 ((a * b : Nat) : Int)))))) K) : Wk P C ops (⟨some d, .binOp .mul t x y yt, ty, pos, af, none⟩ :: os) (⟨kof x ++ kof y, [T d], beh1 (rBin P .mul t x y) d⟩ :: cs) σ K :=
  Wk.bin hx hy (fun w => by
    have h2 : ((a : Int) * (b : Int)) = ((a * b : Nat) : Int) := by simp
    have h1 := wrap64 (n := ((a * b : Nat) : Int)) (by omega) (by omega)
    rw [← h2] at h1
    simp [go_sem, h1]) hd h
theorem Wk.addn (hx : aev σ x = .d (.v (.int .i64 (a : Int)))) (hy : aev σ y = .d (.v (.int .i64 (b : Int)))) (hb : a + b ≤ 9223372036854775807) (hd : d < σ.n)
    (h : Wk P C ops os cs (σ.put (T d) (.a (.d (.v (.int .i64 ((a + b : Nat) : Int)))))) K) : Wk P C ops (⟨some d, .binOp .add t x y yt, ty, pos, af, none⟩ :: os) (⟨kof x ++ kof y, [T d], beh1 (rBin P .add t x y) d⟩ :: cs) σ K :=
  Wk.addi hx hy (by omega) hd (by rw [← Int.natCast_add]; exact h)
theorem Wk.subn (hx : aev σ x = .d (.v (.int .i64 (a : Int)))) (hy : aev σ y = .d (.v (.int .i64 (b : Int)))) (hb : b ≤ a) (ha : a ≤ 9223372036854775807) (hd : d < σ.n)
    (h : Wk P C ops os cs (σ.put (T d) (.a (.d (.v (.int .i64 ((a - b : Nat) : Int)))))) K) : Wk P C ops (⟨some d, .binOp .sub t x y yt, ty, pos, af, none⟩ :: os) (⟨kof x ++ kof y, [T d], beh1 (rBin P .sub t x y) d⟩ :: cs) σ K :=
  Wk.subi hx hy (by omega) hd (by rw [← Int.ofNat_sub hb]; exact h)
theorem Wk.xorn (hx : aev σ x = .d (.v (.int .i64 (a : Int)))) (hy : aev σ y = .d (.v (.int .i64 (b : Int)))) (ha : a < 9223372036854775808) (hb : b < 9223372036854775808) (hd : d < σ.n)
    (h : Wk P C ops os cs (σ.put (T d) (.a (.d (.v (.int .i64 ((a ^^^ b : Nat) : Int)))))) K) : Wk P C ops (⟨some d, .binOp .xor t x y yt, ty, pos, af, none⟩ :: os) (⟨kof x ++ kof y, [T d], beh1 (rBin P .xor t x y) d⟩ :: cs) σ K :=
  Wk.bin hx hy (fun w => by simp [go_sem, i64_xor_nat a b ha hb]) hd h
/-- A number of one kind as one of another. -/
theorem Wk.convi {s : TypeId} {n : Int} {j k : IntKind} (hx : aev σ x = .d (.v (.int j n))) (hs : P.underlying s = some (.int j)) (ht : P.underlying t = some (.int k)) (hd : d < σ.n)
    (h : Wk P C ops os cs (σ.put (T d) (.a (.d (.v (.int k (k.wrap n)))))) K) : Wk P C ops (⟨some d, .convert s t x, ty, pos, af, none⟩ :: os) (⟨kof x, [T d], beh1 (rConv P s t x) d⟩ :: cs) σ K :=
  Wk.conv hx (fun w => by simp [convert, run_underlying hs, run_underlying ht, Conv.intToInt]) hd h
/-- A byte as a number. -/
theorem Wk.convn {s : TypeId} {j : IntKind} (hx : aev σ x = .d (.v (.int j (a : Int)))) (hs : P.underlying s = some (.int j)) (ht : P.underlying t = some (.int .i64)) (ha : a ≤ 9223372036854775807) (hd : d < σ.n)
    (h : Wk P C ops os cs (σ.put (T d) (.a (.d (.v (.int .i64 (a : Int)))))) K) : Wk P C ops (⟨some d, .convert s t x, ty, pos, af, none⟩ :: os) (⟨kof x, [T d], beh1 (rConv P s t x) d⟩ :: cs) σ K :=
  Wk.conv hx (fun w => by simp [convert, run_underlying hs, run_underlying ht, Conv.intToInt, wrap64 (n := (a : Int)) (by omega) (by omega)]) hd h
theorem wrap8 {n : Int} (h1 : 0 ≤ n) (h2 : n ≤ 255) : IntKind.u8.wrap n = n := by
  simp [IntKind.wrap, IntKind.bits, IntKind.signed]
  omega
theorem wrap8_nat (n : Int) : ∃ z : Nat, IntKind.u8.wrap n = (z : Int) ∧ z < 256 := by
  refine ⟨(n % 256).toNat, ?_, ?_⟩
  · simp [IntKind.wrap, IntKind.bits, IntKind.signed]
    omega
  · omega
/-- A number as a byte. -/
theorem Wk.convb {s : TypeId} {j : IntKind} {n : Int} (hx : aev σ x = .d (.v (.int j n))) (hs : P.underlying s = some (.int j)) (ht : P.underlying t = some (.int .u8)) (hd : d < σ.n)
    (h : ∀ z : Fin 256, Wk P C ops os cs (σ.put (T d) (.a (.d (.v (.int .u8 ((z.val : Nat) : Int)))))) K) : Wk P C ops (⟨some d, .convert s t x, ty, pos, af, none⟩ :: os) (⟨kof x, [T d], beh1 (rConv P s t x) d⟩ :: cs) σ K := by
  obtain ⟨z, hz, hlt⟩ := wrap8_nat n
  exact Wk.conv (r := .int .u8 (z : Int)) hx (fun w => by simp [convert, run_underlying hs, run_underlying ht, Conv.intToInt, hz]) hd (h ⟨z, hlt⟩)
end
end Go.Proofs.Ytlmadcpoaedagaa

/- The reader of codes, over what values read as. -/
namespace Go.Proofs.Ytlmadcpoaedagaa
open Go
set_option maxRecDepth 100000 in
theorem pick_ok : DrawOk Try.prog 28 (fun rest => ∃ n : Int, rest = [.d (.v (.int .i64 n))] ∧ n ≤ 1000000) (fun rest r => ∃ k : Nat, r = .d (.v (.int .i64 (k : Int))) ∧ ∀ n : Int, rest = [.d (.v (.int .i64 n))] → (k : Int) < n ∨ k = 0 ∧ n < 1) 1 := by
  refine DrawOk.zero ?_ ?_ ?_ ?_
  · rintro zs p rest ⟨n, rfl, hn⟩ hp
    refine Spec.intro (n := 99) (rv := [.tmp 4]) Try.func28 rfl rfl rfl (by simp) fun C hN hX => ?_
    refine AW.seq ?_
    apply AW.list
    apply Wk.asg (by conv => lhs; whnf) (lt_of_ble rfl)
    refine Wk.nil ?_
    refine AW.seq ?_
    apply AW.list
    apply Wk.mv (by conv => lhs; whnf) (lt_of_ble rfl)
    apply Wk.mv (by conv => lhs; whnf) (lt_of_ble rfl)
    apply Wk.nilc rfl (lt_of_ble rfl)
    apply Wk.fad 1 0 false fd85_1 rfl (lt_of_ble rfl)
    apply Wk.ld (i := 0) 1 false ty3 rfl rfl (by conv => lhs; whnf) (lt_of_ble rfl)
    apply Wk.addn (b := 1) rfl rfl (by omega) (lt_of_ble rfl)
    apply Wk.nilc rfl (lt_of_ble rfl)
    apply Wk.fad 1 0 false fd85_1 rfl (lt_of_ble rfl)
    apply Wk.sto (i := 0) 1 false ty3 rfl rfl rfl rfl (Nat.le_of_ble_eq_true rfl) (lt_of_ble rfl)
    refine Wk.nil ?_
    refine AW.keep (n := 99) (ts := [(0, .ptr 0 0), (1, .d (.v (.int .i64 n)))]) (bs := [(0, rdr zs (p + 1))]) ⟨rfl, .cons rfl rfl (.cons rfl rfl .nil), .cons rfl rfl .nil, hN⟩ ?_
    refine AW.seq (AW.seq ?_)
    have fin : ∀ (k : Nat) (σ : St), ((k : Int) < n ∨ k = 0 ∧ n < 1) → σ.t 4 = .d (.v (.int .i64 (k : Int))) → σ.b 0 = rdr zs (p + 1) → RetQ Try.prog [.tmp 4] (fun r bs => (∃ k : Nat, r = .d (.v (.int .i64 (k : Int))) ∧ ∀ m : Int, [A.d (.v (.int .i64 n))] = [.d (.v (.int .i64 m))] → (k : Int) < m ∨ k = 0 ∧ m < 1) ∧ ∃ zs' p', bs = [(0, rdr zs' p')] ∧ p' ≤ p + 1) .ret σ := by
      intro k σ hk h4 hb
      refine RetQ.ret [(0, rdr zs (p + 1))] (.cons h4 .nil) ⟨⟨k, rfl, fun m e => ?_⟩, zs, p + 1, rfl, Nat.le_refl _⟩ (fun i x hx => ?_)
      · simp only [List.cons.injEq, A.d.injEq, D.v.injEq, Value.int.injEq, true_and, and_true] at e
        rw [← e]; exact hk
      · rw [List.lookup_cons] at hx
        split at hx
        · rename_i he
          rw [eq_of_beq he, hb]
          exact Option.some.inj hx
        · cases hx
    by_cases h1 : n < 1
    · apply AW.list
      apply Wk.mv (by conv => lhs; whnf) (lt_of_ble rfl)
      apply Wk.bin (r := .bool true) rfl rfl (fun w => by simp [go_sem, h1]) (lt_of_ble rfl)
      apply Wk.mv (by conv => lhs; whnf) (lt_of_ble rfl)
      apply Wk.goff 17 (ok_move _) rfl rfl (by decide)
      apply Wk.goff 17 (ok_nil _) rfl rfl (by decide)
      apply Wk.goff 17 (ok_faddr fd85_0) rfl rfl (by decide)
      apply Wk.goff 17 (ok_load 0 ty22) rfl rfl (by decide)
      apply Wk.goff 17 (ok_len un22) rfl rfl (by decide)
      apply Wk.goff 17 (ok_bin _ _ _ _ _) rfl rfl (by decide)
      apply Wk.pckT rfl (by conv => lhs; whnf) (lt_of_ble rfl)
      refine Wk.nil ?_
      refine AW.cond rfl (fun _ => ?_) (fun h => by cases h)
      refine AW.seq ?_
      apply AW.list
      apply Wk.asg (by conv => lhs; whnf) (lt_of_ble rfl)
      refine Wk.nil (AW.ret ?_)
      exact fin 0 _ (.inr ⟨rfl, h1⟩) rfl rfl
    · apply AW.list
      apply Wk.mv (by conv => lhs; whnf) (lt_of_ble rfl)
      apply Wk.bin (r := .bool false) rfl rfl (fun w => by simp [go_sem, h1]) (lt_of_ble rfl)
      apply Wk.mv (by conv => lhs; whnf) (lt_of_ble rfl)
      apply Wk.gon 17 rfl rfl
      apply Wk.mv (by conv => lhs; whnf) (lt_of_ble rfl)
      apply Wk.gon 17 rfl rfl
      apply Wk.nilc rfl (lt_of_ble rfl)
      apply Wk.gon 17 rfl rfl
      apply Wk.fad 0 0 false fd85_0 rfl (lt_of_ble rfl)
      apply Wk.gon 17 rfl rfl
      apply Wk.ld (i := 0) 1 false ty22 rfl rfl (by conv => lhs; whnf) (lt_of_ble rfl)
      apply Wk.gon 17 rfl rfl
      apply Wk.len un22 rfl (lt_of_ble rfl)
      apply Wk.gon 17 rfl rfl
      apply Wk.bin rfl rfl (fun w => by simp [go_sem] <;> rfl) (lt_of_ble rfl)
      apply Wk.pckF rfl (by conv => lhs; whnf) (lt_of_ble rfl)
      refine Wk.nil ?_
      refine AW.cond rfl (fun h0 => ?_) (fun h0 => ?_)
      · refine AW.seq ?_
        apply AW.list
        apply Wk.asg (by conv => lhs; whnf) (lt_of_ble rfl)
        refine Wk.nil (AW.ret ?_)
        exact fin 0 _ (.inl (by omega)) rfl rfl
      · have hl : 0 < zs.length := by
          simp only [beq_eq_false_iff_ne, ne_eq] at h0
          omega
        obtain ⟨m, rfl⟩ : ∃ m : Nat, n = (m : Int) := ⟨n.toNat, by omega⟩
        refine AW.skip (thenA_normal ?_)
        refine AW.keep (n := 99) (ts := [(0, .ptr 0 0), (1, .d (.v (.int .i64 (m : Int))))]) (bs := [(0, rdr zs (p + 1))]) ⟨rfl, .cons rfl rfl (.cons rfl rfl .nil), .cons rfl rfl .nil, hN⟩ ?_
        refine AW.seq ?_
        apply AW.list
        apply Wk.mv (by conv => lhs; whnf) (lt_of_ble rfl)
        apply Wk.nilc rfl (lt_of_ble rfl)
        apply Wk.fad 1 0 false fd85_1 rfl (lt_of_ble rfl)
        apply Wk.ld (i := 0) 1 false ty3 rfl rfl (by conv => lhs; whnf) (lt_of_ble rfl)
        apply Wk.subn (b := 1) rfl rfl (by omega) (by omega) (lt_of_ble rfl)
        apply Wk.asg (by conv => lhs; whnf) (lt_of_ble rfl)
        refine Wk.nil ?_
        refine AW.seq (AW.seq ?_)
        apply AW.list
        apply Wk.mv (by conv => lhs; whnf) (lt_of_ble rfl)
        apply Wk.mv (by conv => lhs; whnf) (lt_of_ble rfl)
        apply Wk.nilc rfl (lt_of_ble rfl)
        apply Wk.fad 0 0 false fd85_0 rfl (lt_of_ble rfl)
        apply Wk.ld (i := 0) 1 false ty22 rfl rfl (by conv => lhs; whnf) (lt_of_ble rfl)
        apply Wk.len un22 rfl (lt_of_ble rfl)
        apply Wk.bin rfl rfl (fun w => by simp [go_sem] <;> rfl) (lt_of_ble rfl)
        refine Wk.nil ?_
        refine AW.cond rfl (fun hc => ?_) (fun hc => ?_)
        · have hlt : p < zs.length := by simpa using hc
          have hlt' : p < (zs.map (·.val)).length := by simpa using hlt
          have hm : 0 < m := by omega
          refine AW.keep (n := 99) (ts := [(0, .ptr 0 0), (1, .d (.v (.int .i64 (m : Int)))), (5, .d (.v (.int .i64 (p : Int))))]) (bs := [(0, rdr zs (p + 1))]) ⟨rfl, .cons rfl rfl (.cons rfl rfl (.cons rfl rfl .nil)), .cons rfl rfl .nil, hN⟩ ?_
          refine AW.seq ?_
          apply AW.list
          apply Wk.mv (by conv => lhs; whnf) (lt_of_ble rfl)
          apply Wk.nilc rfl (lt_of_ble rfl)
          apply Wk.fad 0 0 false fd85_0 rfl (lt_of_ble rfl)
          apply Wk.ld (i := 0) 1 false ty22 rfl rfl (by conv => lhs; whnf) (lt_of_ble rfl)
          apply Wk.mv (by conv => lhs; whnf) (lt_of_ble rfl)
          apply Wk.iad 1 false un22 ty5 rfl rfl (by simpa using hlt) (one_bytes _) (lt_of_ble rfl)
          apply Wk.ldr 1 false ty5 rfl (bytes_get (zs.map (·.val)) p hlt') (by conv => lhs; whnf) (lt_of_ble rfl)
          apply Wk.convn rfl ui5 ui3 (by have := fin_lt zs p; omega) (lt_of_ble rfl)
          apply Wk.mv (by conv => lhs; whnf) (lt_of_ble rfl)
          apply Wk.remn rfl rfl hm (lt_of_ble rfl)
          apply Wk.asg (by conv => lhs; whnf) (lt_of_ble rfl)
          refine Wk.nil (AW.ret ?_)
          exact fin _ _ (.inl (by have := Nat.mod_lt ((zs.map (·.val)).getD p 0) hm; omega)) rfl rfl
        · have hm : 0 < m := by omega
          refine AW.skip (thenA_normal ?_)
          refine AW.bound (x := .tmp 34) rfl fun hlen => ?_
          simp only [List.length_map] at hlen
          refine AW.keep (n := 99) (ts := [(0, .ptr 0 0), (1, .d (.v (.int .i64 (m : Int)))), (5, .d (.v (.int .i64 (p : Int))))]) (bs := [(0, rdr zs (p + 1))]) ⟨rfl, .cons rfl rfl (.cons rfl rfl (.cons rfl rfl .nil)), .cons rfl rfl .nil, hN⟩ ?_
          have hl' : 0 < ((zs.map (·.val)).map fun z : Nat => [D.v (.int .u8 (z : Int))]).length := by simpa using hl
          have hlm : ((zs.map (·.val)).map fun z : Nat => [D.v (.int .u8 (z : Int))]).length = (zs.map (·.val)).length := by simp
          have x1 := fin_lt zs (p % ((zs.map (·.val)).map fun z : Nat => [D.v (.int .u8 (z : Int))]).length)
          have x2 := fin_lt zs ((p * 7 + 3) % ((zs.map (·.val)).map fun z : Nat => [D.v (.int .u8 (z : Int))]).length)
          have q1 := Nat.mod_lt p hl'
          have q2 := Nat.mod_lt (p * 7 + 3) hl'
          have q3 := Nat.div_le_self p ((zs.map (·.val)).map fun z : Nat => [D.v (.int .u8 (z : Int))]).length
          refine AW.seq ?_
          apply AW.drawd (hm := hmix) (cs := _) (σ1 := _)
          · apply Wk.mv (by conv => lhs; whnf) (lt_of_ble rfl)
            apply Wk.nilc rfl (lt_of_ble rfl)
            apply Wk.fad 0 0 false fd85_0 rfl (lt_of_ble rfl)
            apply Wk.ld (i := 0) 1 false ty22 rfl rfl (by conv => lhs; whnf) (lt_of_ble rfl)
            apply Wk.mv (by conv => lhs; whnf) (lt_of_ble rfl)
            apply Wk.mv (by conv => lhs; whnf) (lt_of_ble rfl)
            apply Wk.nilc rfl (lt_of_ble rfl)
            apply Wk.fad 0 0 false fd85_0 rfl (lt_of_ble rfl)
            apply Wk.ld (i := 0) 1 false ty22 rfl rfl (by conv => lhs; whnf) (lt_of_ble rfl)
            apply Wk.len un22 rfl (lt_of_ble rfl)
            apply Wk.remn rfl rfl hl' (lt_of_ble rfl)
            apply Wk.iad 1 false un22 ty5 rfl rfl q1 (one_bytes _) (lt_of_ble rfl)
            apply Wk.ldr 1 false ty5 rfl (bytes_get (zs.map (·.val)) _ (hlm ▸ q1)) (by conv => lhs; whnf) (lt_of_ble rfl)
            apply Wk.convn rfl ui5 ui3 (by omega) (lt_of_ble rfl)
            apply Wk.muln (b := 131) rfl rfl (by omega) (lt_of_ble rfl)
            apply Wk.mv (by conv => lhs; whnf) (lt_of_ble rfl)
            apply Wk.nilc rfl (lt_of_ble rfl)
            apply Wk.fad 0 0 false fd85_0 rfl (lt_of_ble rfl)
            apply Wk.ld (i := 0) 1 false ty22 rfl rfl (by conv => lhs; whnf) (lt_of_ble rfl)
            apply Wk.mv (by conv => lhs; whnf) (lt_of_ble rfl)
            apply Wk.muln (b := 7) rfl rfl (by omega) (lt_of_ble rfl)
            apply Wk.addn (b := 3) rfl rfl (by omega) (lt_of_ble rfl)
            apply Wk.mv (by conv => lhs; whnf) (lt_of_ble rfl)
            apply Wk.nilc rfl (lt_of_ble rfl)
            apply Wk.fad 0 0 false fd85_0 rfl (lt_of_ble rfl)
            apply Wk.ld (i := 0) 1 false ty22 rfl rfl (by conv => lhs; whnf) (lt_of_ble rfl)
            apply Wk.len un22 rfl (lt_of_ble rfl)
            apply Wk.remn rfl rfl hl' (lt_of_ble rfl)
            apply Wk.iad 1 false un22 ty5 rfl rfl q2 (one_bytes _) (lt_of_ble rfl)
            apply Wk.ldr 1 false ty5 rfl (bytes_get (zs.map (·.val)) _ (hlm ▸ q2)) (by conv => lhs; whnf) (lt_of_ble rfl)
            apply Wk.convn rfl ui5 ui3 (by omega) (lt_of_ble rfl)
            apply Wk.muln (b := 1117) rfl rfl (by omega) (lt_of_ble rfl)
            apply Wk.addn rfl rfl (by omega) (lt_of_ble rfl)
            apply Wk.mv (by conv => lhs; whnf) (lt_of_ble rfl)
            apply Wk.muln (b := 29) rfl rfl (by omega) (lt_of_ble rfl)
            apply Wk.addn rfl rfl (by omega) (lt_of_ble rfl)
            apply Wk.mv (by conv => lhs; whnf) (lt_of_ble rfl)
            apply Wk.mv (by conv => lhs; whnf) (lt_of_ble rfl)
            apply Wk.nilc rfl (lt_of_ble rfl)
            apply Wk.fad 0 0 false fd85_0 rfl (lt_of_ble rfl)
            apply Wk.ld (i := 0) 1 false ty22 rfl rfl (by conv => lhs; whnf) (lt_of_ble rfl)
            apply Wk.len un22 rfl (lt_of_ble rfl)
            apply Wk.quon rfl rfl hl' (by omega) (lt_of_ble rfl)
            apply Wk.muln (b := 53) rfl rfl (by omega) (lt_of_ble rfl)
            apply Wk.addn rfl rfl (by omega) (lt_of_ble rfl)
            apply Wk.asg (by conv => lhs; whnf) (lt_of_ble rfl)
            exact Wk.nil rfl
          · rfl
          · rfl
          obtain ⟨X, hX1, hX2⟩ : ∃ X : Nat, X = (zs.map (·.val)).getD (p % ((zs.map (·.val)).map fun z : Nat => [D.v (.int .u8 (z : Int))]).length) 0 * 131 + (zs.map (·.val)).getD ((p * 7 + 3) % ((zs.map (·.val)).map fun z : Nat => [D.v (.int .u8 (z : Int))]).length) 0 * 1117 + p * 29 + p / ((zs.map (·.val)).map fun z : Nat => [D.v (.int .u8 (z : Int))]).length * 53 ∧ X ≤ 1000000000000000 := ⟨_, rfl, by omega⟩
          refine AW.keep (n := 99) (ts := [(1, .d (.v (.int .i64 (m : Int)))), (6, .d (.v (.int .i64 (X : Int))))]) (bs := [(0, rdr zs (p + 1))]) ⟨rfl, .cons rfl rfl (.cons (by rw [hX1]; rfl) rfl .nil), .cons rfl rfl .nil, hN⟩ ?_
          clear x1 x2 q1 q2 q3 hX1 hl' hlm
          have h64 : X / 64 ≤ X := Nat.div_le_self X 64
          refine AW.seq ?_
          apply AW.list
          apply Wk.mv (by conv => lhs; whnf) (lt_of_ble rfl)
          apply Wk.mv (by conv => lhs; whnf) (lt_of_ble rfl)
          apply Wk.quon (b := 64) rfl rfl (by omega) (by omega) (lt_of_ble rfl)
          apply Wk.xorn rfl rfl (by omega) (by omega) (lt_of_ble rfl)
          apply Wk.asg (by conv => lhs; whnf) (lt_of_ble rfl)
          refine Wk.nil ?_
          refine AW.seq ?_
          apply AW.list
          apply Wk.mv (by conv => lhs; whnf) (lt_of_ble rfl)
          apply Wk.mv (by conv => lhs; whnf) (lt_of_ble rfl)
          apply Wk.remn rfl rfl hm (lt_of_ble rfl)
          apply Wk.asg (by conv => lhs; whnf) (lt_of_ble rfl)
          refine Wk.nil (AW.ret ?_)
          exact fin _ _ (.inl (by have := Nat.mod_lt (X ^^^ X / 64) hm; omega)) rfl rfl
  · rintro rest ⟨n, rfl, _⟩
    rfl
  · rintro rest ⟨n, rfl, _⟩
    by_cases h : n < 1
    · exact ⟨_, 0, rfl, fun m e => by simp only [List.cons.injEq, A.d.injEq, D.v.injEq, Value.int.injEq, true_and, and_true] at e; omega⟩
    · exact ⟨_, 0, rfl, fun m e => by simp only [List.cons.injEq, A.d.injEq, D.v.injEq, Value.int.injEq, true_and, and_true] at e; omega⟩
  · rintro rest r ⟨k, rfl, _⟩
    rfl
end Go.Proofs.Ytlmadcpoaedagaa

/- Draws of truths and of bytes, over what values read as. -/
namespace Go.Proofs.Ytlmadcpoaedagaa
open Go
set_option maxRecDepth 100000 in
theorem odd_ok : DrawOk Try.prog 52 (fun rest => ∃ n : Int, rest = [.d (.v (.int .i64 n))] ∧ n ≤ 1000000 ∧ -1000000 ≤ n) (fun rest r => ∃ b : Bool, r = .d (.v (.bool b)) ∧ (rest = [.d (.v (.int .i64 0))] → b = false)) 1 := by
  refine DrawOk.zero ?_ ?_ ?_ ?_
  · rintro zs p rest ⟨n, rfl, hn, hn'⟩ hp
    refine Spec.intro (n := 15) (rv := [.tmp 4]) Try.func52 rfl rfl rfl (by simp) fun C hN hX => ?_
    refine AW.seq ?_
    apply AW.list
    apply Wk.asg (by conv => lhs; whnf) (lt_of_ble rfl)
    refine Wk.nil ?_
    refine AW.seq ?_
    by_cases h1 : 0 < n
    · apply AW.list
      apply Wk.mv (by conv => lhs; whnf) (lt_of_ble rfl)
      apply Wk.bin (r := .bool true) rfl rfl (fun w => by simp [go_sem, h1]) (lt_of_ble rfl)
      apply Wk.mv (by conv => lhs; whnf) (lt_of_ble rfl)
      apply Wk.gon 7 rfl rfl
      apply Wk.mv (by conv => lhs; whnf) (lt_of_ble rfl)
      apply Wk.gon 7 rfl rfl
      apply Wk.mv (by conv => lhs; whnf) (lt_of_ble rfl)
      apply Wk.gon 7 rfl rfl
      apply Wk.drw 0 pick_ok Try.func28 rfl rfl rfl rfl ⟨n, rfl, hn⟩ hp rfl (lt_of_ble rfl)
      rintro r zs' p' ⟨k, rfl, hk⟩ hp'
      apply Wk.gon 7 rfl rfl
      apply Wk.mv (by conv => lhs; whnf) (lt_of_ble rfl)
      apply Wk.gon 7 rfl rfl
      apply Wk.subi rfl rfl (by omega) (lt_of_ble rfl)
      apply Wk.gon 7 rfl rfl
      apply Wk.bin rfl rfl (fun w => by simp [go_sem] <;> rfl) (lt_of_ble rfl)
      apply Wk.pckT rfl (by conv => lhs; whnf) (lt_of_ble rfl)
      apply Wk.asg (by conv => lhs; whnf) (lt_of_ble rfl)
      refine Wk.nil (AW.ret ?_)
      refine RetQ.ret [(0, rdr zs' p')] (.cons rfl .nil) ⟨⟨_, rfl, fun e => ?_⟩, _, _, rfl, hp'⟩ (kept1 rfl)
      simp only [List.cons.injEq, A.d.injEq, D.v.injEq, Value.int.injEq, true_and, and_true] at e
      omega
    · apply AW.list
      apply Wk.mv (by conv => lhs; whnf) (lt_of_ble rfl)
      apply Wk.bin (r := .bool false) rfl rfl (fun w => by simp [go_sem, h1]) (lt_of_ble rfl)
      apply Wk.mv (by conv => lhs; whnf) (lt_of_ble rfl)
      apply Wk.goff 7 (ok_move _) rfl rfl (by decide)
      apply Wk.goff 7 (ok_move _) rfl rfl (by decide)
      apply Wk.goff 7 (ok_drw 0 pick_ok Try.func28 rfl rfl) rfl rfl (by decide)
      apply Wk.goff 7 (ok_move _) rfl rfl (by decide)
      apply Wk.goff 7 (ok_bin _ _ _ _ _) rfl rfl (by decide)
      apply Wk.goff 7 (ok_bin _ _ _ _ _) rfl rfl (by decide)
      apply Wk.pckF rfl (by conv => lhs; whnf) (lt_of_ble rfl)
      apply Wk.asg (by conv => lhs; whnf) (lt_of_ble rfl)
      refine Wk.nil (AW.ret ?_)
      exact RetQ.ret [(0, rdr zs p)] (.cons rfl .nil) ⟨⟨false, rfl, fun _ => rfl⟩, _, _, rfl, Nat.le_succ p⟩ (kept1 rfl)
  · rintro rest ⟨n, rfl, _⟩; rfl
  · rintro rest _; exact ⟨_, false, rfl, fun _ => rfl⟩
  · rintro rest r ⟨k, rfl, _⟩; rfl

def fbytes (zs : List (Fin 256)) : D := bytesD (zs.map (·.val))
def cellsB (zs : List (Fin 256)) : List (List A) := (zs.map (·.val)).map fun z : Nat => [A.d (.v (.int .u8 (z : Int)))]
def cellsD (zs : List (Fin 256)) : List (List D) := (zs.map (·.val)).map fun z : Nat => [D.v (.int .u8 (z : Int))]
theorem asData_cells (zs : List (Fin 256)) : asData (cellsB zs) (cellsD zs) := asData_bytes _
theorem one_cellsB (zs : List (Fin 256)) : ∀ c ∈ cellsB zs, c.length = 1 := by
  intro c hc
  obtain ⟨z, _, rfl⟩ := List.mem_map.1 hc
  rfl
theorem within_cellsB {K : List Nat} (zs : List (Fin 256)) : (cellsB zs).all (A.withins K) = true := by
  simp [cellsB, A.withins, A.within]
set_option maxRecDepth 100000 in
theorem bytes_ok : DrawOk Try.prog 69 (fun rest => ∃ n : Int, rest = [.d (.v (.int .i64 n))] ∧ n ≤ 1000 ∧ -1000 ≤ n) (fun rest r => ∃ bs : List (Fin 256), r = .d (fbytes bs) ∧ ∀ n : Int, rest = [.d (.v (.int .i64 n))] → (bs.length : Int) ≤ n ∨ bs = []) 3001 := by
  refine DrawOk.zero ?_ ?_ ?_ ?_
  · rintro zs p rest ⟨n, rfl, hn, hn'⟩ hp
    refine Spec.intro (n := 30) (rv := [.tmp 4]) Try.func69 rfl rfl rfl (by simp) fun C hN hX => ?_
    refine AW.seq ?_
    apply AW.list
    apply Wk.asg (by conv => lhs; whnf) (lt_of_ble rfl)
    refine Wk.nil ?_
    refine AW.seq ?_
    apply AW.list
    apply Wk.lst 7 1 false [.int .u8 0] un22 ty5 ze5 rfl rfl (by rfl) (by rfl) (by decide) (by decide) rfl rfl (all_len rfl) (lt_of_ble rfl)
    apply Wk.asg (by conv => lhs; whnf) (lt_of_ble rfl)
    refine Wk.nil ?_
    refine AW.seq (AW.seq ?_)
    apply AW.list
    apply Wk.mv (by conv => lhs; whnf) (lt_of_ble rfl)
    apply Wk.mv (by conv => lhs; whnf) (lt_of_ble rfl)
    apply Wk.addi rfl rfl (by omega) (lt_of_ble rfl)
    apply Wk.drw 0 pick_ok Try.func28 rfl rfl rfl rfl ⟨n + 1, rfl, by omega⟩ (by omega) rfl (lt_of_ble rfl)
    rintro r zs1 p1 ⟨k, rfl, hk⟩ hp1
    replace hk := hk _ rfl
    apply Wk.asg (by conv => lhs; whnf) (lt_of_ble rfl)
    refine Wk.nil ?_
    refine AW.block ?_
    let inv : Nat × Nat × List (Fin 256) × Nat × List (Fin 256) → St := fun x => St.of 30 [(0, .ptr 0 0), (5, .own 7 x.2.1), (6, .d (.v (.int .i64 (x.1 : Int))))] [(0, rdr x.2.2.1 x.2.2.2.1), (7, .own x.2.1 5 1 (cellsB x.2.2.2.2))]
    refine AW.loop inv (fun x => x.1 ≤ k ∧ x.2.2.2.1 + 3 * x.1 ≤ p + 1 + 3 * k ∧ x.2.2.2.2.length + x.1 ≤ k) (fun x => x.1) (k, 0, zs1, p1, []) ⟨Nat.le_refl _, by simp only; omega, by simp⟩ ?_ ?_
    · exact fun a w => Rel.keep ⟨rfl, .cons rfl rfl (.cons rfl rfl (.cons rfl rfl .nil)), .cons rfl rfl (.cons rfl rfl .nil), ⟨fun i b hb => by have := hN.1 i b hb; simp [keys] at this ⊢; exact .inl this, fun i q v hv => by have := hN.2 i q v hv; simp [keys] at this ⊢; exact .inl this⟩⟩
    · rintro ⟨m, q, zs2, p2, bs⟩ ⟨h1, h2, h3⟩
      simp only at h1 h2 h3
      show AW Try.prog C _ _ (St.of 30 [(0, .ptr 0 0), (5, .own 7 q), (6, .d (.v (.int .i64 (m : Int))))] [(0, rdr zs2 p2), (7, .own q 5 1 (cellsB bs))])
      refine AW.seq (AW.seq ?_)
      apply AW.list
      apply Wk.mv (by conv => lhs; whnf) (lt_of_ble rfl)
      apply Wk.bin rfl rfl (fun w => by simp [go_sem] <;> rfl) (lt_of_ble rfl)
      refine Wk.nil ?_
      refine AW.cond rfl (fun hc => ?_) (fun hc => ?_)
      · have hm : 0 < m := by simpa using hc
        refine AW.skip (thenA_normal ?_)
        refine AW.seq (AW.block ?_)
        apply AW.list
        apply Wk.mv (by conv => lhs; whnf) (lt_of_ble rfl)
        apply Wk.mv (by conv => lhs; whnf) (lt_of_ble rfl)
        apply Wk.drw 0 pick_ok Try.func28 rfl rfl rfl rfl ⟨_, rfl, by omega⟩ (by omega) rfl (lt_of_ble rfl)
        rintro r1 zs3 p3 ⟨k1, rfl, hk1⟩ hp3
        apply Wk.mv (by conv => lhs; whnf) (lt_of_ble rfl)
        apply Wk.drw 0 pick_ok Try.func28 rfl rfl rfl rfl ⟨_, rfl, by omega⟩ (by omega) rfl (lt_of_ble rfl)
        rintro r2 zs4 p4 ⟨k2, rfl, hk2⟩ hp4
        apply Wk.lst 21 1 false [.int .i64 0] un59 ty3 ze3 rfl rfl (by rfl) (by rfl) (by decide) (by decide) rfl rfl (all_len rfl) (lt_of_ble rfl)
        apply Wk.mv (by conv => lhs; whnf) (lt_of_ble rfl)
        apply Wk.drw 0 pick_ok Try.func28 rfl rfl rfl rfl ⟨_, rfl, by omega⟩ (by omega) rfl (lt_of_ble rfl)
        rintro r3 zs5 p5 ⟨k3, rfl, hk3⟩ hp5
        have hk3 : k3 < 3 := by have := hk3 3 rfl; omega
        obtain ⟨v, hv⟩ : ∃ v : Int, partA (List.flatten [[A.d (.v (.int .i64 (k1 : Int)))], [.d (.v (.int .i64 (k2 : Int)))], [.d (.v (.int .i64 255))]]) (k3 * 1) 1 false = some (.d (.v (.int .i64 v))) := by
          rcases (show k3 = 0 ∨ k3 = 1 ∨ k3 = 2 by omega) with rfl | rfl | rfl <;> exact ⟨_, rfl⟩
        apply Wk.iado 21 1 false un59 ty3 rfl rfl rfl hk3 (lt_of_ble rfl)
        apply Wk.ldo (i := 21) 1 false ty3 rfl rfl hv (lt_of_ble rfl)
        apply Wk.convb rfl ui3 ui5 (lt_of_ble rfl)
        intro z
        apply Wk.lst 27 1 false [.int .u8 0] un22 ty5 ze5 rfl rfl (by rfl) (by rfl) (by decide) (by decide) rfl rfl (all_len rfl) (lt_of_ble rfl)
        apply Wk.appOO 7 27 1 un22 ap5 rfl rfl rfl rfl (by decide) (all_len rfl) (one_cellsB bs) (by simp [cellsB]; omega) (lt_of_ble rfl)
        apply Wk.asg (by conv => lhs; whnf) (lt_of_ble rfl)
        refine Wk.nil (inBlockA_normal (thenA_normal ?_))
        apply AW.list
        apply Wk.mv (by conv => lhs; whnf) (lt_of_ble rfl)
        apply Wk.subn (b := 1) rfl rfl (by omega) (by omega) (lt_of_ble rfl)
        apply Wk.asg (by conv => lhs; whnf) (lt_of_ble rfl)
        refine Wk.nil ?_
        refine ⟨(m - 1, q + 1, zs5, p5, bs ++ [z]), ⟨by simp only; omega, by simp only; omega, by simp; omega⟩, by simp only; omega, ?_⟩
        refine fun a w => Rel.keep ⟨rfl, .cons rfl rfl (.cons rfl rfl (.cons rfl rfl .nil)), .cons rfl rfl (.cons ?_ ?_ .nil), ⟨fun i b hb => by have := hN.1 i b hb; simp [keys] at this ⊢; exact .inl this, fun i q v hv => by have := hN.2 i q v hv; simp [keys] at this ⊢; exact .inl this⟩⟩
        · simp only [cellsB, List.map_append]
          rfl
        · exact within_cellsB _
      · have hm : m = 0 := by simpa using hc
        refine AW.exit ?_
        repeat (first | refine inBlockA_same ?_ | refine thenA_exit ?_)
        refine thenA_normal ?_
        refine AW.thaw (t := 5) (i := 7) (cellsD bs) rfl rfl (asData_cells bs) (hX.one (by decide) rfl) ?_
        refine AW.seq ?_
        apply AW.list
        apply Wk.mv (by conv => lhs; whnf) (lt_of_ble rfl)
        apply Wk.asg (by conv => lhs; whnf) (lt_of_ble rfl)
        refine Wk.nil (AW.ret ?_)
        refine RetQ.ret [(0, rdr zs2 p2)] (.cons rfl .nil) ⟨⟨bs, rfl, fun n' e => ?_⟩, _, _, rfl, by omega⟩ (kept1 rfl)
        simp only [List.cons.injEq, A.d.injEq, D.v.injEq, Value.int.injEq, true_and, and_true] at e
        subst e
        rcases hk with hk | hk
        · exact .inl (by omega)
        · exact .inr (List.eq_nil_of_length_eq_zero (by omega))
  · rintro rest ⟨n, rfl, _⟩; rfl
  · rintro rest _; exact ⟨_, [], rfl, fun _ _ => .inr rfl⟩
  · rintro rest r ⟨k, rfl, _⟩; rfl
end Go.Proofs.Ytlmadcpoaedagaa

/- Opening a reader; what has come of a message, over what values read as. -/
namespace Go.Proofs.Ytlmadcpoaedagaa
open Go
set_option maxRecDepth 100000 in
theorem open_ok : OpenOk Try.prog 24 := by
  intro zs
  refine Spec.intro (n := 11) (rv := [.tmp 2]) Try.func24 rfl rfl rfl (by simp) fun C hN hX => ?_
  refine AW.seq ?_
  apply AW.list
  apply Wk.asg (by conv => lhs; whnf) (lt_of_ble rfl)
  refine Wk.nil ?_
  refine AW.seq (AW.seq ?_)
  apply AW.list
  apply Wk.mv (by conv => lhs; whnf) (lt_of_ble rfl)
  apply Wk.len un22 rfl (lt_of_ble rfl)
  apply Wk.bin rfl rfl (fun w => by simp [go_sem] <;> rfl) (lt_of_ble rfl)
  refine Wk.nil ?_
  have fin : ∀ (ys : List (Fin 256)) (σ : St), σ.t 2 = .ptr 0 0 → σ.b 0 = rdr ys 0 → RetQ Try.prog [.tmp 2] (fun r bs => r = .ptr 0 0 ∧ ∃ zs', bs = [(0, rdr zs' 0)]) .ret σ := by
    intro ys σ h2 hb
    exact RetQ.ret [(0, rdr ys 0)] (.cons h2 .nil) ⟨rfl, ys, rfl⟩ (kept1 hb)
  refine AW.cond rfl (fun hc => ?_) (fun hc => ?_)
  · have hl : 2000 ≤ ((zs.map (·.val)).map fun z : Nat => [D.v (.int .u8 (z : Int))]).length := by
      simp at hc ⊢
      omega
    apply AW.list
    apply Wk.mv (by conv => lhs; whnf) (lt_of_ble rfl)
    apply Wk.slc (m := 2000) (l := 0) 1 false un22 ty5 rfl (by exact if_pos ⟨by decide, Int.ofNat_le.2 hl⟩) rfl (one_bytes _) (lt_of_ble rfl)
    apply Wk.asg (by conv => lhs; whnf) (lt_of_ble rfl)
    refine Wk.nil (thenA_normal ?_)
    refine AW.seq ?_
    apply AW.list
    apply Wk.mv (by conv => lhs; whnf) (lt_of_ble rfl)
    apply Wk.bld [.slice none 0 0, .int .i64 0] [(0, 1), (1, 1)] bl85 rfl (by conv => lhs; whnf) (lt_of_ble rfl)
    apply Wk.bx 0 rfl rfl (lt_of_ble rfl)
    apply Wk.asg (by conv => lhs; whnf) (lt_of_ble rfl)
    refine Wk.nil (AW.ret ?_)
    refine fin (zs.take 2000) _ rfl ?_
    simp [rdr, bytesD, List.map_take, St.put, upd, setA]
  · refine AW.skip (thenA_normal ?_)
    refine AW.seq ?_
    apply AW.list
    apply Wk.mv (by conv => lhs; whnf) (lt_of_ble rfl)
    apply Wk.bld [.slice none 0 0, .int .i64 0] [(0, 1), (1, 1)] bl85 rfl (by conv => lhs; whnf) (lt_of_ble rfl)
    apply Wk.bx 0 rfl rfl (lt_of_ble rfl)
    apply Wk.asg (by conv => lhs; whnf) (lt_of_ble rfl)
    refine Wk.nil (AW.ret ?_)
    exact fin zs _ rfl rfl
end Go.Proofs.Ytlmadcpoaedagaa

/- What has come of a message, drawn; over what values read as. -/
namespace Go.Proofs.Ytlmadcpoaedagaa
open Go
def joinA (m : Int) (bs : List (Fin 256)) : A := .agg [.d (.v (.int .i64 m)), .d (fbytes bs)]
def joinPost (_ : List A) (r : A) : Prop := ∃ (m : Int) (bs : List (Fin 256)), r = joinA m bs ∧ -1 ≤ m ∧ m ≤ 100 ∧ bs.length ≤ 1000
set_option maxRecDepth 100000 in
theorem join_ok : DrawOk Try.prog 53 (fun rest => ∃ n : Int, rest = [.d (.v (.int .i64 n))] ∧ n ≤ 1000000 ∧ -1000000 ≤ n) joinPost 6100 := by
  refine DrawOk.zero ?_ ?_ ?_ ?_
  · rintro zs p rest ⟨n, rfl, hn, hn'⟩ hp
    refine Spec.intro (n := 47) (rv := [.cell 4 26]) Try.func53 rfl rfl rfl (by simp) fun C hN hX => ?_
    refine AW.seq ?_
    apply AW.list
    apply Wk.alc 4 [.int .i64 0, .slice none 0 0] ze26 rfl rfl (lt_of_ble rfl)
    refine Wk.nil ?_
    refine AW.seq ?_
    apply AW.list
    apply Wk.bld [.int .i64 0, .slice none 0 0] [(0, 1), (1, 1)] bl26 rfl (by conv => lhs; whnf) (lt_of_ble rfl)
    apply Wk.alc 5 [.int .i64 0, .slice none 0 0] ze26 rfl rfl (lt_of_ble rfl)
    apply Wk.sto (i := 5) 2 true ty26 rfl rfl rfl rfl (Nat.le_of_ble_eq_true rfl) (lt_of_ble rfl)
    refine Wk.nil ?_
    refine AW.nrmb (j := 5) rfl ?_
    let inv : List (Fin 256) × Nat × Int × List (Fin 256) → St := fun x => St.of 47 [(0, .ptr 0 0), (1, .d (.v (.int .i64 n))), (4, .ptr 4 0), (5, .ptr 5 0)] [(0, rdr x.1 x.2.1), (4, .var [.d (.v (.int .i64 0)), .d (.v (.slice none 0 0))]), (5, .var [.d (.v (.int .i64 x.2.2.1)), .d (fbytes x.2.2.2)])]
    refine AW.via inv (fun x => x.2.1 ≤ p + 3004 ∧ -1 ≤ x.2.2.1 ∧ x.2.2.1 ≤ 100 ∧ x.2.2.2.length ≤ 1000) ?_ ?_
    · refine AW.seq ?_
      apply AW.list
      apply Wk.mv (by conv => lhs; whnf) (lt_of_ble rfl)
      apply Wk.drw 0 pick_ok Try.func28 rfl rfl rfl rfl ⟨_, rfl, by omega⟩ (by omega) rfl (lt_of_ble rfl)
      rintro r1 zs1 p1 ⟨k1, rfl, hk1⟩ hp1
      apply Wk.bin rfl rfl (fun w => by simp [go_sem] <;> rfl) (lt_of_ble rfl)
      refine Wk.nil ?_
      refine AW.cond rfl (fun hc => ?_) (fun hc => ?_)
      · refine AW.seq ?_
        apply AW.list
        apply Wk.mv (by conv => lhs; whnf) (lt_of_ble rfl)
        apply Wk.drw 0 pick_ok Try.func28 rfl rfl rfl rfl ⟨_, rfl, by omega⟩ (by omega) rfl (lt_of_ble rfl)
        rintro r2 zs2 p2 ⟨k2, rfl, hk2⟩ hp2
        replace hk2 := hk2 _ rfl
        apply Wk.addi rfl rfl (by omega) (lt_of_ble rfl)
        apply Wk.fad 0 0 false fd26_0 rfl (lt_of_ble rfl)
        apply Wk.sto (i := 5) 1 false ty3 rfl rfl rfl rfl (Nat.le_of_ble_eq_true rfl) (lt_of_ble rfl)
        refine Wk.nil ?_
        refine AW.seq ?_
        apply AW.list
        apply Wk.mv (by conv => lhs; whnf) (lt_of_ble rfl)
        apply Wk.fad 0 0 false fd26_0 rfl (lt_of_ble rfl)
        apply Wk.ld (i := 5) 1 false ty3 rfl rfl (by conv => lhs; whnf) (lt_of_ble rfl)
        apply Wk.subi rfl rfl (by omega) (lt_of_ble rfl)
        apply Wk.drw 0 bytes_ok Try.func69 rfl rfl rfl rfl ⟨_, rfl, by omega⟩ (by omega) rfl (lt_of_ble rfl)
        rintro r3 zs3 p3 ⟨bs, rfl, hbs⟩ hp3
        replace hbs := hbs _ rfl
        apply Wk.asg (by conv => lhs; whnf) (lt_of_ble rfl)
        refine Wk.nil ?_
        let inv6 : List (Fin 256) → St := fun bs => St.of 47 [(0, .ptr 0 0), (1, .d (.v (.int .i64 n))), (4, .ptr 4 0), (5, .ptr 5 0), (6, .d (fbytes bs))] [(0, rdr zs3 p3), (4, .var [.d (.v (.int .i64 0)), .d (.v (.slice none 0 0))]), (5, .var [.d (.v (.int .i64 (2 + (k2 : Int)))), .d (fbytes [])])]
        refine AW.via inv6 (fun bs => bs.length ≤ 1000) ?_ ?_
        · refine AW.seq ?_
          apply AW.list
          apply Wk.mv (by conv => lhs; whnf) (lt_of_ble rfl)
          apply Wk.len un22 rfl (lt_of_ble rfl)
          apply Wk.bin rfl rfl (fun w => by simp [go_sem] <;> rfl) (lt_of_ble rfl)
          refine Wk.nil ?_
          refine AW.cond rfl (fun hc => ?_) (fun hc => ?_)
          · apply AW.list
            apply Wk.lst 23 1 false [.int .u8 0] un22 ty5 ze5 rfl rfl (by rfl) (by rfl) (by decide) (by decide) rfl rfl (all_len rfl) (lt_of_ble rfl)
            apply Wk.asg (by conv => lhs; whnf) (lt_of_ble rfl)
            refine Wk.nil (thenA_normal ?_)
            exact ⟨[1], by simp, fun a w hR => Rel.keep ⟨rfl, .cons rfl rfl (.cons rfl rfl (.cons rfl rfl (.cons rfl rfl (.cons rfl rfl .nil)))), .cons rfl rfl (.cons rfl rfl (.cons rfl rfl .nil)), hN.mono (by simp [keys])⟩ (Rel.thaw (t := 6) (i := 23) (cellsD [1]) rfl rfl (by rfl) (hX.one (by decide) rfl) hR)⟩
          · refine AW.skip (thenA_normal ?_)
            have hb : bs.length ≤ 1000 := by
              rcases hbs with h | h
              · omega
              · rw [h]; simp
            exact ⟨bs, hb, fun a w => Rel.keep ⟨rfl, .cons rfl rfl (.cons rfl rfl (.cons rfl rfl (.cons rfl rfl (.cons rfl rfl .nil)))), .cons rfl rfl (.cons rfl rfl (.cons rfl rfl .nil)), hN.mono (by simp [keys])⟩⟩
        · intro ys hys
          show AW Try.prog C _ _ (St.of 47 [(0, .ptr 0 0), (1, .d (.v (.int .i64 n))), (4, .ptr 4 0), (5, .ptr 5 0), (6, .d (fbytes ys))] [(0, rdr zs3 p3), (4, .var [.d (.v (.int .i64 0)), .d (.v (.slice none 0 0))]), (5, .var [.d (.v (.int .i64 (2 + (k2 : Int)))), .d (fbytes [])])])
          apply AW.list
          apply Wk.mv (by conv => lhs; whnf) (lt_of_ble rfl)
          apply Wk.fad 1 0 false fd26_1 rfl (lt_of_ble rfl)
          apply Wk.sto (i := 5) 1 false ty22 rfl rfl rfl rfl (Nat.le_of_ble_eq_true rfl) (lt_of_ble rfl)
          refine Wk.nil (thenA_normal ?_)
          exact ⟨(zs3, p3, 2 + (k2 : Int), ys), ⟨by simp only; omega, by simp only; omega, by simp only; omega, hys⟩, fun a w => Rel.keep ⟨rfl, .cons rfl rfl (.cons rfl rfl (.cons rfl rfl (.cons rfl rfl .nil))), .cons rfl rfl (.cons rfl rfl (.cons rfl rfl .nil)), hN.mono (by simp [keys])⟩⟩
      · refine AW.skip (thenA_normal ?_)
        exact ⟨(zs1, p1, 0, []), ⟨by simp only; omega, by simp, by simp, by simp⟩, fun a w => Rel.keep ⟨rfl, .cons rfl rfl (.cons rfl rfl (.cons rfl rfl (.cons rfl rfl .nil))), .cons rfl rfl (.cons rfl rfl (.cons rfl rfl .nil)), hN.mono (by simp [keys])⟩⟩
    · rintro ⟨zs4, p4, m, bs⟩ ⟨hp4, hm1, hm2, hbs⟩
      simp only at hp4 hm1 hm2 hbs
      show AW Try.prog C _ _ (St.of 47 [(0, .ptr 0 0), (1, .d (.v (.int .i64 n))), (4, .ptr 4 0), (5, .ptr 5 0)] [(0, rdr zs4 p4), (4, .var [.d (.v (.int .i64 0)), .d (.v (.slice none 0 0))]), (5, .var [.d (.v (.int .i64 m)), .d (fbytes bs)])])
      refine AW.via inv (fun x => x.2.1 ≤ p + 6100 ∧ -1 ≤ x.2.2.1 ∧ x.2.2.1 ≤ 100 ∧ x.2.2.2.length ≤ 1000) ?_ ?_
      · refine AW.seq ?_
        apply AW.list
        apply Wk.mv (by conv => lhs; whnf) (lt_of_ble rfl)
        apply Wk.mv (by conv => lhs; whnf) (lt_of_ble rfl)
        apply Wk.drw 0 odd_ok Try.func52 rfl rfl rfl rfl ⟨_, rfl, by omega⟩ (by omega) rfl (lt_of_ble rfl)
        rintro r5 zs5 p5 ⟨b5, rfl, _⟩ hp5
        refine Wk.nil ?_
        refine AW.cond rfl (fun hc => ?_) (fun hc => ?_)
        · refine AW.seq ?_
          apply AW.list
          apply Wk.mv (by conv => lhs; whnf) (lt_of_ble rfl)
          apply Wk.drw 0 pick_ok Try.func28 rfl rfl rfl rfl ⟨_, rfl, by omega⟩ (by omega) rfl (lt_of_ble rfl)
          rintro r6 zs6 p6 ⟨k6, rfl, hk6⟩ hp6
          refine Wk.nil (AW.block ?_)
          refine AW.seq ?_
          apply AW.list
          apply Wk.bin rfl rfl (fun w => by simp [go_sem] <;> rfl) (lt_of_ble rfl)
          apply Wk.asg (by conv => lhs; whnf) (lt_of_ble rfl)
          refine Wk.nil ?_
          refine AW.cond rfl (fun hc => ?_) (fun hc => ?_)
          · apply AW.list
            apply Wk.lst 36 1 false [.int .i64 0] un59 ty3 ze3 rfl rfl (by rfl) (by rfl) (by decide) (by decide) rfl rfl (all_len rfl) (lt_of_ble rfl)
            apply Wk.mv (by conv => lhs; whnf) (lt_of_ble rfl)
            apply Wk.drw 0 pick_ok Try.func28 rfl rfl rfl rfl ⟨_, rfl, by omega⟩ (by omega) rfl (lt_of_ble rfl)
            rintro r7 zs7 p7 ⟨k7, rfl, hk7⟩ hp7
            have hk7' : k7 < 3 := by have := hk7 3 rfl; omega
            obtain ⟨v, hv, hv1, hv2⟩ : ∃ v : Int, partA (List.flatten [[A.d (.v (.int .i64 (-1)))], [.d (.v (.int .i64 1))], [.d (.v (.int .i64 25))]]) (k7 * 1) 1 false = some (.d (.v (.int .i64 v))) ∧ -1 ≤ v ∧ v ≤ 100 := by
              rcases (show k7 = 0 ∨ k7 = 1 ∨ k7 = 2 by omega) with rfl | rfl | rfl <;> exact ⟨_, rfl, by decide, by decide⟩
            apply Wk.iado 36 1 false un59 ty3 rfl rfl rfl hk7' (lt_of_ble rfl)
            apply Wk.ldo (i := 36) 1 false ty3 rfl rfl hv (lt_of_ble rfl)
            apply Wk.fad 0 0 false fd26_0 rfl (lt_of_ble rfl)
            apply Wk.sto (i := 5) 1 false ty3 rfl rfl rfl rfl (Nat.le_of_ble_eq_true rfl) (lt_of_ble rfl)
            refine Wk.nil (inBlockA_normal (thenA_normal ?_))
            exact ⟨(zs7, p7, v, bs), ⟨by simp only; omega, hv1, hv2, hbs⟩, fun a w => Rel.keep ⟨rfl, .cons rfl rfl (.cons rfl rfl (.cons rfl rfl (.cons rfl rfl .nil))), .cons rfl rfl (.cons rfl rfl (.cons rfl rfl .nil)), hN.mono (by simp [keys])⟩⟩
          · refine AW.seq ?_
            apply AW.list
            apply Wk.bin rfl rfl (fun w => by simp [go_sem] <;> rfl) (lt_of_ble rfl)
            apply Wk.asg (by conv => lhs; whnf) (lt_of_ble rfl)
            refine Wk.nil ?_
            refine AW.cond rfl (fun hc => ?_) (fun hc => ?_)
            · apply AW.list
              apply Wk.lst 44 1 false [.int .u8 0] un22 ty5 ze5 rfl rfl (by rfl) (by rfl) (by decide) (by decide) rfl rfl (all_len rfl) (lt_of_ble rfl)
              apply Wk.fad 1 0 false fd26_1 rfl (lt_of_ble rfl)
              apply Wk.sto (i := 5) 1 false ty22 rfl rfl rfl rfl (Nat.le_of_ble_eq_true rfl) (lt_of_ble rfl)
              refine Wk.nil (inBlockA_normal (thenA_normal ?_))
              refine ⟨(zs6, p6, m, []), ⟨by simp only; omega, hm1, hm2, by simp⟩, fun a w hR => ?_⟩
              have h := Rel.thawc (j := 5) (c := 1) (i := 44) [] rfl (by rfl) (by rfl) (by rfl) (hX.one (by decide) rfl) hR
              refine Rel.keep ?_ h
              exact ⟨rfl, .cons rfl rfl (.cons rfl rfl (.cons rfl rfl (.cons rfl rfl .nil))), .cons rfl rfl (.cons rfl rfl (.cons rfl rfl .nil)), hN.mono (by simp [keys])⟩
            · apply AW.list
              apply Wk.mv (by conv => lhs; whnf) (lt_of_ble rfl)
              apply Wk.drw 0 bytes_ok Try.func69 rfl rfl rfl rfl ⟨_, rfl, by omega⟩ (by omega) rfl (lt_of_ble rfl)
              rintro r7 zs7 p7 ⟨ys, rfl, hys⟩ hp7
              replace hys := hys _ rfl
              apply Wk.fad 1 0 false fd26_1 rfl (lt_of_ble rfl)
              apply Wk.sto (i := 5) 1 false ty22 rfl rfl rfl rfl (Nat.le_of_ble_eq_true rfl) (lt_of_ble rfl)
              refine Wk.nil (inBlockA_normal (thenA_normal ?_))
              have hy : ys.length ≤ 1000 := by
                rcases hys with h | h
                · omega
                · rw [h]; simp
              exact ⟨(zs7, p7, m, ys), ⟨by simp only; omega, hm1, hm2, hy⟩, fun a w => Rel.keep ⟨rfl, .cons rfl rfl (.cons rfl rfl (.cons rfl rfl (.cons rfl rfl .nil))), .cons rfl rfl (.cons rfl rfl (.cons rfl rfl .nil)), hN.mono (by simp [keys])⟩⟩
        · refine AW.skip (thenA_normal ?_)
          exact ⟨(zs5, p5, m, bs), ⟨by simp only; omega, hm1, hm2, hbs⟩, fun a w => Rel.keep ⟨rfl, .cons rfl rfl (.cons rfl rfl (.cons rfl rfl (.cons rfl rfl .nil))), .cons rfl rfl (.cons rfl rfl (.cons rfl rfl .nil)), hN.mono (by simp [keys])⟩⟩
      · rintro ⟨zs8, p8, m8, bs8⟩ ⟨hp8, h1, h2, h3⟩
        simp only at hp8 h1 h2 h3
        show AW Try.prog C _ _ (St.of 47 [(0, .ptr 0 0), (1, .d (.v (.int .i64 n))), (4, .ptr 4 0), (5, .ptr 5 0)] [(0, rdr zs8 p8), (4, .var [.d (.v (.int .i64 0)), .d (.v (.slice none 0 0))]), (5, .var [.d (.v (.int .i64 m8)), .d (fbytes bs8)])])
        refine AW.seq ?_
        apply AW.list
        apply Wk.ld (i := 5) 2 true ty26 rfl rfl (by conv => lhs; whnf) (lt_of_ble rfl)
        apply Wk.sto (i := 4) 2 true ty26 rfl rfl rfl rfl (Nat.le_of_ble_eq_true rfl) (lt_of_ble rfl)
        refine Wk.nil (AW.ret ?_)
        exact RetQ.ret [(0, rdr zs8 p8)] (.cons ⟨4, 0, _, _, _, rfl, rfl, ty26, rfl⟩ .nil) ⟨⟨m8, bs8, rfl, h1, h2, h3⟩, _, _, rfl, hp8⟩ (kept1 rfl)
  · rintro rest ⟨n, rfl, _⟩; rfl
  · rintro rest _; exact ⟨_, 0, [], rfl, by decide, by decide, by simp⟩
  · rintro rest r ⟨m, bs, rfl, _⟩; rfl
end Go.Proofs.Ytlmadcpoaedagaa

/- Who hears, drawn; over what values read as. -/
namespace Go.Proofs.Ytlmadcpoaedagaa
open Go
theorem nxt_ok (n : Nat) (hn : n ≤ 1000000) : DataOk Try.prog 54 [.d (.v (.int .i64 (n : Int)))] (.d (.v (.int .i64 (((n + 1) % 8 : Nat) : Int)))) := by
  refine Spec.intro (n := 6) (rv := [.tmp 2]) Try.func54 rfl rfl rfl (by simp) fun C hN hX => ?_
  refine AW.seq ?_
  apply AW.list
  apply Wk.asg (by conv => lhs; whnf) (lt_of_ble rfl)
  refine Wk.nil ?_
  refine AW.seq ?_
  apply AW.list
  apply Wk.mv (by conv => lhs; whnf) (lt_of_ble rfl)
  apply Wk.addn (b := 1) rfl rfl (by omega) (lt_of_ble rfl)
  apply Wk.remn (b := 8) rfl rfl (by decide) (lt_of_ble rfl)
  apply Wk.asg (by conv => lhs; whnf) (lt_of_ble rfl)
  refine Wk.nil (AW.ret ?_)
  exact RetQ.ret [] (.cons rfl .nil) ⟨rfl, rfl⟩ none_kept
def rxA (e c m : Int) (bs : List (Fin 256)) (a u d : Bool) : A := .agg [.d (.v (.int .i64 e)), .d (.v (.int .i64 c)), .d (.v (.int .i64 m)), .d (fbytes bs), .d (.v (.bool a)), .d (.v (.bool u)), .d (.v (.bool d))]
def rxPost (_ : List A) (r : A) : Prop := ∃ (e c m : Int) (bs : List (Fin 256)) (a u d : Bool), r = rxA e c m bs a u d ∧ -1 ≤ e ∧ e ≤ 8 ∧ -1 ≤ c ∧ c ≤ 10000 ∧ -1 ≤ m ∧ m ≤ 100 ∧ bs.length ≤ 1000
def rxZ : List A := [.d (.v (.int .i64 0)), .d (.v (.int .i64 0)), .d (.v (.int .i64 0)), .d (.v (.slice none 0 0)), .d (.v (.bool false)), .d (.v (.bool false)), .d (.v (.bool false))]
set_option maxRecDepth 100000 in
theorem rx_ok : DrawOk Try.prog 26 (fun rest => ∃ n : Int, rest = [.d (.v (.int .i64 n))] ∧ n ≤ 1000000 ∧ -1000000 ≤ n) rxPost 13000 := by
  refine DrawOk.zero ?_ ?_ ?_ ?_
  · rintro zs p rest ⟨n, rfl, hn, hn'⟩ hp
    refine Spec.intro (n := 55) (rv := [.cell 4 28]) Try.func26 rfl rfl rfl (by simp) fun C hN hX => ?_
    refine AW.seq ?_
    apply AW.list
    apply Wk.alc 4 [.int .i64 0, .int .i64 0, .int .i64 0, .slice none 0 0, .bool false, .bool false, .bool false] ze28 rfl rfl (lt_of_ble rfl)
    refine Wk.nil ?_
    refine AW.seq ?_
    apply AW.list
    apply Wk.mv (by conv => lhs; whnf) (lt_of_ble rfl)
    apply Wk.drw 0 pick_ok Try.func28 rfl rfl rfl rfl ⟨_, rfl, by omega⟩ (by omega) rfl (lt_of_ble rfl)
    rintro r1 zs1 p1 ⟨k1, rfl, hk1⟩ hp1
    replace hk1 := hk1 _ rfl
    apply Wk.asg (by conv => lhs; whnf) (lt_of_ble rfl)
    refine Wk.nil ?_
    refine AW.seq ?_
    apply AW.list
    apply Wk.mv (by conv => lhs; whnf) (lt_of_ble rfl)
    apply Wk.remn (b := 8) rfl rfl (by decide) (lt_of_ble rfl)
    apply Wk.mv (by conv => lhs; whnf) (lt_of_ble rfl)
    apply Wk.mv (by conv => lhs; whnf) (lt_of_ble rfl)
    apply Wk.drw 0 join_ok Try.func53 rfl rfl rfl rfl ⟨_, rfl, by omega⟩ (by omega) rfl (lt_of_ble rfl)
    rintro r2 zs2 p2 ⟨m, bs, rfl, hm1, hm2, hbs⟩ hp2
    apply Wk.mv (by conv => lhs; whnf) (lt_of_ble rfl)
    apply Wk.drw 0 pick_ok Try.func28 rfl rfl rfl rfl ⟨_, rfl, by omega⟩ (by omega) rfl (lt_of_ble rfl)
    rintro r3 zs3 p3 ⟨k3, rfl, _⟩ hp3
    apply Wk.bin rfl rfl (fun w => by simp [go_sem] <;> rfl) (lt_of_ble rfl)
    apply Wk.mv (by conv => lhs; whnf) (lt_of_ble rfl)
    apply Wk.drw 0 pick_ok Try.func28 rfl rfl rfl rfl ⟨_, rfl, by omega⟩ (by omega) rfl (lt_of_ble rfl)
    rintro r4 zs4 p4 ⟨k4, rfl, _⟩ hp4
    apply Wk.bin rfl rfl (fun w => by simp [go_sem] <;> rfl) (lt_of_ble rfl)
    apply Wk.mv (by conv => lhs; whnf) (lt_of_ble rfl)
    apply Wk.drw 0 pick_ok Try.func28 rfl rfl rfl rfl ⟨_, rfl, by omega⟩ (by omega) rfl (lt_of_ble rfl)
    rintro r5 zs5 p5 ⟨k5, rfl, _⟩ hp5
    apply Wk.bin rfl rfl (fun w => by simp [go_sem] <;> rfl) (lt_of_ble rfl)
    apply Wk.bld [.int .i64 0, .int .i64 0, .int .i64 0, .slice none 0 0, .bool false, .bool false, .bool false] [(0, 1), (1, 1), (2, 2), (4, 1), (5, 1), (6, 1)] bl28 rfl (by conv => lhs; whnf) (lt_of_ble rfl)
    apply Wk.alc 6 [.int .i64 0, .int .i64 0, .int .i64 0, .slice none 0 0, .bool false, .bool false, .bool false] ze28 rfl rfl (lt_of_ble rfl)
    apply Wk.sto (i := 6) 7 true ty28 rfl rfl rfl rfl (Nat.le_of_ble_eq_true rfl) (lt_of_ble rfl)
    refine Wk.nil ?_
    obtain ⟨a, ha⟩ : ∃ a : Bool, ((k3 : Int) == 0) = a := ⟨_, rfl⟩
    obtain ⟨u, hu⟩ : ∃ a : Bool, ((k4 : Int) == 0) = a := ⟨_, rfl⟩
    obtain ⟨d, hd⟩ : ∃ a : Bool, ((k5 : Int) == 0) = a := ⟨_, rfl⟩
    let inv : List (Fin 256) × Nat × Int × Int × Int × List (Fin 256) → St := fun x => St.of 55 [(0, .ptr 0 0), (1, .d (.v (.int .i64 n))), (4, .ptr 4 0), (6, .ptr 6 0)] [(0, rdr x.1 x.2.1), (4, .var rxZ), (6, .var [.d (.v (.int .i64 x.2.2.1)), .d (.v (.int .i64 x.2.2.2.1)), .d (.v (.int .i64 x.2.2.2.2.1)), .d (fbytes x.2.2.2.2.2), .d (.v (.bool a)), .d (.v (.bool u)), .d (.v (.bool d))])]
    have hk : k1 < 40 := by omega
    refine AW.keep (n := 55) (ts := [(0, .ptr 0 0), (1, .d (.v (.int .i64 n))), (4, .ptr 4 0), (6, .ptr 6 0)]) (bs := [(0, rdr zs5 p5), (4, .var rxZ), (6, .var [.d (.v (.int .i64 ((k1 % 8 : Nat) : Int))), .d (.v (.int .i64 (k1 : Int))), .d (.v (.int .i64 m)), .d (fbytes bs), .d (.v (.bool a)), .d (.v (.bool u)), .d (.v (.bool d))])]) ⟨rfl, .cons rfl rfl (.cons rfl rfl (.cons rfl rfl (.cons rfl rfl .nil))), .cons rfl rfl (.cons rfl rfl (.cons (by rw [← ha, ← hu, ← hd]; rfl) rfl .nil)), hN.mono (by simp [keys])⟩ ?_
    refine AW.via inv (fun x => x.2.1 ≤ p + 13000 ∧ (-1 ≤ x.2.2.1 ∧ x.2.2.1 ≤ 8) ∧ (-1 ≤ x.2.2.2.1 ∧ x.2.2.2.1 ≤ 10000) ∧ (-1 ≤ x.2.2.2.2.1 ∧ x.2.2.2.2.1 ≤ 100) ∧ x.2.2.2.2.2.length ≤ 1000) ?_ ?_
    · refine AW.seq ?_
      apply AW.list
      apply Wk.mv (by conv => lhs; whnf) (lt_of_ble rfl)
      apply Wk.mv (by conv => lhs; whnf) (lt_of_ble rfl)
      apply Wk.drw 0 odd_ok Try.func52 rfl rfl rfl rfl ⟨_, rfl, by omega⟩ (by omega) rfl (lt_of_ble rfl)
      rintro r6 zs6 p6 ⟨b6, rfl, _⟩ hp6
      refine Wk.nil ?_
      refine AW.cond rfl (fun hc => ?_) (fun hc => ?_)
      · refine AW.seq ?_
        apply AW.list
        apply Wk.mv (by conv => lhs; whnf) (lt_of_ble rfl)
        apply Wk.drw 0 pick_ok Try.func28 rfl rfl rfl rfl ⟨_, rfl, by omega⟩ (by omega) rfl (lt_of_ble rfl)
        rintro r7 zs7 p7 ⟨k7, rfl, _⟩ hp7
        refine Wk.nil (AW.block ?_)
        refine AW.seq ?_
        apply AW.list
        apply Wk.bin rfl rfl (fun w => by simp [go_sem] <;> rfl) (lt_of_ble rfl)
        apply Wk.asg (by conv => lhs; whnf) (lt_of_ble rfl)
        refine Wk.nil ?_
        refine AW.cond rfl (fun hc => ?_) (fun hc => ?_)
        · have hk8 : k1 % 8 < 8 := Nat.mod_lt _ (by decide)
          apply AW.list
          apply Wk.fad 0 0 false fd28_0 rfl (lt_of_ble rfl)
          apply Wk.ld (i := 6) 1 false ty3 rfl rfl (by conv => lhs; whnf) (lt_of_ble rfl)
          apply Wk.dat (nxt_ok (k1 % 8) (by omega)) Try.func54 rfl rfl rfl rfl rfl (lt_of_ble rfl)
          apply Wk.lst 37 1 false [.int .i64 0] un59 ty3 ze3 rfl rfl (by rfl) (by rfl) (by decide) (by decide) rfl rfl (all_len rfl) (lt_of_ble rfl)
          apply Wk.mv (by conv => lhs; whnf) (lt_of_ble rfl)
          apply Wk.drw 0 pick_ok Try.func28 rfl rfl rfl rfl ⟨_, rfl, by omega⟩ (by omega) rfl (lt_of_ble rfl)
          rintro r8 zs8 p8 ⟨k, rfl, hk⟩ hp8
          have hk' : k < 3 := by have := hk 3 rfl; omega
          obtain ⟨v, hv, hv1, hv2⟩ : ∃ v : Int, partA (List.flatten [[A.d (.v (.int .i64 (-1)))], [.d (.v (.int .i64 8))], [.d (.v (.int .i64 (((k1 % 8 + 1) % 8 : Nat) : Int)))]]) (k * 1) 1 false = some (.d (.v (.int .i64 v))) ∧ -1 ≤ v ∧ v ≤ 8 := by
            have h9 : (k1 % 8 + 1) % 8 < 8 := Nat.mod_lt _ (by decide)
            rcases (show k = 0 ∨ k = 1 ∨ k = 2 by omega) with rfl | rfl | rfl
            · exact ⟨_, rfl, by decide, by decide⟩
            · exact ⟨_, rfl, by decide, by decide⟩
            · exact ⟨_, rfl, by omega, by omega⟩
          apply Wk.iado 37 1 false un59 ty3 rfl rfl rfl hk' (lt_of_ble rfl)
          apply Wk.ldo (i := 37) 1 false ty3 rfl rfl hv (lt_of_ble rfl)
          apply Wk.fad 0 0 false fd28_0 rfl (lt_of_ble rfl)
          apply Wk.sto (i := 6) 1 false ty3 rfl rfl rfl rfl (Nat.le_of_ble_eq_true rfl) (lt_of_ble rfl)
          refine Wk.nil (inBlockA_normal (thenA_normal ?_))
          exact ⟨(zs8, p8, v, (k1 : Int), m, bs), ⟨by simp only; omega, ⟨hv1, hv2⟩, by simp only; omega, ⟨hm1, hm2⟩, hbs⟩, fun a w => Rel.keep ⟨rfl, .cons rfl rfl (.cons rfl rfl (.cons rfl rfl (.cons rfl rfl .nil))), .cons rfl rfl (.cons rfl rfl (.cons rfl rfl .nil)), hN.mono (by simp [keys])⟩⟩
        · refine AW.seq ?_
          apply AW.list
          apply Wk.bin rfl rfl (fun w => by simp [go_sem] <;> rfl) (lt_of_ble rfl)
          apply Wk.asg (by conv => lhs; whnf) (lt_of_ble rfl)
          refine Wk.nil ?_
          refine AW.cond rfl (fun hc => ?_) (fun hc => ?_)
          · apply AW.draw (hm := hmix) (cs := _)
            · apply Wk.fad 1 0 false fd28_1 rfl (lt_of_ble rfl)
              apply Wk.ld (i := 6) 1 false ty3 rfl rfl (by conv => lhs; whnf) (lt_of_ble rfl)
              apply Wk.addi rfl rfl (by omega) (lt_of_ble rfl)
              apply Wk.lst 48 1 false [.int .i64 0] un59 ty3 ze3 rfl rfl (by rfl) (by rfl) (by decide) (by decide) rfl rfl (all_len rfl) (lt_of_ble rfl)
              apply Wk.mv (by conv => lhs; whnf) (lt_of_ble rfl)
              apply Wk.drw 0 pick_ok Try.func28 rfl rfl rfl rfl ⟨_, rfl, by omega⟩ (by omega) rfl (lt_of_ble rfl)
              rintro r8 zs8 p8 ⟨k, rfl, hk⟩ hp8
              have hk' : k < 3 := by have := hk 3 rfl; omega
              obtain ⟨v, hv, hv1, hv2⟩ : ∃ v : Int, partA (List.flatten [[A.d (.v (.int .i64 (-1)))], [.d (.v (.int .i64 10000))], [.d (.v (.int .i64 ((k1 : Int) + 8)))]]) (k * 1) 1 false = some (.d (.v (.int .i64 v))) ∧ -1 ≤ v ∧ v ≤ 10000 := by
                rcases (show k = 0 ∨ k = 1 ∨ k = 2 by omega) with rfl | rfl | rfl
                · exact ⟨_, rfl, by decide, by decide⟩
                · exact ⟨_, rfl, by decide, by decide⟩
                · exact ⟨_, rfl, by omega, by omega⟩
              apply Wk.iado 48 1 false un59 ty3 rfl rfl rfl hk' (lt_of_ble rfl)
              apply Wk.ldo (i := 48) 1 false ty3 rfl rfl hv (lt_of_ble rfl)
              apply Wk.fad 1 0 false fd28_1 rfl (lt_of_ble rfl)
              apply Wk.sto (i := 6) 1 false ty3 rfl rfl rfl rfl (Nat.le_of_ble_eq_true rfl) (lt_of_ble rfl)
              refine Wk.nil (inBlockA_normal (thenA_normal ?_))
              exact ⟨(zs8, p8, ((k1 % 8 : Nat) : Int), v, m, bs), ⟨by simp only; omega, by simp only; omega, ⟨hv1, hv2⟩, ⟨hm1, hm2⟩, hbs⟩, fun a w => Rel.keep ⟨rfl, .cons rfl rfl (.cons rfl rfl (.cons rfl rfl (.cons rfl rfl .nil))), .cons rfl rfl (.cons rfl rfl (.cons rfl rfl .nil)), hN.mono (by simp [keys])⟩⟩
            · rfl
            · rfl
          · apply AW.list
            apply Wk.mv (by conv => lhs; whnf) (lt_of_ble rfl)
            apply Wk.drw 0 join_ok Try.func53 rfl rfl rfl rfl ⟨_, rfl, by omega⟩ (by omega) rfl (lt_of_ble rfl)
            rintro r8 zs8 p8 ⟨m8, bs8, rfl, hq1, hq2, hq3⟩ hp8
            apply Wk.fad 2 1 true fd28_2 rfl (lt_of_ble rfl)
            apply Wk.sto (i := 6) 2 true ty26 rfl rfl rfl rfl (Nat.le_of_ble_eq_true rfl) (lt_of_ble rfl)
            refine Wk.nil (inBlockA_normal (thenA_normal ?_))
            exact ⟨(zs8, p8, ((k1 % 8 : Nat) : Int), (k1 : Int), m8, bs8), ⟨by simp only; omega, by simp only; omega, by simp only; omega, ⟨hq1, hq2⟩, hq3⟩, fun a w => Rel.keep ⟨rfl, .cons rfl rfl (.cons rfl rfl (.cons rfl rfl (.cons rfl rfl .nil))), .cons rfl rfl (.cons rfl rfl (.cons rfl rfl .nil)), hN.mono (by simp [keys])⟩⟩
      · refine AW.skip (thenA_normal ?_)
        exact ⟨(zs6, p6, ((k1 % 8 : Nat) : Int), (k1 : Int), m, bs), ⟨by simp only; omega, by simp only; omega, by simp only; omega, ⟨hm1, hm2⟩, hbs⟩, fun a w => Rel.keep ⟨rfl, .cons rfl rfl (.cons rfl rfl (.cons rfl rfl (.cons rfl rfl .nil))), .cons rfl rfl (.cons rfl rfl (.cons rfl rfl .nil)), hN.mono (by simp [keys])⟩⟩
    · rintro ⟨zs8, p8, e, c, m8, bs8⟩ ⟨hp8, h1, h2, h3, h4⟩
      simp only at hp8 h1 h2 h3 h4
      show AW Try.prog C _ _ (St.of 55 [(0, .ptr 0 0), (1, .d (.v (.int .i64 n))), (4, .ptr 4 0), (6, .ptr 6 0)] [(0, rdr zs8 p8), (4, .var rxZ), (6, .var [.d (.v (.int .i64 e)), .d (.v (.int .i64 c)), .d (.v (.int .i64 m8)), .d (fbytes bs8), .d (.v (.bool a)), .d (.v (.bool u)), .d (.v (.bool d))])])
      refine AW.seq ?_
      apply AW.list
      apply Wk.ld (i := 6) 7 true ty28 rfl rfl (by conv => lhs; whnf) (lt_of_ble rfl)
      apply Wk.sto (i := 4) 7 true ty28 rfl rfl rfl rfl (Nat.le_of_ble_eq_true rfl) (lt_of_ble rfl)
      refine Wk.nil (AW.ret ?_)
      exact RetQ.ret [(0, rdr zs8 p8)] (.cons ⟨4, 0, _, _, _, rfl, rfl, ty28, rfl⟩ .nil) ⟨⟨e, c, m8, bs8, a, u, d, rfl, h1.1, h1.2, h2.1, h2.2, h3.1, h3.2, h4⟩, _, _, rfl, hp8⟩ (kept1 rfl)
  · rintro rest ⟨n, rfl, _⟩; rfl
  · rintro rest _; exact ⟨_, 0, 0, 0, [], false, false, false, rfl, by decide, by decide, by decide, by decide, by decide, by decide, by simp⟩
  · rintro rest r ⟨e, c, m, bs, a, u, d, rfl, _⟩; rfl
end Go.Proofs.Ytlmadcpoaedagaa

/- Between what values read as and the memory itself: rows of bytes; contracts over memory as contracts over data; a law at a code. -/
namespace Go.Proofs.Ytlmadcpoaedagaa
open Go Go.RowKit
theorem rd_den {w : World} {F : Nat → Prop} {v : Value} {zs : List Nat} (h : Rd w v zs) (hF : ∀ b, b < w.heap.size → F b) : FDen w F (bytesD zs) v := by
  obtain ⟨_, _, ⟨rfl, a, c, rfl, hac⟩ | ⟨b, off, cap, rfl, hl, hm, hb, hc⟩⟩ := h
  · exact .emp a c hac
  · have key : ∀ i j e d, (zs.map fun z : Nat => [D.v (.int .u8 (z : Int))])[i]? = some e → e[j]? = some d → i < zs.length ∧ j = 0 ∧ d = .v (.int .u8 ((zs.getD i 0 : Nat) : Int)) := fun i j e d he hd => by
      simp only [List.getElem?_map, Option.map_eq_some_iff] at he
      obtain ⟨z, hz, rfl⟩ := he
      have hi := (List.getElem?_eq_some_iff.1 hz).1
      cases j with
      | succ j => simp at hd
      | zero =>
        simp only [List.getElem?_cons_zero, Option.some.injEq] at hd
        exact ⟨hi, rfl, by rw [← hd, List.getD_eq_getElem?_getD, hz]; rfl⟩
    refine .row 1 b off cap zs.length _ (fun i _ => .int .u8 ((zs.getD i 0 : Nat) : Int)) (hF b hb) (by simp) hl hm (one_bytes zs) (fun i j e d he hd => ?_) (fun i j e d he hd => rfl) (fun i j e d he hd => ?_)
    · obtain ⟨hi, rfl, _⟩ := key i j e d he hd
      have := hc i hi
      rw [← this]
      simp
    · obtain ⟨_, _, rfl⟩ := key i j e d he hd
      exact .v _
theorem den_rd {w : World} {F : Nat → Prop} {v : Value} {zs : List Nat} (h : FDen w F (bytesD zs) v) (hF : ∀ b, F b → b < w.heap.size) (hz : Byt zs) (hl : zs.length ≤ 2000000) : Rd w v zs := by
  refine ⟨hz, hl, ?_⟩
  unfold bytesD at h
  generalize hes : (zs.map fun z : Nat => [D.v (.int .u8 (z : Int))]) = es at h
  cases h with
  | emp a c h0 =>
    have : zs = [] := by cases zs with | nil => rfl | cons z zs => simp at hes
    exact .inl ⟨this, a, c, rfl, h0⟩
  | row sz b o cap n _ vs hb hn hcap hmax hsz hc h1 hd =>
    subst hes
    have hn' : zs.length = n := by simpa using hn
    subst hn'
    refine .inr ⟨b, o, cap, rfl, hcap, hmax, hF b hb, fun j hj => ?_⟩
    have e := bytes_get zs j hj
    have hs : sz = 1 := (hsz _ (List.mem_of_getElem? e)).symm
    subst hs
    have h2 := hc j 0 _ _ e rfl
    have h3 := hd j 0 _ _ e rfl
    generalize vs j 0 = u at h2 h3
    cases h3
    simpa using h2

theorem DataOk.lift {P : Program} {f : FuncId} {ls : List A} {v : Value} (h : ∀ (w : World) (F : Nat → Prop) (E : Nat → Option Nat) (H : Nat → Nat → Option Value) (args : Array Value), (∀ b, F b → b < w.heap.size) → args.size = ls.length → (∀ (i : Nat) (a : A), ls[i]? = some a → Den w F E H a (args.getD i undef)) →
    Calls P f args w fun e w' => e = .returned v ∧ Below w.heap.size w w') : DataOk P f ls (.d (.v v)) := by
  intro w F E H args hpo hs hd
  refine (h w F E H args hpo.Flt hs hd).mono ?_
  rintro e w' ⟨rfl, hb⟩
  exact ⟨v, .d (.v v), [], F, E, H, rfl, ⟨rfl, rfl⟩, ⟨hb.os, hb.tape, hb.output, hb.size, fun b hlt _ => hb.block b hlt, fun b h => h, fun b h => Nat.lt_of_lt_of_le (hpo.Flt b h) hb.size, fun b h => .inl h, fun _ _ h => h, fun _ _ _ h => h,
    (fun i x hx => by cases hx), (fun i x b hx => by cases hx), (fun i j x y b _ hx => by cases hx), (fun i x b hx => by cases hx)⟩, .d _ _ (.v v)⟩

theorem DataOk.run {P : Program} {f : FuncId} {s v : Value} {w : World} {zs : List Nat} (h : DataOk P f [.d (bytesD zs)] (.d (.v v))) (hR : Rd w s zs) : Calls P f #[s] w fun e w' => e = .returned v ∧ Below w.heap.size w w' := by
  have hpo : PreOk w (· < w.heap.size) (fun _ => none) (fun _ _ => none) [] :=
    ⟨fun b hb => hb, (fun i x hx => by cases hx), (fun i x b hx => by cases hx), (fun i j x y b _ hx => by cases hx), fun i _ => ⟨rfl, fun _ => rfl⟩⟩
  refine (h w (· < w.heap.size) (fun _ => none) (fun _ _ => none) #[s] hpo rfl (fun i a ha => ?_)).mono ?_
  · cases i with
    | succ i => simp at ha
    | zero =>
      simp only [List.getElem?_cons_zero, Option.some.injEq] at ha
      subst ha
      exact .d _ _ (rd_den hR fun b hb => hb)
  · rintro e w' ⟨v', r, bs', F', E', H', rfl, ⟨rfl, rfl⟩, po, hden⟩
    rw [den_v hden]
    exact ⟨rfl, po.os, po.tape, po.output, po.size, fun b hb => po.old b hb (fun i x hx => by cases hx)⟩
theorem byt_fin {zs : List Nat} (h : Byt zs) : ∃ bs : List (Fin 256), bs.map (·.val) = zs := ⟨zs.attach.map fun z => ⟨z.1, h z.1 z.2⟩, by simp⟩
theorem fin_byt (bs : List (Fin 256)) : Byt (bs.map (·.val)) := fun z hz => by
  obtain ⟨x, _, rfl⟩ := List.mem_map.1 hz
  exact x.isLt
/-- One argument alone. -/
theorem arg1 {w : World} {F : Nat → Prop} {E : Nat → Option Nat} {H : Nat → Nat → Option Value} {a : A} {args : Array Value} (hs : args.size = [a].length) (hd : ∀ (i : Nat) (x : A), [a][i]? = some x → Den w F E H x (args.getD i undef)) : ∃ v, args = #[v] ∧ Den w F E H a v := by
  have hs' : args.toList.length = 1 := by simpa using hs
  match hl : args.toList, hs' with
  | [v], _ =>
    obtain rfl : args = #[v] := by rw [← Array.toArray_toList (xs := args), hl]
    exact ⟨v, rfl, hd 0 a rfl⟩

theorem rx_args {w : World} {F : Nat → Prop} {E : Nat → Option Nat} {H : Nat → Nat → Option Value} {e c m : Int} {bs : List (Fin 256)} {a u d : Bool} {v : Value} (h : Den w F E H (rxA e c m bs a u d) v) :
    ∃ (g : Option Addr) (cap : Nat), v = .agg #[.int .i64 e, .int .i64 c, .int .i64 m, .slice g bs.length cap, .bool a, .bool u, .bool d] := by
  obtain ⟨cs, rfl, hs, _, h⟩ := den_agg h
  have hs' : cs.toList.length = 7 := by simpa using hs
  match hl : cs.toList, hs' with
  | [x0, x1, x2, x3, x4, x5, x6], _ =>
    obtain rfl : cs = #[x0, x1, x2, x3, x4, x5, x6] := by rw [← Array.toArray_toList (xs := cs), hl]
    obtain rfl := den_v (h 0 _ rfl)
    obtain rfl := den_v (h 1 _ rfl)
    obtain rfl := den_v (h 2 _ rfl)
    obtain rfl := den_v (h 4 _ rfl)
    obtain rfl := den_v (h 5 _ rfl)
    obtain rfl := den_v (h 6 _ rfl)
    have h3 := den_d (h 3 _ rfl)
    obtain ⟨g, n, cap, rfl, hn⟩ := den_row h3
    simp only [List.length_map] at hn
    subst hn
    exact ⟨g, cap, rfl⟩
theorem irx_ok (e c m : Int) (bs : List (Fin 256)) (a u d : Bool) : DataOk Try.prog 14 [rxA e c m bs a u d] (.d (.v (.bool (rxB e c m bs.length)))) := by
  refine DataOk.lift fun w F E H args _ hs hd => ?_
  obtain ⟨v, rfl, hv⟩ := arg1 hs hd
  obtain ⟨g, cap, rfl⟩ := rx_args hv
  exact impl_rx _ _ _ _ _ _ _ _ _ _
theorem srx_ok (e c m : Int) (bs : List (Fin 256)) (a u d : Bool) : DataOk Try.prog 15 [rxA e c m bs a u d] (.d (.v (.bool (rxB e c m bs.length)))) := by
  refine DataOk.lift fun w F E H args _ hs hd => ?_
  obtain ⟨v, rfl, hv⟩ := arg1 hs hd
  obtain ⟨g, cap, rfl⟩ := rx_args hv
  exact spec_rx _ _ _ _ _ _ _ _ _ _
def frmA (k s c : Int) (p f : Bool) (y g l : Int) (bs : List (Fin 256)) : A := .agg [.d (.v (.int .i64 k)), .d (.v (.int .i64 s)), .d (.v (.int .i64 c)), .d (.v (.bool p)), .d (.v (.bool f)), .d (.v (.int .i64 y)), .d (.v (.int .i64 g)), .d (.v (.int .i64 l)), .d (fbytes bs)]
theorem ifrm_ok (k s c : Int) (p f : Bool) (y g l : Int) (bs : List (Fin 256)) (hl : bs.length ≤ 2000000) : DataOk Try.prog 57 [frmA k s c p f y g l bs] (.d (.v (.bool (frmB k s c p f y g l bs.length)))) := by
  refine DataOk.lift fun w F E H args hF hs hd => ?_
  obtain ⟨v, rfl, hv⟩ := arg1 hs hd
  obtain ⟨cs, rfl, hs, _, h⟩ := den_agg hv
  have hs' : cs.toList.length = 9 := by simpa using hs
  match hl' : cs.toList, hs' with
  | [x0, x1, x2, x3, x4, x5, x6, x7, x8], _ =>
    obtain rfl : cs = #[x0, x1, x2, x3, x4, x5, x6, x7, x8] := by rw [← Array.toArray_toList (xs := cs), hl']
    obtain rfl := den_v (h 0 _ rfl)
    obtain rfl := den_v (h 1 _ rfl)
    obtain rfl := den_v (h 2 _ rfl)
    obtain rfl := den_v (h 3 _ rfl)
    obtain rfl := den_v (h 4 _ rfl)
    obtain rfl := den_v (h 5 _ rfl)
    obtain rfl := den_v (h 6 _ rfl)
    obtain rfl := den_v (h 7 _ rfl)
    have h8 := den_rd (den_d (h 8 _ rfl)) hF (fin_byt bs) (by simpa using hl)
    have := impl_frm k s c p f y g l x8 _ w h8
    simpa using this
theorem liok_ok : DataOk Try.prog 18 [] (.d (.v (.bool true))) := by
  refine DataOk.lift fun w F E H args _ hs _ => ?_
  obtain rfl : args = #[] := by simpa using hs
  exact li_ok w
end Go.Proofs.Ytlmadcpoaedagaa

/- What who hears says of how far all has come, both sides'; frames compared; who hears, drawn for it. -/
namespace Go.Proofs.Ytlmadcpoaedagaa
open Go
def frm0 (k s c : Int) (p f : Bool) (y g l : Int) : A := .agg [.d (.v (.int .i64 k)), .d (.v (.int .i64 s)), .d (.v (.int .i64 c)), .d (.v (.bool p)), .d (.v (.bool f)), .d (.v (.int .i64 y)), .d (.v (.int .i64 g)), .d (.v (.int .i64 l)), .d (.v (.slice none 0 0))]
def sayOf (u : Bool) : Int := if u then 2 else 0
theorem wait_ok (u : Bool) : DataOk Try.prog 72 [.d (.v (.bool u))] (.d (.v (.int .i64 (sayOf u)))) := by
  refine Spec.intro (n := 4) (rv := [.tmp 2]) Try.func72 rfl rfl rfl (by simp) fun C hN hX => ?_
  refine AW.seq ?_
  apply AW.list
  apply Wk.asg (by conv => lhs; whnf) (lt_of_ble rfl)
  refine Wk.nil ?_
  refine AW.seq (AW.seq ?_)
  apply AW.list
  apply Wk.mv (by conv => lhs; whnf) (lt_of_ble rfl)
  refine Wk.nil ?_
  refine AW.cond rfl (fun hc => ?_) (fun hc => ?_)
  · refine AW.seq ?_
    apply AW.list
    apply Wk.asg (by conv => lhs; whnf) (lt_of_ble rfl)
    refine Wk.nil (AW.ret ?_)
    refine thenA_ret ?_
    exact RetQ.ret [] (.cons rfl .nil) ⟨by rw [hc]; rfl, rfl⟩ none_kept
  · refine AW.skip (thenA_normal ?_)
    refine AW.seq ?_
    apply AW.list
    apply Wk.asg (by conv => lhs; whnf) (lt_of_ble rfl)
    refine Wk.nil (AW.ret ?_)
    exact RetQ.ret [] (.cons rfl .nil) ⟨by rw [hc]; rfl, rfl⟩ none_kept
theorem far_ok (e c m : Int) (bs : List (Fin 256)) (a u d : Bool) : DataOk Try.prog 60 [rxA e c m bs a u d] (frm0 2 0 e false false (sayOf u) 0 0) := by
  refine Spec.intro (n := 9) (rv := [.cell 2 30]) Try.func60 rfl rfl rfl (by simp) fun C hN hX => ?_
  refine AW.seq ?_
  apply AW.list
  apply Wk.bx 1 rfl rfl (lt_of_ble rfl)
  apply Wk.alc 2 [.int .i64 0, .int .i64 0, .int .i64 0, .bool false, .bool false, .int .i64 0, .int .i64 0, .int .i64 0, .slice none 0 0] ze30 rfl rfl (lt_of_ble rfl)
  refine Wk.nil ?_
  refine AW.seq ?_
  apply AW.draw (hm := hmix) (cs := _)
  · apply Wk.fad 0 0 false fd28_0 rfl (lt_of_ble rfl)
    apply Wk.ld (i := 1) 1 false ty3 rfl rfl (by conv => lhs; whnf) (lt_of_ble rfl)
    apply Wk.fad 5 0 false fd28_4 rfl (lt_of_ble rfl)
    apply Wk.ld (i := 1) 1 false ty4 rfl rfl (by conv => lhs; whnf) (lt_of_ble rfl)
    apply Wk.dat (wait_ok u) Try.func72 rfl rfl rfl rfl rfl (lt_of_ble rfl)
    apply Wk.bld [.int .i64 0, .int .i64 0, .int .i64 0, .bool false, .bool false, .int .i64 0, .int .i64 0, .int .i64 0, .slice none 0 0] [(0, 1), (1, 1), (2, 1), (3, 1), (4, 1), (5, 1), (6, 1), (7, 1), (8, 1)] bl30 rfl (by conv => lhs; whnf) (lt_of_ble rfl)
    apply Wk.sto (i := 2) 9 true ty30 rfl rfl rfl rfl (Nat.le_of_ble_eq_true rfl) (lt_of_ble rfl)
    refine Wk.nil (AW.ret ?_)
    exact RetQ.ret [] (.cons ⟨2, 0, _, _, _, rfl, rfl, ty30, rfl⟩ .nil) ⟨rfl, rfl⟩ none_kept
  · rfl
  · rfl
theorem say_ok (e c m : Int) (bs : List (Fin 256)) (a u d f : Bool) : DataOk Try.prog 64 [rxA e c m bs a u d, .d (.v (.bool f))] (frm0 2 0 e false f (sayOf u) 0 0) := by
  refine Spec.intro (n := 14) (rv := [.cell 4 30]) Try.func64 rfl rfl rfl (by simp) fun C hN hX => ?_
  refine AW.seq ?_
  apply AW.list
  apply Wk.bx 2 rfl rfl (lt_of_ble rfl)
  apply Wk.alc 4 [.int .i64 0, .int .i64 0, .int .i64 0, .bool false, .bool false, .int .i64 0, .int .i64 0, .int .i64 0, .slice none 0 0] ze30 rfl rfl (lt_of_ble rfl)
  refine Wk.nil ?_
  refine AW.seq ?_
  apply AW.list
  apply Wk.fad 0 0 false fd28_0 rfl (lt_of_ble rfl)
  apply Wk.ld (i := 2) 1 false ty3 rfl rfl (by conv => lhs; whnf) (lt_of_ble rfl)
  apply Wk.mv (by conv => lhs; whnf) (lt_of_ble rfl)
  apply Wk.bld [.int .i64 0, .int .i64 0, .int .i64 0, .bool false, .bool false, .int .i64 0, .int .i64 0, .int .i64 0, .slice none 0 0] [(0, 1), (1, 1), (2, 1), (3, 1), (4, 1), (5, 1), (6, 1), (7, 1), (8, 1)] bl30 rfl (by conv => lhs; whnf) (lt_of_ble rfl)
  apply Wk.alc 5 [.int .i64 0, .int .i64 0, .int .i64 0, .bool false, .bool false, .int .i64 0, .int .i64 0, .int .i64 0, .slice none 0 0] ze30 rfl rfl (lt_of_ble rfl)
  apply Wk.sto (i := 5) 9 true ty30 rfl rfl rfl rfl (Nat.le_of_ble_eq_true rfl) (lt_of_ble rfl)
  refine Wk.nil ?_
  refine AW.seq (AW.seq ?_)
  apply AW.list
  apply Wk.fad 5 0 false fd28_4 rfl (lt_of_ble rfl)
  apply Wk.ld (i := 2) 1 false ty4 rfl rfl (by conv => lhs; whnf) (lt_of_ble rfl)
  refine Wk.nil ?_
  refine AW.cond rfl (fun hc => ?_) (fun hc => ?_)
  · apply AW.list
    apply Wk.fad 5 0 false fd30_5 rfl (lt_of_ble rfl)
    apply Wk.sto (i := 5) 1 false ty3 rfl rfl rfl rfl (Nat.le_of_ble_eq_true rfl) (lt_of_ble rfl)
    refine Wk.nil (thenA_normal ?_)
    refine AW.seq ?_
    apply AW.list
    apply Wk.ld (i := 5) 9 true ty30 rfl rfl (by conv => lhs; whnf) (lt_of_ble rfl)
    apply Wk.sto (i := 4) 9 true ty30 rfl rfl rfl rfl (Nat.le_of_ble_eq_true rfl) (lt_of_ble rfl)
    refine Wk.nil (AW.ret ?_)
    exact RetQ.ret [] (.cons ⟨4, 0, _, _, _, rfl, rfl, ty30, rfl⟩ .nil) ⟨by rw [hc]; rfl, rfl⟩ none_kept
  · refine AW.skip (thenA_normal ?_)
    refine AW.seq ?_
    apply AW.list
    apply Wk.ld (i := 5) 9 true ty30 rfl rfl (by conv => lhs; whnf) (lt_of_ble rfl)
    apply Wk.sto (i := 4) 9 true ty30 rfl rfl rfl rfl (Nat.le_of_ble_eq_true rfl) (lt_of_ble rfl)
    refine Wk.nil (AW.ret ?_)
    exact RetQ.ret [] (.cons ⟨4, 0, _, _, _, rfl, rfl, ty30, rfl⟩ .nil) ⟨by rw [hc]; rfl, rfl⟩ none_kept
set_option maxRecDepth 100000 in
theorem liFrame_ok (k s c : Int) (p f : Bool) (y g l : Int) (bs : List (Fin 256)) : DataOk Try.prog 38 [frmA k s c p f y g l bs, frmA k s c p f y g l bs] (.d (.v (.bool true))) := by
  refine Spec.intro (n := 66) (rv := [.tmp 4]) Try.func38 rfl rfl rfl (by simp) fun C hN hX => ?_
  refine AW.seq ?_
  apply AW.list
  apply Wk.bx 2 rfl rfl (lt_of_ble rfl)
  apply Wk.bx 3 rfl rfl (lt_of_ble rfl)
  apply Wk.asg (by conv => lhs; whnf) (lt_of_ble rfl)
  refine Wk.nil ?_
  refine AW.seq ?_
  apply AW.list
  apply Wk.fad 0 0 false fd30_0 rfl (lt_of_ble rfl)
  apply Wk.ld (i := 2) 1 false ty3 rfl rfl (by conv => lhs; whnf) (lt_of_ble rfl)
  apply Wk.fad 0 0 false fd30_0 rfl (lt_of_ble rfl)
  apply Wk.ld (i := 3) 1 false ty3 rfl rfl (by conv => lhs; whnf) (lt_of_ble rfl)
  apply Wk.bin rfl rfl (r := .bool true) (fun w => by simp [go_sem]) (lt_of_ble rfl)
  apply Wk.mv (by conv => lhs; whnf) (lt_of_ble rfl)
  apply Wk.gon 10 rfl rfl
  apply Wk.fad 1 0 false fd30_1 rfl (lt_of_ble rfl)
  apply Wk.gon 10 rfl rfl
  apply Wk.ld (i := 2) 1 false ty3 rfl rfl (by conv => lhs; whnf) (lt_of_ble rfl)
  apply Wk.gon 10 rfl rfl
  apply Wk.fad 1 0 false fd30_1 rfl (lt_of_ble rfl)
  apply Wk.gon 10 rfl rfl
  apply Wk.ld (i := 3) 1 false ty3 rfl rfl (by conv => lhs; whnf) (lt_of_ble rfl)
  apply Wk.gon 10 rfl rfl
  apply Wk.bin rfl rfl (r := .bool true) (fun w => by simp [go_sem]) (lt_of_ble rfl)
  apply Wk.pckT rfl (by conv => lhs; whnf) (lt_of_ble rfl)
  apply Wk.mv (by conv => lhs; whnf) (lt_of_ble rfl)
  apply Wk.gon 17 rfl rfl
  apply Wk.fad 2 0 false fd30_2 rfl (lt_of_ble rfl)
  apply Wk.gon 17 rfl rfl
  apply Wk.ld (i := 2) 1 false ty3 rfl rfl (by conv => lhs; whnf) (lt_of_ble rfl)
  apply Wk.gon 17 rfl rfl
  apply Wk.fad 2 0 false fd30_2 rfl (lt_of_ble rfl)
  apply Wk.gon 17 rfl rfl
  apply Wk.ld (i := 3) 1 false ty3 rfl rfl (by conv => lhs; whnf) (lt_of_ble rfl)
  apply Wk.gon 17 rfl rfl
  apply Wk.bin rfl rfl (r := .bool true) (fun w => by simp [go_sem]) (lt_of_ble rfl)
  apply Wk.pckT rfl (by conv => lhs; whnf) (lt_of_ble rfl)
  apply Wk.mv (by conv => lhs; whnf) (lt_of_ble rfl)
  apply Wk.gon 24 rfl rfl
  apply Wk.fad 3 0 false fd30_3 rfl (lt_of_ble rfl)
  apply Wk.gon 24 rfl rfl
  apply Wk.ld (i := 2) 1 false ty4 rfl rfl (by conv => lhs; whnf) (lt_of_ble rfl)
  apply Wk.gon 24 rfl rfl
  apply Wk.fad 3 0 false fd30_3 rfl (lt_of_ble rfl)
  apply Wk.gon 24 rfl rfl
  apply Wk.ld (i := 3) 1 false ty4 rfl rfl (by conv => lhs; whnf) (lt_of_ble rfl)
  apply Wk.gon 24 rfl rfl
  apply Wk.bin rfl rfl (r := .bool true) (fun w => by simp [go_sem]) (lt_of_ble rfl)
  apply Wk.pckT rfl (by conv => lhs; whnf) (lt_of_ble rfl)
  apply Wk.mv (by conv => lhs; whnf) (lt_of_ble rfl)
  apply Wk.gon 31 rfl rfl
  apply Wk.fad 4 0 false fd30_4 rfl (lt_of_ble rfl)
  apply Wk.gon 31 rfl rfl
  apply Wk.ld (i := 2) 1 false ty4 rfl rfl (by conv => lhs; whnf) (lt_of_ble rfl)
  apply Wk.gon 31 rfl rfl
  apply Wk.fad 4 0 false fd30_4 rfl (lt_of_ble rfl)
  apply Wk.gon 31 rfl rfl
  apply Wk.ld (i := 3) 1 false ty4 rfl rfl (by conv => lhs; whnf) (lt_of_ble rfl)
  apply Wk.gon 31 rfl rfl
  apply Wk.bin rfl rfl (r := .bool true) (fun w => by simp [go_sem]) (lt_of_ble rfl)
  apply Wk.pckT rfl (by conv => lhs; whnf) (lt_of_ble rfl)
  apply Wk.mv (by conv => lhs; whnf) (lt_of_ble rfl)
  apply Wk.gon 38 rfl rfl
  apply Wk.fad 5 0 false fd30_5 rfl (lt_of_ble rfl)
  apply Wk.gon 38 rfl rfl
  apply Wk.ld (i := 2) 1 false ty3 rfl rfl (by conv => lhs; whnf) (lt_of_ble rfl)
  apply Wk.gon 38 rfl rfl
  apply Wk.fad 5 0 false fd30_5 rfl (lt_of_ble rfl)
  apply Wk.gon 38 rfl rfl
  apply Wk.ld (i := 3) 1 false ty3 rfl rfl (by conv => lhs; whnf) (lt_of_ble rfl)
  apply Wk.gon 38 rfl rfl
  apply Wk.bin rfl rfl (r := .bool true) (fun w => by simp [go_sem]) (lt_of_ble rfl)
  apply Wk.pckT rfl (by conv => lhs; whnf) (lt_of_ble rfl)
  apply Wk.mv (by conv => lhs; whnf) (lt_of_ble rfl)
  apply Wk.gon 45 rfl rfl
  apply Wk.fad 6 0 false fd30_6 rfl (lt_of_ble rfl)
  apply Wk.gon 45 rfl rfl
  apply Wk.ld (i := 2) 1 false ty3 rfl rfl (by conv => lhs; whnf) (lt_of_ble rfl)
  apply Wk.gon 45 rfl rfl
  apply Wk.fad 6 0 false fd30_6 rfl (lt_of_ble rfl)
  apply Wk.gon 45 rfl rfl
  apply Wk.ld (i := 3) 1 false ty3 rfl rfl (by conv => lhs; whnf) (lt_of_ble rfl)
  apply Wk.gon 45 rfl rfl
  apply Wk.bin rfl rfl (r := .bool true) (fun w => by simp [go_sem]) (lt_of_ble rfl)
  apply Wk.pckT rfl (by conv => lhs; whnf) (lt_of_ble rfl)
  apply Wk.mv (by conv => lhs; whnf) (lt_of_ble rfl)
  apply Wk.gon 52 rfl rfl
  apply Wk.fad 7 0 false fd30_7 rfl (lt_of_ble rfl)
  apply Wk.gon 52 rfl rfl
  apply Wk.ld (i := 2) 1 false ty3 rfl rfl (by conv => lhs; whnf) (lt_of_ble rfl)
  apply Wk.gon 52 rfl rfl
  apply Wk.fad 7 0 false fd30_7 rfl (lt_of_ble rfl)
  apply Wk.gon 52 rfl rfl
  apply Wk.ld (i := 3) 1 false ty3 rfl rfl (by conv => lhs; whnf) (lt_of_ble rfl)
  apply Wk.gon 52 rfl rfl
  apply Wk.bin rfl rfl (r := .bool true) (fun w => by simp [go_sem]) (lt_of_ble rfl)
  apply Wk.pckT rfl (by conv => lhs; whnf) (lt_of_ble rfl)
  apply Wk.mv (by conv => lhs; whnf) (lt_of_ble rfl)
  apply Wk.gon 59 rfl rfl
  apply Wk.fad 8 0 false fd30_8 rfl (lt_of_ble rfl)
  apply Wk.gon 59 rfl rfl
  apply Wk.ld (i := 2) 1 false ty22 rfl rfl (by conv => lhs; whnf) (lt_of_ble rfl)
  apply Wk.gon 59 rfl rfl
  apply Wk.fad 8 0 false fd30_8 rfl (lt_of_ble rfl)
  apply Wk.gon 59 rfl rfl
  apply Wk.ld (i := 3) 1 false ty22 rfl rfl (by conv => lhs; whnf) (lt_of_ble rfl)
  apply Wk.gon 59 rfl rfl
  apply Wk.dat (liBytes_ok (bs.map (·.val)) (bs.map (·.val))) Try.func22 rfl rfl rfl rfl rfl (lt_of_ble rfl)
  apply Wk.pckT rfl (by conv => lhs; whnf) (lt_of_ble rfl)
  apply Wk.asg (by conv => lhs; whnf) (lt_of_ble rfl)
  refine Wk.nil (AW.ret ?_)
  exact RetQ.ret [] (.cons rfl .nil) ⟨by simp [tupA, St.put, upd], rfl⟩ none_kept
end Go.Proofs.Ytlmadcpoaedagaa

/- Who hears, busy or not: what both sides copy, compare and draw; over what values read as. -/
namespace Go.Proofs.Ytlmadcpoaedagaa
open Go
theorem asData_cd (bs : List (Fin 256)) : asData ((cellsD bs).map (·.map A.d)) (cellsD bs) := by
  simp [asData, nrms, nrm, cellsD]
theorem asData_row (zs : List Nat) : asData ((zs.map fun z : Nat => [D.v (.int .u8 (z : Int))]).map (·.map A.d)) (zs.map fun z : Nat => [.v (.int .u8 (z : Int))]) := by
  simp [asData, nrms, nrm]
theorem copyJoin_ok (m : Int) (bs : List (Fin 256)) (hl : bs.length ≤ 1000) : DataOk Try.prog 58 [joinA m bs] (joinA m bs) := by
  refine Spec.intro (n := 9) (rv := [.cell 2 26]) Try.func58 rfl rfl rfl (by simp) fun C hN hX => ?_
  refine AW.seq ?_
  apply AW.list
  apply Wk.bx 1 rfl rfl (lt_of_ble rfl)
  apply Wk.alc 2 [.int .i64 0, .slice none 0 0] ze26 rfl rfl (lt_of_ble rfl)
  refine Wk.nil ?_
  refine AW.seq ?_
  apply AW.draw (hm := hmix) (cs := _)
  · apply Wk.fad 0 0 false fd26_0 rfl (lt_of_ble rfl)
    apply Wk.ld (i := 1) 1 false ty3 rfl rfl (by conv => lhs; whnf) (lt_of_ble rfl)
    apply Wk.fad 1 0 false fd26_1 rfl (lt_of_ble rfl)
    apply Wk.ld (i := 1) 1 false ty22 rfl rfl (by conv => lhs; whnf) (lt_of_ble rfl)
    apply Wk.appNR 7 1000 1 un22 ap5 rfl rfl rfl (.inr rfl) (by decide) (one_bytes _) (by simp; omega) (lt_of_ble rfl)
    apply Wk.bld [.int .i64 0, .slice none 0 0] [(0, 1), (1, 1)] bl26 rfl (by conv => lhs; whnf) (lt_of_ble rfl)
    apply Wk.sto (i := 2) 2 true ty26 rfl rfl rfl rfl (Nat.le_of_ble_eq_true rfl) (lt_of_ble rfl)
    refine Wk.nil ?_
    refine AW.thawc (j := 2) (c := 1) (i := 7) (cellsD bs) rfl rfl rfl (asData_cd bs) hX.none ?_
    refine AW.ret ?_
    exact RetQ.ret [] (.cons ⟨2, 0, _, _, _, rfl, rfl, ty26, rfl⟩ .nil) ⟨rfl, rfl⟩ none_kept
  · rfl
  · rfl
theorem copy7_ok (e c m : Int) (bs : List (Fin 256)) (a u d : Bool) (hl : bs.length ≤ 1000) : DataOk Try.prog 36 [rxA e c m bs a u d] (rxA e c m bs a u d) := by
  refine Spec.intro (n := 13) (rv := [.cell 2 28]) Try.func36 rfl rfl rfl (by simp) fun C hN hX => ?_
  refine AW.seq ?_
  apply AW.list
  apply Wk.bx 1 rfl rfl (lt_of_ble rfl)
  apply Wk.alc 2 [.int .i64 0, .int .i64 0, .int .i64 0, .slice none 0 0, .bool false, .bool false, .bool false] ze28 rfl rfl (lt_of_ble rfl)
  refine Wk.nil ?_
  refine AW.seq ?_
  apply AW.list
  apply Wk.ld (i := 1) 7 true ty28 rfl rfl (by conv => lhs; whnf) (lt_of_ble rfl)
  apply Wk.alc 3 [.int .i64 0, .int .i64 0, .int .i64 0, .slice none 0 0, .bool false, .bool false, .bool false] ze28 rfl rfl (lt_of_ble rfl)
  apply Wk.sto (i := 3) 7 true ty28 rfl rfl rfl rfl (Nat.le_of_ble_eq_true rfl) (lt_of_ble rfl)
  refine Wk.nil ?_
  refine AW.seq ?_
  apply AW.list
  apply Wk.lst 5 1 false [.int .u8 0] un22 ty5 ze5 rfl rfl (by rfl) (by rfl) (by decide) (by decide) rfl rfl (all_len rfl) (lt_of_ble rfl)
  apply Wk.fad 2 1 true fd28_2 rfl (lt_of_ble rfl)
  apply Wk.fad 1 0 false fd26_1 rfl (lt_of_ble rfl)
  apply Wk.ld (i := 1) 1 false ty22 rfl rfl (by conv => lhs; whnf) (lt_of_ble rfl)
  apply Wk.appOR 5 1000 1 un22 ap5 rfl rfl rfl (.inr rfl) (by decide) (one_bytes _) (by simp) (by simp; omega) (lt_of_ble rfl)
  apply Wk.fad 2 1 true fd28_2 rfl (lt_of_ble rfl)
  apply Wk.fad 1 0 false fd26_1 rfl (lt_of_ble rfl)
  apply Wk.sto (i := 3) 1 false ty22 rfl rfl rfl rfl (Nat.le_of_ble_eq_true rfl) (lt_of_ble rfl)
  refine Wk.nil (thenA_normal ?_)
  refine AW.thawc (j := 3) (c := 3) (i := 5) (cellsD bs) rfl rfl rfl (asData_cd bs) hX.none ?_
  refine AW.seq ?_
  apply AW.list
  apply Wk.ld (i := 3) 7 true ty28 rfl rfl (by conv => lhs; whnf) (lt_of_ble rfl)
  apply Wk.sto (i := 2) 7 true ty28 rfl rfl rfl rfl (Nat.le_of_ble_eq_true rfl) (lt_of_ble rfl)
  refine Wk.nil (AW.ret ?_)
  exact RetQ.ret [] (.cons ⟨2, 0, _, _, _, rfl, rfl, ty28, rfl⟩ .nil) ⟨rfl, rfl⟩ none_kept
theorem liJoin_ok (m : Int) (bs : List (Fin 256)) : DataOk Try.prog 19 [joinA m bs, joinA m bs] (.d (.v (.bool true))) := by
  refine Spec.intro (n := 17) (rv := [.tmp 4]) Try.func19 rfl rfl rfl (by simp) fun C hN hX => ?_
  refine AW.seq ?_
  apply AW.list
  apply Wk.bx 2 rfl rfl (lt_of_ble rfl)
  apply Wk.bx 3 rfl rfl (lt_of_ble rfl)
  apply Wk.asg (by conv => lhs; whnf) (lt_of_ble rfl)
  refine Wk.nil ?_
  refine AW.seq ?_
  apply AW.list
  apply Wk.fad 0 0 false fd26_0 rfl (lt_of_ble rfl)
  apply Wk.ld (i := 2) 1 false ty3 rfl rfl (by conv => lhs; whnf) (lt_of_ble rfl)
  apply Wk.fad 0 0 false fd26_0 rfl (lt_of_ble rfl)
  apply Wk.ld (i := 3) 1 false ty3 rfl rfl (by conv => lhs; whnf) (lt_of_ble rfl)
  apply Wk.bin rfl rfl (r := .bool true) (fun w => by simp [go_sem]) (lt_of_ble rfl)
  apply Wk.mv (by conv => lhs; whnf) (lt_of_ble rfl)
  apply Wk.gon 10 rfl rfl
  apply Wk.fad 1 0 false fd26_1 rfl (lt_of_ble rfl)
  apply Wk.gon 10 rfl rfl
  apply Wk.ld (i := 2) 1 false ty22 rfl rfl (by conv => lhs; whnf) (lt_of_ble rfl)
  apply Wk.gon 10 rfl rfl
  apply Wk.fad 1 0 false fd26_1 rfl (lt_of_ble rfl)
  apply Wk.gon 10 rfl rfl
  apply Wk.ld (i := 3) 1 false ty22 rfl rfl (by conv => lhs; whnf) (lt_of_ble rfl)
  apply Wk.gon 10 rfl rfl
  apply Wk.dat (liBytes_ok (bs.map (·.val)) (bs.map (·.val))) Try.func22 rfl rfl rfl rfl rfl (lt_of_ble rfl)
  apply Wk.pckT rfl (by conv => lhs; whnf) (lt_of_ble rfl)
  apply Wk.asg (by conv => lhs; whnf) (lt_of_ble rfl)
  refine Wk.nil (AW.ret ?_)
  exact RetQ.ret [] (.cons rfl .nil) ⟨by simp [tupA, St.put, upd], rfl⟩ none_kept
set_option maxRecDepth 100000 in
theorem liRx_ok (e c m : Int) (bs : List (Fin 256)) (a u d : Bool) : DataOk Try.prog 11 [rxA e c m bs a u d, rxA e c m bs a u d] (.d (.v (.bool true))) := by
  refine Spec.intro (n := 45) (rv := [.tmp 4]) Try.func11 rfl rfl rfl (by simp) fun C hN hX => ?_
  refine AW.seq ?_
  apply AW.list
  apply Wk.bx 2 rfl rfl (lt_of_ble rfl)
  apply Wk.bx 3 rfl rfl (lt_of_ble rfl)
  apply Wk.asg (by conv => lhs; whnf) (lt_of_ble rfl)
  refine Wk.nil ?_
  refine AW.seq ?_
  apply AW.list
  apply Wk.fad 0 0 false fd28_0 rfl (lt_of_ble rfl)
  apply Wk.ld (i := 2) 1 false ty3 rfl rfl (by conv => lhs; whnf) (lt_of_ble rfl)
  apply Wk.fad 0 0 false fd28_0 rfl (lt_of_ble rfl)
  apply Wk.ld (i := 3) 1 false ty3 rfl rfl (by conv => lhs; whnf) (lt_of_ble rfl)
  apply Wk.bin rfl rfl (r := .bool true) (fun w => by simp [go_sem]) (lt_of_ble rfl)
  apply Wk.mv (by conv => lhs; whnf) (lt_of_ble rfl)
  apply Wk.gon 10 rfl rfl
  apply Wk.fad 1 0 false fd28_1 rfl (lt_of_ble rfl)
  apply Wk.gon 10 rfl rfl
  apply Wk.ld (i := 2) 1 false ty3 rfl rfl (by conv => lhs; whnf) (lt_of_ble rfl)
  apply Wk.gon 10 rfl rfl
  apply Wk.fad 1 0 false fd28_1 rfl (lt_of_ble rfl)
  apply Wk.gon 10 rfl rfl
  apply Wk.ld (i := 3) 1 false ty3 rfl rfl (by conv => lhs; whnf) (lt_of_ble rfl)
  apply Wk.gon 10 rfl rfl
  apply Wk.bin rfl rfl (r := .bool true) (fun w => by simp [go_sem]) (lt_of_ble rfl)
  apply Wk.pckT rfl (by conv => lhs; whnf) (lt_of_ble rfl)
  apply Wk.mv (by conv => lhs; whnf) (lt_of_ble rfl)
  apply Wk.gon 17 rfl rfl
  apply Wk.fad 2 1 true fd28_2 rfl (lt_of_ble rfl)
  apply Wk.gon 17 rfl rfl
  apply Wk.ld (i := 2) 2 true ty26 rfl rfl (by conv => lhs; whnf) (lt_of_ble rfl)
  apply Wk.gon 17 rfl rfl
  apply Wk.fad 2 1 true fd28_2 rfl (lt_of_ble rfl)
  apply Wk.gon 17 rfl rfl
  apply Wk.ld (i := 3) 2 true ty26 rfl rfl (by conv => lhs; whnf) (lt_of_ble rfl)
  apply Wk.gon 17 rfl rfl
  apply Wk.dat (liJoin_ok m bs) Try.func19 rfl rfl rfl rfl rfl (lt_of_ble rfl)
  apply Wk.pckT rfl (by conv => lhs; whnf) (lt_of_ble rfl)
  apply Wk.mv (by conv => lhs; whnf) (lt_of_ble rfl)
  apply Wk.gon 24 rfl rfl
  apply Wk.fad 4 0 false fd28_3 rfl (lt_of_ble rfl)
  apply Wk.gon 24 rfl rfl
  apply Wk.ld (i := 2) 1 false ty4 rfl rfl (by conv => lhs; whnf) (lt_of_ble rfl)
  apply Wk.gon 24 rfl rfl
  apply Wk.fad 4 0 false fd28_3 rfl (lt_of_ble rfl)
  apply Wk.gon 24 rfl rfl
  apply Wk.ld (i := 3) 1 false ty4 rfl rfl (by conv => lhs; whnf) (lt_of_ble rfl)
  apply Wk.gon 24 rfl rfl
  apply Wk.bin rfl rfl (r := .bool true) (fun w => by simp [go_sem]) (lt_of_ble rfl)
  apply Wk.pckT rfl (by conv => lhs; whnf) (lt_of_ble rfl)
  apply Wk.mv (by conv => lhs; whnf) (lt_of_ble rfl)
  apply Wk.gon 31 rfl rfl
  apply Wk.fad 5 0 false fd28_4 rfl (lt_of_ble rfl)
  apply Wk.gon 31 rfl rfl
  apply Wk.ld (i := 2) 1 false ty4 rfl rfl (by conv => lhs; whnf) (lt_of_ble rfl)
  apply Wk.gon 31 rfl rfl
  apply Wk.fad 5 0 false fd28_4 rfl (lt_of_ble rfl)
  apply Wk.gon 31 rfl rfl
  apply Wk.ld (i := 3) 1 false ty4 rfl rfl (by conv => lhs; whnf) (lt_of_ble rfl)
  apply Wk.gon 31 rfl rfl
  apply Wk.bin rfl rfl (r := .bool true) (fun w => by simp [go_sem]) (lt_of_ble rfl)
  apply Wk.pckT rfl (by conv => lhs; whnf) (lt_of_ble rfl)
  apply Wk.mv (by conv => lhs; whnf) (lt_of_ble rfl)
  apply Wk.gon 38 rfl rfl
  apply Wk.fad 6 0 false fd28_5 rfl (lt_of_ble rfl)
  apply Wk.gon 38 rfl rfl
  apply Wk.ld (i := 2) 1 false ty4 rfl rfl (by conv => lhs; whnf) (lt_of_ble rfl)
  apply Wk.gon 38 rfl rfl
  apply Wk.fad 6 0 false fd28_5 rfl (lt_of_ble rfl)
  apply Wk.gon 38 rfl rfl
  apply Wk.ld (i := 3) 1 false ty4 rfl rfl (by conv => lhs; whnf) (lt_of_ble rfl)
  apply Wk.gon 38 rfl rfl
  apply Wk.bin rfl rfl (r := .bool true) (fun w => by simp [go_sem]) (lt_of_ble rfl)
  apply Wk.pckT rfl (by conv => lhs; whnf) (lt_of_ble rfl)
  apply Wk.asg (by conv => lhs; whnf) (lt_of_ble rfl)
  refine Wk.nil (AW.ret ?_)
  exact RetQ.ret [] (.cons rfl .nil) ⟨rfl, rfl⟩ none_kept
end Go.Proofs.Ytlmadcpoaedagaa

/- What one wants, drawn; over what values read as. Written by tools/mk_AbsCfg.py. -/
namespace Go.Proofs.Ytlmadcpoaedagaa
open Go
def cfgA (m w s t y : Int) : A := .agg [.d (.v (.int .i64 m)), .d (.v (.int .i64 w)), .d (.v (.int .i64 s)), .d (.v (.int .i64 t)), .d (.v (.int .i64 y))]
def cfgB (m w s t y : Int) : Prop := (1 ≤ m ∧ m ≤ 2) ∧ (1 ≤ w ∧ w ≤ 4) ∧ (1 ≤ s ∧ s ≤ 8) ∧ (1 ≤ t ∧ t ≤ 24) ∧ (1 ≤ y ∧ y ≤ 5)
def cfgPost (rest : List A) (r : A) : Prop := ∃ m w s t y : Int, r = cfgA m w s t y ∧ (0 ≤ m ∧ m ≤ 3 ∧ 0 ≤ w ∧ w ≤ 5 ∧ 0 ≤ s ∧ s ≤ 9 ∧ 0 ≤ t ∧ t ≤ 25 ∧ 0 ≤ y ∧ y ≤ 6) ∧ (rest = [.d (.v (.int .i64 0))] → cfgB m w s t y)
set_option maxRecDepth 100000 in
theorem cfg_ok : DrawOk Try.prog 25 (fun rest => ∃ n : Int, rest = [.d (.v (.int .i64 n))] ∧ n ≤ 1000000 ∧ -1000000 ≤ n) cfgPost 20 := by
  refine DrawOk.zero ?_ ?_ ?_ ?_
  · rintro zs p rest ⟨n, rfl, hn, hn'⟩ hp
    refine Spec.intro (n := 76) (rv := [.cell 4 24]) Try.func25 rfl rfl rfl (by simp) fun C hN hX => ?_
    refine AW.seq ?_
    apply AW.list
    apply Wk.alc 4 [.int .i64 0, .int .i64 0, .int .i64 0, .int .i64 0, .int .i64 0] ze24 rfl rfl (lt_of_ble rfl)
    refine Wk.nil ?_
    let inv : List (Fin 256) × Nat × Int × Int × Int × Int × Int → St := fun x => St.of 76 [(0, .ptr 0 0), (1, .d (.v (.int .i64 n))), (4, .ptr 4 0), (5, .ptr 5 0)] [(0, rdr x.1 x.2.1), (4, .var [.d (.v (.int .i64 0)), .d (.v (.int .i64 0)), .d (.v (.int .i64 0)), .d (.v (.int .i64 0)), .d (.v (.int .i64 0))]), (5, .var [.d (.v (.int .i64 x.2.2.1)), .d (.v (.int .i64 x.2.2.2.1)), .d (.v (.int .i64 x.2.2.2.2.1)), .d (.v (.int .i64 x.2.2.2.2.2.1)), .d (.v (.int .i64 x.2.2.2.2.2.2))])]
    refine AW.via inv (fun x => (x.2.1 ≤ p + 10) ∧ (0 ≤ x.2.2.1 ∧ x.2.2.1 ≤ 3 ∧ 0 ≤ x.2.2.2.1 ∧ x.2.2.2.1 ≤ 5 ∧ 0 ≤ x.2.2.2.2.1 ∧ x.2.2.2.2.1 ≤ 9 ∧ 0 ≤ x.2.2.2.2.2.1 ∧ x.2.2.2.2.2.1 ≤ 25 ∧ 0 ≤ x.2.2.2.2.2.2 ∧ x.2.2.2.2.2.2 ≤ 6) ∧ (n = 0 → cfgB x.2.2.1 x.2.2.2.1 x.2.2.2.2.1 x.2.2.2.2.2.1 x.2.2.2.2.2.2)) ?_ ?_
    · apply AW.draw (hm := hmix) (cs := _)
      · apply Wk.mv (by conv => lhs; whnf) (lt_of_ble rfl)
        apply Wk.drw 0 pick_ok Try.func28 rfl rfl rfl rfl ⟨_, rfl, by omega⟩ (by omega) rfl (lt_of_ble rfl)
        rintro r1 zs1 p1 ⟨k1, rfl, hk1⟩ hp1
        replace hk1 := hk1 _ rfl
        apply Wk.addi rfl rfl (by omega) (lt_of_ble rfl)
        apply Wk.mv (by conv => lhs; whnf) (lt_of_ble rfl)
        apply Wk.drw 0 pick_ok Try.func28 rfl rfl rfl rfl ⟨_, rfl, by omega⟩ (by omega) rfl (lt_of_ble rfl)
        rintro r2 zs2 p2 ⟨k2, rfl, hk2⟩ hp2
        replace hk2 := hk2 _ rfl
        apply Wk.addi rfl rfl (by omega) (lt_of_ble rfl)
        apply Wk.mv (by conv => lhs; whnf) (lt_of_ble rfl)
        apply Wk.drw 0 pick_ok Try.func28 rfl rfl rfl rfl ⟨_, rfl, by omega⟩ (by omega) rfl (lt_of_ble rfl)
        rintro r3 zs3 p3 ⟨k3, rfl, hk3⟩ hp3
        replace hk3 := hk3 _ rfl
        apply Wk.addi rfl rfl (by omega) (lt_of_ble rfl)
        apply Wk.lst 15 1 false [.int .i64 0] un59 ty3 ze3 rfl rfl (by rfl) (by rfl) (by decide) (by decide) rfl rfl (all_len rfl) (lt_of_ble rfl)
        apply Wk.mv (by conv => lhs; whnf) (lt_of_ble rfl)
        apply Wk.drw 0 pick_ok Try.func28 rfl rfl rfl rfl ⟨_, rfl, by omega⟩ (by omega) rfl (lt_of_ble rfl)
        rintro r4 zs4 p4 ⟨k4, rfl, hk4⟩ hp4
        have hk4' : k4 < 3 := by have := hk4 3 rfl; omega
        obtain ⟨s, hs, hs1, hs2⟩ : ∃ v : Int, partA (List.flatten [[A.d (.v (.int .i64 (1 + (k3 : Int))))], [.d (.v (.int .i64 3))], [.d (.v (.int .i64 8))]]) (k4 * 1) 1 false = some (.d (.v (.int .i64 v))) ∧ 1 ≤ v ∧ v ≤ 8 := by
          rcases (show k4 = 0 ∨ k4 = 1 ∨ k4 = 2 by omega) with rfl | rfl | rfl
          · exact ⟨_, rfl, by omega, by omega⟩
          · exact ⟨_, rfl, by omega, by omega⟩
          · exact ⟨_, rfl, by omega, by omega⟩
        apply Wk.iado 15 1 false un59 ty3 rfl rfl rfl hk4' (lt_of_ble rfl)
        apply Wk.ldo (i := 15) 1 false ty3 rfl rfl hs (lt_of_ble rfl)
        apply Wk.mv (by conv => lhs; whnf) (lt_of_ble rfl)
        apply Wk.drw 0 pick_ok Try.func28 rfl rfl rfl rfl ⟨_, rfl, by omega⟩ (by omega) rfl (lt_of_ble rfl)
        rintro r5 zs5 p5 ⟨k5, rfl, hk5⟩ hp5
        replace hk5 := hk5 _ rfl
        apply Wk.addi rfl rfl (by omega) (lt_of_ble rfl)
        apply Wk.lst 23 1 false [.int .i64 0] un59 ty3 ze3 rfl rfl (by rfl) (by rfl) (by decide) (by decide) rfl rfl (all_len rfl) (lt_of_ble rfl)
        apply Wk.mv (by conv => lhs; whnf) (lt_of_ble rfl)
        apply Wk.drw 0 pick_ok Try.func28 rfl rfl rfl rfl ⟨_, rfl, by omega⟩ (by omega) rfl (lt_of_ble rfl)
        rintro r6 zs6 p6 ⟨k6, rfl, hk6⟩ hp6
        have hk6' : k6 < 2 := by have := hk6 2 rfl; omega
        obtain ⟨t, ht, ht1, ht2⟩ : ∃ v : Int, partA (List.flatten [[A.d (.v (.int .i64 24))], [.d (.v (.int .i64 (1 + (k5 : Int))))]]) (k6 * 1) 1 false = some (.d (.v (.int .i64 v))) ∧ 1 ≤ v ∧ v ≤ 24 := by
          rcases (show k6 = 0 ∨ k6 = 1 by omega) with rfl | rfl
          · exact ⟨_, rfl, by omega, by omega⟩
          · exact ⟨_, rfl, by omega, by omega⟩
        apply Wk.iado 23 1 false un59 ty3 rfl rfl rfl hk6' (lt_of_ble rfl)
        apply Wk.ldo (i := 23) 1 false ty3 rfl rfl ht (lt_of_ble rfl)
        apply Wk.mv (by conv => lhs; whnf) (lt_of_ble rfl)
        apply Wk.drw 0 pick_ok Try.func28 rfl rfl rfl rfl ⟨_, rfl, by omega⟩ (by omega) rfl (lt_of_ble rfl)
        rintro r7 zs7 p7 ⟨k7, rfl, hk7⟩ hp7
        replace hk7 := hk7 _ rfl
        apply Wk.addi rfl rfl (by omega) (lt_of_ble rfl)
        apply Wk.bld [.int .i64 0, .int .i64 0, .int .i64 0, .int .i64 0, .int .i64 0] [(0, 1), (1, 1), (2, 1), (3, 1), (4, 1)] bl24 rfl (by conv => lhs; whnf) (lt_of_ble rfl)
        apply Wk.alc 5 [.int .i64 0, .int .i64 0, .int .i64 0, .int .i64 0, .int .i64 0] ze24 rfl rfl (lt_of_ble rfl)
        apply Wk.sto (i := 5) 5 true ty24 rfl rfl rfl rfl (Nat.le_of_ble_eq_true rfl) (lt_of_ble rfl)
        refine Wk.nil (thenA_normal ?_)
        exact ⟨(zs7, p7, 1 + (k1 : Int), 1 + (k2 : Int), s, t, 1 + (k7 : Int)), ⟨by simp only; omega, by simp only; omega, fun _ => by unfold cfgB; simp only; omega⟩, fun a w => Rel.keep ⟨rfl, .cons rfl rfl (.cons rfl rfl (.cons rfl rfl (.cons rfl rfl .nil))), .cons rfl rfl (.cons rfl rfl (.cons rfl rfl .nil)), hN.mono (by simp [keys])⟩⟩
      · rfl
      · rfl
    · rintro ⟨zs8, p8, m, w, s, t, y⟩ ⟨hp8, hv8, hb8⟩
      simp only at hp8 hv8 hb8
      obtain ⟨hm1, hm2, hw1, hw2, hs1, hs2, ht1, ht2, hy1, hy2⟩ := hv8
      show AW Try.prog C _ _ (St.of 76 [(0, .ptr 0 0), (1, .d (.v (.int .i64 n))), (4, .ptr 4 0), (5, .ptr 5 0)] [(0, rdr zs8 p8), (4, .var [.d (.v (.int .i64 0)), .d (.v (.int .i64 0)), .d (.v (.int .i64 0)), .d (.v (.int .i64 0)), .d (.v (.int .i64 0))]), (5, .var [.d (.v (.int .i64 m)), .d (.v (.int .i64 w)), .d (.v (.int .i64 s)), .d (.v (.int .i64 t)), .d (.v (.int .i64 y))])])
      refine AW.via inv (fun x => (x.2.1 ≤ p + 20) ∧ (0 ≤ x.2.2.1 ∧ x.2.2.1 ≤ 3 ∧ 0 ≤ x.2.2.2.1 ∧ x.2.2.2.1 ≤ 5 ∧ 0 ≤ x.2.2.2.2.1 ∧ x.2.2.2.2.1 ≤ 9 ∧ 0 ≤ x.2.2.2.2.2.1 ∧ x.2.2.2.2.2.1 ≤ 25 ∧ 0 ≤ x.2.2.2.2.2.2 ∧ x.2.2.2.2.2.2 ≤ 6) ∧ (n = 0 → cfgB x.2.2.1 x.2.2.2.1 x.2.2.2.2.1 x.2.2.2.2.2.1 x.2.2.2.2.2.2)) ?_ ?_
      · refine AW.seq ?_
        apply AW.list
        apply Wk.mv (by conv => lhs; whnf) (lt_of_ble rfl)
        apply Wk.mv (by conv => lhs; whnf) (lt_of_ble rfl)
        apply Wk.drw 0 odd_ok Try.func52 rfl rfl rfl rfl ⟨_, rfl, by omega⟩ (by omega) rfl (lt_of_ble rfl)
        rintro r6 zs6 p6 ⟨b6, rfl, hb6⟩ hp6
        replace hb6 : n = 0 → b6 = false := fun e => hb6 (by rw [e])
        refine Wk.nil ?_
        refine AW.cond rfl (fun hc6 => ?_) (fun hc6 => ?_)
        · refine AW.seq ?_
          apply AW.list
          apply Wk.mv (by conv => lhs; whnf) (lt_of_ble rfl)
          apply Wk.drw 0 pick_ok Try.func28 rfl rfl rfl rfl ⟨_, rfl, by omega⟩ (by omega) rfl (lt_of_ble rfl)
          rintro r7 zs7 p7 ⟨k7, rfl, _⟩ hp7
          refine Wk.nil (AW.block ?_)
          refine AW.seq ?_
          apply AW.list
          apply Wk.bin rfl rfl (fun w => by simp [go_sem] <;> rfl) (lt_of_ble rfl)
          apply Wk.asg (by conv => lhs; whnf) (lt_of_ble rfl)
          refine Wk.nil ?_
          refine AW.cond rfl (fun hc => ?_) (fun hc => ?_)
          · apply AW.list
            apply Wk.lst 45 1 false [.int .i64 0] un59 ty3 ze3 rfl rfl (by rfl) (by rfl) (by decide) (by decide) rfl rfl (all_len rfl) (lt_of_ble rfl)
            apply Wk.mv (by conv => lhs; whnf) (lt_of_ble rfl)
            apply Wk.drw 0 pick_ok Try.func28 rfl rfl rfl rfl ⟨_, rfl, by omega⟩ (by omega) rfl (lt_of_ble rfl)
            rintro r9 zs9 p9 ⟨k9, rfl, hk9⟩ hp9
            have hk9' : k9 < 2 := by have := hk9 2 rfl; omega
            obtain ⟨v, hv, hv1, hv2⟩ : ∃ v : Int, partA (List.flatten [[A.d (.v (.int .i64 0))], [.d (.v (.int .i64 3))]]) (k9 * 1) 1 false = some (.d (.v (.int .i64 v))) ∧ 0 ≤ v ∧ v ≤ 3 := by
              rcases (show k9 = 0 ∨ k9 = 1 by omega) with rfl | rfl
              · exact ⟨_, rfl, by omega, by omega⟩
              · exact ⟨_, rfl, by omega, by omega⟩
            apply Wk.iado 45 1 false un59 ty3 rfl rfl rfl hk9' (lt_of_ble rfl)
            apply Wk.ldo (i := 45) 1 false ty3 rfl rfl hv (lt_of_ble rfl)
            apply Wk.fad 0 0 false fd24_0 rfl (lt_of_ble rfl)
            apply Wk.sto (i := 5) 1 false ty3 rfl rfl rfl rfl (Nat.le_of_ble_eq_true rfl) (lt_of_ble rfl)
            refine Wk.nil (inBlockA_normal (thenA_normal ?_))
            exact ⟨(zs9, p9, v, w, s, t, y), ⟨by simp only; omega, by simp only; omega, fun e => absurd (hb6 e) (by rw [hc6]; decide)⟩, fun a w => Rel.keep ⟨rfl, .cons rfl rfl (.cons rfl rfl (.cons rfl rfl (.cons rfl rfl .nil))), .cons rfl rfl (.cons rfl rfl (.cons rfl rfl .nil)), hN.mono (by simp [keys])⟩⟩
          · skip
            refine AW.seq ?_
            apply AW.list
            apply Wk.bin rfl rfl (fun w => by simp [go_sem] <;> rfl) (lt_of_ble rfl)
            apply Wk.asg (by conv => lhs; whnf) (lt_of_ble rfl)
            refine Wk.nil ?_
            refine AW.cond rfl (fun hc => ?_) (fun hc => ?_)
            · apply AW.list
              apply Wk.lst 53 1 false [.int .i64 0] un59 ty3 ze3 rfl rfl (by rfl) (by rfl) (by decide) (by decide) rfl rfl (all_len rfl) (lt_of_ble rfl)
              apply Wk.mv (by conv => lhs; whnf) (lt_of_ble rfl)
              apply Wk.drw 0 pick_ok Try.func28 rfl rfl rfl rfl ⟨_, rfl, by omega⟩ (by omega) rfl (lt_of_ble rfl)
              rintro r9 zs9 p9 ⟨k9, rfl, hk9⟩ hp9
              have hk9' : k9 < 2 := by have := hk9 2 rfl; omega
              obtain ⟨v, hv, hv1, hv2⟩ : ∃ v : Int, partA (List.flatten [[A.d (.v (.int .i64 0))], [.d (.v (.int .i64 5))]]) (k9 * 1) 1 false = some (.d (.v (.int .i64 v))) ∧ 0 ≤ v ∧ v ≤ 5 := by
                rcases (show k9 = 0 ∨ k9 = 1 by omega) with rfl | rfl
                · exact ⟨_, rfl, by omega, by omega⟩
                · exact ⟨_, rfl, by omega, by omega⟩
              apply Wk.iado 53 1 false un59 ty3 rfl rfl rfl hk9' (lt_of_ble rfl)
              apply Wk.ldo (i := 53) 1 false ty3 rfl rfl hv (lt_of_ble rfl)
              apply Wk.fad 1 0 false fd24_1 rfl (lt_of_ble rfl)
              apply Wk.sto (i := 5) 1 false ty3 rfl rfl rfl rfl (Nat.le_of_ble_eq_true rfl) (lt_of_ble rfl)
              refine Wk.nil (inBlockA_normal (thenA_normal ?_))
              exact ⟨(zs9, p9, m, v, s, t, y), ⟨by simp only; omega, by simp only; omega, fun e => absurd (hb6 e) (by rw [hc6]; decide)⟩, fun a w => Rel.keep ⟨rfl, .cons rfl rfl (.cons rfl rfl (.cons rfl rfl (.cons rfl rfl .nil))), .cons rfl rfl (.cons rfl rfl (.cons rfl rfl .nil)), hN.mono (by simp [keys])⟩⟩
            · skip
              refine AW.seq ?_
              apply AW.list
              apply Wk.bin rfl rfl (fun w => by simp [go_sem] <;> rfl) (lt_of_ble rfl)
              apply Wk.asg (by conv => lhs; whnf) (lt_of_ble rfl)
              refine Wk.nil ?_
              refine AW.cond rfl (fun hc => ?_) (fun hc => ?_)
              · apply AW.list
                apply Wk.lst 61 1 false [.int .i64 0] un59 ty3 ze3 rfl rfl (by rfl) (by rfl) (by decide) (by decide) rfl rfl (all_len rfl) (lt_of_ble rfl)
                apply Wk.mv (by conv => lhs; whnf) (lt_of_ble rfl)
                apply Wk.drw 0 pick_ok Try.func28 rfl rfl rfl rfl ⟨_, rfl, by omega⟩ (by omega) rfl (lt_of_ble rfl)
                rintro r9 zs9 p9 ⟨k9, rfl, hk9⟩ hp9
                have hk9' : k9 < 2 := by have := hk9 2 rfl; omega
                obtain ⟨v, hv, hv1, hv2⟩ : ∃ v : Int, partA (List.flatten [[A.d (.v (.int .i64 0))], [.d (.v (.int .i64 9))]]) (k9 * 1) 1 false = some (.d (.v (.int .i64 v))) ∧ 0 ≤ v ∧ v ≤ 9 := by
                  rcases (show k9 = 0 ∨ k9 = 1 by omega) with rfl | rfl
                  · exact ⟨_, rfl, by omega, by omega⟩
                  · exact ⟨_, rfl, by omega, by omega⟩
                apply Wk.iado 61 1 false un59 ty3 rfl rfl rfl hk9' (lt_of_ble rfl)
                apply Wk.ldo (i := 61) 1 false ty3 rfl rfl hv (lt_of_ble rfl)
                apply Wk.fad 2 0 false fd24_2 rfl (lt_of_ble rfl)
                apply Wk.sto (i := 5) 1 false ty3 rfl rfl rfl rfl (Nat.le_of_ble_eq_true rfl) (lt_of_ble rfl)
                refine Wk.nil (inBlockA_normal (thenA_normal ?_))
                exact ⟨(zs9, p9, m, w, v, t, y), ⟨by simp only; omega, by simp only; omega, fun e => absurd (hb6 e) (by rw [hc6]; decide)⟩, fun a w => Rel.keep ⟨rfl, .cons rfl rfl (.cons rfl rfl (.cons rfl rfl (.cons rfl rfl .nil))), .cons rfl rfl (.cons rfl rfl (.cons rfl rfl .nil)), hN.mono (by simp [keys])⟩⟩
              · skip
                refine AW.seq ?_
                apply AW.list
                apply Wk.bin rfl rfl (fun w => by simp [go_sem] <;> rfl) (lt_of_ble rfl)
                apply Wk.asg (by conv => lhs; whnf) (lt_of_ble rfl)
                refine Wk.nil ?_
                refine AW.cond rfl (fun hc => ?_) (fun hc => ?_)
                · apply AW.list
                  apply Wk.lst 69 1 false [.int .i64 0] un59 ty3 ze3 rfl rfl (by rfl) (by rfl) (by decide) (by decide) rfl rfl (all_len rfl) (lt_of_ble rfl)
                  apply Wk.mv (by conv => lhs; whnf) (lt_of_ble rfl)
                  apply Wk.drw 0 pick_ok Try.func28 rfl rfl rfl rfl ⟨_, rfl, by omega⟩ (by omega) rfl (lt_of_ble rfl)
                  rintro r9 zs9 p9 ⟨k9, rfl, hk9⟩ hp9
                  have hk9' : k9 < 2 := by have := hk9 2 rfl; omega
                  obtain ⟨v, hv, hv1, hv2⟩ : ∃ v : Int, partA (List.flatten [[A.d (.v (.int .i64 0))], [.d (.v (.int .i64 25))]]) (k9 * 1) 1 false = some (.d (.v (.int .i64 v))) ∧ 0 ≤ v ∧ v ≤ 25 := by
                    rcases (show k9 = 0 ∨ k9 = 1 by omega) with rfl | rfl
                    · exact ⟨_, rfl, by omega, by omega⟩
                    · exact ⟨_, rfl, by omega, by omega⟩
                  apply Wk.iado 69 1 false un59 ty3 rfl rfl rfl hk9' (lt_of_ble rfl)
                  apply Wk.ldo (i := 69) 1 false ty3 rfl rfl hv (lt_of_ble rfl)
                  apply Wk.fad 3 0 false fd24_3 rfl (lt_of_ble rfl)
                  apply Wk.sto (i := 5) 1 false ty3 rfl rfl rfl rfl (Nat.le_of_ble_eq_true rfl) (lt_of_ble rfl)
                  refine Wk.nil (inBlockA_normal (thenA_normal ?_))
                  exact ⟨(zs9, p9, m, w, s, v, y), ⟨by simp only; omega, by simp only; omega, fun e => absurd (hb6 e) (by rw [hc6]; decide)⟩, fun a w => Rel.keep ⟨rfl, .cons rfl rfl (.cons rfl rfl (.cons rfl rfl (.cons rfl rfl .nil))), .cons rfl rfl (.cons rfl rfl (.cons rfl rfl .nil)), hN.mono (by simp [keys])⟩⟩
                · skip
                  apply AW.list
                  apply Wk.lst 37 1 false [.int .i64 0] un59 ty3 ze3 rfl rfl (by rfl) (by rfl) (by decide) (by decide) rfl rfl (all_len rfl) (lt_of_ble rfl)
                  apply Wk.mv (by conv => lhs; whnf) (lt_of_ble rfl)
                  apply Wk.drw 0 pick_ok Try.func28 rfl rfl rfl rfl ⟨_, rfl, by omega⟩ (by omega) rfl (lt_of_ble rfl)
                  rintro r9 zs9 p9 ⟨k9, rfl, hk9⟩ hp9
                  have hk9' : k9 < 2 := by have := hk9 2 rfl; omega
                  obtain ⟨v, hv, hv1, hv2⟩ : ∃ v : Int, partA (List.flatten [[A.d (.v (.int .i64 0))], [.d (.v (.int .i64 6))]]) (k9 * 1) 1 false = some (.d (.v (.int .i64 v))) ∧ 0 ≤ v ∧ v ≤ 6 := by
                    rcases (show k9 = 0 ∨ k9 = 1 by omega) with rfl | rfl
                    · exact ⟨_, rfl, by omega, by omega⟩
                    · exact ⟨_, rfl, by omega, by omega⟩
                  apply Wk.iado 37 1 false un59 ty3 rfl rfl rfl hk9' (lt_of_ble rfl)
                  apply Wk.ldo (i := 37) 1 false ty3 rfl rfl hv (lt_of_ble rfl)
                  apply Wk.fad 4 0 false fd24_4 rfl (lt_of_ble rfl)
                  apply Wk.sto (i := 5) 1 false ty3 rfl rfl rfl rfl (Nat.le_of_ble_eq_true rfl) (lt_of_ble rfl)
                  refine Wk.nil (inBlockA_normal (thenA_normal ?_))
                  exact ⟨(zs9, p9, m, w, s, t, v), ⟨by simp only; omega, by simp only; omega, fun e => absurd (hb6 e) (by rw [hc6]; decide)⟩, fun a w => Rel.keep ⟨rfl, .cons rfl rfl (.cons rfl rfl (.cons rfl rfl (.cons rfl rfl .nil))), .cons rfl rfl (.cons rfl rfl (.cons rfl rfl .nil)), hN.mono (by simp [keys])⟩⟩
        · refine AW.skip (thenA_normal ?_)
          exact ⟨(zs6, p6, m, w, s, t, y), ⟨by simp only; omega, by simp only; omega, hb8⟩, fun a w => Rel.keep ⟨rfl, .cons rfl rfl (.cons rfl rfl (.cons rfl rfl (.cons rfl rfl .nil))), .cons rfl rfl (.cons rfl rfl (.cons rfl rfl .nil)), hN.mono (by simp [keys])⟩⟩
      · rintro ⟨zs9, p9, m, w, s, t, y⟩ ⟨hp9, hv9, hb9⟩
        simp only at hp9 hv9 hb9
        show AW Try.prog C _ _ (St.of 76 [(0, .ptr 0 0), (1, .d (.v (.int .i64 n))), (4, .ptr 4 0), (5, .ptr 5 0)] [(0, rdr zs9 p9), (4, .var [.d (.v (.int .i64 0)), .d (.v (.int .i64 0)), .d (.v (.int .i64 0)), .d (.v (.int .i64 0)), .d (.v (.int .i64 0))]), (5, .var [.d (.v (.int .i64 m)), .d (.v (.int .i64 w)), .d (.v (.int .i64 s)), .d (.v (.int .i64 t)), .d (.v (.int .i64 y))])])
        refine AW.seq ?_
        apply AW.list
        apply Wk.ld (i := 5) 5 true ty24 rfl rfl (by conv => lhs; whnf) (lt_of_ble rfl)
        apply Wk.sto (i := 4) 5 true ty24 rfl rfl rfl rfl (Nat.le_of_ble_eq_true rfl) (lt_of_ble rfl)
        refine Wk.nil (AW.ret ?_)
        refine RetQ.ret [(0, rdr zs9 p9)] (.cons ⟨4, 0, _, _, _, rfl, rfl, ty24, rfl⟩ .nil) ⟨⟨m, w, s, t, y, rfl, hv9, fun e => hb9 ?_⟩, _, _, rfl, hp9⟩ (kept1 rfl)
        simpa using e
  · rintro rest ⟨n, rfl, _⟩; rfl
  · rintro rest _; exact ⟨_, 1, 1, 1, 1, 1, rfl, by omega, fun _ => by unfold cfgB; omega⟩
  · rintro rest r ⟨m, w, s, t, y, rfl, _⟩; rfl
end Go.Proofs.Ytlmadcpoaedagaa

/- A piece, drawn, whose bytes are a list of the call's own; over what values read as. -/
namespace Go.Proofs.Ytlmadcpoaedagaa
open Go
def ownB (q : Nat) (bs : List (Fin 256)) : Bx := .own q 5 1 (cellsB bs)
theorem ownB_in {q : Nat} {bs : List (Fin 256)} {K : List Nat} : (ownB q bs).within K = true := within_cellsB bs
/-- Bytes, drawn, that are a list of the call's own. -/
def bytesOPost (rest : List A) (r : A) (ex : List (Nat × Bx)) : Prop := ∃ q bs, r = .own 7 q ∧ ex = [(7, ownB q bs)] ∧ ∀ n : Nat, rest = [.d (.v (.int .i64 (n : Int)))] → bs.length ≤ n
set_option maxRecDepth 100000 in
theorem bytesO_ok : DrawX Try.prog 69 (fun rest => ∃ n : Nat, rest = [.d (.v (.int .i64 (n : Int)))] ∧ n ≤ 1000) bytesOPost 3001 [7] := by
 refine ⟨?_, ?_, ?_⟩
 · rintro zs p rest ⟨n, rfl, hn⟩ hp
   refine Spec.intro (n := 30) (rv := [.tmp 4]) Try.func69 rfl rfl rfl (by simp) fun C hN hX => ?_
   refine AW.seq ?_
   apply AW.list
   apply Wk.asg (by conv => lhs; whnf) (lt_of_ble rfl)
   refine Wk.nil ?_
   refine AW.seq ?_
   apply AW.list
   apply Wk.lst 7 1 false [.int .u8 0] un22 ty5 ze5 rfl rfl (by rfl) (by rfl) (by decide) (by decide) rfl rfl (all_len rfl) (lt_of_ble rfl)
   apply Wk.asg (by conv => lhs; whnf) (lt_of_ble rfl)
   refine Wk.nil ?_
   refine AW.seq (AW.seq ?_)
   apply AW.list
   apply Wk.mv (by conv => lhs; whnf) (lt_of_ble rfl)
   apply Wk.mv (by conv => lhs; whnf) (lt_of_ble rfl)
   apply Wk.addi rfl rfl (by omega) (lt_of_ble rfl)
   apply Wk.drw 0 pick_ok Try.func28 rfl rfl rfl rfl ⟨(n : Int) + 1, rfl, by omega⟩ (by omega) rfl (lt_of_ble rfl)
   rintro r zs1 p1 ⟨k, rfl, hk⟩ hp1
   replace hk := hk _ rfl
   apply Wk.asg (by conv => lhs; whnf) (lt_of_ble rfl)
   refine Wk.nil ?_
   refine AW.block ?_
   let inv : Nat × Nat × List (Fin 256) × Nat × List (Fin 256) → St := fun x => St.of 30 [(0, .ptr 0 0), (5, .own 7 x.2.1), (6, .d (.v (.int .i64 (x.1 : Int))))] [(0, rdr x.2.2.1 x.2.2.2.1), (7, .own x.2.1 5 1 (cellsB x.2.2.2.2))]
   refine AW.loop inv (fun x => x.1 ≤ k ∧ x.2.2.2.1 + 3 * x.1 ≤ p + 1 + 3 * k ∧ x.2.2.2.2.length + x.1 ≤ k) (fun x => x.1) (k, 0, zs1, p1, []) ⟨Nat.le_refl _, by simp only; omega, by simp⟩ ?_ ?_
   · exact fun a w => Rel.keep ⟨rfl, .cons rfl rfl (.cons rfl rfl (.cons rfl rfl .nil)), .cons rfl rfl (.cons rfl rfl .nil), ⟨fun i b hb => by have := hN.1 i b hb; simp [keys] at this ⊢; exact .inl this, fun i q v hv => by have := hN.2 i q v hv; simp [keys] at this ⊢; exact .inl this⟩⟩
   · rintro ⟨m, q, zs2, p2, bs⟩ ⟨h1, h2, h3⟩
     simp only at h1 h2 h3
     show AW Try.prog C _ _ (St.of 30 [(0, .ptr 0 0), (5, .own 7 q), (6, .d (.v (.int .i64 (m : Int))))] [(0, rdr zs2 p2), (7, .own q 5 1 (cellsB bs))])
     refine AW.seq (AW.seq ?_)
     apply AW.list
     apply Wk.mv (by conv => lhs; whnf) (lt_of_ble rfl)
     apply Wk.bin rfl rfl (fun w => by simp [go_sem] <;> rfl) (lt_of_ble rfl)
     refine Wk.nil ?_
     refine AW.cond rfl (fun hc => ?_) (fun hc => ?_)
     · have hm : 0 < m := by simpa using hc
       refine AW.skip (thenA_normal ?_)
       refine AW.seq (AW.block ?_)
       apply AW.list
       apply Wk.mv (by conv => lhs; whnf) (lt_of_ble rfl)
       apply Wk.mv (by conv => lhs; whnf) (lt_of_ble rfl)
       apply Wk.drw 0 pick_ok Try.func28 rfl rfl rfl rfl ⟨_, rfl, by omega⟩ (by omega) rfl (lt_of_ble rfl)
       rintro r1 zs3 p3 ⟨k1, rfl, hk1⟩ hp3
       apply Wk.mv (by conv => lhs; whnf) (lt_of_ble rfl)
       apply Wk.drw 0 pick_ok Try.func28 rfl rfl rfl rfl ⟨_, rfl, by omega⟩ (by omega) rfl (lt_of_ble rfl)
       rintro r2 zs4 p4 ⟨k2, rfl, hk2⟩ hp4
       apply Wk.lst 21 1 false [.int .i64 0] un59 ty3 ze3 rfl rfl (by rfl) (by rfl) (by decide) (by decide) rfl rfl (all_len rfl) (lt_of_ble rfl)
       apply Wk.mv (by conv => lhs; whnf) (lt_of_ble rfl)
       apply Wk.drw 0 pick_ok Try.func28 rfl rfl rfl rfl ⟨_, rfl, by omega⟩ (by omega) rfl (lt_of_ble rfl)
       rintro r3 zs5 p5 ⟨k3, rfl, hk3⟩ hp5
       have hk3 : k3 < 3 := by have := hk3 3 rfl; omega
       obtain ⟨v, hv⟩ : ∃ v : Int, partA (List.flatten [[A.d (.v (.int .i64 (k1 : Int)))], [.d (.v (.int .i64 (k2 : Int)))], [.d (.v (.int .i64 255))]]) (k3 * 1) 1 false = some (.d (.v (.int .i64 v))) := by
         rcases (show k3 = 0 ∨ k3 = 1 ∨ k3 = 2 by omega) with rfl | rfl | rfl <;> exact ⟨_, rfl⟩
       apply Wk.iado 21 1 false un59 ty3 rfl rfl rfl hk3 (lt_of_ble rfl)
       apply Wk.ldo (i := 21) 1 false ty3 rfl rfl hv (lt_of_ble rfl)
       apply Wk.convb rfl ui3 ui5 (lt_of_ble rfl)
       intro z
       apply Wk.lst 27 1 false [.int .u8 0] un22 ty5 ze5 rfl rfl (by rfl) (by rfl) (by decide) (by decide) rfl rfl (all_len rfl) (lt_of_ble rfl)
       apply Wk.appOO 7 27 1 un22 ap5 rfl rfl rfl rfl (by decide) (all_len rfl) (one_cellsB bs) (by simp [cellsB]; omega) (lt_of_ble rfl)
       apply Wk.asg (by conv => lhs; whnf) (lt_of_ble rfl)
       refine Wk.nil (inBlockA_normal (thenA_normal ?_))
       apply AW.list
       apply Wk.mv (by conv => lhs; whnf) (lt_of_ble rfl)
       apply Wk.subn (b := 1) rfl rfl (by omega) (by omega) (lt_of_ble rfl)
       apply Wk.asg (by conv => lhs; whnf) (lt_of_ble rfl)
       refine Wk.nil ?_
       refine ⟨(m - 1, q + 1, zs5, p5, bs ++ [z]), ⟨by simp only; omega, by simp only; omega, by simp; omega⟩, by simp only; omega, ?_⟩
       refine fun a w => Rel.keep ⟨rfl, .cons rfl rfl (.cons rfl rfl (.cons rfl rfl .nil)), .cons rfl rfl (.cons ?_ ?_ .nil), ⟨fun i b hb => by have := hN.1 i b hb; simp [keys] at this ⊢; exact .inl this, fun i q v hv => by have := hN.2 i q v hv; simp [keys] at this ⊢; exact .inl this⟩⟩
       · simp only [cellsB, List.map_append]
         rfl
       · exact within_cellsB _
     · have hm : m = 0 := by simpa using hc
       refine AW.exit ?_
       repeat (first | refine inBlockA_same ?_ | refine thenA_exit ?_)
       refine thenA_normal ?_
       refine AW.seq ?_
       apply AW.list
       apply Wk.mv (by conv => lhs; whnf) (lt_of_ble rfl)
       apply Wk.asg (by conv => lhs; whnf) (lt_of_ble rfl)
       refine Wk.nil (AW.ret ?_)
       refine RetQ.ret [(0, rdr zs2 p2), (7, ownB q bs)] (.cons rfl .nil) ⟨zs2, p2, _, rfl, by omega, q, bs, rfl, rfl, fun n' e => ?_⟩ (kept2 rfl rfl)
       simp only [List.cons.injEq, A.d.injEq, D.v.injEq, Value.int.injEq, true_and, and_true] at e
       omega
 · rintro rest ⟨n, rfl, _⟩; exact ⟨_, _, 0, [], rfl, rfl, fun n e => by simp⟩
 · rintro rest r ex ⟨q, bs, rfl, rfl, _⟩; exact ⟨rfl, by simp [ownB_in]⟩

/-- A piece: its bytes the call's own, by the name 7. -/
def partOA (sg ln : Int) (q : Nat) : List A := [.d (.v (.int .i64 sg)), .d (.v (.int .i64 ln)), .own 7 q]
def partOPost (_ : List A) (r : A) (ex : List (Nat × Bx)) : Prop := ∃ sg ln q bs, r = .agg (partOA sg ln q) ∧ ex = [(7, ownB q bs)] ∧ 0 ≤ sg ∧ sg ≤ 3 ∧ 0 ≤ ln ∧ ln ≤ 40 ∧ bs.length ≤ 8
set_option maxRecDepth 100000 in
theorem partO_ok : DrawX Try.prog 55 (fun rest => rest = []) partOPost 3003 [7] := by
 refine ⟨?_, ?_, ?_⟩
 · rintro zs p rest rfl hp
   refine Spec.intro (n := 43) (rv := [.cell 2 48]) Try.func55 rfl rfl rfl (by simp) fun C hN hX => ?_
   refine AW.seq ?_
   apply AW.list
   apply Wk.alc 2 [.int .i64 0, .int .i64 0, .slice none 0 0] ze48 rfl rfl (lt_of_ble rfl)
   refine Wk.nil ?_
   refine AW.seq ?_
   apply AW.list
   apply Wk.mv (by conv => lhs; whnf) (lt_of_ble rfl)
   apply Wk.drw 0 pick_ok Try.func28 rfl rfl rfl rfl ⟨_, rfl, by omega⟩ (by omega) rfl (lt_of_ble rfl)
   rintro r1 zs1 p1 ⟨k1, rfl, hk1⟩ hp1
   apply Wk.mv (by conv => lhs; whnf) (lt_of_ble rfl)
   apply Wk.drx [7] bytesO_ok Try.func69 rfl rfl rfl rfl ⟨8, rfl, by decide⟩ (by omega) rfl (by simp; rfl) (lt_of_ble rfl)
   rintro r zs2 p2 ex ⟨q, bs, rfl, rfl, hbl⟩ hp2
   replace hbl := hbl 8 rfl
   apply Wk.bld [.int .i64 0, .int .i64 0, .slice none 0 0] [(0, 1), (1, 1), (2, 1)] bl48 rfl (by conv => lhs; whnf) (lt_of_ble rfl)
   apply Wk.alc 3 [.int .i64 0, .int .i64 0, .slice none 0 0] ze48 rfl rfl (lt_of_ble rfl)
   apply Wk.sto (i := 3) 3 true ty48 rfl rfl rfl rfl (Nat.le_of_ble_eq_true rfl) (lt_of_ble rfl)
   refine Wk.nil ?_
   have hk1' : k1 < 4 := by have := hk1 4 rfl; omega
   let inv : List (Fin 256) × Nat × Int × Nat × List (Fin 256) → St := fun x => St.of 43 [(0, .ptr 0 0), (2, .ptr 2 0), (3, .ptr 3 0)] [(0, rdr x.1 x.2.1), (2, .var [.d (.v (.int .i64 0)), .d (.v (.int .i64 0)), .d (.v (.slice none 0 0))]), (3, .var (partOA (k1 : Int) x.2.2.1 x.2.2.2.1)), (7, ownB x.2.2.2.1 x.2.2.2.2)]
   let ok : Nat → List (Fin 256) × Nat × Int × Nat × List (Fin 256) → Prop := fun m x => x.2.1 ≤ p + m ∧ 0 ≤ x.2.2.1 ∧ x.2.2.1 ≤ 40 ∧ x.2.2.2.2.length ≤ 8
   have fin : ∀ (zs : List (Fin 256)) (p : Nat) (ln : Int) (q : Nat) (bs : List (Fin 256)) (σ : St), σ.n = 43 → σ.t 0 = .ptr 0 0 → σ.t 2 = .ptr 2 0 → σ.t 3 = .ptr 3 0 → σ.b 0 = rdr zs p → σ.b 2 = .var [.d (.v (.int .i64 0)), .d (.v (.int .i64 0)), .d (.v (.slice none 0 0))] → σ.b 3 = .var (partOA (k1 : Int) ln q) → σ.b 7 = ownB q bs →
       ∀ a w, Rel C σ a w → Rel C (inv (zs, p, ln, q, bs)) a w := fun zs p ln q bs σ h0 h1 h2 h3 h4 h5 h6 h7 a w => Rel.keep ⟨h0.symm, .cons h1 rfl (.cons h2 rfl (.cons h3 rfl .nil)), .cons h4 rfl (.cons h5 rfl (.cons h6 rfl (.cons h7 ownB_in .nil))), hN.mono (by simp [keys])⟩
   refine AW.via inv (ok 3002) ?_ ?_
   · refine AW.seq ?_
     by_cases h1 : k1 = 0
     · subst h1
       apply AW.list
       apply Wk.fad 0 0 false fd48_0 rfl (lt_of_ble rfl)
       apply Wk.ld (i := 3) 1 false ty3 rfl rfl (by conv => lhs; whnf) (lt_of_ble rfl)
       apply Wk.bin rfl rfl (r := .bool false) (fun w => by simp [go_sem]) (lt_of_ble rfl)
       apply Wk.mv (by conv => lhs; whnf) (lt_of_ble rfl)
       apply Wk.goff 12 (ok_faddr fd48_2) rfl rfl (by decide)
       apply Wk.goff 12 (ok_load 3 ty22) rfl rfl (by decide)
       apply Wk.goff 12 (ok_leno 7 un22) rfl rfl (by decide)
       apply Wk.goff 12 (ok_bin _ _ _ _ _) rfl rfl (by decide)
       apply Wk.pckF rfl (by conv => lhs; whnf) (lt_of_ble rfl)
       refine Wk.nil ?_
       refine AW.cond rfl (fun hc => by cases hc) (fun _ => AW.skip (thenA_normal ?_))
       exact ⟨(zs2, p2, 0, q, bs), ⟨by simp only; omega, by simp only; omega, by simp only; omega, hbl⟩, fin _ _ _ _ _ _ rfl rfl rfl rfl rfl rfl rfl rfl⟩
     · apply AW.list
       apply Wk.fad 0 0 false fd48_0 rfl (lt_of_ble rfl)
       apply Wk.ld (i := 3) 1 false ty3 rfl rfl (by conv => lhs; whnf) (lt_of_ble rfl)
       apply Wk.bin rfl rfl (r := .bool true) (fun w => by simp [go_sem, h1]) (lt_of_ble rfl)
       apply Wk.mv (by conv => lhs; whnf) (lt_of_ble rfl)
       apply Wk.gon 12 rfl rfl
       apply Wk.fad 2 0 false fd48_2 rfl (lt_of_ble rfl)
       apply Wk.gon 12 rfl rfl
       apply Wk.ld (i := 3) 1 false ty22 rfl rfl (by conv => lhs; whnf) (lt_of_ble rfl)
       apply Wk.gon 12 rfl rfl
       apply Wk.leno (i := 7) un22 rfl rfl (lt_of_ble rfl)
       apply Wk.gon 12 rfl rfl
       apply Wk.bin rfl rfl (fun w => by simp [go_sem] <;> rfl) (lt_of_ble rfl)
       apply Wk.pckT rfl (by conv => lhs; whnf) (lt_of_ble rfl)
       refine Wk.nil ?_
       refine AW.cond rfl (fun hc => ?_) (fun hc => AW.skip (thenA_normal ?_))
       · apply AW.list
         apply Wk.lst 18 1 false [.int .u8 0] un22 ty5 ze5 rfl rfl (by rfl) (by rfl) (by decide) (by decide) rfl rfl (all_len rfl) (lt_of_ble rfl)
         apply Wk.fad 2 0 false fd48_2 rfl (lt_of_ble rfl)
         apply Wk.sto (i := 3) 1 false ty22 rfl rfl rfl rfl (Nat.le_of_ble_eq_true rfl) (lt_of_ble rfl)
         refine Wk.nil (thenA_normal ?_)
         refine ⟨(zs2, p2, 0, q + 1, [7]), ⟨by simp only; omega, by simp only; omega, by simp only; omega, by simp⟩, fun a w hR => ?_⟩
         have h := Rel.renc (j := 3) (c := 2) (i := 18) (i' := 7) (k' := q + 1) rfl rfl (by rfl) (.inr ⟨_, _, _, _, rfl, rfl⟩) (by decide) hR
         exact fin _ _ _ _ _ _ rfl rfl rfl rfl rfl rfl rfl rfl a w h
       · exact ⟨(zs2, p2, 0, q, bs), ⟨by simp only; omega, by simp only; omega, by simp only; omega, hbl⟩, fin _ _ _ _ _ _ rfl rfl rfl rfl rfl rfl rfl rfl⟩
   · rintro ⟨zs3, p3, l3, q3, bs3⟩ ⟨hp3, hl1, hl2, hb3⟩
     simp only at hp3 hl1 hl2 hb3
     show AW Try.prog C _ _ (St.of 43 [(0, .ptr 0 0), (2, .ptr 2 0), (3, .ptr 3 0)] [(0, rdr zs3 p3), (2, .var [.d (.v (.int .i64 0)), .d (.v (.int .i64 0)), .d (.v (.slice none 0 0))]), (3, .var (partOA (k1 : Int) l3 q3)), (7, ownB q3 bs3)])
     refine AW.via inv (ok 3002) ?_ ?_
     · refine AW.seq ?_
       apply AW.list
       apply Wk.fad 0 0 false fd48_0 rfl (lt_of_ble rfl)
       apply Wk.ld (i := 3) 1 false ty3 rfl rfl (by conv => lhs; whnf) (lt_of_ble rfl)
       apply Wk.bin rfl rfl (fun w => by simp [go_sem] <;> rfl) (lt_of_ble rfl)
       refine Wk.nil ?_
       refine AW.cond rfl (fun hc => ?_) (fun hc => AW.skip (thenA_normal ?_))
       · apply AW.list
         apply Wk.fad 2 0 false fd48_2 rfl (lt_of_ble rfl)
         apply Wk.ld (i := 3) 1 false ty22 rfl rfl (by conv => lhs; whnf) (lt_of_ble rfl)
         apply Wk.leno (i := 7) un22 rfl rfl (lt_of_ble rfl)
         apply Wk.fad 1 0 false fd48_1 rfl (lt_of_ble rfl)
         apply Wk.sto (i := 3) 1 false ty3 rfl rfl rfl rfl (Nat.le_of_ble_eq_true rfl) (lt_of_ble rfl)
         refine Wk.nil (thenA_normal ?_)
         have e5 : (cellsB bs3).length = bs3.length := by simp [cellsB]
         refine ⟨(zs3, p3, ((cellsB bs3).length : Int), q3, bs3), ⟨hp3, by simp only; omega, by simp only; omega, hb3⟩, fin _ _ _ _ _ _ rfl rfl rfl rfl rfl rfl rfl rfl⟩
       · exact ⟨(zs3, p3, l3, q3, bs3), ⟨hp3, hl1, hl2, hb3⟩, fin _ _ _ _ _ _ rfl rfl rfl rfl rfl rfl rfl rfl⟩
     · rintro ⟨zs4, p4, l4, q4, bs4⟩ ⟨hp4, hl3, hl4, hb4⟩
       simp only at hp4 hl3 hl4 hb4
       show AW Try.prog C _ _ (St.of 43 [(0, .ptr 0 0), (2, .ptr 2 0), (3, .ptr 3 0)] [(0, rdr zs4 p4), (2, .var [.d (.v (.int .i64 0)), .d (.v (.int .i64 0)), .d (.v (.slice none 0 0))]), (3, .var (partOA (k1 : Int) l4 q4)), (7, ownB q4 bs4)])
       have e5 : (cellsB bs4).length = bs4.length := by simp [cellsB]
       refine AW.via inv (ok 3003) ?_ ?_
       · refine AW.seq ?_
         apply AW.list
         apply Wk.fad 0 0 false fd48_0 rfl (lt_of_ble rfl)
         apply Wk.ld (i := 3) 1 false ty3 rfl rfl (by conv => lhs; whnf) (lt_of_ble rfl)
         apply Wk.bin rfl rfl (fun w => by simp [go_sem] <;> rfl) (lt_of_ble rfl)
         refine Wk.nil ?_
         refine AW.cond rfl (fun hc => ?_) (fun hc => AW.skip (thenA_normal ?_))
         · apply AW.draw (hm := hmix) (cs := _)
           · apply Wk.fad 2 0 false fd48_2 rfl (lt_of_ble rfl)
             apply Wk.ld (i := 3) 1 false ty22 rfl rfl (by conv => lhs; whnf) (lt_of_ble rfl)
             apply Wk.leno (i := 7) un22 rfl rfl (lt_of_ble rfl)
             apply Wk.addi rfl rfl (by omega) (lt_of_ble rfl)
             apply Wk.mv (by conv => lhs; whnf) (lt_of_ble rfl)
             apply Wk.fad 2 0 false fd48_2 rfl (lt_of_ble rfl)
             apply Wk.ld (i := 3) 1 false ty22 rfl rfl (by conv => lhs; whnf) (lt_of_ble rfl)
             apply Wk.leno (i := 7) un22 rfl rfl (lt_of_ble rfl)
             apply Wk.subi rfl rfl (by omega) (lt_of_ble rfl)
             apply Wk.drw 0 pick_ok Try.func28 rfl rfl rfl rfl ⟨_, rfl, by omega⟩ (by omega) rfl (lt_of_ble rfl)
             rintro r9 zs9 p9 ⟨k9, rfl, hk9⟩ hp9
             replace hk9 := hk9 _ rfl
             apply Wk.addi rfl rfl (by omega) (lt_of_ble rfl)
             apply Wk.fad 1 0 false fd48_1 rfl (lt_of_ble rfl)
             apply Wk.sto (i := 3) 1 false ty3 rfl rfl rfl rfl (Nat.le_of_ble_eq_true rfl) (lt_of_ble rfl)
             refine Wk.nil (thenA_normal ?_)
             refine ⟨(zs9, p9, ((cellsB bs4).length : Int) + 1 + (k9 : Int), q4, bs4), ⟨by simp only; omega, by simp only; omega, by simp only; omega, hb4⟩, fin _ _ _ _ _ _ rfl rfl rfl rfl rfl rfl rfl rfl⟩
           · rfl
           · rfl
         · exact ⟨(zs4, p4, l4, q4, bs4), ⟨by simp only; omega, hl3, hl4, hb4⟩, fin _ _ _ _ _ _ rfl rfl rfl rfl rfl rfl rfl rfl⟩
       · rintro ⟨zs5, p5, l5, q5, bs5⟩ ⟨hp5, hl5, hl6, hb5⟩
         simp only at hp5 hl5 hl6 hb5
         show AW Try.prog C _ _ (St.of 43 [(0, .ptr 0 0), (2, .ptr 2 0), (3, .ptr 3 0)] [(0, rdr zs5 p5), (2, .var [.d (.v (.int .i64 0)), .d (.v (.int .i64 0)), .d (.v (.slice none 0 0))]), (3, .var (partOA (k1 : Int) l5 q5)), (7, ownB q5 bs5)])
         refine AW.seq ?_
         apply AW.list
         apply Wk.ld (i := 3) 3 true ty48 rfl rfl (by conv => lhs; whnf) (lt_of_ble rfl)
         apply Wk.sto (i := 2) 3 true ty48 rfl rfl rfl rfl (Nat.le_of_ble_eq_true rfl) (lt_of_ble rfl)
         refine Wk.nil (AW.ret ?_)
         exact RetQ.ret [(0, rdr zs5 p5), (7, ownB q5 bs5)] (.cons ⟨2, 0, _, _, _, rfl, rfl, ty48, rfl⟩ .nil) ⟨_, _, _, rfl, by omega, (k1 : Int), l5, q5, bs5, rfl, rfl, by omega, by omega, hl5, hl6, hb5⟩ (kept2 rfl rfl)
 · rintro rest rfl; exact ⟨_, _, 0, 0, 0, [], rfl, rfl, by simp⟩
 · rintro rest r ex ⟨sg, ln, q, bs, rfl, rfl, _⟩; exact ⟨rfl, by simp [ownB_in]⟩
end Go.Proofs.Ytlmadcpoaedagaa

/- A frame, drawn; over what values read as. -/
namespace Go.Proofs.Ytlmadcpoaedagaa
open Go
/-- A frame, drawn: its bytes a list of the call's own, by the name 7. -/
structure FO where
  zs : List (Fin 256)
  p : Nat
  k : Int
  s : Int
  c : Int
  pl : Bool
  f : Bool
  y : Int
  g : Int
  l : Int
  q : Nat
  bs : List (Fin 256)
def Sm (x : Int) : Prop := -1000 ≤ x ∧ x ≤ 1000
def frmO (k s c : Int) (p f : Bool) (y g l : Int) (a : A) : List A := [.d (.v (.int .i64 k)), .d (.v (.int .i64 s)), .d (.v (.int .i64 c)), .d (.v (.bool p)), .d (.v (.bool f)), .d (.v (.int .i64 y)), .d (.v (.int .i64 g)), .d (.v (.int .i64 l)), a]
def frmZ : List A := frmO 0 0 0 false false 0 0 0 (.d (.v (.slice none 0 0)))
def frmA9 (k s c : Int) (p f : Bool) (y g l : Int) (bs : List (Fin 256)) : A := .agg (frmO k s c p f y g l (.d (fbytes bs)))
def frmPost (_ : List A) (r : A) : Prop := ∃ (k s c : Int) (p f : Bool) (y g l : Int) (bs : List (Fin 256)), r = frmA9 k s c p f y g l bs ∧ Sm k ∧ Sm s ∧ Sm c ∧ Sm y ∧ Sm g ∧ Sm l ∧ bs.length ≤ 17
def FO.ok (p m n : Nat) (x : FO) : Prop := x.p ≤ p + m ∧ Sm x.k ∧ Sm x.s ∧ Sm x.c ∧ Sm x.y ∧ Sm x.g ∧ Sm x.l ∧ x.bs.length ≤ n
def FO.inv (n : Int) (x : FO) : St := St.of 136 [(0, .ptr 0 0), (1, .d (.v (.int .i64 n))), (4, .ptr 4 0), (5, .ptr 5 0)] [(0, rdr x.zs x.p), (4, .var frmZ), (5, .var (frmO x.k x.s x.c x.pl x.f x.y x.g x.l (.own 7 x.q))), (7, ownB x.q x.bs)]
set_option maxHeartbeats 4000000 in
set_option maxRecDepth 100000 in
theorem frame_ok : DrawOk Try.prog 27 (fun rest => ∃ n : Int, rest = [.d (.v (.int .i64 n))] ∧ n ≤ 1000000 ∧ -1000000 ≤ n) frmPost 3020 := by
  refine DrawOk.zero ?_ ?_ ?_ ?_
  · rintro zs p rest ⟨n, rfl, hn, hn'⟩ hp
    refine Spec.intro (n := 136) (rv := [.cell 4 30]) Try.func27 rfl rfl rfl (by simp) fun C hN hX => ?_
    have fin : ∀ (x : FO) (σ : St), σ.n = 136 → σ.t 0 = .ptr 0 0 → σ.t 1 = .d (.v (.int .i64 n)) → σ.t 4 = .ptr 4 0 → σ.t 5 = .ptr 5 0 → σ.b 0 = rdr x.zs x.p → σ.b 4 = .var frmZ → σ.b 5 = .var (frmO x.k x.s x.c x.pl x.f x.y x.g x.l (.own 7 x.q)) → σ.b 7 = ownB x.q x.bs →
        ∀ a w, Rel C σ a w → Rel C (x.inv n) a w := fun x σ h0 h1 h2 h3 h4 h5 h6 h7 h8 a w => Rel.keep ⟨h0.symm, .cons h1 rfl (.cons h2 rfl (.cons h3 rfl (.cons h4 rfl .nil))), .cons h5 rfl (.cons h6 rfl (.cons h7 rfl (.cons h8 ownB_in .nil))), hN.mono (by simp [keys])⟩
    refine AW.seq ?_
    apply AW.list
    apply Wk.alc 4 [.int .i64 0, .int .i64 0, .int .i64 0, .bool false, .bool false, .int .i64 0, .int .i64 0, .int .i64 0, .slice none 0 0] ze30 rfl rfl (lt_of_ble rfl)
    refine Wk.nil ?_
    refine AW.seq ?_
    apply AW.list
    apply Wk.mv (by conv => lhs; whnf) (lt_of_ble rfl)
    apply Wk.drw 0 pick_ok Try.func28 rfl rfl rfl rfl ⟨_, rfl, by omega⟩ (by omega) rfl (lt_of_ble rfl)
    rintro r1 zs1 p1 ⟨k1, rfl, hk1⟩ hp1
    replace hk1 := hk1 _ rfl
    apply Wk.addi rfl rfl (by omega) (lt_of_ble rfl)
    apply Wk.bld [.int .i64 0, .int .i64 0, .int .i64 0, .bool false, .bool false, .int .i64 0, .int .i64 0, .int .i64 0, .slice none 0 0] [(0, 1), (1, 1), (2, 1), (3, 1), (4, 1), (5, 1), (6, 1), (7, 1), (8, 1)] bl30 rfl (by conv => lhs; whnf) (lt_of_ble rfl)
    apply Wk.alc 5 [.int .i64 0, .int .i64 0, .int .i64 0, .bool false, .bool false, .int .i64 0, .int .i64 0, .int .i64 0, .slice none 0 0] ze30 rfl rfl (lt_of_ble rfl)
    apply Wk.sto (i := 5) 9 true ty30 rfl rfl rfl rfl (Nat.le_of_ble_eq_true rfl) (lt_of_ble rfl)
    refine Wk.nil ?_
    have hk1' : k1 < 4 := by omega
    refine AW.via (FO.inv n) (FO.ok p 3010 8) ?_ ?_
    · refine AW.seq ?_
      apply AW.list
      apply Wk.fad 0 0 false fd30_0 rfl (lt_of_ble rfl)
      apply Wk.ld (i := 5) 1 false ty3 rfl rfl (by conv => lhs; whnf) (lt_of_ble rfl)
      refine Wk.nil (AW.block ?_)
      refine AW.seq ?_
      apply AW.list
      apply Wk.bin rfl rfl (fun w => by simp [go_sem] <;> rfl) (lt_of_ble rfl)
      apply Wk.asg (by conv => lhs; whnf) (lt_of_ble rfl)
      refine Wk.nil ?_
      refine AW.cond rfl (fun hc => ?_) (fun hc => ?_)
      · refine AW.seq ?_
        apply AW.list
        apply Wk.mv (by conv => lhs; whnf) (lt_of_ble rfl)
        apply Wk.drx [7] partO_ok Try.func55 rfl rfl rfl rfl rfl (by omega) rfl (by simp; rfl) (lt_of_ble rfl)
        rintro r2 zs2 p2 ex ⟨sg, ln, q, bs, rfl, rfl, hs1, hs2, hl1, hl2, hbl⟩ hp2
        apply Wk.alc 6 [.int .i64 0, .int .i64 0, .slice none 0 0] ze48 rfl rfl (lt_of_ble rfl)
        apply Wk.sto (i := 6) 3 true ty48 rfl rfl rfl rfl (Nat.le_of_ble_eq_true rfl) (lt_of_ble rfl)
        refine Wk.nil ?_
        apply AW.draw (hm := hmix) (cs := _)
        · apply Wk.mv (by conv => lhs; whnf) (lt_of_ble rfl)
          apply Wk.drw 0 pick_ok Try.func28 rfl rfl rfl rfl ⟨_, rfl, by omega⟩ (by omega) rfl (lt_of_ble rfl)
          rintro r3 zs3 p3 ⟨k3, rfl, hk3⟩ hp3
          replace hk3 := hk3 _ rfl
          apply Wk.mv (by conv => lhs; whnf) (lt_of_ble rfl)
          apply Wk.drw 0 pick_ok Try.func28 rfl rfl rfl rfl ⟨_, rfl, by omega⟩ (by omega) rfl (lt_of_ble rfl)
          rintro r4 zs4 p4 ⟨k4, rfl, hk4⟩ hp4
          replace hk4 := hk4 _ rfl
          apply Wk.mv (by conv => lhs; whnf) (lt_of_ble rfl)
          apply Wk.drw 0 pick_ok Try.func28 rfl rfl rfl rfl ⟨_, rfl, by omega⟩ (by omega) rfl (lt_of_ble rfl)
          rintro r5 zs5 p5 ⟨k5, rfl, hk5⟩ hp5
          apply Wk.bin rfl rfl (fun w => by simp [go_sem] <;> rfl) (lt_of_ble rfl)
          apply Wk.fad 0 0 false fd48_0 rfl (lt_of_ble rfl)
          apply Wk.ld (i := 6) 1 false ty3 rfl rfl (by conv => lhs; whnf) (lt_of_ble rfl)
          apply Wk.fad 1 0 false fd48_1 rfl (lt_of_ble rfl)
          apply Wk.ld (i := 6) 1 false ty3 rfl rfl (by conv => lhs; whnf) (lt_of_ble rfl)
          apply Wk.fad 2 0 false fd48_2 rfl (lt_of_ble rfl)
          apply Wk.ld (i := 6) 1 false ty22 rfl rfl (by conv => lhs; whnf) (lt_of_ble rfl)
          apply Wk.bld [.int .i64 0, .int .i64 0, .int .i64 0, .bool false, .bool false, .int .i64 0, .int .i64 0, .int .i64 0, .slice none 0 0] [(0, 1), (1, 1), (2, 1), (3, 1), (4, 1), (5, 1), (6, 1), (7, 1), (8, 1)] bl30 rfl (by conv => lhs; whnf) (lt_of_ble rfl)
          apply Wk.sto (i := 5) 9 true ty30 rfl rfl rfl rfl (Nat.le_of_ble_eq_true rfl) (lt_of_ble rfl)
          refine Wk.nil (inBlockA_normal (thenA_normal ?_))
          exact ⟨⟨zs5, p5, 1, (k3 : Int), (k4 : Int), false, ((k5 : Int) == 0), 0, sg, ln, q, bs⟩, ⟨by simp only; omega, ⟨by simp only; omega, by simp only; omega⟩, ⟨by simp only; omega, by simp only; omega⟩, ⟨by simp only; omega, by simp only; omega⟩, ⟨by simp only; omega, by simp only; omega⟩, ⟨by simp only; omega, by simp only; omega⟩, ⟨by simp only; omega, by simp only; omega⟩, by simp only; omega⟩, fin _ _ rfl rfl rfl rfl rfl rfl rfl rfl rfl⟩
        · rfl
        · rfl
      · refine AW.seq ?_
        apply AW.list
        apply Wk.bin rfl rfl (fun w => by simp [go_sem] <;> rfl) (lt_of_ble rfl)
        apply Wk.asg (by conv => lhs; whnf) (lt_of_ble rfl)
        refine Wk.nil ?_
        refine AW.cond rfl (fun hc => ?_) (fun hc => ?_)
        · refine AW.seq ?_
          apply AW.list
          apply Wk.mv (by conv => lhs; whnf) (lt_of_ble rfl)
          apply Wk.drw 0 pick_ok Try.func28 rfl rfl rfl rfl ⟨_, rfl, by omega⟩ (by omega) rfl (lt_of_ble rfl)
          rintro r2 zs2 p2 ⟨k2, rfl, hk2⟩ hp2
          replace hk2 := hk2 _ rfl
          apply Wk.fad 2 0 false fd30_2 rfl (lt_of_ble rfl)
          apply Wk.sto (i := 5) 1 false ty3 rfl rfl rfl rfl (Nat.le_of_ble_eq_true rfl) (lt_of_ble rfl)
          refine Wk.nil ?_
          refine AW.seq ?_
          apply AW.list
          apply Wk.mv (by conv => lhs; whnf) (lt_of_ble rfl)
          apply Wk.drw 0 pick_ok Try.func28 rfl rfl rfl rfl ⟨_, rfl, by omega⟩ (by omega) rfl (lt_of_ble rfl)
          rintro r3 zs3 p3 ⟨k3, rfl, hk3⟩ hp3
          apply Wk.bin rfl rfl (fun w => by simp [go_sem] <;> rfl) (lt_of_ble rfl)
          apply Wk.fad 3 0 false fd30_3 rfl (lt_of_ble rfl)
          apply Wk.sto (i := 5) 1 false ty4 rfl rfl rfl rfl (Nat.le_of_ble_eq_true rfl) (lt_of_ble rfl)
          refine Wk.nil ?_
          refine AW.seq ?_
          cases hpl : ((k3 : Int) == 0)
          · apply AW.list
            apply Wk.fad 3 0 false fd30_3 rfl (lt_of_ble rfl)
            apply Wk.ld (i := 5) 1 false ty4 rfl rfl (by conv => lhs; whnf) (lt_of_ble rfl)
            apply Wk.un rfl (r := .bool true) (fun w => by simp [go_sem]) (lt_of_ble rfl)
            apply Wk.mv (by conv => lhs; whnf) (lt_of_ble rfl)
            apply Wk.gon 53 rfl rfl
            apply Wk.mv (by conv => lhs; whnf) (lt_of_ble rfl)
            apply Wk.gon 53 rfl rfl
            apply Wk.drw 0 pick_ok Try.func28 rfl rfl rfl rfl ⟨_, rfl, by omega⟩ (by omega) rfl (lt_of_ble rfl)
            rintro r4 zs4 p4 ⟨k4, rfl, hk4⟩ hp4
            apply Wk.gon 53 rfl rfl
            apply Wk.bin rfl rfl (fun w => by simp [go_sem] <;> rfl) (lt_of_ble rfl)
            apply Wk.pckT rfl (by conv => lhs; whnf) (lt_of_ble rfl)
            apply Wk.fad 4 0 false fd30_4 rfl (lt_of_ble rfl)
            apply Wk.sto (i := 5) 1 false ty4 rfl rfl rfl rfl (Nat.le_of_ble_eq_true rfl) (lt_of_ble rfl)
            refine Wk.nil ?_
            apply AW.list
            apply Wk.mv (by conv => lhs; whnf) (lt_of_ble rfl)
            apply Wk.drw 0 pick_ok Try.func28 rfl rfl rfl rfl ⟨_, rfl, by omega⟩ (by omega) rfl (lt_of_ble rfl)
            rintro r5 zs5 p5 ⟨k5, rfl, hk5⟩ hp5
            replace hk5 := hk5 _ rfl
            apply Wk.fad 5 0 false fd30_5 rfl (lt_of_ble rfl)
            apply Wk.sto (i := 5) 1 false ty3 rfl rfl rfl rfl (Nat.le_of_ble_eq_true rfl) (lt_of_ble rfl)
            refine Wk.nil (inBlockA_normal (thenA_normal ?_))
            exact ⟨⟨zs5, p5, 1 + (k1 : Int), 0, (k2 : Int), false, ((k4 : Int) == 0), (k5 : Int), 0, 0, 0, []⟩, ⟨by simp only; omega, ⟨by simp only; omega, by simp only; omega⟩, ⟨by simp only; omega, by simp only; omega⟩, ⟨by simp only; omega, by simp only; omega⟩, ⟨by simp only; omega, by simp only; omega⟩, ⟨by simp only; omega, by simp only; omega⟩, ⟨by simp only; omega, by simp only; omega⟩, by simp⟩, (fun a w hR => fin _ _ rfl rfl rfl rfl rfl rfl rfl rfl rfl a w (Rel.nilc (j := 5) (c := 8) (i' := 7) 5 1 rfl rfl rfl hR))⟩
          · apply AW.list
            apply Wk.fad 3 0 false fd30_3 rfl (lt_of_ble rfl)
            apply Wk.ld (i := 5) 1 false ty4 rfl rfl (by conv => lhs; whnf) (lt_of_ble rfl)
            apply Wk.un rfl (r := .bool false) (fun w => by simp [go_sem]) (lt_of_ble rfl)
            apply Wk.mv (by conv => lhs; whnf) (lt_of_ble rfl)
            apply Wk.goff 53 (ok_move _) rfl rfl (by decide)
            apply Wk.goff 53 (ok_drw 0 pick_ok Try.func28 rfl rfl) rfl rfl (by decide)
            apply Wk.goff 53 (ok_bin _ _ _ _ _) rfl rfl (by decide)
            apply Wk.pckF rfl (by conv => lhs; whnf) (lt_of_ble rfl)
            apply Wk.fad 4 0 false fd30_4 rfl (lt_of_ble rfl)
            apply Wk.sto (i := 5) 1 false ty4 rfl rfl rfl rfl (Nat.le_of_ble_eq_true rfl) (lt_of_ble rfl)
            refine Wk.nil ?_
            apply AW.list
            apply Wk.mv (by conv => lhs; whnf) (lt_of_ble rfl)
            apply Wk.drw 0 pick_ok Try.func28 rfl rfl rfl rfl ⟨_, rfl, by omega⟩ (by omega) rfl (lt_of_ble rfl)
            rintro r5 zs5 p5 ⟨k5, rfl, hk5⟩ hp5
            replace hk5 := hk5 _ rfl
            apply Wk.fad 5 0 false fd30_5 rfl (lt_of_ble rfl)
            apply Wk.sto (i := 5) 1 false ty3 rfl rfl rfl rfl (Nat.le_of_ble_eq_true rfl) (lt_of_ble rfl)
            refine Wk.nil (inBlockA_normal (thenA_normal ?_))
            exact ⟨⟨zs5, p5, 1 + (k1 : Int), 0, (k2 : Int), true, false, (k5 : Int), 0, 0, 0, []⟩, ⟨by simp only; omega, ⟨by simp only; omega, by simp only; omega⟩, ⟨by simp only; omega, by simp only; omega⟩, ⟨by simp only; omega, by simp only; omega⟩, ⟨by simp only; omega, by simp only; omega⟩, ⟨by simp only; omega, by simp only; omega⟩, ⟨by simp only; omega, by simp only; omega⟩, by simp⟩, (fun a w hR => fin _ _ rfl rfl rfl rfl rfl rfl rfl rfl rfl a w (Rel.nilc (j := 5) (c := 8) (i' := 7) 5 1 rfl rfl rfl hR))⟩
        · refine AW.seq ?_
          apply AW.list
          apply Wk.bin rfl rfl (fun w => by simp [go_sem] <;> rfl) (lt_of_ble rfl)
          apply Wk.asg (by conv => lhs; whnf) (lt_of_ble rfl)
          refine Wk.nil ?_
          refine AW.cond rfl (fun hc => ?_) (fun hc => ?_)
          · refine AW.seq ?_
            apply AW.list
            apply Wk.mv (by conv => lhs; whnf) (lt_of_ble rfl)
            apply Wk.drx [7] partO_ok Try.func55 rfl rfl rfl rfl rfl (by omega) rfl (by simp; rfl) (lt_of_ble rfl)
            rintro r2 zs2 p2 ex ⟨sg, ln, q, bs, rfl, rfl, hs1, hs2, hl1, hl2, hbl⟩ hp2
            apply Wk.alc 70 [.int .i64 0, .int .i64 0, .slice none 0 0] ze48 rfl rfl (lt_of_ble rfl)
            apply Wk.sto (i := 70) 3 true ty48 rfl rfl rfl rfl (Nat.le_of_ble_eq_true rfl) (lt_of_ble rfl)
            refine Wk.nil ?_
            apply AW.list
            apply Wk.fad 0 0 false fd48_0 rfl (lt_of_ble rfl)
            apply Wk.ld (i := 70) 1 false ty3 rfl rfl (by conv => lhs; whnf) (lt_of_ble rfl)
            apply Wk.fad 1 0 false fd48_1 rfl (lt_of_ble rfl)
            apply Wk.ld (i := 70) 1 false ty3 rfl rfl (by conv => lhs; whnf) (lt_of_ble rfl)
            apply Wk.fad 2 0 false fd48_2 rfl (lt_of_ble rfl)
            apply Wk.ld (i := 70) 1 false ty22 rfl rfl (by conv => lhs; whnf) (lt_of_ble rfl)
            apply Wk.bld [.int .i64 0, .int .i64 0, .int .i64 0, .bool false, .bool false, .int .i64 0, .int .i64 0, .int .i64 0, .slice none 0 0] [(0, 1), (1, 1), (2, 1), (3, 1), (4, 1), (5, 1), (6, 1), (7, 1), (8, 1)] bl30 rfl (by conv => lhs; whnf) (lt_of_ble rfl)
            apply Wk.sto (i := 5) 9 true ty30 rfl rfl rfl rfl (Nat.le_of_ble_eq_true rfl) (lt_of_ble rfl)
            refine Wk.nil (inBlockA_normal (thenA_normal ?_))
            exact ⟨⟨zs2, p2, 3, 0, 0, false, false, 0, sg, ln, q, bs⟩, ⟨by simp only; omega, ⟨by simp only; omega, by simp only; omega⟩, ⟨by simp only; omega, by simp only; omega⟩, ⟨by simp only; omega, by simp only; omega⟩, ⟨by simp only; omega, by simp only; omega⟩, ⟨by simp only; omega, by simp only; omega⟩, ⟨by simp only; omega, by simp only; omega⟩, by simp only; omega⟩, fin _ _ rfl rfl rfl rfl rfl rfl rfl rfl rfl⟩
          · apply AW.list
            apply Wk.mv (by conv => lhs; whnf) (lt_of_ble rfl)
            apply Wk.drw 0 pick_ok Try.func28 rfl rfl rfl rfl ⟨_, rfl, by omega⟩ (by omega) rfl (lt_of_ble rfl)
            rintro r2 zs2 p2 ⟨k2, rfl, hk2⟩ hp2
            replace hk2 := hk2 _ rfl
            apply Wk.addi rfl rfl (by omega) (lt_of_ble rfl)
            apply Wk.lst 17 1 false [.int .i64 0] un59 ty3 ze3 rfl rfl (by rfl) (by rfl) (by decide) (by decide) rfl rfl (all_len rfl) (lt_of_ble rfl)
            apply Wk.mv (by conv => lhs; whnf) (lt_of_ble rfl)
            apply Wk.drw 0 pick_ok Try.func28 rfl rfl rfl rfl ⟨_, rfl, by omega⟩ (by omega) rfl (lt_of_ble rfl)
            rintro r3 zs3 p3 ⟨k3, rfl, hk3⟩ hp3
            have hk3' : k3 < 2 := by have := hk3 2 rfl; omega
            obtain ⟨v, hv, hv1, hv2⟩ : ∃ v : Int, partA (List.flatten [[A.d (.v (.int .i64 (1 + (k2 : Int))))], [.d (.v (.int .i64 255))]]) (k3 * 1) 1 false = some (.d (.v (.int .i64 v))) ∧ -1000 ≤ v ∧ v ≤ 1000 := by
              rcases (show k3 = 0 ∨ k3 = 1 by omega) with rfl | rfl
              · exact ⟨_, rfl, by omega, by omega⟩
              · exact ⟨_, rfl, by omega, by omega⟩
            apply Wk.iado 17 1 false un59 ty3 rfl rfl rfl hk3' (lt_of_ble rfl)
            apply Wk.ldo (i := 17) 1 false ty3 rfl rfl hv (lt_of_ble rfl)
            apply Wk.fad 7 0 false fd30_7 rfl (lt_of_ble rfl)
            apply Wk.sto (i := 5) 1 false ty3 rfl rfl rfl rfl (Nat.le_of_ble_eq_true rfl) (lt_of_ble rfl)
            refine Wk.nil (inBlockA_normal (thenA_normal ?_))
            exact ⟨⟨zs3, p3, 1 + (k1 : Int), 0, 0, false, false, 0, 0, v, 0, []⟩, ⟨by simp only; omega, ⟨by simp only; omega, by simp only; omega⟩, ⟨by simp only; omega, by simp only; omega⟩, ⟨by simp only; omega, by simp only; omega⟩, ⟨by simp only; omega, by simp only; omega⟩, ⟨by simp only; omega, by simp only; omega⟩, ⟨by simp only; omega, by simp only; omega⟩, by simp⟩, (fun a w hR => fin _ _ rfl rfl rfl rfl rfl rfl rfl rfl rfl a w (Rel.nilc (j := 5) (c := 8) (i' := 7) 5 1 rfl rfl rfl hR))⟩
    · rintro ⟨zs6, p6, k, s, c, pl, f, y, g, l, q, bs⟩ ⟨hp6, ⟨a1, a2⟩, ⟨a3, a4⟩, ⟨a5, a6⟩, ⟨a7, a8⟩, ⟨a9, a10⟩, ⟨a11, a12⟩, hb6⟩
      simp only at hp6 a1 a2 a3 a4 a5 a6 a7 a8 a9 a10 a11 a12 hb6
      show AW Try.prog C _ _ (St.of 136 [(0, .ptr 0 0), (1, .d (.v (.int .i64 n))), (4, .ptr 4 0), (5, .ptr 5 0)] [(0, rdr zs6 p6), (4, .var frmZ), (5, .var (frmO k s c pl f y g l (.own 7 q))), (7, ownB q bs)])
      refine AW.via (FO.inv n) (FO.ok p 3020 17) ?_ ?_
      · refine AW.seq ?_
        apply AW.list
        apply Wk.mv (by conv => lhs; whnf) (lt_of_ble rfl)
        apply Wk.mv (by conv => lhs; whnf) (lt_of_ble rfl)
        apply Wk.drw 0 odd_ok Try.func52 rfl rfl rfl rfl ⟨_, rfl, by omega⟩ (by omega) rfl (lt_of_ble rfl)
        rintro r7 zs7 p7 ⟨b7, rfl, _⟩ hp7
        refine Wk.nil ?_
        refine AW.cond rfl (fun hc => ?_) (fun hc => AW.skip (thenA_normal ?_))
        · refine AW.seq ?_
          apply AW.list
          apply Wk.mv (by conv => lhs; whnf) (lt_of_ble rfl)
          apply Wk.drw 0 pick_ok Try.func28 rfl rfl rfl rfl ⟨_, rfl, by omega⟩ (by omega) rfl (lt_of_ble rfl)
          rintro r8 zs8 p8 ⟨k8, rfl, hk8⟩ hp8
          refine Wk.nil (AW.block ?_)
          refine AW.seq ?_
          apply AW.list
          apply Wk.bin rfl rfl (fun w => by simp [go_sem] <;> rfl) (lt_of_ble rfl)
          apply Wk.asg (by conv => lhs; whnf) (lt_of_ble rfl)
          refine Wk.nil ?_
          refine AW.cond rfl (fun hc => ?_) (fun hc => ?_)
          · apply AW.list
            apply Wk.lst 86 1 false [.int .i64 0] un59 ty3 ze3 rfl rfl (by rfl) (by rfl) (by decide) (by decide) rfl rfl (all_len rfl) (lt_of_ble rfl)
            apply Wk.mv (by conv => lhs; whnf) (lt_of_ble rfl)
            apply Wk.drw 0 pick_ok Try.func28 rfl rfl rfl rfl ⟨_, rfl, by omega⟩ (by omega) rfl (lt_of_ble rfl)
            rintro r9 zs9 p9 ⟨k9, rfl, hk9⟩ hp9
            have hk9' : k9 < 2 := by have := hk9 2 rfl; omega
            obtain ⟨v, hv, hv1, hv2⟩ : ∃ v : Int, partA (List.flatten [[A.d (.v (.int .i64 0))], [.d (.v (.int .i64 5))]]) (k9 * 1) 1 false = some (.d (.v (.int .i64 v))) ∧ -1000 ≤ v ∧ v ≤ 1000 := by
              rcases (show k9 = 0 ∨ k9 = 1 by omega) with rfl | rfl
              · exact ⟨_, rfl, by omega, by omega⟩
              · exact ⟨_, rfl, by omega, by omega⟩
            apply Wk.iado 86 1 false un59 ty3 rfl rfl rfl hk9' (lt_of_ble rfl)
            apply Wk.ldo (i := 86) 1 false ty3 rfl rfl hv (lt_of_ble rfl)
            apply Wk.fad 0 0 false fd30_0 rfl (lt_of_ble rfl)
            apply Wk.sto (i := 5) 1 false ty3 rfl rfl rfl rfl (Nat.le_of_ble_eq_true rfl) (lt_of_ble rfl)
            refine Wk.nil (inBlockA_normal (thenA_normal ?_))
            exact ⟨⟨zs9, p9, v, s, c, pl, f, y, g, l, q, bs⟩, ⟨by simp only; omega, ⟨by simp only; omega, by simp only; omega⟩, ⟨by simp only; omega, by simp only; omega⟩, ⟨by simp only; omega, by simp only; omega⟩, ⟨by simp only; omega, by simp only; omega⟩, ⟨by simp only; omega, by simp only; omega⟩, ⟨by simp only; omega, by simp only; omega⟩, by simp only; omega⟩, fin _ _ rfl rfl rfl rfl rfl rfl rfl rfl rfl⟩
          · refine AW.seq ?_
            apply AW.list
            apply Wk.bin rfl rfl (fun w => by simp [go_sem] <;> rfl) (lt_of_ble rfl)
            apply Wk.asg (by conv => lhs; whnf) (lt_of_ble rfl)
            refine Wk.nil ?_
            refine AW.cond rfl (fun hc => ?_) (fun hc => ?_)
            · apply AW.list
              apply Wk.lst 94 1 false [.int .i64 0] un59 ty3 ze3 rfl rfl (by rfl) (by rfl) (by decide) (by decide) rfl rfl (all_len rfl) (lt_of_ble rfl)
              apply Wk.mv (by conv => lhs; whnf) (lt_of_ble rfl)
              apply Wk.drw 0 pick_ok Try.func28 rfl rfl rfl rfl ⟨_, rfl, by omega⟩ (by omega) rfl (lt_of_ble rfl)
              rintro r9 zs9 p9 ⟨k9, rfl, hk9⟩ hp9
              have hk9' : k9 < 3 := by have := hk9 3 rfl; omega
              obtain ⟨v, hv, hv1, hv2⟩ : ∃ v : Int, partA (List.flatten [[A.d (.v (.int .i64 (-1)))], [.d (.v (.int .i64 8))], [.d (.v (.int .i64 1))]]) (k9 * 1) 1 false = some (.d (.v (.int .i64 v))) ∧ -1000 ≤ v ∧ v ≤ 1000 := by
                rcases (show k9 = 0 ∨ k9 = 1 ∨ k9 = 2 by omega) with rfl | rfl | rfl
                · exact ⟨_, rfl, by omega, by omega⟩
                · exact ⟨_, rfl, by omega, by omega⟩
                · exact ⟨_, rfl, by omega, by omega⟩
              apply Wk.iado 94 1 false un59 ty3 rfl rfl rfl hk9' (lt_of_ble rfl)
              apply Wk.ldo (i := 94) 1 false ty3 rfl rfl hv (lt_of_ble rfl)
              apply Wk.fad 1 0 false fd30_1 rfl (lt_of_ble rfl)
              apply Wk.sto (i := 5) 1 false ty3 rfl rfl rfl rfl (Nat.le_of_ble_eq_true rfl) (lt_of_ble rfl)
              refine Wk.nil (inBlockA_normal (thenA_normal ?_))
              exact ⟨⟨zs9, p9, k, v, c, pl, f, y, g, l, q, bs⟩, ⟨by simp only; omega, ⟨by simp only; omega, by simp only; omega⟩, ⟨by simp only; omega, by simp only; omega⟩, ⟨by simp only; omega, by simp only; omega⟩, ⟨by simp only; omega, by simp only; omega⟩, ⟨by simp only; omega, by simp only; omega⟩, ⟨by simp only; omega, by simp only; omega⟩, by simp only; omega⟩, fin _ _ rfl rfl rfl rfl rfl rfl rfl rfl rfl⟩
            · refine AW.seq ?_
              apply AW.list
              apply Wk.bin rfl rfl (fun w => by simp [go_sem] <;> rfl) (lt_of_ble rfl)
              apply Wk.asg (by conv => lhs; whnf) (lt_of_ble rfl)
              refine Wk.nil ?_
              refine AW.cond rfl (fun hc => ?_) (fun hc => ?_)
              · apply AW.list
                apply Wk.lst 102 1 false [.int .i64 0] un59 ty3 ze3 rfl rfl (by rfl) (by rfl) (by decide) (by decide) rfl rfl (all_len rfl) (lt_of_ble rfl)
                apply Wk.mv (by conv => lhs; whnf) (lt_of_ble rfl)
                apply Wk.drw 0 pick_ok Try.func28 rfl rfl rfl rfl ⟨_, rfl, by omega⟩ (by omega) rfl (lt_of_ble rfl)
                rintro r9 zs9 p9 ⟨k9, rfl, hk9⟩ hp9
                have hk9' : k9 < 3 := by have := hk9 3 rfl; omega
                obtain ⟨v, hv, hv1, hv2⟩ : ∃ v : Int, partA (List.flatten [[A.d (.v (.int .i64 (-1)))], [.d (.v (.int .i64 8))], [.d (.v (.int .i64 1))]]) (k9 * 1) 1 false = some (.d (.v (.int .i64 v))) ∧ -1000 ≤ v ∧ v ≤ 1000 := by
                  rcases (show k9 = 0 ∨ k9 = 1 ∨ k9 = 2 by omega) with rfl | rfl | rfl
                  · exact ⟨_, rfl, by omega, by omega⟩
                  · exact ⟨_, rfl, by omega, by omega⟩
                  · exact ⟨_, rfl, by omega, by omega⟩
                apply Wk.iado 102 1 false un59 ty3 rfl rfl rfl hk9' (lt_of_ble rfl)
                apply Wk.ldo (i := 102) 1 false ty3 rfl rfl hv (lt_of_ble rfl)
                apply Wk.fad 2 0 false fd30_2 rfl (lt_of_ble rfl)
                apply Wk.sto (i := 5) 1 false ty3 rfl rfl rfl rfl (Nat.le_of_ble_eq_true rfl) (lt_of_ble rfl)
                refine Wk.nil (inBlockA_normal (thenA_normal ?_))
                exact ⟨⟨zs9, p9, k, s, v, pl, f, y, g, l, q, bs⟩, ⟨by simp only; omega, ⟨by simp only; omega, by simp only; omega⟩, ⟨by simp only; omega, by simp only; omega⟩, ⟨by simp only; omega, by simp only; omega⟩, ⟨by simp only; omega, by simp only; omega⟩, ⟨by simp only; omega, by simp only; omega⟩, ⟨by simp only; omega, by simp only; omega⟩, by simp only; omega⟩, fin _ _ rfl rfl rfl rfl rfl rfl rfl rfl rfl⟩
              · refine AW.seq ?_
                apply AW.list
                apply Wk.bin rfl rfl (fun w => by simp [go_sem] <;> rfl) (lt_of_ble rfl)
                apply Wk.asg (by conv => lhs; whnf) (lt_of_ble rfl)
                refine Wk.nil ?_
                refine AW.cond rfl (fun hc => ?_) (fun hc => ?_)
                · refine AW.seq ?_
                  apply AW.list
                  apply Wk.fad 3 0 false fd30_3 rfl (lt_of_ble rfl)
                  apply Wk.sto (i := 5) 1 false ty4 rfl rfl rfl rfl (Nat.le_of_ble_eq_true rfl) (lt_of_ble rfl)
                  refine Wk.nil ?_
                  apply AW.list
                  apply Wk.fad 4 0 false fd30_4 rfl (lt_of_ble rfl)
                  apply Wk.sto (i := 5) 1 false ty4 rfl rfl rfl rfl (Nat.le_of_ble_eq_true rfl) (lt_of_ble rfl)
                  refine Wk.nil (inBlockA_normal (thenA_normal ?_))
                  exact ⟨⟨zs8, p8, k, s, c, true, true, y, g, l, q, bs⟩, ⟨by simp only; omega, ⟨by simp only; omega, by simp only; omega⟩, ⟨by simp only; omega, by simp only; omega⟩, ⟨by simp only; omega, by simp only; omega⟩, ⟨by simp only; omega, by simp only; omega⟩, ⟨by simp only; omega, by simp only; omega⟩, ⟨by simp only; omega, by simp only; omega⟩, by simp only; omega⟩, fin _ _ rfl rfl rfl rfl rfl rfl rfl rfl rfl⟩
                · refine AW.seq ?_
                  apply AW.list
                  apply Wk.bin rfl rfl (fun w => by simp [go_sem] <;> rfl) (lt_of_ble rfl)
                  apply Wk.asg (by conv => lhs; whnf) (lt_of_ble rfl)
                  refine Wk.nil ?_
                  refine AW.cond rfl (fun hc => ?_) (fun hc => ?_)
                  · apply AW.list
                    apply Wk.lst 114 1 false [.int .i64 0] un59 ty3 ze3 rfl rfl (by rfl) (by rfl) (by decide) (by decide) rfl rfl (all_len rfl) (lt_of_ble rfl)
                    apply Wk.mv (by conv => lhs; whnf) (lt_of_ble rfl)
                    apply Wk.drw 0 pick_ok Try.func28 rfl rfl rfl rfl ⟨_, rfl, by omega⟩ (by omega) rfl (lt_of_ble rfl)
                    rintro r9 zs9 p9 ⟨k9, rfl, hk9⟩ hp9
                    have hk9' : k9 < 3 := by have := hk9 3 rfl; omega
                    obtain ⟨v, hv, hv1, hv2⟩ : ∃ v : Int, partA (List.flatten [[A.d (.v (.int .i64 (-1)))], [.d (.v (.int .i64 3))], [.d (.v (.int .i64 1))]]) (k9 * 1) 1 false = some (.d (.v (.int .i64 v))) ∧ -1000 ≤ v ∧ v ≤ 1000 := by
                      rcases (show k9 = 0 ∨ k9 = 1 ∨ k9 = 2 by omega) with rfl | rfl | rfl
                      · exact ⟨_, rfl, by omega, by omega⟩
                      · exact ⟨_, rfl, by omega, by omega⟩
                      · exact ⟨_, rfl, by omega, by omega⟩
                    apply Wk.iado 114 1 false un59 ty3 rfl rfl rfl hk9' (lt_of_ble rfl)
                    apply Wk.ldo (i := 114) 1 false ty3 rfl rfl hv (lt_of_ble rfl)
                    apply Wk.fad 5 0 false fd30_5 rfl (lt_of_ble rfl)
                    apply Wk.sto (i := 5) 1 false ty3 rfl rfl rfl rfl (Nat.le_of_ble_eq_true rfl) (lt_of_ble rfl)
                    refine Wk.nil (inBlockA_normal (thenA_normal ?_))
                    exact ⟨⟨zs9, p9, k, s, c, pl, f, v, g, l, q, bs⟩, ⟨by simp only; omega, ⟨by simp only; omega, by simp only; omega⟩, ⟨by simp only; omega, by simp only; omega⟩, ⟨by simp only; omega, by simp only; omega⟩, ⟨by simp only; omega, by simp only; omega⟩, ⟨by simp only; omega, by simp only; omega⟩, ⟨by simp only; omega, by simp only; omega⟩, by simp only; omega⟩, fin _ _ rfl rfl rfl rfl rfl rfl rfl rfl rfl⟩
                  · refine AW.seq ?_
                    apply AW.list
                    apply Wk.bin rfl rfl (fun w => by simp [go_sem] <;> rfl) (lt_of_ble rfl)
                    apply Wk.asg (by conv => lhs; whnf) (lt_of_ble rfl)
                    refine Wk.nil ?_
                    refine AW.cond rfl (fun hc => ?_) (fun hc => ?_)
                    · apply AW.list
                      apply Wk.lst 122 1 false [.int .i64 0] un59 ty3 ze3 rfl rfl (by rfl) (by rfl) (by decide) (by decide) rfl rfl (all_len rfl) (lt_of_ble rfl)
                      apply Wk.mv (by conv => lhs; whnf) (lt_of_ble rfl)
                      apply Wk.drw 0 pick_ok Try.func28 rfl rfl rfl rfl ⟨_, rfl, by omega⟩ (by omega) rfl (lt_of_ble rfl)
                      rintro r9 zs9 p9 ⟨k9, rfl, hk9⟩ hp9
                      have hk9' : k9 < 4 := by have := hk9 4 rfl; omega
                      obtain ⟨v, hv, hv1, hv2⟩ : ∃ v : Int, partA (List.flatten [[A.d (.v (.int .i64 (-1)))], [.d (.v (.int .i64 0))], [.d (.v (.int .i64 256))], [.d (.v (.int .i64 30))]]) (k9 * 1) 1 false = some (.d (.v (.int .i64 v))) ∧ -1000 ≤ v ∧ v ≤ 1000 := by
                        rcases (show k9 = 0 ∨ k9 = 1 ∨ k9 = 2 ∨ k9 = 3 by omega) with rfl | rfl | rfl | rfl
                        · exact ⟨_, rfl, by omega, by omega⟩
                        · exact ⟨_, rfl, by omega, by omega⟩
                        · exact ⟨_, rfl, by omega, by omega⟩
                        · exact ⟨_, rfl, by omega, by omega⟩
                      apply Wk.iado 122 1 false un59 ty3 rfl rfl rfl hk9' (lt_of_ble rfl)
                      apply Wk.ldo (i := 122) 1 false ty3 rfl rfl hv (lt_of_ble rfl)
                      apply Wk.fad 7 0 false fd30_7 rfl (lt_of_ble rfl)
                      apply Wk.sto (i := 5) 1 false ty3 rfl rfl rfl rfl (Nat.le_of_ble_eq_true rfl) (lt_of_ble rfl)
                      refine Wk.nil (inBlockA_normal (thenA_normal ?_))
                      exact ⟨⟨zs9, p9, k, s, c, pl, f, y, g, v, q, bs⟩, ⟨by simp only; omega, ⟨by simp only; omega, by simp only; omega⟩, ⟨by simp only; omega, by simp only; omega⟩, ⟨by simp only; omega, by simp only; omega⟩, ⟨by simp only; omega, by simp only; omega⟩, ⟨by simp only; omega, by simp only; omega⟩, ⟨by simp only; omega, by simp only; omega⟩, by simp only; omega⟩, fin _ _ rfl rfl rfl rfl rfl rfl rfl rfl rfl⟩
                    · refine AW.seq ?_
                      apply AW.list
                      apply Wk.bin rfl rfl (fun w => by simp [go_sem] <;> rfl) (lt_of_ble rfl)
                      apply Wk.asg (by conv => lhs; whnf) (lt_of_ble rfl)
                      refine Wk.nil ?_
                      refine AW.cond rfl (fun hc => ?_) (fun hc => ?_)
                      · apply AW.list
                        apply Wk.fad 8 0 false fd30_8 rfl (lt_of_ble rfl)
                        apply Wk.ld (i := 5) 1 false ty22 rfl rfl (by conv => lhs; whnf) (lt_of_ble rfl)
                        apply Wk.lst 132 1 false [.int .u8 0] un22 ty5 ze5 rfl rfl (by rfl) (by rfl) (by decide) (by decide) rfl rfl (all_len rfl) (lt_of_ble rfl)
                        apply Wk.appOO 7 132 1 un22 ap5 rfl rfl rfl rfl (by decide) (all_len rfl) (one_cellsB bs) (by simp [cellsB]; omega) (lt_of_ble rfl)
                        apply Wk.fad 8 0 false fd30_8 rfl (lt_of_ble rfl)
                        apply Wk.sto (i := 5) 1 false ty22 rfl rfl rfl rfl (Nat.le_of_ble_eq_true rfl) (lt_of_ble rfl)
                        refine Wk.nil (inBlockA_normal (thenA_normal ?_))
                        have e9 : cellsB (bs ++ [1, 2, 3, 4, 5, 6, 7, 8, 9]) = cellsB bs ++ cellsB [1, 2, 3, 4, 5, 6, 7, 8, 9] := by simp [cellsB]
                        exact ⟨⟨zs8, p8, k, s, c, pl, f, y, g, l, (q + 1), (bs ++ [1, 2, 3, 4, 5, 6, 7, 8, 9])⟩, ⟨by simp only; omega, ⟨by simp only; omega, by simp only; omega⟩, ⟨by simp only; omega, by simp only; omega⟩, ⟨by simp only; omega, by simp only; omega⟩, ⟨by simp only; omega, by simp only; omega⟩, ⟨by simp only; omega, by simp only; omega⟩, ⟨by simp only; omega, by simp only; omega⟩, by simp; omega⟩, fin _ _ rfl rfl rfl rfl rfl rfl rfl rfl (by unfold ownB; rw [e9]; rfl)⟩
                      · apply AW.list
                        apply Wk.lst 78 1 false [.int .i64 0] un59 ty3 ze3 rfl rfl (by rfl) (by rfl) (by decide) (by decide) rfl rfl (all_len rfl) (lt_of_ble rfl)
                        apply Wk.mv (by conv => lhs; whnf) (lt_of_ble rfl)
                        apply Wk.drw 0 pick_ok Try.func28 rfl rfl rfl rfl ⟨_, rfl, by omega⟩ (by omega) rfl (lt_of_ble rfl)
                        rintro r9 zs9 p9 ⟨k9, rfl, hk9⟩ hp9
                        have hk9' : k9 < 3 := by have := hk9 3 rfl; omega
                        obtain ⟨v, hv, hv1, hv2⟩ : ∃ v : Int, partA (List.flatten [[A.d (.v (.int .i64 (-1)))], [.d (.v (.int .i64 4))], [.d (.v (.int .i64 2))]]) (k9 * 1) 1 false = some (.d (.v (.int .i64 v))) ∧ -1000 ≤ v ∧ v ≤ 1000 := by
                          rcases (show k9 = 0 ∨ k9 = 1 ∨ k9 = 2 by omega) with rfl | rfl | rfl
                          · exact ⟨_, rfl, by omega, by omega⟩
                          · exact ⟨_, rfl, by omega, by omega⟩
                          · exact ⟨_, rfl, by omega, by omega⟩
                        apply Wk.iado 78 1 false un59 ty3 rfl rfl rfl hk9' (lt_of_ble rfl)
                        apply Wk.ldo (i := 78) 1 false ty3 rfl rfl hv (lt_of_ble rfl)
                        apply Wk.fad 6 0 false fd30_6 rfl (lt_of_ble rfl)
                        apply Wk.sto (i := 5) 1 false ty3 rfl rfl rfl rfl (Nat.le_of_ble_eq_true rfl) (lt_of_ble rfl)
                        refine Wk.nil (inBlockA_normal (thenA_normal ?_))
                        exact ⟨⟨zs9, p9, k, s, c, pl, f, y, v, l, q, bs⟩, ⟨by simp only; omega, ⟨by simp only; omega, by simp only; omega⟩, ⟨by simp only; omega, by simp only; omega⟩, ⟨by simp only; omega, by simp only; omega⟩, ⟨by simp only; omega, by simp only; omega⟩, ⟨by simp only; omega, by simp only; omega⟩, ⟨by simp only; omega, by simp only; omega⟩, by simp only; omega⟩, fin _ _ rfl rfl rfl rfl rfl rfl rfl rfl rfl⟩
        · exact ⟨⟨zs7, p7, k, s, c, pl, f, y, g, l, q, bs⟩, ⟨by simp only; omega, ⟨by simp only; omega, by simp only; omega⟩, ⟨by simp only; omega, by simp only; omega⟩, ⟨by simp only; omega, by simp only; omega⟩, ⟨by simp only; omega, by simp only; omega⟩, ⟨by simp only; omega, by simp only; omega⟩, ⟨by simp only; omega, by simp only; omega⟩, by simp only; omega⟩, fin _ _ rfl rfl rfl rfl rfl rfl rfl rfl rfl⟩
      · rintro ⟨zs6, p6, k, s, c, pl, f, y, g, l, q, bs⟩ ⟨hp6, hk, hs, hcc, hy, hg, hl, hb6⟩
        show AW Try.prog C _ _ (St.of 136 [(0, .ptr 0 0), (1, .d (.v (.int .i64 n))), (4, .ptr 4 0), (5, .ptr 5 0)] [(0, rdr zs6 p6), (4, .var frmZ), (5, .var (frmO k s c pl f y g l (.own 7 q))), (7, ownB q bs)])
        refine AW.thawc (j := 5) (c := 8) (i := 7) (cellsD bs) rfl rfl (by rfl) (asData_cells bs) (hX.one (by decide) rfl) ?_
        refine AW.seq ?_
        apply AW.list
        apply Wk.ld (i := 5) 9 true ty30 rfl rfl (by conv => lhs; whnf) (lt_of_ble rfl)
        apply Wk.sto (i := 4) 9 true ty30 rfl rfl rfl rfl (Nat.le_of_ble_eq_true rfl) (lt_of_ble rfl)
        refine Wk.nil (AW.ret ?_)
        exact RetQ.ret [(0, rdr zs6 p6)] (.cons ⟨4, 0, _, _, _, rfl, rfl, ty30, rfl⟩ .nil) ⟨⟨k, s, c, pl, f, y, g, l, bs, rfl, hk, hs, hcc, hy, hg, hl, hb6⟩, _, _, rfl, hp6⟩ (kept1 rfl)
  · rintro rest ⟨n, rfl, _⟩; rfl
  · rintro rest _; exact ⟨_, 0, 0, 0, false, false, 0, 0, 0, [], rfl, by simp [Sm]⟩
  · rintro rest r ⟨k, s, c, pl, f, y, g, l, bs, rfl, _⟩; rfl
end Go.Proofs.Ytlmadcpoaedagaa

/- What comes of a frame that is heard, as a function; what is true of it. -/
namespace Go.Proofs.Ytlmadcpoaedagaa
open Go
/-- What both use, who hears, a frame; and what comes of it: who hears then, the message, what is said. -/
structure CF where
  m : Int
  w : Int
  s : Int
  t : Int
  y : Int
structure RX where
  e : Int
  c : Int
  m : Int
  bs : List (Fin 256)
  a : Bool
  u : Bool
  d : Bool
structure FR where
  k : Int
  s : Int
  c : Int
  p : Bool
  f : Bool
  y : Int
  g : Int
  l : Int
  bs : List (Fin 256)
structure HO where
  x : RX
  sd : Option (List (Fin 256))
  sy : Option (Int × Bool × Int)
def CF.ok (q : CF) : Bool := Opt.ok ⟨q.m, q.w, q.s, q.t, q.y⟩
def RX.ok (x : RX) : Bool := rxB x.e x.c x.m x.bs.length
def FR.ok (f : FR) : Bool := frmB f.k f.s f.c f.p f.f f.y f.g f.l f.bs.length
def RX.zero : RX := ⟨0, 0, 0, [], false, false, false⟩
/-- The piece that comes next. -/
def takeF (q : CF) (x : RX) (f : FR) : HO :=
  if q.t < f.l ∨ q.s < (f.bs.length : Int) ∨ x.c = 9999 then ⟨⟨x.e, x.c, x.m, x.bs, x.a, x.u, true⟩, none, none⟩
  else if putC x.m x.bs.length f.g f.bs.length = 3 then ⟨⟨x.e, x.c, 0, [], x.a, x.u, true⟩, none, none⟩
  else if putC x.m x.bs.length f.g f.bs.length = 2 then ⟨⟨(x.e + 1) % 8, x.c + 1, 0, [], false, x.u, x.d⟩, some (x.bs ++ f.bs), none⟩
  else ⟨⟨(x.e + 1) % 8, x.c + 1, if x.m = 0 then f.l else x.m, x.bs ++ f.bs, false, x.u, x.d⟩, none, none⟩
/-- All is as it may be. -/
def goesB (q : CF) (x : RX) (f : FR) : Bool := q.ok && x.ok && f.ok && (f.k == 1 || f.k == 2)
def hearF (q : CF) (x : RX) (f : FR) : HO :=
  if goesB q x f = false then ⟨RX.zero, none, none⟩
  else if x.d = true then ⟨x, none, none⟩
  else if f.k = 2 then (if f.p = true then ⟨⟨x.e, x.c, x.m, x.bs, false, x.u, x.d⟩, none, some (x.e, true, sayOf x.u)⟩ else ⟨x, none, none⟩)
  else if x.u = true then ⟨x, none, some (x.e, false, 2)⟩
  else if f.s = x.e then takeF q x f
  else if x.a = true ∨ q.w ≤ farF x.e f.s then ⟨x, none, none⟩
  else ⟨⟨x.e, x.c, x.m, x.bs, true, x.u, x.d⟩, none, some (x.e, false, 1)⟩

theorem RX.ok_iff {x : RX} : x.ok = true ↔ (0 ≤ x.c ∧ x.c ≤ 9999) ∧ x.c % 8 = x.e ∧ joinB x.m x.bs.length = true := by
  simp only [RX.ok, rxB, Bool.and_eq_true, inB_iff, beq_iff_eq]
  constructor
  · rintro ⟨⟨h1, h2⟩, h3⟩; exact ⟨h1, h2, h3⟩
  · rintro ⟨h1, h2, h3⟩; exact ⟨⟨h1, h2⟩, h3⟩
theorem putC_cases (m : Int) (n : Nat) (g : Int) (k : Nat) : putC m n g k = 1 ∨ putC m n g k = 2 ∨ putC m n g k = 3 := by
  unfold putC
  repeat' split
  all_goals simp
theorem join_more {m : Int} {n : Nat} {g l : Int} {k : Nat} (hj : joinB m n = true) (hp : pieceB g l k = true) (h : putC m n g k = 1) : joinB (if m = 0 then l else m) (n + k) = true := by
  simp only [joinB, pieceB, decide_eq_true_eq] at hj hp ⊢
  unfold putC at h
  split at h
  · rename_i h0
    rw [if_pos h0]
    repeat' split at h
    all_goals first | omega | simp at h
  · rename_i h0
    rw [if_neg h0]
    repeat' split at h
    all_goals first | omega | simp at h
/-- The three ways of a piece that comes next. -/
theorem take_cases (q : CF) (x : RX) (f : FR) (hx : x.ok = true) (hp : pieceB f.g f.l f.bs.length = true) :
    ((q.t < f.l ∨ q.s < (f.bs.length : Int) ∨ x.c = 9999) ∧ takeF q x f = ⟨⟨x.e, x.c, x.m, x.bs, x.a, x.u, true⟩, none, none⟩) ∨
    (¬ (q.t < f.l ∨ q.s < (f.bs.length : Int) ∨ x.c = 9999) ∧ (
      (putC x.m x.bs.length f.g f.bs.length = 3 ∧ takeF q x f = ⟨⟨x.e, x.c, 0, [], x.a, x.u, true⟩, none, none⟩) ∨
      (putC x.m x.bs.length f.g f.bs.length = 2 ∧ takeF q x f = ⟨⟨(x.e + 1) % 8, x.c + 1, 0, [], false, x.u, x.d⟩, some (x.bs ++ f.bs), none⟩ ∧ (RX.ok ⟨(x.e + 1) % 8, x.c + 1, 0, [], false, x.u, x.d⟩ = true)) ∨
      (putC x.m x.bs.length f.g f.bs.length = 1 ∧ takeF q x f = ⟨⟨(x.e + 1) % 8, x.c + 1, if x.m = 0 then f.l else x.m, x.bs ++ f.bs, false, x.u, x.d⟩, none, none⟩ ∧ (RX.ok ⟨(x.e + 1) % 8, x.c + 1, if x.m = 0 then f.l else x.m, x.bs ++ f.bs, false, x.u, x.d⟩ = true)))) := by
  obtain ⟨h1, h2, h3⟩ := RX.ok_iff.1 hx
  by_cases hl : q.t < f.l ∨ q.s < (f.bs.length : Int) ∨ x.c = 9999
  · exact .inl ⟨hl, by rw [takeF, if_pos hl]⟩
  · refine .inr ⟨hl, ?_⟩
    rcases putC_cases x.m x.bs.length f.g f.bs.length with h | h | h
    · refine .inr (.inr ⟨h, by rw [takeF, if_neg hl, if_neg (by omega), if_neg (by omega)], ?_⟩)
      have h4 := join_more h3 hp h
      rw [RX.ok_iff]
      simp only [List.length_append]
      exact ⟨by omega, by omega, h4⟩
    · refine .inr (.inl ⟨h, by rw [takeF, if_neg hl, if_neg (by omega), if_pos h], ?_⟩)
      rw [RX.ok_iff]
      simp only
      exact ⟨by omega, by omega, by rfl⟩
    · exact .inl ⟨h, by rw [takeF, if_neg hl, if_pos h]⟩
theorem goes_iff {q : CF} {x : RX} {f : FR} : goesB q x f = true ↔ q.ok = true ∧ x.ok = true ∧ f.ok = true ∧ (f.k = 1 ∨ f.k = 2) := by
  simp only [goesB, Bool.and_eq_true, Bool.or_eq_true, beq_iff_eq, and_assoc]
theorem FR.data {f : FR} (h : f.ok = true) (hk : f.k = 1) : (0 ≤ f.s ∧ f.s ≤ 7) ∧ (0 ≤ f.c ∧ f.c ≤ 7) ∧ f.p = false ∧ f.y = 0 ∧ pieceB f.g f.l f.bs.length = true := by
  simp only [FR.ok, frmB, decide_eq_true_eq, hk] at h
  rcases h with h | h | h | h
  · exact h.2
  · exact absurd h.1 (by decide)
  · exact absurd h.1 (by decide)
  · exact absurd h.1 (by decide)
/-- A piece, not dead, not busy. -/
theorem hearF_data {q : CF} {x : RX} {f : FR} (hg : goesB q x f = true) (hk : f.k = 1) (hd : x.d = false) (hu : x.u = false) :
    hearF q x f = if f.s = x.e then takeF q x f else if x.a = true ∨ q.w ≤ farF x.e f.s then ⟨x, none, none⟩ else ⟨⟨x.e, x.c, x.m, x.bs, true, x.u, x.d⟩, none, some (x.e, false, 1)⟩ := by
  rw [hearF, if_neg (by simp [hg]), if_neg (by simp [hd]), if_neg (by omega), if_neg (by simp [hu])]
/-- What does not come next leaves what has come. -/
theorem hearF_other {q : CF} {x : RX} {f : FR} (hg : goesB q x f = true) (h : ¬ (f.k = 1 ∧ f.s = x.e ∧ x.u = false ∧ x.d = false)) :
    (hearF q x f).x.e = x.e ∧ (hearF q x f).x.c = x.c ∧ (hearF q x f).x.m = x.m ∧ (hearF q x f).x.bs = x.bs ∧ (hearF q x f).x.u = x.u ∧ (hearF q x f).x.d = x.d ∧ (hearF q x f).sd = none := by
  have hk := (goes_iff.1 hg).2.2.2
  unfold hearF
  rw [if_neg (by simp [hg])]
  split
  · simp
  rename_i hd
  split
  · split <;> simp
  rename_i hk2
  split
  · simp
  rename_i hu
  split
  · rename_i hs
    exact absurd ⟨by omega, hs, by simpa using hu, by simpa using hd⟩ h
  · split <;> simp
theorem hearF_twice {q : CF} {x : RX} {f : FR} (hq : q.ok = true) (hx : x.ok = true) (hf : f.ok = true) (hk : f.k = 1) (h : (hearF q x f).x.c = x.c + 1) :
    (hearF q (hearF q x f).x f).x.c = (hearF q x f).x.c ∧ (hearF q (hearF q x f).x f).sd = none ∧ (hearF q (hearF q x f).x f).x.m = (hearF q x f).x.m ∧ (hearF q (hearF q x f).x f).x.bs = (hearF q x f).x.bs ∧ (hearF q (hearF q x f).x f).x.d = false := by
  have hg : goesB q x f = true := goes_iff.2 ⟨hq, hx, hf, .inl hk⟩
  have hn : f.k = 1 ∧ f.s = x.e ∧ x.u = false ∧ x.d = false := Classical.byContradiction fun hn => by
    have := (hearF_other hg hn).2.1
    omega
  obtain ⟨_, hs, hu, hd⟩ := hn
  have e0 : hearF q x f = takeF q x f := by rw [hearF_data hg hk hd hu, if_pos hs]
  rw [e0] at h ⊢
  have hx' := RX.ok_iff.1 hx
  have key : ∀ y : RX, y.ok = true → y.e = (x.e + 1) % 8 → y.u = false → y.d = false → (hearF q y f).x.c = y.c ∧ (hearF q y f).sd = none ∧ (hearF q y f).x.m = y.m ∧ (hearF q y f).x.bs = y.bs ∧ (hearF q y f).x.d = false := by
    intro y hy he hu' hd'
    have := hearF_other (q := q) (x := y) (f := f) (goes_iff.2 ⟨hq, hy, hf, .inl hk⟩) (by rintro ⟨_, h2, _⟩; omega)
    exact ⟨this.2.1, this.2.2.2.2.2.2, this.2.2.1, this.2.2.2.1, this.2.2.2.2.2.1.trans hd'⟩
  rcases take_cases q x f hx (FR.data hf hk).2.2.2.2 with ⟨_, e⟩ | ⟨_, ⟨_, e⟩ | ⟨_, e, h3⟩ | ⟨_, e, h3⟩⟩
  · rw [e] at h; simp only at h; omega
  · rw [e] at h; simp only at h; omega
  · rw [e]; exact key _ h3 rfl hu hd
  · rw [e]; exact key _ h3 rfl hu hd
end Go.Proofs.Ytlmadcpoaedagaa

/- Contracts over memory whose answers are lists of their own, over what values read as. -/
namespace Go.Proofs.Ytlmadcpoaedagaa
open Go Go.RowKit
/-- An answer in new memory. -/
theorem DataOk.liftN {P : Program} {f : FuncId} {ls : List A} {r : A} (h : ∀ (w : World) (F : Nat → Prop) (E : Nat → Option Nat) (H : Nat → Nat → Option Value) (args : Array Value), (∀ b, F b → b < w.heap.size) → args.size = ls.length → (∀ (i : Nat) (a : A), ls[i]? = some a → Den w F E H a (args.getD i undef)) →
    Calls P f args w fun e w' => ∃ v, e = .returned v ∧ Below w.heap.size w w' ∧ Den w' (fun b => w.heap.size ≤ b ∧ b < w'.heap.size) E H r v) : DataOk P f ls r := by
  intro w F E H args hpo hs hd
  refine (h w F E H args hpo.Flt hs hd).mono ?_
  rintro e w' ⟨v, rfl, hb, hden⟩
  refine ⟨v, r, [], fun b => F b ∨ (w.heap.size ≤ b ∧ b < w'.heap.size), E, H, rfl, ⟨rfl, rfl⟩, ⟨hb.os, hb.tape, hb.output, hb.size, fun b hlt _ => hb.block b hlt, fun b h => .inl h, fun b h => ?_, fun b h => ?_, fun _ _ h => h, fun _ _ _ h => h,
    (fun i x hx => by cases hx), (fun i x b hx => by cases hx), (fun i j x y b _ hx => by cases hx), (fun i x b hx => by cases hx)⟩, hden.mono (fun b h => .inr h) (fun _ _ => rfl) (fun _ _ h => h) (fun _ _ _ h => h)⟩
  · rcases h with h | h
    · exact Nat.lt_of_lt_of_le (hpo.Flt b h) hb.size
    · exact h.2
  · rcases h with h | h
    · exact .inl h
    · exact .inr h.1
theorem own_den {w : World} {B : Nat} {v : Value} {zs : List Nat} (h : Own w B v zs) : FDen w (fun b => B ≤ b ∧ b < w.heap.size) (bytesD zs) v := by
  have h0 : w.ownsRow 0 5 1 v ((zs.map fun z : Nat => [A.d (.v (.int .u8 (z : Int)))]).length) (bcells zs) := by
    have h' : w.ownsRow B 5 1 v zs.length (bcells zs) := h
    rw [List.length_map]
    refine ⟨h'.1, ?_⟩
    rcases h'.2 with h1 | ⟨g, cap, cur, h1, h2, h3⟩
    · exact .inl h1
    · exact .inr ⟨g, cap, cur, h1, Nat.zero_le _, h3⟩
  have hp : Pw (CellOk w (fun _ => False) (fun _ => none) (fun _ _ => none)) (zs.map fun z : Nat => [A.d (.v (.int .u8 (z : Int)))]).flatten (bcells zs) := by
    have e : (zs.map fun z : Nat => [A.d (.v (.int .u8 (z : Int)))]).flatten = zs.map fun z : Nat => A.d (.v (.int .u8 (z : Int))) := by
      clear h0 h
      induction zs with
      | nil => rfl
      | cons z zs ih => simp [ih]
    rw [e]
    refine ⟨by simp [bcells], fun j a u ha hu => ?_⟩
    simp only [List.getElem?_map, Option.map_eq_some_iff, bcells] at ha hu
    obtain ⟨z, hz, rfl⟩ := ha
    obtain ⟨z', hz', rfl⟩ := hu
    rw [hz] at hz'
    obtain rfl := Option.some.inj hz'
    exact ⟨rfl, .d _ _ (.v _)⟩
  have := own_rowA h0 (by intro c hc; obtain ⟨z, _, rfl⟩ := List.mem_map.1 hc; rfl) hp (ds := zs.map fun z : Nat => [D.v (.int .u8 (z : Int))]) (by simp [asData, nrms, nrm])
  refine this.mono (fun b hb => ?_) (fun _ _ => rfl)
  rcases hb with hb | hb
  · exact hb.elim
  · exact World.ownsRow.lt h b hb
/-- The nil list of an answer reads as the empty one. -/
theorem DataOk.nrm {P : Program} {f : FuncId} {ls : List A} {r : A} (h : DataOk P f ls r) : DataOk P f ls (Go.Proofs.Ytlmadcpoaedagaa.nrm r) := by
  intro w F E H args hpo hs hd
  refine (h w F E H args hpo hs hd).mono ?_
  rintro e w' ⟨v, r', bs', F', E', H', rfl, ⟨rfl, rfl⟩, po, hden⟩
  exact ⟨v, _, [], F', E', H', rfl, ⟨rfl, rfl⟩, po, hden.nrm⟩
theorem args2 {w : World} {F : Nat → Prop} {E : Nat → Option Nat} {H : Nat → Nat → Option Value} {a b : A} {args : Array Value} (hs : args.size = [a, b].length) (hd : ∀ (i : Nat) (x : A), [a, b][i]? = some x → Den w F E H x (args.getD i undef)) : ∃ v u, args = #[v, u] ∧ Den w F E H a v ∧ Den w F E H b u := by
  have hs' : args.toList.length = 2 := by simpa using hs
  match hl : args.toList, hs' with
  | [v, u], _ =>
    obtain rfl : args = #[v, u] := by rw [← Array.toArray_toList (xs := args), hl]
    exact ⟨v, u, rfl, hd 0 a rfl, hd 1 b rfl⟩
theorem cfg_args {w : World} {F : Nat → Prop} {E : Nat → Option Nat} {H : Nat → Nat → Option Value} {m n s t y : Int} {v : Value} (h : Den w F E H (cfgA m n s t y) v) : v = .agg #[.int .i64 m, .int .i64 n, .int .i64 s, .int .i64 t, .int .i64 y] := by
  obtain ⟨cs, rfl, hs, _, h⟩ := den_agg h
  have hs' : cs.toList.length = 5 := by simpa using hs
  match hl : cs.toList, hs' with
  | [x0, x1, x2, x3, x4], _ =>
    obtain rfl : cs = #[x0, x1, x2, x3, x4] := by rw [← Array.toArray_toList (xs := cs), hl]
    obtain rfl := den_v (h 0 _ rfl)
    obtain rfl := den_v (h 1 _ rfl)
    obtain rfl := den_v (h 2 _ rfl)
    obtain rfl := den_v (h 3 _ rfl)
    obtain rfl := den_v (h 4 _ rfl)
    rfl
theorem icfg_ok (m n s t y : Int) : DataOk Try.prog 30 [cfgA m n s t y] (.d (.v (.bool (Opt.ok ⟨m, n, s, t, y⟩)))) := by
  refine DataOk.lift fun w F E H args _ hs hd => ?_
  obtain ⟨v, rfl, hv⟩ := arg1 hs hd
  obtain rfl := cfg_args hv
  exact impl_cfg_v _ _ _ _ _ w
theorem scfg_ok (m n s t y : Int) : DataOk Try.prog 16 [cfgA m n s t y] (.d (.v (.bool (Opt.ok ⟨m, n, s, t, y⟩)))) := by
  refine DataOk.lift fun w F E H args _ hs hd => ?_
  obtain ⟨v, rfl, hv⟩ := arg1 hs hd
  obtain rfl := cfg_args hv
  exact spec_cfg_v _ _ _ _ _ w
theorem sfrm_ok (k s c : Int) (p f : Bool) (y g l : Int) (bs : List (Fin 256)) : DataOk Try.prog 17 [frmA k s c p f y g l bs] (.d (.v (.bool (frmB k s c p f y g l bs.length)))) := by
  refine DataOk.lift fun w F E H args hF hs hd => ?_
  obtain ⟨v, rfl, hv⟩ := arg1 hs hd
  obtain ⟨cs, rfl, hs, _, h⟩ := den_agg hv
  have hs' : cs.toList.length = 9 := by simpa using hs
  match hl' : cs.toList, hs' with
  | [x0, x1, x2, x3, x4, x5, x6, x7, x8], _ =>
    obtain rfl : cs = #[x0, x1, x2, x3, x4, x5, x6, x7, x8] := by rw [← Array.toArray_toList (xs := cs), hl']
    obtain rfl := den_v (h 0 _ rfl)
    obtain rfl := den_v (h 1 _ rfl)
    obtain rfl := den_v (h 2 _ rfl)
    obtain rfl := den_v (h 3 _ rfl)
    obtain rfl := den_v (h 4 _ rfl)
    obtain rfl := den_v (h 5 _ rfl)
    obtain rfl := den_v (h 6 _ rfl)
    obtain rfl := den_v (h 7 _ rfl)
    obtain ⟨g', n', cap, rfl, hn⟩ := den_row (den_d (h 8 _ rfl))
    simp only [List.length_map] at hn
    subst hn
    exact spec_frm _ _ _ _ _ _ _ _ _ _ _ w
theorem int2 {P : Program} {f : FuncId} {a b r : Int} (h : ∀ w, Calls P f #[.int .i64 a, .int .i64 b] w fun e w' => e = .returned (.int .i64 r) ∧ w' = w) : DataOk P f [.d (.v (.int .i64 a)), .d (.v (.int .i64 b))] (.d (.v (.int .i64 r))) := by
  refine DataOk.lift fun w F E H args _ hs hd => ?_
  obtain ⟨v, u, rfl, hv, hu⟩ := args2 hs hd
  obtain rfl := den_v hv
  obtain rfl := den_v hu
  refine (h w).mono ?_
  rintro e w' ⟨rfl, rfl⟩
  exact ⟨rfl, Below.refl _ _⟩
theorem int1 {P : Program} {f : FuncId} {a r : Int} (h : ∀ w, Calls P f #[.int .i64 a] w fun e w' => e = .returned (.int .i64 r) ∧ w' = w) : DataOk P f [.d (.v (.int .i64 a))] (.d (.v (.int .i64 r))) := by
  refine DataOk.lift fun w F E H args _ hs hd => ?_
  obtain ⟨v, rfl, hv⟩ := arg1 hs hd
  obtain rfl := den_v hv
  refine (h w).mono ?_
  rintro e w' ⟨rfl, rfl⟩
  exact ⟨rfl, Below.refl _ _⟩
theorem ifar_ok (a b : Int) : DataOk Try.prog 23 [.d (.v (.int .i64 a)), .d (.v (.int .i64 b))] (.d (.v (.int .i64 (farF a b)))) := int2 (impl_far_any a b)
theorem sfar_ok (a b : Int) : DataOk Try.prog 75 [.d (.v (.int .i64 a)), .d (.v (.int .i64 b))] (.d (.v (.int .i64 (farF a b)))) := int2 (spec_far_any a b)
theorem inext_ok (n : Int) : DataOk Try.prog 21 [.d (.v (.int .i64 n))] (.d (.v (.int .i64 ((n + 1) % 8)))) := int1 (impl_next n)
theorem snext_ok (n : Int) (hn : 0 ≤ n ∧ n < 1000000) : DataOk Try.prog 54 [.d (.v (.int .i64 n))] (.d (.v (.int .i64 ((n + 1) % 8)))) := int1 (spec_next n hn)
def partA3 (g l : Int) (bs : List (Fin 256)) : A := .agg [.d (.v (.int .i64 g)), .d (.v (.int .i64 l)), .d (fbytes bs)]
def putR (c m : Int) (g out : List (Fin 256)) : A := .tup [.agg [.d (.v (.int .i64 m)), .d (fbytes g)], .d (fbytes out), .d (.v (.int .i64 c))]
theorem put_den {m : Int} {bs : List (Fin 256)} {g l : Int} {fs : List (Fin 256)} {E : Nat → Option Nat} {H : Nat → Nat → Option Value} {B : Nat} {e : Ending} {w : World} (h : PutAns B m (bs.map (·.val)) g l (fs.map (·.val)) e w) :
    ∃ v, e = .returned v ∧ Den w (fun b => B ≤ b ∧ b < w.heap.size) E H (putR (putA m (bs.map (·.val)) g l (fs.map (·.val))) (putN m (bs.map (·.val)) g l (fs.map (·.val)))
      (if putA m (bs.map (·.val)) g l (fs.map (·.val)) = 1 then bs ++ fs else []) (if putA m (bs.map (·.val)) g l (fs.map (·.val)) = 2 then bs ++ fs else [])) v := by
  obtain ⟨v1, v2, rfl, o1, o2, _⟩ := h
  refine ⟨_, rfl, ?_⟩
  have d1 := own_den o1
  have d2 := own_den o2
  have e1 : putG m (bs.map (·.val)) g l (fs.map (·.val)) = (if putA m (bs.map (·.val)) g l (fs.map (·.val)) = 1 then bs ++ fs else []).map (·.val) := by
    unfold putG
    split <;> simp
  have e2 : putM m (bs.map (·.val)) g l (fs.map (·.val)) = (if putA m (bs.map (·.val)) g l (fs.map (·.val)) = 2 then bs ++ fs else []).map (·.val) := by
    unfold putM
    split <;> simp
  rw [e1] at d1
  rw [e2] at d2
  have h1 : v1.oneCell' = true := by
    rcases (show w.ownsRow B 5 1 v1 _ _ from o1).2 with h | ⟨_, _, _, h, _⟩
    · rw [h.1]; rfl
    · rw [h]; rfl
  refine .tup _ _ rfl fun i a ha => ?_
  match i with
  | 0 =>
    obtain rfl := Option.some.inj ha
    refine .agg _ _ rfl (fun i hi => ?_) (fun i a ha => ?_)
    · match i with
      | 0 => rfl
      | 1 => exact h1
      | _ + 2 => simp at hi; omega
    · match i with
      | 0 => obtain rfl := Option.some.inj ha; exact .d _ _ (.v _)
      | 1 => obtain rfl := Option.some.inj ha; exact .d _ _ d1
      | _ + 2 => simp at ha
  | 1 => obtain rfl := Option.some.inj ha; exact .d _ _ d2
  | 2 => obtain rfl := Option.some.inj ha; exact .d _ _ (.v _)
  | _ + 3 => simp at ha
theorem join_args {w : World} {F : Nat → Prop} {E : Nat → Option Nat} {H : Nat → Nat → Option Value} {m : Int} {bs : List (Fin 256)} {v : Value} (h : Den w F E H (joinA m bs) v) (hF : ∀ b, F b → b < w.heap.size) (hl : bs.length ≤ 2000000) : ∃ u, v = .agg #[.int .i64 m, u] ∧ Rd w u (bs.map (·.val)) := by
  obtain ⟨cs, rfl, hs, _, h⟩ := den_agg h
  have hs' : cs.toList.length = 2 := by simpa using hs
  match hl' : cs.toList, hs' with
  | [x0, x1], _ =>
    obtain rfl : cs = #[x0, x1] := by rw [← Array.toArray_toList (xs := cs), hl']
    obtain rfl := den_v (h 0 _ rfl)
    exact ⟨x1, rfl, den_rd (den_d (h 1 _ rfl)) hF (fin_byt bs) (by simpa using hl)⟩
theorem part_args {w : World} {F : Nat → Prop} {E : Nat → Option Nat} {H : Nat → Nat → Option Value} {g l : Int} {bs : List (Fin 256)} {v : Value} (h : Den w F E H (partA3 g l bs) v) (hF : ∀ b, F b → b < w.heap.size) (hl : bs.length ≤ 2000000) : ∃ u, v = .agg #[.int .i64 g, .int .i64 l, u] ∧ Rd w u (bs.map (·.val)) := by
  obtain ⟨cs, rfl, hs, _, h⟩ := den_agg h
  have hs' : cs.toList.length = 3 := by simpa using hs
  match hl' : cs.toList, hs' with
  | [x0, x1, x2], _ =>
    obtain rfl : cs = #[x0, x1, x2] := by rw [← Array.toArray_toList (xs := cs), hl']
    obtain rfl := den_v (h 0 _ rfl)
    obtain rfl := den_v (h 1 _ rfl)
    exact ⟨x2, rfl, den_rd (den_d (h 2 _ rfl)) hF (fin_byt bs) (by simpa using hl)⟩
/-- What comes of a piece: c, what has come then, the message. -/
def putS (m : Int) (bs : List (Fin 256)) (g l : Int) (fs : List (Fin 256)) : Int := putA m (bs.map (·.val)) g l (fs.map (·.val))
def putA4 (m : Int) (bs : List (Fin 256)) (g l : Int) (fs : List (Fin 256)) : A := putR (putS m bs g l fs) (putN m (bs.map (·.val)) g l (fs.map (·.val))) (if putS m bs g l fs = 1 then bs ++ fs else []) (if putS m bs g l fs = 2 then bs ++ fs else [])
theorem iput_ok (m : Int) (bs : List (Fin 256)) (g l : Int) (fs : List (Fin 256)) (h1 : bs.length ≤ 2000000) (h2 : fs.length ≤ 2000000) : DataOk Try.prog 20 [joinA m bs, partA3 g l fs] (putA4 m bs g l fs) := by
  refine DataOk.liftN fun w F E H args hF hs hd => ?_
  obtain ⟨v, u, rfl, hv, hu⟩ := args2 hs hd
  obtain ⟨v1, rfl, r1⟩ := join_args hv hF h1
  obtain ⟨u1, rfl, r2⟩ := part_args hu hF h2
  refine (impl_segput m v1 _ g l u1 _ w r1 r2).mono ?_
  rintro e w' ⟨hp, hb⟩
  obtain ⟨v, rfl, hden⟩ := put_den (E := E) (H := H) hp
  exact ⟨v, rfl, hb, hden⟩
theorem sl4_ok (m : Int) (bs : List (Fin 256)) (g l : Int) (fs : List (Fin 256)) (h1 : joinB m bs.length = true) (h2 : pieceB g l fs.length = true) : DataOk Try.prog 82 [joinA m bs, partA3 g l fs] (putA4 m bs g l fs) := by
  have hl1 := joinB_small h1
  have hl2 := pieceB_small h2
  refine DataOk.liftN fun w F E H args hF hs hd => ?_
  obtain ⟨v, u, rfl, hv, hu⟩ := args2 hs hd
  obtain ⟨v1, rfl, r1⟩ := join_args hv hF (by omega)
  obtain ⟨u1, rfl, r2⟩ := part_args hu hF (by omega)
  obtain ⟨a, cap, rfl⟩ := r1.form
  obtain ⟨a', cap', rfl⟩ := r2.form
  refine (spec_l4 m a cap _ g l a' cap' _ w r1 r2 (by simpa using h1) (by simpa using h2)).mono ?_
  rintro e w' ⟨hp, hb⟩
  obtain ⟨v, rfl, hden⟩ := put_den (E := E) (H := H) hp
  exact ⟨v, rfl, hb, hden⟩
/-- The answers, told apart. -/
theorem putS_ok {m : Int} {bs : List (Fin 256)} {g l : Int} {fs : List (Fin 256)} (h1 : joinB m bs.length = true) (h2 : pieceB g l fs.length = true) : putS m bs g l fs = putC m bs.length g fs.length := by
  simp [putS, putA, h1, h2]
theorem putA4_bad {m : Int} {bs : List (Fin 256)} {g l : Int} {fs : List (Fin 256)} (h1 : joinB m bs.length = true) (h2 : pieceB g l fs.length = true) (h : putC m bs.length g fs.length = 3) : putA4 m bs g l fs = putR 3 0 [] [] := by
  have e := putS_ok h1 h2
  rw [h] at e
  have e' : putA m (bs.map (·.val)) g l (fs.map (·.val)) = 3 := e
  simp [putA4, e, putN, e']
theorem putA4_all {m : Int} {bs : List (Fin 256)} {g l : Int} {fs : List (Fin 256)} (h1 : joinB m bs.length = true) (h2 : pieceB g l fs.length = true) (h : putC m bs.length g fs.length = 2) : putA4 m bs g l fs = putR 2 0 [] (bs ++ fs) := by
  have e := putS_ok h1 h2
  rw [h] at e
  have e' : putA m (bs.map (·.val)) g l (fs.map (·.val)) = 2 := e
  simp [putA4, e, putN, e']
theorem putA4_more {m : Int} {bs : List (Fin 256)} {g l : Int} {fs : List (Fin 256)} (h1 : joinB m bs.length = true) (h2 : pieceB g l fs.length = true) (h : putC m bs.length g fs.length = 1) : putA4 m bs g l fs = putR 1 (if m = 0 then l else m) (bs ++ fs) [] := by
  have e := putS_ok h1 h2
  rw [h] at e
  have e' : putA m (bs.map (·.val)) g l (fs.map (·.val)) = 1 := e
  simp [putA4, e, putN, e']
end Go.Proofs.Ytlmadcpoaedagaa

/- Who hears, of the program; over what values read as. Written by tools/mk_AbsHr.py. -/
namespace Go.Proofs.Ytlmadcpoaedagaa
open Go
theorem ty62 : tyOf Try.prog 62 = some (1, false) := by kernel_rfl
def nilA : A := .d (.v (.slice none 0 0))
def rowE : A := .d (.row [])
def rxC (e c m : Int) (bs : List (Fin 256)) (a u d : Bool) : List A := [.d (.v (.int .i64 e)), .d (.v (.int .i64 c)), .d (.v (.int .i64 m)), .d (fbytes bs), .d (.v (.bool a)), .d (.v (.bool u)), .d (.v (.bool d))]
def sayF : A := .fn (.func 33) [] [.ptr 9 0]
def frmC (k s c : Int) (p f : Bool) (y g l : Int) (bs : List (Fin 256)) : List A := [.d (.v (.int .i64 k)), .d (.v (.int .i64 s)), .d (.v (.int .i64 c)), .d (.v (.bool p)), .d (.v (.bool f)), .d (.v (.int .i64 y)), .d (.v (.int .i64 g)), .d (.v (.int .i64 l)), .d (fbytes bs)]
def frmD (k s c : Int) (p f : Bool) (y g l : Int) (bs : List (Fin 256)) : List D := [.v (.int .i64 k), .v (.int .i64 s), .v (.int .i64 c), .v (.bool p), .v (.bool f), .v (.int .i64 y), .v (.int .i64 g), .v (.int .i64 l), fbytes bs]
/-- What is said, in the list that the callback fills. -/
def sayB : Option (Int × Bool × Int) → List (Nat × Bx) → List (Nat × Bx)
  | none, r => (9, .var [nilA]) :: r
  | some (e, f, y), r => (9, .var [.own 77 0]) :: (77, .own 0 30 9 [frmC 2 0 e false f y 0 0 []]) :: r
def hrB (e c m : Int) (bs : List (Fin 256)) (a u d : Bool) : List (Nat × Bx) := [(12, .var (rxC e c m bs a u d ++ [sayF]))]
/-- The messages told. -/
def sdD : Option (List (Fin 256)) → D
  | none => .v (.slice none 0 0)
  | some bs => .row [[fbytes bs]]
theorem XB.two {C : Ctx} {i q r : Nat} {σ : St} {cs0 cs cs1 cs2 : List A} (h : XB C [(q, .var cs0), (r, .var cs1)]) (hne : q ≠ i) (hne' : r ≠ i) (hb : σ.b q = .var cs) (hb' : σ.b r = .var cs2) : ∀ b, C.X b → ∃ j cs, j ≠ i ∧ C.E0 j = some b ∧ σ.b j = .var cs := fun b hx => by
  obtain ⟨j, x, hx, hbk⟩ := h b hx
  rw [List.lookup_cons] at hx
  split at hx
  · rename_i he
    obtain rfl := eq_of_beq he
    obtain rfl := Option.some.inj hx
    exact ⟨j, cs, hne, hbk, hb⟩
  · rw [List.lookup_cons] at hx
    split at hx
    · rename_i he
      obtain rfl := eq_of_beq he
      obtain rfl := Option.some.inj hx
      exact ⟨j, cs2, hne', hbk, hb'⟩
    · cases hx
theorem newH_ok (e c m : Int) (bs : List (Fin 256)) (a u d : Bool) (hl : bs.length ≤ 1000) : Spec Try.prog 32 [rxA e c m bs a u d, sayF] [(9, .var [nilA])] (fun r bs' => r = .ptr 12 0 ∧ bs' = [(9, .var [nilA]), (12, .var (rxC e c m bs a u d ++ [sayF]))]) := by
  refine Spec.intro (n := 13) (rv := [.tmp 4]) Try.func32 rfl rfl rfl (by simp) fun C hN hX => ?_
  refine AW.seq ?_
  apply AW.list
  apply Wk.bx 2 rfl rfl (lt_of_ble rfl)
  apply Wk.asg (by conv => lhs; whnf) (lt_of_ble rfl)
  refine Wk.nil ?_
  refine AW.seq ?_
  apply AW.list
  apply Wk.fad 2 1 true fd28_2 rfl (lt_of_ble rfl)
  apply Wk.ld (i := 2) 2 true ty26 rfl rfl (by conv => lhs; whnf) (lt_of_ble rfl)
  apply Wk.dat (copyJoin_ok m bs hl) Try.func58 rfl rfl rfl rfl rfl (lt_of_ble rfl)
  apply Wk.fad 2 1 true fd28_2 rfl (lt_of_ble rfl)
  apply Wk.sto (i := 2) 2 true ty26 rfl rfl rfl rfl (Nat.le_of_ble_eq_true rfl) (lt_of_ble rfl)
  refine Wk.nil ?_
  refine AW.seq ?_
  apply AW.list
  apply Wk.ld (i := 2) 7 true ty28 rfl rfl (by conv => lhs; whnf) (lt_of_ble rfl)
  apply Wk.mv (by conv => lhs; whnf) (lt_of_ble rfl)
  apply Wk.bld [.int .i64 0, .int .i64 0, .int .i64 0, .slice none 0 0, .bool false, .bool false, .bool false, .nilFunc] [(0, 7), (7, 1)] bl65 rfl (by conv => lhs; whnf) (lt_of_ble rfl)
  apply Wk.bx 12 rfl rfl (lt_of_ble rfl)
  apply Wk.asg (by conv => lhs; whnf) (lt_of_ble rfl)
  refine Wk.nil (AW.ret ?_)
  exact RetQ.ret [(9, .var [nilA]), (12, .var (rxC e c m bs a u d ++ [sayF]))] (.cons rfl .nil) ⟨rfl, rfl⟩ (kept2 rfl rfl)
theorem in_newH (e c m : Int) (bs : List (Fin 256)) (a u d : Bool) : PostIn ([9] ++ [12]) (fun r bs' => r = .ptr 12 0 ∧ bs' = [(9, .var [nilA]), (12, .var (rxC e c m bs a u d ++ [sayF]))]) := by
  rintro r bs' ⟨rfl, rfl⟩
  exact ⟨rfl, inAll rfl⟩
theorem tell_ok (k s c : Int) (p f : Bool) (y g l : Int) (bs : List (Fin 256)) : Spec Try.prog 33 [frmA k s c p f y g l bs, .ptr 9 0] [(9, .var [nilA])] (fun r bs' => r = .tup [] ∧ bs' = [(9, .var [.own 77 0]), (77, .own 0 30 9 [frmC k s c p f y g l bs])]) := by
  refine Spec.intro (n := 7) (rv := []) Try.func33 rfl rfl rfl (by simp) fun C hN hX => ?_
  refine AW.seq ?_
  apply AW.list
  apply Wk.bx 2 rfl rfl (lt_of_ble rfl)
  refine Wk.nil ?_
  apply AW.list
  apply Wk.ld (i := 9) 1 false ty34 rfl rfl (by conv => lhs; whnf) (lt_of_ble rfl)
  apply Wk.ld (i := 2) 9 true ty30 rfl rfl (by conv => lhs; whnf) (lt_of_ble rfl)
  apply Wk.lst 5 9 true [.int .i64 0, .int .i64 0, .int .i64 0, .bool false, .bool false, .int .i64 0, .int .i64 0, .int .i64 0, .slice none 0 0] un34 ty30 ze30 rfl rfl (by rfl) (by rfl) (by decide) (by decide) rfl rfl (all_len rfl) (lt_of_ble rfl)
  apply Wk.appNO 77 5 9 un34 ap30 rfl rfl rfl rfl (by decide) (all_len rfl) (by simp) (lt_of_ble rfl)
  apply Wk.sto (i := 9) 1 false ty34 rfl rfl rfl rfl (Nat.le_of_ble_eq_true rfl) (lt_of_ble rfl)
  refine Wk.nil ?_
  exact ⟨[], [(9, .var [.own 77 0]), (77, .own 0 30 9 [frmC k s c p f y g l bs])], .nil, ⟨rfl, rfl⟩, kept2 rfl rfl⟩
theorem in_tell (k s c : Int) (p f : Bool) (y g l : Int) (bs : List (Fin 256)) : PostIn ([9] ++ [77]) (fun r bs' => r = .tup [] ∧ bs' = [(9, .var [.own 77 0]), (77, .own 0 30 9 [frmC k s c p f y g l bs])]) := by
  rintro r bs' ⟨rfl, rfl⟩
  exact ⟨rfl, inAll rfl⟩
def hrPost (x : RX) (sd : Option (List (Fin 256))) (sy : Option (Int × Bool × Int)) (r : A) (bs' : List (Nat × Bx)) : Prop := r = .d (sdD sd) ∧ bs' = sayB sy (hrB x.e x.c x.m x.bs x.a x.u x.d)
def hrPost0 (x : RX) (sy : Option (Int × Bool × Int)) (r : A) (bs' : List (Nat × Bx)) : Prop := r = .tup [] ∧ bs' = sayB sy (hrB x.e x.c x.m x.bs x.a x.u x.d)
theorem in_sayB (x : RX) (sy : Option (Int × Bool × Int)) : ∀ i b, (sayB sy (hrB x.e x.c x.m x.bs x.a x.u x.d)).lookup i = some b → i ∈ [9, 12] ++ [77] ∧ b.within ([9, 12] ++ [77]) = true := by
  rcases sy with _ | ⟨e, f, y⟩
  · exact inAll rfl
  · exact inAll rfl
theorem in_hr (x : RX) (sd : Option (List (Fin 256))) (sy : Option (Int × Bool × Int)) : PostIn ([9, 12] ++ [77]) (hrPost x sd sy) := by
  rintro r bs' ⟨rfl, rfl⟩
  exact ⟨rfl, in_sayB x sy⟩
theorem in_hr0 (x : RX) (sy : Option (Int × Bool × Int)) : PostIn ([9, 12] ++ [77]) (hrPost0 x sy) := by
  rintro r bs' ⟨rfl, rfl⟩
  exact ⟨rfl, in_sayB x sy⟩
theorem itl_ok (m n s t y : Int) (k q c : Int) (p f : Bool) (z g l : Int) (bs : List (Fin 256)) : DataOk Try.prog 73 [cfgA m n s t y, frmA k q c p f z g l bs] (.d (.v (.bool (decide (t < l ∨ s < (bs.length : Int)))))) := by
  refine Spec.intro (n := 18) (rv := [.tmp 4]) Try.func73 rfl rfl rfl (by simp) fun C hN hX => ?_
  refine AW.seq ?_
  apply AW.list
  apply Wk.bx 2 rfl rfl (lt_of_ble rfl)
  apply Wk.bx 3 rfl rfl (lt_of_ble rfl)
  apply Wk.asg (by conv => lhs; whnf) (lt_of_ble rfl)
  refine Wk.nil ?_
  refine AW.seq ?_
  by_cases h : t < l
  · rw [show decide (t < l ∨ s < (bs.length : Int)) = true by simp [h]]
    apply AW.list
    apply Wk.fad 7 0 false fd30_7 rfl (lt_of_ble rfl)
    apply Wk.ld (i := 3) 1 false ty3 rfl rfl (by conv => lhs; whnf) (lt_of_ble rfl)
    apply Wk.fad 3 0 false fd24_3 rfl (lt_of_ble rfl)
    apply Wk.ld (i := 2) 1 false ty3 rfl rfl (by conv => lhs; whnf) (lt_of_ble rfl)
    apply Wk.bin rfl rfl (r := .bool true) (fun w => by simp [go_sem, h]) (lt_of_ble rfl)
    apply Wk.mv (by conv => lhs; whnf) (lt_of_ble rfl)
    apply Wk.goff 10 (ok_faddr fd30_8) rfl rfl (by decide)
    apply Wk.goff 10 (ok_load 3 ty22) rfl rfl (by decide)
    apply Wk.goff 10 (ok_len un22) rfl rfl (by decide)
    apply Wk.goff 10 (ok_faddr fd24_2) rfl rfl (by decide)
    apply Wk.goff 10 (ok_load 2 ty3) rfl rfl (by decide)
    apply Wk.goff 10 (ok_bin _ _ _ _ _) rfl rfl (by decide)
    apply Wk.pckT rfl (by conv => lhs; whnf) (lt_of_ble rfl)
    apply Wk.asg (by conv => lhs; whnf) (lt_of_ble rfl)
    refine Wk.nil (AW.ret ?_)
    exact RetQ.ret [] (.cons rfl .nil) ⟨rfl, rfl⟩ none_kept
  · rw [show decide (t < l ∨ s < (bs.length : Int)) = decide (s < (bs.length : Int)) by simp [h]]
    apply AW.list
    apply Wk.fad 7 0 false fd30_7 rfl (lt_of_ble rfl)
    apply Wk.ld (i := 3) 1 false ty3 rfl rfl (by conv => lhs; whnf) (lt_of_ble rfl)
    apply Wk.fad 3 0 false fd24_3 rfl (lt_of_ble rfl)
    apply Wk.ld (i := 2) 1 false ty3 rfl rfl (by conv => lhs; whnf) (lt_of_ble rfl)
    apply Wk.bin rfl rfl (r := .bool false) (fun w => by simp [go_sem, h]) (lt_of_ble rfl)
    apply Wk.mv (by conv => lhs; whnf) (lt_of_ble rfl)
    apply Wk.gon 10 rfl rfl
    apply Wk.fad 8 0 false fd30_8 rfl (lt_of_ble rfl)
    apply Wk.gon 10 rfl rfl
    apply Wk.ld (i := 3) 1 false ty22 rfl rfl (by conv => lhs; whnf) (lt_of_ble rfl)
    apply Wk.gon 10 rfl rfl
    apply Wk.len un22 rfl (lt_of_ble rfl)
    apply Wk.gon 10 rfl rfl
    apply Wk.fad 2 0 false fd24_2 rfl (lt_of_ble rfl)
    apply Wk.gon 10 rfl rfl
    apply Wk.ld (i := 2) 1 false ty3 rfl rfl (by conv => lhs; whnf) (lt_of_ble rfl)
    apply Wk.gon 10 rfl rfl
    apply Wk.bin rfl rfl (r := .bool (decide (s < (bs.length : Int)))) (fun w => by simp [go_sem]) (lt_of_ble rfl)
    apply Wk.pckF rfl (by conv => lhs; whnf) (lt_of_ble rfl)
    apply Wk.asg (by conv => lhs; whnf) (lt_of_ble rfl)
    refine Wk.nil (AW.ret ?_)
    exact RetQ.ret [] (.cons rfl .nil) ⟨rfl, rfl⟩ none_kept
theorem car_ok (k q c : Int) (p f : Bool) (z g l : Int) (bs : List (Fin 256)) : DataOk Try.prog 74 [frmA k q c p f z g l bs] (partA3 g l bs) := by
  refine Spec.intro (n := 10) (rv := [.cell 2 48]) Try.func74 rfl rfl rfl (by simp) fun C hN hX => ?_
  refine AW.seq ?_
  apply AW.list
  apply Wk.bx 1 rfl rfl (lt_of_ble rfl)
  apply Wk.alc 2 [.int .i64 0, .int .i64 0, .slice none 0 0] ze48 rfl rfl (lt_of_ble rfl)
  refine Wk.nil ?_
  refine AW.seq ?_
  apply AW.list
  apply Wk.fad 6 0 false fd30_6 rfl (lt_of_ble rfl)
  apply Wk.ld (i := 1) 1 false ty3 rfl rfl (by conv => lhs; whnf) (lt_of_ble rfl)
  apply Wk.fad 7 0 false fd30_7 rfl (lt_of_ble rfl)
  apply Wk.ld (i := 1) 1 false ty3 rfl rfl (by conv => lhs; whnf) (lt_of_ble rfl)
  apply Wk.fad 8 0 false fd30_8 rfl (lt_of_ble rfl)
  apply Wk.ld (i := 1) 1 false ty22 rfl rfl (by conv => lhs; whnf) (lt_of_ble rfl)
  apply Wk.bld [.int .i64 0, .int .i64 0, .slice none 0 0] [(0, 1), (1, 1), (2, 1)] bl48 rfl (by conv => lhs; whnf) (lt_of_ble rfl)
  apply Wk.sto (i := 2) 3 true ty48 rfl rfl rfl rfl (Nat.le_of_ble_eq_true rfl) (lt_of_ble rfl)
  refine Wk.nil (AW.ret ?_)
  exact RetQ.ret [] (.cons ⟨2, 0, _, _, _, rfl, rfl, ty48, rfl⟩ .nil) ⟨rfl, rfl⟩ none_kept
set_option maxHeartbeats 2000000 in
set_option maxRecDepth 100000 in
theorem ans0_ok (e c m : Int) (bs : List (Fin 256)) (a u d : Bool) (k s k2 : Int) (f : Bool) (y g l : Int) (fs : List (Fin 256)) : Spec Try.prog 59 [.ptr 12 0, frmA k s k2 false f y g l fs] [(9, .var [nilA]), (12, .var (rxC e c m bs a u d ++ [sayF]))] (hrPost0 ⟨e, c, m, bs, a, u, d⟩ none) := by
  refine Spec.intro (n := 24) (rv := []) Try.func59 rfl rfl rfl (by simp) fun C hN hX => ?_
  refine AW.seq ?_
  apply AW.list
  apply Wk.bx 3 rfl rfl (lt_of_ble rfl)
  refine Wk.nil ?_
  refine AW.seq (AW.seq ?_)
  apply AW.list
  apply Wk.fad 3 0 false fd30_3 rfl (lt_of_ble rfl)
  apply Wk.ld (i := 3) 1 false ty4 rfl rfl (by conv => lhs; whnf) (lt_of_ble rfl)
  apply Wk.un rfl (fun w => by simp [go_sem] <;> rfl) (lt_of_ble rfl)
  refine Wk.nil ?_
  refine AW.cond rfl (fun _ => AW.ret ?_) (fun hc => by cases hc)
  refine thenA_ret ?_
  exact RetQ.ret (sayB none (hrB e c m bs a u d)) .nil ⟨rfl, rfl⟩ (kept2 rfl rfl)
set_option maxHeartbeats 2000000 in
set_option maxRecDepth 100000 in
theorem ans1_ok (e c m : Int) (bs : List (Fin 256)) (a u d : Bool) (k s k2 : Int) (f : Bool) (y g l : Int) (fs : List (Fin 256)) : Spec Try.prog 59 [.ptr 12 0, frmA k s k2 true f y g l fs] [(9, .var [nilA]), (12, .var (rxC e c m bs a u d ++ [sayF]))] (hrPost0 ⟨e, c, m, bs, false, u, d⟩ (some (e, true, sayOf u))) := by
  refine Spec.intro (n := 24) (rv := []) Try.func59 rfl rfl rfl (by simp) fun C hN hX => ?_
  refine AW.seq ?_
  apply AW.list
  apply Wk.bx 3 rfl rfl (lt_of_ble rfl)
  refine Wk.nil ?_
  refine AW.seq (AW.seq ?_)
  apply AW.list
  apply Wk.fad 3 0 false fd30_3 rfl (lt_of_ble rfl)
  apply Wk.ld (i := 3) 1 false ty4 rfl rfl (by conv => lhs; whnf) (lt_of_ble rfl)
  apply Wk.un rfl (fun w => by simp [go_sem] <;> rfl) (lt_of_ble rfl)
  refine Wk.nil ?_
  refine AW.cond rfl (fun hc => by cases hc) (fun _ => AW.skip (thenA_normal ?_))
  refine AW.seq ?_
  apply AW.list
  apply Wk.mv (by conv => lhs; whnf) (lt_of_ble rfl)
  apply Wk.nilc rfl (lt_of_ble rfl)
  apply Wk.fad 0 6 true fd65_0 rfl (lt_of_ble rfl)
  apply Wk.fad 4 0 false fd28_3 rfl (lt_of_ble rfl)
  apply Wk.sto (i := 12) 1 false ty4 rfl rfl rfl rfl (Nat.le_of_ble_eq_true rfl) (lt_of_ble rfl)
  refine Wk.nil ?_
  refine AW.seq ?_
  apply AW.list
  apply Wk.mv (by conv => lhs; whnf) (lt_of_ble rfl)
  apply Wk.nilc rfl (lt_of_ble rfl)
  apply Wk.fad 0 6 true fd65_0 rfl (lt_of_ble rfl)
  apply Wk.ld (i := 12) 7 true ty28 rfl rfl (by conv => lhs; whnf) (lt_of_ble rfl)
  apply Wk.dat (far_ok e c m bs false u d) Try.func60 rfl rfl rfl rfl rfl (lt_of_ble rfl)
  apply Wk.alc 4 [.int .i64 0, .int .i64 0, .int .i64 0, .bool false, .bool false, .int .i64 0, .int .i64 0, .int .i64 0, .slice none 0 0] ze30 rfl rfl (lt_of_ble rfl)
  apply Wk.sto (i := 4) 9 true ty30 rfl rfl rfl rfl (Nat.le_of_ble_eq_true rfl) (lt_of_ble rfl)
  refine Wk.nil ?_
  refine AW.seq ?_
  apply AW.list
  apply Wk.fad 4 0 false fd30_4 rfl (lt_of_ble rfl)
  apply Wk.sto (i := 4) 1 false ty4 rfl rfl rfl rfl (Nat.le_of_ble_eq_true rfl) (lt_of_ble rfl)
  refine Wk.nil ?_
  apply AW.draw (hm := hmix) (cs := _)
  · apply Wk.mv (by conv => lhs; whnf) (lt_of_ble rfl)
    apply Wk.nilc rfl (lt_of_ble rfl)
    apply Wk.fad 7 0 false fd65_1 rfl (lt_of_ble rfl)
    apply Wk.ld (i := 12) 1 false ty62 rfl rfl (by conv => lhs; whnf) (lt_of_ble rfl)
    apply Wk.ld (i := 4) 9 true ty30 rfl rfl (by conv => lhs; whnf) (lt_of_ble rfl)
    apply Wk.clf [9] [77] (tell_ok 2 0 e false true (sayOf u) 0 0 []) (in_tell 2 0 e false true (sayOf u) 0 0 []) ⟨_, _, rfl, rfl⟩ Try.func33 rfl rfl rfl rfl (by simp; rfl) rfl (by simp; rfl) (lt_of_ble rfl)
    rintro r bs' ⟨rfl, rfl⟩
    refine Wk.nil ?_
    exact ⟨[], [(9, .var [.own 77 0]), (77, .own 0 30 9 [frmC 2 0 e false true (sayOf u) 0 0 []]), (12, .var (rxC e c m bs false u d ++ [sayF]))], .nil, ⟨rfl, rfl⟩, kept3 rfl rfl rfl⟩
  · rfl
  · rfl
set_option maxHeartbeats 2000000 in
set_option maxRecDepth 100000 in
theorem miss0a_ok (e c m : Int) (bs : List (Fin 256)) (u d : Bool) (m0 w0 s0 t0 y0 : Int) (k s k2 : Int) (p f : Bool) (y g l : Int) (fs : List (Fin 256))  : Spec Try.prog 62 [.ptr 12 0, cfgA m0 w0 s0 t0 y0, frmA k s k2 p f y g l fs] [(9, .var [nilA]), (12, .var (rxC e c m bs true u d ++ [sayF]))] (hrPost0 ⟨e, c, m, bs, true, u, d⟩ none) := by
  refine Spec.intro (n := 39) (rv := []) Try.func62 rfl rfl rfl (by simp) fun C hN hX => ?_
  refine AW.seq ?_
  apply AW.list
  apply Wk.bx 4 rfl rfl (lt_of_ble rfl)
  apply Wk.bx 5 rfl rfl (lt_of_ble rfl)
  refine Wk.nil ?_
  refine AW.seq (AW.seq ?_)
  apply AW.draw (hm := hmix) (cs := _)
  · apply Wk.mv (by conv => lhs; whnf) (lt_of_ble rfl)
    apply Wk.nilc rfl (lt_of_ble rfl)
    apply Wk.fad 0 6 true fd65_0 rfl (lt_of_ble rfl)
    apply Wk.fad 4 0 false fd28_3 rfl (lt_of_ble rfl)
    apply Wk.ld (i := 12) 1 false ty4 rfl rfl (by conv => lhs; whnf) (lt_of_ble rfl)
    apply Wk.mv (by conv => lhs; whnf) (lt_of_ble rfl)
    apply Wk.goff 11 (ok_move _) rfl rfl (by decide)
    apply Wk.goff 11 (ok_nil _) rfl rfl (by decide)
    apply Wk.goff 11 (ok_faddr fd65_0) rfl rfl (by decide)
    apply Wk.goff 11 (ok_faddr fd28_0) rfl rfl (by decide)
    apply Wk.goff 11 (ok_load 12 ty3) rfl rfl (by decide)
    apply Wk.goff 11 (ok_faddr fd30_1) rfl rfl (by decide)
    apply Wk.goff 11 (ok_load 5 ty3) rfl rfl (by decide)
    apply Wk.goff 11 (ok_datw ((ifar_ok e s).w rfl) Try.func23 rfl rfl) rfl rfl (by decide)
    apply Wk.goff 11 (ok_faddr fd24_1) rfl rfl (by decide)
    apply Wk.goff 11 (ok_load 4 ty3) rfl rfl (by decide)
    apply Wk.goff 11 (ok_bin _ _ _ _ _) rfl rfl (by decide)
    apply Wk.pckT rfl (by conv => lhs; whnf) (lt_of_ble rfl)
    refine Wk.nil ?_
    refine AW.cond rfl (fun _ => AW.ret ?_) (fun hc => by cases hc)
    refine thenA_ret ?_
    exact RetQ.ret (sayB none (hrB e c m bs true u d)) .nil ⟨rfl, rfl⟩ (kept2 rfl rfl)
  · rfl
  · rfl
set_option maxHeartbeats 2000000 in
set_option maxRecDepth 100000 in
theorem miss0b_ok (e c m : Int) (bs : List (Fin 256)) (u d : Bool) (m0 w0 s0 t0 y0 : Int) (k s k2 : Int) (p f : Bool) (y g l : Int) (fs : List (Fin 256)) (h : w0 ≤ farF e s) : Spec Try.prog 62 [.ptr 12 0, cfgA m0 w0 s0 t0 y0, frmA k s k2 p f y g l fs] [(9, .var [nilA]), (12, .var (rxC e c m bs false u d ++ [sayF]))] (hrPost0 ⟨e, c, m, bs, false, u, d⟩ none) := by
  refine Spec.intro (n := 39) (rv := []) Try.func62 rfl rfl rfl (by simp) fun C hN hX => ?_
  refine AW.seq ?_
  apply AW.list
  apply Wk.bx 4 rfl rfl (lt_of_ble rfl)
  apply Wk.bx 5 rfl rfl (lt_of_ble rfl)
  refine Wk.nil ?_
  refine AW.seq (AW.seq ?_)
  apply AW.draw (hm := hmix) (cs := _)
  · apply Wk.mv (by conv => lhs; whnf) (lt_of_ble rfl)
    apply Wk.nilc rfl (lt_of_ble rfl)
    apply Wk.fad 0 6 true fd65_0 rfl (lt_of_ble rfl)
    apply Wk.fad 4 0 false fd28_3 rfl (lt_of_ble rfl)
    apply Wk.ld (i := 12) 1 false ty4 rfl rfl (by conv => lhs; whnf) (lt_of_ble rfl)
    apply Wk.mv (by conv => lhs; whnf) (lt_of_ble rfl)
    apply Wk.gon 11 rfl rfl
    apply Wk.mv (by conv => lhs; whnf) (lt_of_ble rfl)
    apply Wk.gon 11 rfl rfl
    apply Wk.nilc rfl (lt_of_ble rfl)
    apply Wk.gon 11 rfl rfl
    apply Wk.fad 0 6 true fd65_0 rfl (lt_of_ble rfl)
    apply Wk.gon 11 rfl rfl
    apply Wk.fad 0 0 false fd28_0 rfl (lt_of_ble rfl)
    apply Wk.gon 11 rfl rfl
    apply Wk.ld (i := 12) 1 false ty3 rfl rfl (by conv => lhs; whnf) (lt_of_ble rfl)
    apply Wk.gon 11 rfl rfl
    apply Wk.fad 1 0 false fd30_1 rfl (lt_of_ble rfl)
    apply Wk.gon 11 rfl rfl
    apply Wk.ld (i := 5) 1 false ty3 rfl rfl (by conv => lhs; whnf) (lt_of_ble rfl)
    apply Wk.gon 11 rfl rfl
    apply Wk.dat (ifar_ok e s) Try.func23 rfl rfl rfl rfl rfl (lt_of_ble rfl)
    apply Wk.gon 11 rfl rfl
    apply Wk.fad 1 0 false fd24_1 rfl (lt_of_ble rfl)
    apply Wk.gon 11 rfl rfl
    apply Wk.ld (i := 4) 1 false ty3 rfl rfl (by conv => lhs; whnf) (lt_of_ble rfl)
    apply Wk.gon 11 rfl rfl
    apply Wk.bin rfl rfl (r := .bool true) (fun w => by simp [go_sem, h]) (lt_of_ble rfl)
    apply Wk.pckF rfl (by conv => lhs; whnf) (lt_of_ble rfl)
    refine Wk.nil ?_
    refine AW.cond rfl (fun _ => AW.ret ?_) (fun hc => by cases hc)
    refine thenA_ret ?_
    exact RetQ.ret (sayB none (hrB e c m bs false u d)) .nil ⟨rfl, rfl⟩ (kept2 rfl rfl)
  · rfl
  · rfl
set_option maxHeartbeats 2000000 in
set_option maxRecDepth 100000 in
theorem miss1_ok (e c m : Int) (bs : List (Fin 256)) (u d : Bool) (m0 w0 s0 t0 y0 : Int) (k s k2 : Int) (p f : Bool) (y g l : Int) (fs : List (Fin 256)) (h : ¬ w0 ≤ farF e s) : Spec Try.prog 62 [.ptr 12 0, cfgA m0 w0 s0 t0 y0, frmA k s k2 p f y g l fs] [(9, .var [nilA]), (12, .var (rxC e c m bs false u d ++ [sayF]))] (hrPost0 ⟨e, c, m, bs, true, u, d⟩ (some (e, false, 1))) := by
  refine Spec.intro (n := 39) (rv := []) Try.func62 rfl rfl rfl (by simp) fun C hN hX => ?_
  refine AW.seq ?_
  apply AW.list
  apply Wk.bx 4 rfl rfl (lt_of_ble rfl)
  apply Wk.bx 5 rfl rfl (lt_of_ble rfl)
  refine Wk.nil ?_
  refine AW.seq (AW.seq ?_)
  apply AW.draw (hm := hmix) (cs := _)
  · apply Wk.mv (by conv => lhs; whnf) (lt_of_ble rfl)
    apply Wk.nilc rfl (lt_of_ble rfl)
    apply Wk.fad 0 6 true fd65_0 rfl (lt_of_ble rfl)
    apply Wk.fad 4 0 false fd28_3 rfl (lt_of_ble rfl)
    apply Wk.ld (i := 12) 1 false ty4 rfl rfl (by conv => lhs; whnf) (lt_of_ble rfl)
    apply Wk.mv (by conv => lhs; whnf) (lt_of_ble rfl)
    apply Wk.gon 11 rfl rfl
    apply Wk.mv (by conv => lhs; whnf) (lt_of_ble rfl)
    apply Wk.gon 11 rfl rfl
    apply Wk.nilc rfl (lt_of_ble rfl)
    apply Wk.gon 11 rfl rfl
    apply Wk.fad 0 6 true fd65_0 rfl (lt_of_ble rfl)
    apply Wk.gon 11 rfl rfl
    apply Wk.fad 0 0 false fd28_0 rfl (lt_of_ble rfl)
    apply Wk.gon 11 rfl rfl
    apply Wk.ld (i := 12) 1 false ty3 rfl rfl (by conv => lhs; whnf) (lt_of_ble rfl)
    apply Wk.gon 11 rfl rfl
    apply Wk.fad 1 0 false fd30_1 rfl (lt_of_ble rfl)
    apply Wk.gon 11 rfl rfl
    apply Wk.ld (i := 5) 1 false ty3 rfl rfl (by conv => lhs; whnf) (lt_of_ble rfl)
    apply Wk.gon 11 rfl rfl
    apply Wk.dat (ifar_ok e s) Try.func23 rfl rfl rfl rfl rfl (lt_of_ble rfl)
    apply Wk.gon 11 rfl rfl
    apply Wk.fad 1 0 false fd24_1 rfl (lt_of_ble rfl)
    apply Wk.gon 11 rfl rfl
    apply Wk.ld (i := 4) 1 false ty3 rfl rfl (by conv => lhs; whnf) (lt_of_ble rfl)
    apply Wk.gon 11 rfl rfl
    apply Wk.bin rfl rfl (r := .bool false) (fun w => by simp [go_sem]; omega) (lt_of_ble rfl)
    apply Wk.pckF rfl (by conv => lhs; whnf) (lt_of_ble rfl)
    refine Wk.nil ?_
    refine AW.cond rfl (fun hc => by cases hc) (fun _ => AW.skip (thenA_normal ?_))
    refine AW.seq ?_
    apply AW.list
    apply Wk.mv (by conv => lhs; whnf) (lt_of_ble rfl)
    apply Wk.nilc rfl (lt_of_ble rfl)
    apply Wk.fad 0 6 true fd65_0 rfl (lt_of_ble rfl)
    apply Wk.fad 4 0 false fd28_3 rfl (lt_of_ble rfl)
    apply Wk.sto (i := 12) 1 false ty4 rfl rfl rfl rfl (Nat.le_of_ble_eq_true rfl) (lt_of_ble rfl)
    refine Wk.nil ?_
    apply AW.draw (hm := hmix) (cs := _)
    · apply Wk.mv (by conv => lhs; whnf) (lt_of_ble rfl)
      apply Wk.nilc rfl (lt_of_ble rfl)
      apply Wk.fad 7 0 false fd65_1 rfl (lt_of_ble rfl)
      apply Wk.ld (i := 12) 1 false ty62 rfl rfl (by conv => lhs; whnf) (lt_of_ble rfl)
      apply Wk.mv (by conv => lhs; whnf) (lt_of_ble rfl)
      apply Wk.nilc rfl (lt_of_ble rfl)
      apply Wk.fad 0 6 true fd65_0 rfl (lt_of_ble rfl)
      apply Wk.fad 0 0 false fd28_0 rfl (lt_of_ble rfl)
      apply Wk.ld (i := 12) 1 false ty3 rfl rfl (by conv => lhs; whnf) (lt_of_ble rfl)
      apply Wk.bld [.int .i64 0, .int .i64 0, .int .i64 0, .bool false, .bool false, .int .i64 0, .int .i64 0, .int .i64 0, .slice none 0 0] [(0, 1), (1, 1), (2, 1), (3, 1), (4, 1), (5, 1), (6, 1), (7, 1), (8, 1)] bl30 rfl (by conv => lhs; whnf) (lt_of_ble rfl)
      apply Wk.clf [9] [77] (tell_ok 2 0 e false false 1 0 0 []) (in_tell 2 0 e false false 1 0 0 []) ⟨_, _, rfl, rfl⟩ Try.func33 rfl rfl rfl rfl (by simp; rfl) rfl (by simp; rfl) (lt_of_ble rfl)
      rintro r bs' ⟨rfl, rfl⟩
      refine Wk.nil ?_
      exact ⟨[], [(9, .var [.own 77 0]), (77, .own 0 30 9 [frmC 2 0 e false false 1 0 0 []]), (12, .var (rxC e c m bs true u d ++ [sayF]))], .nil, ⟨rfl, rfl⟩, kept3 rfl rfl rfl⟩
    · rfl
    · rfl
  · rfl
  · rfl
theorem itlb (m n s t y : Int) (k q c : Int) (p f : Bool) (z g l : Int) (bs : List (Fin 256)) {b : Bool} (h : decide (t < l ∨ s < (bs.length : Int)) = b) : DataOk Try.prog 73 [cfgA m n s t y, frmA k q c p f z g l bs] (.d (.v (.bool b))) := h ▸ itl_ok m n s t y k q c p f z g l bs
theorem iputb (m : Int) (bs : List (Fin 256)) (g l : Int) (fs : List (Fin 256)) (h1 : bs.length ≤ 2000000) (h2 : fs.length ≤ 2000000) {r : A} (h : putA4 m bs g l fs = r) : DataOk Try.prog 20 [joinA m bs, partA3 g l fs] r := h ▸ iput_ok m bs g l fs h1 h2
set_option maxHeartbeats 2000000 in
set_option maxRecDepth 100000 in
theorem takeT_ok (e c m : Int) (bs : List (Fin 256)) (a u d : Bool) (m0 w0 s0 t0 y0 : Int) (k s k2 : Int) (p f : Bool) (y g l : Int) (fs : List (Fin 256)) (h : t0 < l ∨ s0 < (fs.length : Int) ∨ c = 9999) : Spec Try.prog 61 [.ptr 12 0, cfgA m0 w0 s0 t0 y0, frmA k s k2 p f y g l fs] [(9, .var [nilA]), (12, .var (rxC e c m bs a u d ++ [sayF]))] (hrPost ⟨e, c, m, bs, a, u, true⟩ none none) := by
  refine Spec.intro (n := 75) (rv := [.tmp 6]) Try.func61 rfl rfl rfl (by simp) fun C hN hX => ?_
  refine AW.seq ?_
  apply AW.list
  apply Wk.bx 4 rfl rfl (lt_of_ble rfl)
  apply Wk.bx 5 rfl rfl (lt_of_ble rfl)
  apply Wk.asg (by conv => lhs; whnf) (lt_of_ble rfl)
  refine Wk.nil ?_
  refine AW.seq (AW.seq ?_)
  have fin : ∀ σ : St, σ.t 6 = nilA → σ.b 9 = .var [nilA] → σ.b 12 = .var (rxC e c m bs a u true ++ [sayF]) → RetQ Try.prog [.tmp 6] (hrPost ⟨e, c, m, bs, a, u, true⟩ none none) .ret σ := fun σ h0 h1 h2 =>
    RetQ.ret (sayB none (hrB e c m bs a u true)) (.cons h0 .nil) ⟨rfl, rfl⟩ (kept2 h1 h2)
  by_cases h1 : t0 < l ∨ s0 < (fs.length : Int)
  · apply AW.list
    apply Wk.ld (i := 4) 5 true ty24 rfl rfl (by conv => lhs; whnf) (lt_of_ble rfl)
    apply Wk.ld (i := 5) 9 true ty30 rfl rfl (by conv => lhs; whnf) (lt_of_ble rfl)
    apply Wk.dat (itlb m0 w0 s0 t0 y0 k s k2 p f y g l fs (b := true) (by simp [h1])) Try.func73 rfl rfl rfl rfl rfl (lt_of_ble rfl)
    apply Wk.mv (by conv => lhs; whnf) (lt_of_ble rfl)
    apply Wk.goff 13 (ok_move _) rfl rfl (by decide)
    apply Wk.goff 13 (ok_nil _) rfl rfl (by decide)
    apply Wk.goff 13 (ok_faddr fd65_0) rfl rfl (by decide)
    apply Wk.goff 13 (ok_faddr fd28_1) rfl rfl (by decide)
    apply Wk.goff 13 (ok_load 12 ty3) rfl rfl (by decide)
    apply Wk.goff 13 (ok_bin _ _ _ _ _) rfl rfl (by decide)
    apply Wk.pckT rfl (by conv => lhs; whnf) (lt_of_ble rfl)
    refine Wk.nil ?_
    refine AW.cond rfl (fun _ => ?_) (fun hc => by cases hc)
    refine AW.seq ?_
    apply AW.list
    apply Wk.mv (by conv => lhs; whnf) (lt_of_ble rfl)
    apply Wk.nilc rfl (lt_of_ble rfl)
    apply Wk.fad 0 6 true fd65_0 rfl (lt_of_ble rfl)
    apply Wk.fad 6 0 false fd28_5 rfl (lt_of_ble rfl)
    apply Wk.sto (i := 12) 1 false ty4 rfl rfl rfl rfl (Nat.le_of_ble_eq_true rfl) (lt_of_ble rfl)
    refine Wk.nil ?_
    refine AW.seq ?_
    apply AW.list
    apply Wk.asg (by conv => lhs; whnf) (lt_of_ble rfl)
    refine Wk.nil (AW.ret ?_)
    refine thenA_ret ?_
    exact fin _ rfl rfl rfl
  · obtain rfl : c = 9999 := by omega
    apply AW.list
    apply Wk.ld (i := 4) 5 true ty24 rfl rfl (by conv => lhs; whnf) (lt_of_ble rfl)
    apply Wk.ld (i := 5) 9 true ty30 rfl rfl (by conv => lhs; whnf) (lt_of_ble rfl)
    apply Wk.dat (itlb m0 w0 s0 t0 y0 k s k2 p f y g l fs (b := false) (by simp at h1 ⊢; omega)) Try.func73 rfl rfl rfl rfl rfl (lt_of_ble rfl)
    apply Wk.mv (by conv => lhs; whnf) (lt_of_ble rfl)
    apply Wk.gon 13 rfl rfl
    apply Wk.mv (by conv => lhs; whnf) (lt_of_ble rfl)
    apply Wk.gon 13 rfl rfl
    apply Wk.nilc rfl (lt_of_ble rfl)
    apply Wk.gon 13 rfl rfl
    apply Wk.fad 0 6 true fd65_0 rfl (lt_of_ble rfl)
    apply Wk.gon 13 rfl rfl
    apply Wk.fad 1 0 false fd28_1 rfl (lt_of_ble rfl)
    apply Wk.gon 13 rfl rfl
    apply Wk.ld (i := 12) 1 false ty3 rfl rfl (by conv => lhs; whnf) (lt_of_ble rfl)
    apply Wk.gon 13 rfl rfl
    apply Wk.bin rfl rfl (r := .bool true) (fun w => by simp [go_sem]) (lt_of_ble rfl)
    apply Wk.pckF rfl (by conv => lhs; whnf) (lt_of_ble rfl)
    refine Wk.nil ?_
    refine AW.cond rfl (fun _ => ?_) (fun hc => by cases hc)
    refine AW.seq ?_
    apply AW.list
    apply Wk.mv (by conv => lhs; whnf) (lt_of_ble rfl)
    apply Wk.nilc rfl (lt_of_ble rfl)
    apply Wk.fad 0 6 true fd65_0 rfl (lt_of_ble rfl)
    apply Wk.fad 6 0 false fd28_5 rfl (lt_of_ble rfl)
    apply Wk.sto (i := 12) 1 false ty4 rfl rfl rfl rfl (Nat.le_of_ble_eq_true rfl) (lt_of_ble rfl)
    refine Wk.nil ?_
    refine AW.seq ?_
    apply AW.list
    apply Wk.asg (by conv => lhs; whnf) (lt_of_ble rfl)
    refine Wk.nil (AW.ret ?_)
    refine thenA_ret ?_
    exact fin _ rfl rfl rfl
set_option maxHeartbeats 2000000 in
set_option maxRecDepth 100000 in
theorem takeB_ok (e c m : Int) (bs : List (Fin 256)) (a u d : Bool) (m0 w0 s0 t0 y0 : Int) (k s k2 : Int) (p f : Bool) (y g l : Int) (fs : List (Fin 256)) (h : ¬ (t0 < l ∨ s0 < (fs.length : Int) ∨ c = 9999)) (hj : joinB m bs.length = true) (hp : pieceB g l fs.length = true) (hC : putC m bs.length g fs.length = 3) : Spec Try.prog 61 [.ptr 12 0, cfgA m0 w0 s0 t0 y0, frmA k s k2 p f y g l fs] [(9, .var [nilA]), (12, .var (rxC e c m bs a u d ++ [sayF]))] (hrPost ⟨e, c, 0, [], a, u, true⟩ none none) := by
  refine Spec.intro (n := 75) (rv := [.tmp 6]) Try.func61 rfl rfl rfl (by simp) fun C hN hX => ?_
  refine AW.seq ?_
  apply AW.list
  apply Wk.bx 4 rfl rfl (lt_of_ble rfl)
  apply Wk.bx 5 rfl rfl (lt_of_ble rfl)
  apply Wk.asg (by conv => lhs; whnf) (lt_of_ble rfl)
  refine Wk.nil ?_
  refine AW.seq (AW.seq ?_)
  have hl1 := joinB_small hj
  have hl2 := pieceB_small hp
  apply AW.list
  apply Wk.ld (i := 4) 5 true ty24 rfl rfl (by conv => lhs; whnf) (lt_of_ble rfl)
  apply Wk.ld (i := 5) 9 true ty30 rfl rfl (by conv => lhs; whnf) (lt_of_ble rfl)
  apply Wk.dat (itlb m0 w0 s0 t0 y0 k s k2 p f y g l fs (b := false) (by simp; omega)) Try.func73 rfl rfl rfl rfl rfl (lt_of_ble rfl)
  apply Wk.mv (by conv => lhs; whnf) (lt_of_ble rfl)
  apply Wk.gon 13 rfl rfl
  apply Wk.mv (by conv => lhs; whnf) (lt_of_ble rfl)
  apply Wk.gon 13 rfl rfl
  apply Wk.nilc rfl (lt_of_ble rfl)
  apply Wk.gon 13 rfl rfl
  apply Wk.fad 0 6 true fd65_0 rfl (lt_of_ble rfl)
  apply Wk.gon 13 rfl rfl
  apply Wk.fad 1 0 false fd28_1 rfl (lt_of_ble rfl)
  apply Wk.gon 13 rfl rfl
  apply Wk.ld (i := 12) 1 false ty3 rfl rfl (by conv => lhs; whnf) (lt_of_ble rfl)
  apply Wk.gon 13 rfl rfl
  apply Wk.bin rfl rfl (r := .bool false) (fun w => by simp [go_sem]; omega) (lt_of_ble rfl)
  apply Wk.pckF rfl (by conv => lhs; whnf) (lt_of_ble rfl)
  refine Wk.nil ?_
  refine AW.cond rfl (fun hc => by cases hc) (fun _ => AW.skip (thenA_normal ?_))
  refine AW.seq ?_
  apply AW.draw (hm := hmix) (cs := _)
  · apply Wk.mv (by conv => lhs; whnf) (lt_of_ble rfl)
    apply Wk.nilc rfl (lt_of_ble rfl)
    apply Wk.fad 0 6 true fd65_0 rfl (lt_of_ble rfl)
    apply Wk.fad 2 1 true fd28_2 rfl (lt_of_ble rfl)
    apply Wk.ld (i := 12) 2 true ty26 rfl rfl (by conv => lhs; whnf) (lt_of_ble rfl)
    apply Wk.ld (i := 5) 9 true ty30 rfl rfl (by conv => lhs; whnf) (lt_of_ble rfl)
    apply Wk.dat (car_ok k s k2 p f y g l fs) Try.func74 rfl rfl rfl rfl rfl (lt_of_ble rfl)
    apply Wk.dat (iputb m bs g l fs (by omega) (by omega) (putA4_bad hj hp hC)) Try.func20 rfl rfl rfl rfl rfl (lt_of_ble rfl)
    apply Wk.mv (by conv => lhs; whnf) (lt_of_ble rfl)
    apply Wk.ext rfl rfl (lt_of_ble rfl)
    apply Wk.ext rfl rfl (lt_of_ble rfl)
    apply Wk.ext rfl rfl (lt_of_ble rfl)
    apply Wk.alc 7 [.int .i64 0, .slice none 0 0] ze26 rfl rfl (lt_of_ble rfl)
    apply Wk.sto (i := 7) 2 true ty26 rfl rfl rfl rfl (Nat.le_of_ble_eq_true rfl) (lt_of_ble rfl)
    apply Wk.asg (by conv => lhs; whnf) (lt_of_ble rfl)
    apply Wk.asg (by conv => lhs; whnf) (lt_of_ble rfl)
    refine Wk.nil ?_
    refine AW.seq ?_
    apply AW.list
    apply Wk.mv (by conv => lhs; whnf) (lt_of_ble rfl)
    apply Wk.ld (i := 7) 2 true ty26 rfl rfl (by conv => lhs; whnf) (lt_of_ble rfl)
    apply Wk.nilc rfl (lt_of_ble rfl)
    apply Wk.fad 0 6 true fd65_0 rfl (lt_of_ble rfl)
    apply Wk.fad 2 1 true fd28_2 rfl (lt_of_ble rfl)
    apply Wk.sto (i := 12) 2 true ty26 rfl rfl rfl rfl (Nat.le_of_ble_eq_true rfl) (lt_of_ble rfl)
    refine Wk.nil ?_
    refine AW.seq (AW.seq ?_)
    apply AW.list
    apply Wk.mv (by conv => lhs; whnf) (lt_of_ble rfl)
    apply Wk.bin rfl rfl (fun w => by simp [go_sem] <;> rfl) (lt_of_ble rfl)
    refine Wk.nil ?_
    refine AW.cond rfl (fun _ => ?_) (fun hc => by cases hc)
    refine AW.seq ?_
    apply AW.list
    apply Wk.mv (by conv => lhs; whnf) (lt_of_ble rfl)
    apply Wk.nilc rfl (lt_of_ble rfl)
    apply Wk.fad 0 6 true fd65_0 rfl (lt_of_ble rfl)
    apply Wk.fad 6 0 false fd28_5 rfl (lt_of_ble rfl)
    apply Wk.sto (i := 12) 1 false ty4 rfl rfl rfl rfl (Nat.le_of_ble_eq_true rfl) (lt_of_ble rfl)
    refine Wk.nil ?_
    refine AW.seq ?_
    apply AW.list
    apply Wk.asg (by conv => lhs; whnf) (lt_of_ble rfl)
    refine Wk.nil (AW.ret ?_)
    refine thenA_ret ?_
    exact RetQ.ret (sayB none (hrB e c 0 [] a u true)) (.cons rfl .nil) ⟨rfl, rfl⟩ (kept2 rfl rfl)
  · rfl
  · rfl
set_option maxHeartbeats 2000000 in
set_option maxRecDepth 100000 in
theorem takeA_ok (e c m : Int) (bs : List (Fin 256)) (a u d : Bool) (m0 w0 s0 t0 y0 : Int) (k s k2 : Int) (p f : Bool) (y g l : Int) (fs : List (Fin 256)) (h : ¬ (t0 < l ∨ s0 < (fs.length : Int) ∨ c = 9999)) (hj : joinB m bs.length = true) (hp : pieceB g l fs.length = true) (hC : putC m bs.length g fs.length = 2) (hc0 : 0 ≤ c) (hc1 : c ≤ 9999) : Spec Try.prog 61 [.ptr 12 0, cfgA m0 w0 s0 t0 y0, frmA k s k2 p f y g l fs] [(9, .var [nilA]), (12, .var (rxC e c m bs a u d ++ [sayF]))] (hrPost ⟨((e + 1) % 8), (c + 1), 0, [], false, u, d⟩ (some (bs ++ fs)) none) := by
  refine Spec.intro (n := 75) (rv := [.tmp 6]) Try.func61 rfl rfl rfl (by simp) fun C hN hX => ?_
  refine AW.seq ?_
  apply AW.list
  apply Wk.bx 4 rfl rfl (lt_of_ble rfl)
  apply Wk.bx 5 rfl rfl (lt_of_ble rfl)
  apply Wk.asg (by conv => lhs; whnf) (lt_of_ble rfl)
  refine Wk.nil ?_
  refine AW.seq (AW.seq ?_)
  have hl1 := joinB_small hj
  have hl2 := pieceB_small hp
  apply AW.list
  apply Wk.ld (i := 4) 5 true ty24 rfl rfl (by conv => lhs; whnf) (lt_of_ble rfl)
  apply Wk.ld (i := 5) 9 true ty30 rfl rfl (by conv => lhs; whnf) (lt_of_ble rfl)
  apply Wk.dat (itlb m0 w0 s0 t0 y0 k s k2 p f y g l fs (b := false) (by simp; omega)) Try.func73 rfl rfl rfl rfl rfl (lt_of_ble rfl)
  apply Wk.mv (by conv => lhs; whnf) (lt_of_ble rfl)
  apply Wk.gon 13 rfl rfl
  apply Wk.mv (by conv => lhs; whnf) (lt_of_ble rfl)
  apply Wk.gon 13 rfl rfl
  apply Wk.nilc rfl (lt_of_ble rfl)
  apply Wk.gon 13 rfl rfl
  apply Wk.fad 0 6 true fd65_0 rfl (lt_of_ble rfl)
  apply Wk.gon 13 rfl rfl
  apply Wk.fad 1 0 false fd28_1 rfl (lt_of_ble rfl)
  apply Wk.gon 13 rfl rfl
  apply Wk.ld (i := 12) 1 false ty3 rfl rfl (by conv => lhs; whnf) (lt_of_ble rfl)
  apply Wk.gon 13 rfl rfl
  apply Wk.bin rfl rfl (r := .bool false) (fun w => by simp [go_sem]; omega) (lt_of_ble rfl)
  apply Wk.pckF rfl (by conv => lhs; whnf) (lt_of_ble rfl)
  refine Wk.nil ?_
  refine AW.cond rfl (fun hc => by cases hc) (fun _ => AW.skip (thenA_normal ?_))
  refine AW.seq ?_
  apply AW.draw (hm := hmix) (cs := _)
  · apply Wk.mv (by conv => lhs; whnf) (lt_of_ble rfl)
    apply Wk.nilc rfl (lt_of_ble rfl)
    apply Wk.fad 0 6 true fd65_0 rfl (lt_of_ble rfl)
    apply Wk.fad 2 1 true fd28_2 rfl (lt_of_ble rfl)
    apply Wk.ld (i := 12) 2 true ty26 rfl rfl (by conv => lhs; whnf) (lt_of_ble rfl)
    apply Wk.ld (i := 5) 9 true ty30 rfl rfl (by conv => lhs; whnf) (lt_of_ble rfl)
    apply Wk.dat (car_ok k s k2 p f y g l fs) Try.func74 rfl rfl rfl rfl rfl (lt_of_ble rfl)
    apply Wk.dat (iputb m bs g l fs (by omega) (by omega) (putA4_all hj hp hC)) Try.func20 rfl rfl rfl rfl rfl (lt_of_ble rfl)
    apply Wk.mv (by conv => lhs; whnf) (lt_of_ble rfl)
    apply Wk.ext rfl rfl (lt_of_ble rfl)
    apply Wk.ext rfl rfl (lt_of_ble rfl)
    apply Wk.ext rfl rfl (lt_of_ble rfl)
    apply Wk.alc 7 [.int .i64 0, .slice none 0 0] ze26 rfl rfl (lt_of_ble rfl)
    apply Wk.sto (i := 7) 2 true ty26 rfl rfl rfl rfl (Nat.le_of_ble_eq_true rfl) (lt_of_ble rfl)
    apply Wk.asg (by conv => lhs; whnf) (lt_of_ble rfl)
    apply Wk.asg (by conv => lhs; whnf) (lt_of_ble rfl)
    refine Wk.nil ?_
    refine AW.seq ?_
    apply AW.list
    apply Wk.mv (by conv => lhs; whnf) (lt_of_ble rfl)
    apply Wk.ld (i := 7) 2 true ty26 rfl rfl (by conv => lhs; whnf) (lt_of_ble rfl)
    apply Wk.nilc rfl (lt_of_ble rfl)
    apply Wk.fad 0 6 true fd65_0 rfl (lt_of_ble rfl)
    apply Wk.fad 2 1 true fd28_2 rfl (lt_of_ble rfl)
    apply Wk.sto (i := 12) 2 true ty26 rfl rfl rfl rfl (Nat.le_of_ble_eq_true rfl) (lt_of_ble rfl)
    refine Wk.nil ?_
    refine AW.seq (AW.seq ?_)
    apply AW.list
    apply Wk.mv (by conv => lhs; whnf) (lt_of_ble rfl)
    apply Wk.bin rfl rfl (fun w => by simp [go_sem] <;> rfl) (lt_of_ble rfl)
    refine Wk.nil ?_
    refine AW.cond rfl (fun hc => by cases hc) (fun _ => AW.skip (thenA_normal ?_))
    refine AW.seq ?_
    apply AW.list
    apply Wk.mv (by conv => lhs; whnf) (lt_of_ble rfl)
    apply Wk.mv (by conv => lhs; whnf) (lt_of_ble rfl)
    apply Wk.nilc rfl (lt_of_ble rfl)
    apply Wk.fad 0 6 true fd65_0 rfl (lt_of_ble rfl)
    apply Wk.fad 0 0 false fd28_0 rfl (lt_of_ble rfl)
    apply Wk.ld (i := 12) 1 false ty3 rfl rfl (by conv => lhs; whnf) (lt_of_ble rfl)
    apply Wk.dat (inext_ok e) Try.func21 rfl rfl rfl rfl rfl (lt_of_ble rfl)
    apply Wk.nilc rfl (lt_of_ble rfl)
    apply Wk.fad 0 6 true fd65_0 rfl (lt_of_ble rfl)
    apply Wk.fad 0 0 false fd28_0 rfl (lt_of_ble rfl)
    apply Wk.sto (i := 12) 1 false ty3 rfl rfl rfl rfl (Nat.le_of_ble_eq_true rfl) (lt_of_ble rfl)
    refine Wk.nil ?_
    refine AW.seq ?_
    apply AW.list
    apply Wk.mv (by conv => lhs; whnf) (lt_of_ble rfl)
    apply Wk.nilc rfl (lt_of_ble rfl)
    apply Wk.fad 0 6 true fd65_0 rfl (lt_of_ble rfl)
    apply Wk.fad 1 0 false fd28_1 rfl (lt_of_ble rfl)
    apply Wk.ld (i := 12) 1 false ty3 rfl rfl (by conv => lhs; whnf) (lt_of_ble rfl)
    apply Wk.addi rfl rfl (by omega) (lt_of_ble rfl)
    apply Wk.nilc rfl (lt_of_ble rfl)
    apply Wk.fad 0 6 true fd65_0 rfl (lt_of_ble rfl)
    apply Wk.fad 1 0 false fd28_1 rfl (lt_of_ble rfl)
    apply Wk.sto (i := 12) 1 false ty3 rfl rfl rfl rfl (Nat.le_of_ble_eq_true rfl) (lt_of_ble rfl)
    refine Wk.nil ?_
    refine AW.seq ?_
    apply AW.list
    apply Wk.mv (by conv => lhs; whnf) (lt_of_ble rfl)
    apply Wk.nilc rfl (lt_of_ble rfl)
    apply Wk.fad 0 6 true fd65_0 rfl (lt_of_ble rfl)
    apply Wk.fad 4 0 false fd28_3 rfl (lt_of_ble rfl)
    apply Wk.sto (i := 12) 1 false ty4 rfl rfl rfl rfl (Nat.le_of_ble_eq_true rfl) (lt_of_ble rfl)
    refine Wk.nil ?_
    refine AW.seq (AW.seq ?_)
    apply AW.list
    apply Wk.mv (by conv => lhs; whnf) (lt_of_ble rfl)
    apply Wk.bin rfl rfl (fun w => by simp [go_sem] <;> rfl) (lt_of_ble rfl)
    refine Wk.nil ?_
    refine AW.cond rfl (fun _ => ?_) (fun hc => by cases hc)
    refine AW.seq ?_
    apply AW.list
    apply Wk.mv (by conv => lhs; whnf) (lt_of_ble rfl)
    apply Wk.lst 74 1 false [.slice none 0 0] un33 ty22 ze22 rfl rfl (by rfl) (by rfl) (by decide) (by decide) rfl rfl (all_len rfl) (lt_of_ble rfl)
    apply Wk.asg (by conv => lhs; whnf) (lt_of_ble rfl)
    refine Wk.nil ?_
    refine thenA_normal ?_
    refine AW.thaw (t := 6) (i := 74) [[fbytes (bs ++ fs)]] rfl rfl rfl (XB.two hX (by decide) (by decide) rfl rfl) ?_
    refine AW.ret (thenA_ret ?_)
    exact RetQ.ret (sayB none (hrB ((e + 1) % 8) (c + 1) 0 [] false u d)) (.cons rfl .nil) ⟨rfl, rfl⟩ (kept2 rfl rfl)
  · rfl
  · rfl
set_option maxHeartbeats 2000000 in
set_option maxRecDepth 100000 in
theorem takeM_ok (e c m : Int) (bs : List (Fin 256)) (a u d : Bool) (m0 w0 s0 t0 y0 : Int) (k s k2 : Int) (p f : Bool) (y g l : Int) (fs : List (Fin 256)) (h : ¬ (t0 < l ∨ s0 < (fs.length : Int) ∨ c = 9999)) (hj : joinB m bs.length = true) (hp : pieceB g l fs.length = true) (hC : putC m bs.length g fs.length = 1) (hc0 : 0 ≤ c) (hc1 : c ≤ 9999) : Spec Try.prog 61 [.ptr 12 0, cfgA m0 w0 s0 t0 y0, frmA k s k2 p f y g l fs] [(9, .var [nilA]), (12, .var (rxC e c m bs a u d ++ [sayF]))] (hrPost ⟨((e + 1) % 8), (c + 1), (if m = 0 then l else m), (bs ++ fs), false, u, d⟩ none none) := by
  refine Spec.intro (n := 75) (rv := [.tmp 6]) Try.func61 rfl rfl rfl (by simp) fun C hN hX => ?_
  refine AW.seq ?_
  apply AW.list
  apply Wk.bx 4 rfl rfl (lt_of_ble rfl)
  apply Wk.bx 5 rfl rfl (lt_of_ble rfl)
  apply Wk.asg (by conv => lhs; whnf) (lt_of_ble rfl)
  refine Wk.nil ?_
  refine AW.seq (AW.seq ?_)
  have hl1 := joinB_small hj
  have hl2 := pieceB_small hp
  apply AW.list
  apply Wk.ld (i := 4) 5 true ty24 rfl rfl (by conv => lhs; whnf) (lt_of_ble rfl)
  apply Wk.ld (i := 5) 9 true ty30 rfl rfl (by conv => lhs; whnf) (lt_of_ble rfl)
  apply Wk.dat (itlb m0 w0 s0 t0 y0 k s k2 p f y g l fs (b := false) (by simp; omega)) Try.func73 rfl rfl rfl rfl rfl (lt_of_ble rfl)
  apply Wk.mv (by conv => lhs; whnf) (lt_of_ble rfl)
  apply Wk.gon 13 rfl rfl
  apply Wk.mv (by conv => lhs; whnf) (lt_of_ble rfl)
  apply Wk.gon 13 rfl rfl
  apply Wk.nilc rfl (lt_of_ble rfl)
  apply Wk.gon 13 rfl rfl
  apply Wk.fad 0 6 true fd65_0 rfl (lt_of_ble rfl)
  apply Wk.gon 13 rfl rfl
  apply Wk.fad 1 0 false fd28_1 rfl (lt_of_ble rfl)
  apply Wk.gon 13 rfl rfl
  apply Wk.ld (i := 12) 1 false ty3 rfl rfl (by conv => lhs; whnf) (lt_of_ble rfl)
  apply Wk.gon 13 rfl rfl
  apply Wk.bin rfl rfl (r := .bool false) (fun w => by simp [go_sem]; omega) (lt_of_ble rfl)
  apply Wk.pckF rfl (by conv => lhs; whnf) (lt_of_ble rfl)
  refine Wk.nil ?_
  refine AW.cond rfl (fun hc => by cases hc) (fun _ => AW.skip (thenA_normal ?_))
  refine AW.seq ?_
  apply AW.draw (hm := hmix) (cs := _)
  · apply Wk.mv (by conv => lhs; whnf) (lt_of_ble rfl)
    apply Wk.nilc rfl (lt_of_ble rfl)
    apply Wk.fad 0 6 true fd65_0 rfl (lt_of_ble rfl)
    apply Wk.fad 2 1 true fd28_2 rfl (lt_of_ble rfl)
    apply Wk.ld (i := 12) 2 true ty26 rfl rfl (by conv => lhs; whnf) (lt_of_ble rfl)
    apply Wk.ld (i := 5) 9 true ty30 rfl rfl (by conv => lhs; whnf) (lt_of_ble rfl)
    apply Wk.dat (car_ok k s k2 p f y g l fs) Try.func74 rfl rfl rfl rfl rfl (lt_of_ble rfl)
    apply Wk.dat (iputb m bs g l fs (by omega) (by omega) (putA4_more hj hp hC)) Try.func20 rfl rfl rfl rfl rfl (lt_of_ble rfl)
    apply Wk.mv (by conv => lhs; whnf) (lt_of_ble rfl)
    apply Wk.ext rfl rfl (lt_of_ble rfl)
    apply Wk.ext rfl rfl (lt_of_ble rfl)
    apply Wk.ext rfl rfl (lt_of_ble rfl)
    apply Wk.alc 7 [.int .i64 0, .slice none 0 0] ze26 rfl rfl (lt_of_ble rfl)
    apply Wk.sto (i := 7) 2 true ty26 rfl rfl rfl rfl (Nat.le_of_ble_eq_true rfl) (lt_of_ble rfl)
    apply Wk.asg (by conv => lhs; whnf) (lt_of_ble rfl)
    apply Wk.asg (by conv => lhs; whnf) (lt_of_ble rfl)
    refine Wk.nil ?_
    refine AW.seq ?_
    apply AW.list
    apply Wk.mv (by conv => lhs; whnf) (lt_of_ble rfl)
    apply Wk.ld (i := 7) 2 true ty26 rfl rfl (by conv => lhs; whnf) (lt_of_ble rfl)
    apply Wk.nilc rfl (lt_of_ble rfl)
    apply Wk.fad 0 6 true fd65_0 rfl (lt_of_ble rfl)
    apply Wk.fad 2 1 true fd28_2 rfl (lt_of_ble rfl)
    apply Wk.sto (i := 12) 2 true ty26 rfl rfl rfl rfl (Nat.le_of_ble_eq_true rfl) (lt_of_ble rfl)
    refine Wk.nil ?_
    refine AW.seq (AW.seq ?_)
    apply AW.list
    apply Wk.mv (by conv => lhs; whnf) (lt_of_ble rfl)
    apply Wk.bin rfl rfl (fun w => by simp [go_sem] <;> rfl) (lt_of_ble rfl)
    refine Wk.nil ?_
    refine AW.cond rfl (fun hc => by cases hc) (fun _ => AW.skip (thenA_normal ?_))
    refine AW.seq ?_
    apply AW.list
    apply Wk.mv (by conv => lhs; whnf) (lt_of_ble rfl)
    apply Wk.mv (by conv => lhs; whnf) (lt_of_ble rfl)
    apply Wk.nilc rfl (lt_of_ble rfl)
    apply Wk.fad 0 6 true fd65_0 rfl (lt_of_ble rfl)
    apply Wk.fad 0 0 false fd28_0 rfl (lt_of_ble rfl)
    apply Wk.ld (i := 12) 1 false ty3 rfl rfl (by conv => lhs; whnf) (lt_of_ble rfl)
    apply Wk.dat (inext_ok e) Try.func21 rfl rfl rfl rfl rfl (lt_of_ble rfl)
    apply Wk.nilc rfl (lt_of_ble rfl)
    apply Wk.fad 0 6 true fd65_0 rfl (lt_of_ble rfl)
    apply Wk.fad 0 0 false fd28_0 rfl (lt_of_ble rfl)
    apply Wk.sto (i := 12) 1 false ty3 rfl rfl rfl rfl (Nat.le_of_ble_eq_true rfl) (lt_of_ble rfl)
    refine Wk.nil ?_
    refine AW.seq ?_
    apply AW.list
    apply Wk.mv (by conv => lhs; whnf) (lt_of_ble rfl)
    apply Wk.nilc rfl (lt_of_ble rfl)
    apply Wk.fad 0 6 true fd65_0 rfl (lt_of_ble rfl)
    apply Wk.fad 1 0 false fd28_1 rfl (lt_of_ble rfl)
    apply Wk.ld (i := 12) 1 false ty3 rfl rfl (by conv => lhs; whnf) (lt_of_ble rfl)
    apply Wk.addi rfl rfl (by omega) (lt_of_ble rfl)
    apply Wk.nilc rfl (lt_of_ble rfl)
    apply Wk.fad 0 6 true fd65_0 rfl (lt_of_ble rfl)
    apply Wk.fad 1 0 false fd28_1 rfl (lt_of_ble rfl)
    apply Wk.sto (i := 12) 1 false ty3 rfl rfl rfl rfl (Nat.le_of_ble_eq_true rfl) (lt_of_ble rfl)
    refine Wk.nil ?_
    refine AW.seq ?_
    apply AW.list
    apply Wk.mv (by conv => lhs; whnf) (lt_of_ble rfl)
    apply Wk.nilc rfl (lt_of_ble rfl)
    apply Wk.fad 0 6 true fd65_0 rfl (lt_of_ble rfl)
    apply Wk.fad 4 0 false fd28_3 rfl (lt_of_ble rfl)
    apply Wk.sto (i := 12) 1 false ty4 rfl rfl rfl rfl (Nat.le_of_ble_eq_true rfl) (lt_of_ble rfl)
    refine Wk.nil ?_
    refine AW.seq (AW.seq ?_)
    apply AW.list
    apply Wk.mv (by conv => lhs; whnf) (lt_of_ble rfl)
    apply Wk.bin rfl rfl (fun w => by simp [go_sem] <;> rfl) (lt_of_ble rfl)
    refine Wk.nil ?_
    refine AW.cond rfl (fun hc => by cases hc) (fun _ => AW.skip (thenA_normal ?_))
    refine AW.seq ?_
    apply AW.list
    apply Wk.asg (by conv => lhs; whnf) (lt_of_ble rfl)
    refine Wk.nil (AW.ret ?_)
    exact RetQ.ret (sayB none (hrB ((e + 1) % 8) (c + 1) (if m = 0 then l else m) (bs ++ fs) false u d)) (.cons rfl .nil) ⟨rfl, rfl⟩ (kept2 rfl rfl)
  · rfl
  · rfl
end Go.Proofs.Ytlmadcpoaedagaa
