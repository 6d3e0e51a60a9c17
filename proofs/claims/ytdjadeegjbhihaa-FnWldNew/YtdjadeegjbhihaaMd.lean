/- Laws and contracts that the proof stands on: AbsNum, AbsPick, AbsBytes, AbsMemo, PartD, AbsTx, AbsTxCopy, AbsOpen, AbsCfg, AbsTxTick, AbsTxOk, AbsTxTick2, AbsTxPut, AbsCut, AbsTxS, AbsTxS2, AbsTxSend, AbsTxSend2, AbsTxAcked, AbsTxHearS, AbsTxHearT, TxFacts, AbsTxW, AbsTxOkI. -/
import Derived.Test.YtdjadeegjbhihaaMa
import Derived.Test.YtdjadeegjbhihaaMb
import Derived.Test.YtdjadeegjbhihaaMc
/- Numbers, as operations of a walk. -/
namespace Go.Proofs.Ytdjadeegjbhihaa
open Go
section
variable {P : Program} {C : Ctx} {ops : Array Oper} {os : List Oper} {cs : List Cert} {σ : St} {K : St → Prop} {d : Nat} {ty : TypeId} {pos : String} {af : Array Edge} {t yt : TypeId} {x y : Operand} {a b : Nat}
theorem Wk.remn (hx : aev σ x = .d (.v (.int .i64 (a : Int)))) (hy : aev σ y = .d (.v (.int .i64 (b : Int)))) (hb : 0 < b) (hd : d < σ.n)
    (h : Wk P C ops os cs (σ.put (T d) (.a (.d (.v (.int .i64 ((a % b : Nat) : Int)))))) K) : Wk P C ops (⟨some d, .binOp .rem t x y yt, ty, pos, af, none⟩ :: os) (⟨kof x ++ kof y, [T d], beh1 (rBin P .rem t x y) d⟩ :: cs) σ K :=
  Wk.bin hx hy (fun w => by
    have : ¬ b = 0 := by omega
    simp [go_sem, this]
    exact Int.tmod_eq_emod_of_nonneg (by omega)) hd h
theorem Wk.quon (hx : aev σ x = .d (.v (.int .i64 (a : Int)))) (hy : aev σ y = .d (.v (.int .i64 (b : Int)))) (hb : 0 < b) (ha : a ≤ 9223372036854775807) (hd : d < σ.n)
    (h : Wk P C ops os cs (σ.put (T d) (.a (.d (.v (.int .i64 ((a / b : Nat) : Int)))))) K) : Wk P C ops (⟨some d, .binOp .quo t x y yt, ty, pos, af, none⟩ :: os) (⟨kof x ++ kof y, [T d], beh1 (rBin P .quo t x y) d⟩ :: cs) σ K :=
  Wk.bin hx hy (fun w => by
    have : ¬ b = 0 := by omega
    have h1 : a / b ≤ a := Nat.div_le_self a b
    have h2 : ((a : Int) / (b : Int)) = ((a / b : Nat) : Int) := by simp
    have h3 : IntKind.i64.wrap ((a : Int) / (b : Int)) = (a : Int) / (b : Int) := by
      rw [h2]
      generalize a / b = q at h1 ⊢
      exact wrap64 (by omega) (by omega)
    simp [go_sem, this, h3]) hd h
theorem Wk.muln (hx : aev σ x = .d (.v (.int .i64 (a : Int)))) (hy : aev σ y = .d (.v (.int .i64 (b : Int)))) (hb : a * b ≤ 9223372036854775807) (hd : d < σ.n)
    (h : Wk P C ops os cs (σ.put (T d) (.a (.d (.v (.int .i64 ((a * b : Nat) : Int)))))) K) : Wk P C ops (⟨some d, .binOp .mul t x y yt, ty, pos, af, none⟩ :: os) (⟨kof x ++ kof y, [T d], beh1 (rBin P .mul t x y) d⟩ :: cs) σ K :=
  Wk.bin hx hy (fun w => by
    have h2 : ((a : Int) * (b : Int)) = ((a * b : Nat) : Int) := by simp
    have h1 := wrap64 (n := ((a * b : Nat) : Int)) (by omega) (by omega)
    rw [← h2] at h1
    simp [go_sem, h1]) hd h
theorem Wk.addn (hx : aev σ x = .d (.v (.int .i64 (a : Int)))) (hy : aev σ y = .d (.v (.int .i64 (b : Int)))) (hb : a + b ≤ 9223372036854775807) (hd : d < σ.n)
    (h : Wk P C ops os cs (σ.put (T d) (.a (.d (.v (.int .i64 ((a + b : Nat) : Int)))))) K) : Wk P C ops (⟨some d, .binOp .add t x y yt, ty, pos, af, none⟩ :: os) (⟨kof x ++ kof y, [T d], beh1 (rBin P .add t x y) d⟩ :: cs) σ K :=
  Wk.addi hx hy (by omega) hd (by rw [← Int.natCast_add]; exact h)
theorem Wk.subn (hx : aev σ x = .d (.v (.int .i64 (a : Int)))) (hy : aev σ y = .d (.v (.int .i64 (b : Int)))) (hb : b ≤ a) (ha : a ≤ 9223372036854775807) (hd : d < σ.n)
    (h : Wk P C ops os cs (σ.put (T d) (.a (.d (.v (.int .i64 ((a - b : Nat) : Int)))))) K) : Wk P C ops (⟨some d, .binOp .sub t x y yt, ty, pos, af, none⟩ :: os) (⟨kof x ++ kof y, [T d], beh1 (rBin P .sub t x y) d⟩ :: cs) σ K :=
  Wk.subi hx hy (by omega) hd (by rw [← Int.ofNat_sub hb]; exact h)
theorem Wk.xorn (hx : aev σ x = .d (.v (.int .i64 (a : Int)))) (hy : aev σ y = .d (.v (.int .i64 (b : Int)))) (ha : a < 9223372036854775808) (hb : b < 9223372036854775808) (hd : d < σ.n)
    (h : Wk P C ops os cs (σ.put (T d) (.a (.d (.v (.int .i64 ((a ^^^ b : Nat) : Int)))))) K) : Wk P C ops (⟨some d, .binOp .xor t x y yt, ty, pos, af, none⟩ :: os) (⟨kof x ++ kof y, [T d], beh1 (rBin P .xor t x y) d⟩ :: cs) σ K :=
  Wk.bin hx hy (fun w => by simp [go_sem, i64_xor_nat a b ha hb]) hd h
/-- A number of one kind as one of another. -/
theorem Wk.convi {s : TypeId} {n : Int} {j k : IntKind} (hx : aev σ x = .d (.v (.int j n))) (hs : P.underlying s = some (.int j)) (ht : P.underlying t = some (.int k)) (hd : d < σ.n)
    (h : Wk P C ops os cs (σ.put (T d) (.a (.d (.v (.int k (k.wrap n)))))) K) : Wk P C ops (⟨some d, .convert s t x, ty, pos, af, none⟩ :: os) (⟨kof x, [T d], beh1 (rConv P s t x) d⟩ :: cs) σ K :=
  Wk.conv hx (fun w => by simp [convert, run_underlying hs, run_underlying ht, Conv.intToInt]) hd h
/-- A byte as a number. -/
theorem Wk.convn {s : TypeId} {j : IntKind} (hx : aev σ x = .d (.v (.int j (a : Int)))) (hs : P.underlying s = some (.int j)) (ht : P.underlying t = some (.int .i64)) (ha : a ≤ 9223372036854775807) (hd : d < σ.n)
    (h : Wk P C ops os cs (σ.put (T d) (.a (.d (.v (.int .i64 (a : Int)))))) K) : Wk P C ops (⟨some d, .convert s t x, ty, pos, af, none⟩ :: os) (⟨kof x, [T d], beh1 (rConv P s t x) d⟩ :: cs) σ K :=
  Wk.conv hx (fun w => by simp [convert, run_underlying hs, run_underlying ht, Conv.intToInt, wrap64 (n := (a : Int)) (by omega) (by omega)]) hd h
theorem wrap8 {n : Int} (h1 : 0 ≤ n) (h2 : n ≤ 255) : IntKind.u8.wrap n = n := by
  simp [IntKind.wrap, IntKind.bits, IntKind.signed]
  omega
theorem wrap8_nat (n : Int) : ∃ z : Nat, IntKind.u8.wrap n = (z : Int) ∧ z < 256 := by
  refine ⟨(n % 256).toNat, ?_, ?_⟩
  · simp [IntKind.wrap, IntKind.bits, IntKind.signed]
    omega
  · omega
/-- A number as a byte. -/
theorem Wk.convb {s : TypeId} {j : IntKind} {n : Int} (hx : aev σ x = .d (.v (.int j n))) (hs : P.underlying s = some (.int j)) (ht : P.underlying t = some (.int .u8)) (hd : d < σ.n)
    (h : ∀ z : Fin 256, Wk P C ops os cs (σ.put (T d) (.a (.d (.v (.int .u8 ((z.val : Nat) : Int)))))) K) : Wk P C ops (⟨some d, .convert s t x, ty, pos, af, none⟩ :: os) (⟨kof x, [T d], beh1 (rConv P s t x) d⟩ :: cs) σ K := by
  obtain ⟨z, hz, hlt⟩ := wrap8_nat n
  exact Wk.conv (r := .int .u8 (z : Int)) hx (fun w => by simp [convert, run_underlying hs, run_underlying ht, Conv.intToInt, hz]) hd (h ⟨z, hlt⟩)
end
end Go.Proofs.Ytdjadeegjbhihaa

/- The reader of codes, over what values read as. -/
namespace Go.Proofs.Ytdjadeegjbhihaa
open Go
set_option maxRecDepth 100000 in
theorem pick_ok : DrawOk Try.prog 107 (fun rest => ∃ n : Int, rest = [.d (.v (.int .i64 n))] ∧ n ≤ 1000000) (fun rest r => ∃ k : Nat, r = .d (.v (.int .i64 (k : Int))) ∧ ∀ n : Int, rest = [.d (.v (.int .i64 n))] → (k : Int) < n ∨ k = 0 ∧ n < 1) 1 := by
  refine DrawOk.zero ?_ ?_ ?_ ?_
  · rintro zs p rest ⟨n, rfl, hn⟩ hp
    refine Spec.intro (n := 99) (rv := [.tmp 4]) Try.func107 rfl rfl rfl (by simp) fun C hN hX => ?_
    refine AW.seq ?_
    apply AW.list
    apply Wk.asg (by conv => lhs; whnf) (lt_of_ble rfl)
    refine Wk.nil ?_
    refine AW.seq ?_
    apply AW.list
    apply Wk.mv (by conv => lhs; whnf) (lt_of_ble rfl)
    apply Wk.mv (by conv => lhs; whnf) (lt_of_ble rfl)
    apply Wk.nilc rfl (lt_of_ble rfl)
    apply Wk.fad 1 0 false fd145_1 rfl (lt_of_ble rfl)
    apply Wk.ld (i := 0) 1 false ty3 rfl rfl (by conv => lhs; whnf) (lt_of_ble rfl)
    apply Wk.addn (b := 1) rfl rfl (by omega) (lt_of_ble rfl)
    apply Wk.nilc rfl (lt_of_ble rfl)
    apply Wk.fad 1 0 false fd145_1 rfl (lt_of_ble rfl)
    apply Wk.sto (i := 0) 1 false ty3 rfl rfl rfl rfl (Nat.le_of_ble_eq_true rfl) (lt_of_ble rfl)
    refine Wk.nil ?_
    refine AW.keep (n := 99) (ts := [(0, .ptr 0 0), (1, .d (.v (.int .i64 n)))]) (bs := [(0, rdr zs (p + 1))]) ⟨rfl, .cons rfl rfl (.cons rfl rfl .nil), .cons rfl rfl .nil, hN⟩ ?_
    refine AW.seq (AW.seq ?_)
    have fin : ∀ (k : Nat) (σ : St), ((k : Int) < n ∨ k = 0 ∧ n < 1) → σ.t 4 = .d (.v (.int .i64 (k : Int))) → σ.b 0 = rdr zs (p + 1) → RetQ Try.prog [.tmp 4] (fun r bs => (∃ k : Nat, r = .d (.v (.int .i64 (k : Int))) ∧ ∀ m : Int, [A.d (.v (.int .i64 n))] = [.d (.v (.int .i64 m))] → (k : Int) < m ∨ k = 0 ∧ m < 1) ∧ ∃ zs' p', bs = [(0, rdr zs' p')] ∧ p' ≤ p + 1) .ret σ := by
      intro k σ hk h4 hb
      refine RetQ.ret [(0, rdr zs (p + 1))] (.cons h4 .nil) ⟨⟨k, rfl, fun m e => ?_⟩, zs, p + 1, rfl, Nat.le_refl _⟩ (fun i x hx => ?_)
      · simp only [List.cons.injEq, A.d.injEq, D.v.injEq, Value.int.injEq, true_and, and_true] at e
        rw [← e]; exact hk
      · rw [List.lookup_cons] at hx
        split at hx
        · rename_i he
          rw [eq_of_beq he, hb]
          exact Option.some.inj hx
        · cases hx
    by_cases h1 : n < 1
    · apply AW.list
      apply Wk.mv (by conv => lhs; whnf) (lt_of_ble rfl)
      apply Wk.bin (r := .bool true) rfl rfl (fun w => by simp [go_sem, h1]) (lt_of_ble rfl)
      apply Wk.mv (by conv => lhs; whnf) (lt_of_ble rfl)
      apply Wk.goff 17 (ok_move _) rfl rfl (by decide)
      apply Wk.goff 17 (ok_nil _) rfl rfl (by decide)
      apply Wk.goff 17 (ok_faddr fd145_0) rfl rfl (by decide)
      apply Wk.goff 17 (ok_load 0 ty64) rfl rfl (by decide)
      apply Wk.goff 17 (ok_len un64) rfl rfl (by decide)
      apply Wk.goff 17 (ok_bin _ _ _ _ _) rfl rfl (by decide)
      apply Wk.pckT rfl (by conv => lhs; whnf) (lt_of_ble rfl)
      refine Wk.nil ?_
      refine AW.cond rfl (fun _ => ?_) (fun h => by cases h)
      refine AW.seq ?_
      apply AW.list
      apply Wk.asg (by conv => lhs; whnf) (lt_of_ble rfl)
      refine Wk.nil (AW.ret ?_)
      exact fin 0 _ (.inr ⟨rfl, h1⟩) rfl rfl
    · apply AW.list
      apply Wk.mv (by conv => lhs; whnf) (lt_of_ble rfl)
      apply Wk.bin (r := .bool false) rfl rfl (fun w => by simp [go_sem, h1]) (lt_of_ble rfl)
      apply Wk.mv (by conv => lhs; whnf) (lt_of_ble rfl)
      apply Wk.gon 17 rfl rfl
      apply Wk.mv (by conv => lhs; whnf) (lt_of_ble rfl)
      apply Wk.gon 17 rfl rfl
      apply Wk.nilc rfl (lt_of_ble rfl)
      apply Wk.gon 17 rfl rfl
      apply Wk.fad 0 0 false fd145_0 rfl (lt_of_ble rfl)
      apply Wk.gon 17 rfl rfl
      apply Wk.ld (i := 0) 1 false ty64 rfl rfl (by conv => lhs; whnf) (lt_of_ble rfl)
      apply Wk.gon 17 rfl rfl
      apply Wk.len un64 rfl (lt_of_ble rfl)
      apply Wk.gon 17 rfl rfl
      apply Wk.bin rfl rfl (fun w => by simp [go_sem] <;> rfl) (lt_of_ble rfl)
      apply Wk.pckF rfl (by conv => lhs; whnf) (lt_of_ble rfl)
      refine Wk.nil ?_
      refine AW.cond rfl (fun h0 => ?_) (fun h0 => ?_)
      · refine AW.seq ?_
        apply AW.list
        apply Wk.asg (by conv => lhs; whnf) (lt_of_ble rfl)
        refine Wk.nil (AW.ret ?_)
        exact fin 0 _ (.inl (by omega)) rfl rfl
      · have hl : 0 < zs.length := by
          simp only [beq_eq_false_iff_ne, ne_eq] at h0
          omega
        obtain ⟨m, rfl⟩ : ∃ m : Nat, n = (m : Int) := ⟨n.toNat, by omega⟩
        refine AW.skip (thenA_normal ?_)
        refine AW.keep (n := 99) (ts := [(0, .ptr 0 0), (1, .d (.v (.int .i64 (m : Int))))]) (bs := [(0, rdr zs (p + 1))]) ⟨rfl, .cons rfl rfl (.cons rfl rfl .nil), .cons rfl rfl .nil, hN⟩ ?_
        refine AW.seq ?_
        apply AW.list
        apply Wk.mv (by conv => lhs; whnf) (lt_of_ble rfl)
        apply Wk.nilc rfl (lt_of_ble rfl)
        apply Wk.fad 1 0 false fd145_1 rfl (lt_of_ble rfl)
        apply Wk.ld (i := 0) 1 false ty3 rfl rfl (by conv => lhs; whnf) (lt_of_ble rfl)
        apply Wk.subn (b := 1) rfl rfl (by omega) (by omega) (lt_of_ble rfl)
        apply Wk.asg (by conv => lhs; whnf) (lt_of_ble rfl)
        refine Wk.nil ?_
        refine AW.seq (AW.seq ?_)
        apply AW.list
        apply Wk.mv (by conv => lhs; whnf) (lt_of_ble rfl)
        apply Wk.mv (by conv => lhs; whnf) (lt_of_ble rfl)
        apply Wk.nilc rfl (lt_of_ble rfl)
        apply Wk.fad 0 0 false fd145_0 rfl (lt_of_ble rfl)
        apply Wk.ld (i := 0) 1 false ty64 rfl rfl (by conv => lhs; whnf) (lt_of_ble rfl)
        apply Wk.len un64 rfl (lt_of_ble rfl)
        apply Wk.bin rfl rfl (fun w => by simp [go_sem] <;> rfl) (lt_of_ble rfl)
        refine Wk.nil ?_
        refine AW.cond rfl (fun hc => ?_) (fun hc => ?_)
        · have hlt : p < zs.length := by simpa using hc
          have hlt' : p < (zs.map (·.val)).length := by simpa using hlt
          have hm : 0 < m := by omega
          refine AW.keep (n := 99) (ts := [(0, .ptr 0 0), (1, .d (.v (.int .i64 (m : Int)))), (5, .d (.v (.int .i64 (p : Int))))]) (bs := [(0, rdr zs (p + 1))]) ⟨rfl, .cons rfl rfl (.cons rfl rfl (.cons rfl rfl .nil)), .cons rfl rfl .nil, hN⟩ ?_
          refine AW.seq ?_
          apply AW.list
          apply Wk.mv (by conv => lhs; whnf) (lt_of_ble rfl)
          apply Wk.nilc rfl (lt_of_ble rfl)
          apply Wk.fad 0 0 false fd145_0 rfl (lt_of_ble rfl)
          apply Wk.ld (i := 0) 1 false ty64 rfl rfl (by conv => lhs; whnf) (lt_of_ble rfl)
          apply Wk.mv (by conv => lhs; whnf) (lt_of_ble rfl)
          apply Wk.iad 1 false un64 ty5 rfl rfl (by simpa using hlt) (one_bytes _) (lt_of_ble rfl)
          apply Wk.ldr 1 false ty5 rfl (bytes_get (zs.map (·.val)) p hlt') (by conv => lhs; whnf) (lt_of_ble rfl)
          apply Wk.convn rfl ui5 ui3 (by have := fin_lt zs p; omega) (lt_of_ble rfl)
          apply Wk.mv (by conv => lhs; whnf) (lt_of_ble rfl)
          apply Wk.remn rfl rfl hm (lt_of_ble rfl)
          apply Wk.asg (by conv => lhs; whnf) (lt_of_ble rfl)
          refine Wk.nil (AW.ret ?_)
          exact fin _ _ (.inl (by have := Nat.mod_lt ((zs.map (·.val)).getD p 0) hm; omega)) rfl rfl
        · have hm : 0 < m := by omega
          refine AW.skip (thenA_normal ?_)
          refine AW.bound (x := .tmp 34) rfl fun hlen => ?_
          simp only [List.length_map] at hlen
          refine AW.keep (n := 99) (ts := [(0, .ptr 0 0), (1, .d (.v (.int .i64 (m : Int)))), (5, .d (.v (.int .i64 (p : Int))))]) (bs := [(0, rdr zs (p + 1))]) ⟨rfl, .cons rfl rfl (.cons rfl rfl (.cons rfl rfl .nil)), .cons rfl rfl .nil, hN⟩ ?_
          have hl' : 0 < ((zs.map (·.val)).map fun z : Nat => [D.v (.int .u8 (z : Int))]).length := by simpa using hl
          have hlm : ((zs.map (·.val)).map fun z : Nat => [D.v (.int .u8 (z : Int))]).length = (zs.map (·.val)).length := by simp
          have x1 := fin_lt zs (p % ((zs.map (·.val)).map fun z : Nat => [D.v (.int .u8 (z : Int))]).length)
          have x2 := fin_lt zs ((p * 7 + 3) % ((zs.map (·.val)).map fun z : Nat => [D.v (.int .u8 (z : Int))]).length)
          have q1 := Nat.mod_lt p hl'
          have q2 := Nat.mod_lt (p * 7 + 3) hl'
          have q3 := Nat.div_le_self p ((zs.map (·.val)).map fun z : Nat => [D.v (.int .u8 (z : Int))]).length
          refine AW.seq ?_
          apply AW.drawd (hm := hmix) (cs := _) (σ1 := _)
          · apply Wk.mv (by conv => lhs; whnf) (lt_of_ble rfl)
            apply Wk.nilc rfl (lt_of_ble rfl)
            apply Wk.fad 0 0 false fd145_0 rfl (lt_of_ble rfl)
            apply Wk.ld (i := 0) 1 false ty64 rfl rfl (by conv => lhs; whnf) (lt_of_ble rfl)
            apply Wk.mv (by conv => lhs; whnf) (lt_of_ble rfl)
            apply Wk.mv (by conv => lhs; whnf) (lt_of_ble rfl)
            apply Wk.nilc rfl (lt_of_ble rfl)
            apply Wk.fad 0 0 false fd145_0 rfl (lt_of_ble rfl)
            apply Wk.ld (i := 0) 1 false ty64 rfl rfl (by conv => lhs; whnf) (lt_of_ble rfl)
            apply Wk.len un64 rfl (lt_of_ble rfl)
            apply Wk.remn rfl rfl hl' (lt_of_ble rfl)
            apply Wk.iad 1 false un64 ty5 rfl rfl q1 (one_bytes _) (lt_of_ble rfl)
            apply Wk.ldr 1 false ty5 rfl (bytes_get (zs.map (·.val)) _ (hlm ▸ q1)) (by conv => lhs; whnf) (lt_of_ble rfl)
            apply Wk.convn rfl ui5 ui3 (by omega) (lt_of_ble rfl)
            apply Wk.muln (b := 131) rfl rfl (by omega) (lt_of_ble rfl)
            apply Wk.mv (by conv => lhs; whnf) (lt_of_ble rfl)
            apply Wk.nilc rfl (lt_of_ble rfl)
            apply Wk.fad 0 0 false fd145_0 rfl (lt_of_ble rfl)
            apply Wk.ld (i := 0) 1 false ty64 rfl rfl (by conv => lhs; whnf) (lt_of_ble rfl)
            apply Wk.mv (by conv => lhs; whnf) (lt_of_ble rfl)
            apply Wk.muln (b := 7) rfl rfl (by omega) (lt_of_ble rfl)
            apply Wk.addn (b := 3) rfl rfl (by omega) (lt_of_ble rfl)
            apply Wk.mv (by conv => lhs; whnf) (lt_of_ble rfl)
            apply Wk.nilc rfl (lt_of_ble rfl)
            apply Wk.fad 0 0 false fd145_0 rfl (lt_of_ble rfl)
            apply Wk.ld (i := 0) 1 false ty64 rfl rfl (by conv => lhs; whnf) (lt_of_ble rfl)
            apply Wk.len un64 rfl (lt_of_ble rfl)
            apply Wk.remn rfl rfl hl' (lt_of_ble rfl)
            apply Wk.iad 1 false un64 ty5 rfl rfl q2 (one_bytes _) (lt_of_ble rfl)
            apply Wk.ldr 1 false ty5 rfl (bytes_get (zs.map (·.val)) _ (hlm ▸ q2)) (by conv => lhs; whnf) (lt_of_ble rfl)
            apply Wk.convn rfl ui5 ui3 (by omega) (lt_of_ble rfl)
            apply Wk.muln (b := 1117) rfl rfl (by omega) (lt_of_ble rfl)
            apply Wk.addn rfl rfl (by omega) (lt_of_ble rfl)
            apply Wk.mv (by conv => lhs; whnf) (lt_of_ble rfl)
            apply Wk.muln (b := 29) rfl rfl (by omega) (lt_of_ble rfl)
            apply Wk.addn rfl rfl (by omega) (lt_of_ble rfl)
            apply Wk.mv (by conv => lhs; whnf) (lt_of_ble rfl)
            apply Wk.mv (by conv => lhs; whnf) (lt_of_ble rfl)
            apply Wk.nilc rfl (lt_of_ble rfl)
            apply Wk.fad 0 0 false fd145_0 rfl (lt_of_ble rfl)
            apply Wk.ld (i := 0) 1 false ty64 rfl rfl (by conv => lhs; whnf) (lt_of_ble rfl)
            apply Wk.len un64 rfl (lt_of_ble rfl)
            apply Wk.quon rfl rfl hl' (by omega) (lt_of_ble rfl)
            apply Wk.muln (b := 53) rfl rfl (by omega) (lt_of_ble rfl)
            apply Wk.addn rfl rfl (by omega) (lt_of_ble rfl)
            apply Wk.asg (by conv => lhs; whnf) (lt_of_ble rfl)
            exact Wk.nil rfl
          · rfl
          · rfl
          obtain ⟨X, hX1, hX2⟩ : ∃ X : Nat, X = (zs.map (·.val)).getD (p % ((zs.map (·.val)).map fun z : Nat => [D.v (.int .u8 (z : Int))]).length) 0 * 131 + (zs.map (·.val)).getD ((p * 7 + 3) % ((zs.map (·.val)).map fun z : Nat => [D.v (.int .u8 (z : Int))]).length) 0 * 1117 + p * 29 + p / ((zs.map (·.val)).map fun z : Nat => [D.v (.int .u8 (z : Int))]).length * 53 ∧ X ≤ 1000000000000000 := ⟨_, rfl, by omega⟩
          refine AW.keep (n := 99) (ts := [(1, .d (.v (.int .i64 (m : Int)))), (6, .d (.v (.int .i64 (X : Int))))]) (bs := [(0, rdr zs (p + 1))]) ⟨rfl, .cons rfl rfl (.cons (by rw [hX1]; rfl) rfl .nil), .cons rfl rfl .nil, hN⟩ ?_
          clear x1 x2 q1 q2 q3 hX1 hl' hlm
          have h64 : X / 64 ≤ X := Nat.div_le_self X 64
          refine AW.seq ?_
          apply AW.list
          apply Wk.mv (by conv => lhs; whnf) (lt_of_ble rfl)
          apply Wk.mv (by conv => lhs; whnf) (lt_of_ble rfl)
          apply Wk.quon (b := 64) rfl rfl (by omega) (by omega) (lt_of_ble rfl)
          apply Wk.xorn rfl rfl (by omega) (by omega) (lt_of_ble rfl)
          apply Wk.asg (by conv => lhs; whnf) (lt_of_ble rfl)
          refine Wk.nil ?_
          refine AW.seq ?_
          apply AW.list
          apply Wk.mv (by conv => lhs; whnf) (lt_of_ble rfl)
          apply Wk.mv (by conv => lhs; whnf) (lt_of_ble rfl)
          apply Wk.remn rfl rfl hm (lt_of_ble rfl)
          apply Wk.asg (by conv => lhs; whnf) (lt_of_ble rfl)
          refine Wk.nil (AW.ret ?_)
          exact fin _ _ (.inl (by have := Nat.mod_lt (X ^^^ X / 64) hm; omega)) rfl rfl
  · rintro rest ⟨n, rfl, _⟩
    rfl
  · rintro rest ⟨n, rfl, _⟩
    by_cases h : n < 1
    · exact ⟨_, 0, rfl, fun m e => by simp only [List.cons.injEq, A.d.injEq, D.v.injEq, Value.int.injEq, true_and, and_true] at e; omega⟩
    · exact ⟨_, 0, rfl, fun m e => by simp only [List.cons.injEq, A.d.injEq, D.v.injEq, Value.int.injEq, true_and, and_true] at e; omega⟩
  · rintro rest r ⟨k, rfl, _⟩
    rfl
end Go.Proofs.Ytdjadeegjbhihaa

/- Draws of truths and of bytes, over what values read as. -/
namespace Go.Proofs.Ytdjadeegjbhihaa
open Go
set_option maxRecDepth 100000 in
theorem odd_ok : DrawOk Try.prog 108 (fun rest => ∃ n : Int, rest = [.d (.v (.int .i64 n))] ∧ n ≤ 1000000 ∧ -1000000 ≤ n) (fun rest r => ∃ b : Bool, r = .d (.v (.bool b)) ∧ (rest = [.d (.v (.int .i64 0))] → b = false)) 1 := by
  refine DrawOk.zero ?_ ?_ ?_ ?_
  · rintro zs p rest ⟨n, rfl, hn, hn'⟩ hp
    refine Spec.intro (n := 15) (rv := [.tmp 4]) Try.func108 rfl rfl rfl (by simp) fun C hN hX => ?_
    refine AW.seq ?_
    apply AW.list
    apply Wk.asg (by conv => lhs; whnf) (lt_of_ble rfl)
    refine Wk.nil ?_
    refine AW.seq ?_
    by_cases h1 : 0 < n
    · apply AW.list
      apply Wk.mv (by conv => lhs; whnf) (lt_of_ble rfl)
      apply Wk.bin (r := .bool true) rfl rfl (fun w => by simp [go_sem, h1]) (lt_of_ble rfl)
      apply Wk.mv (by conv => lhs; whnf) (lt_of_ble rfl)
      apply Wk.gon 7 rfl rfl
      apply Wk.mv (by conv => lhs; whnf) (lt_of_ble rfl)
      apply Wk.gon 7 rfl rfl
      apply Wk.mv (by conv => lhs; whnf) (lt_of_ble rfl)
      apply Wk.gon 7 rfl rfl
      apply Wk.drw 0 pick_ok Try.func107 rfl rfl rfl rfl ⟨n, rfl, hn⟩ hp rfl (lt_of_ble rfl)
      rintro r zs' p' ⟨k, rfl, hk⟩ hp'
      apply Wk.gon 7 rfl rfl
      apply Wk.mv (by conv => lhs; whnf) (lt_of_ble rfl)
      apply Wk.gon 7 rfl rfl
      apply Wk.subi rfl rfl (by omega) (lt_of_ble rfl)
      apply Wk.gon 7 rfl rfl
      apply Wk.bin rfl rfl (fun w => by simp [go_sem] <;> rfl) (lt_of_ble rfl)
      apply Wk.pckT rfl (by conv => lhs; whnf) (lt_of_ble rfl)
      apply Wk.asg (by conv => lhs; whnf) (lt_of_ble rfl)
      refine Wk.nil (AW.ret ?_)
      refine RetQ.ret [(0, rdr zs' p')] (.cons rfl .nil) ⟨⟨_, rfl, fun e => ?_⟩, _, _, rfl, hp'⟩ (kept1 rfl)
      simp only [List.cons.injEq, A.d.injEq, D.v.injEq, Value.int.injEq, true_and, and_true] at e
      omega
    · apply AW.list
      apply Wk.mv (by conv => lhs; whnf) (lt_of_ble rfl)
      apply Wk.bin (r := .bool false) rfl rfl (fun w => by simp [go_sem, h1]) (lt_of_ble rfl)
      apply Wk.mv (by conv => lhs; whnf) (lt_of_ble rfl)
      apply Wk.goff 7 (ok_move _) rfl rfl (by decide)
      apply Wk.goff 7 (ok_move _) rfl rfl (by decide)
      apply Wk.goff 7 (ok_drw 0 pick_ok Try.func107 rfl rfl) rfl rfl (by decide)
      apply Wk.goff 7 (ok_move _) rfl rfl (by decide)
      apply Wk.goff 7 (ok_bin _ _ _ _ _) rfl rfl (by decide)
      apply Wk.goff 7 (ok_bin _ _ _ _ _) rfl rfl (by decide)
      apply Wk.pckF rfl (by conv => lhs; whnf) (lt_of_ble rfl)
      apply Wk.asg (by conv => lhs; whnf) (lt_of_ble rfl)
      refine Wk.nil (AW.ret ?_)
      exact RetQ.ret [(0, rdr zs p)] (.cons rfl .nil) ⟨⟨false, rfl, fun _ => rfl⟩, _, _, rfl, Nat.le_succ p⟩ (kept1 rfl)
  · rintro rest ⟨n, rfl, _⟩; rfl
  · rintro rest _; exact ⟨_, false, rfl, fun _ => rfl⟩
  · rintro rest r ⟨k, rfl, _⟩; rfl
def fbytes (zs : List (Fin 256)) : D := bytesD (zs.map (·.val))
def cellsB (zs : List (Fin 256)) : List (List A) := (zs.map (·.val)).map fun z : Nat => [A.d (.v (.int .u8 (z : Int)))]
def cellsD (zs : List (Fin 256)) : List (List D) := (zs.map (·.val)).map fun z : Nat => [D.v (.int .u8 (z : Int))]
theorem asData_cells (zs : List (Fin 256)) : asData (cellsB zs) (cellsD zs) := asData_bytes _
theorem one_cellsB (zs : List (Fin 256)) : ∀ c ∈ cellsB zs, c.length = 1 := by
  intro c hc
  obtain ⟨z, _, rfl⟩ := List.mem_map.1 hc
  rfl
theorem within_cellsB {K : List Nat} (zs : List (Fin 256)) : (cellsB zs).all (A.withins K) = true := by
  simp [cellsB, A.withins, A.within]
end Go.Proofs.Ytdjadeegjbhihaa

/- Between what values read as and the memory itself: rows of bytes; contracts over memory as contracts over data; a law at a code. -/
namespace Go.Proofs.Ytdjadeegjbhihaa
open Go Go.RowKit
theorem rd_den {w : World} {F : Nat → Prop} {v : Value} {zs : List Nat} (h : Rd w v zs) (hF : ∀ b, b < w.heap.size → F b) : FDen w F (bytesD zs) v := by
  obtain ⟨_, _, ⟨rfl, a, c, rfl, hac⟩ | ⟨b, off, cap, rfl, hl, hm, hb, hc⟩⟩ := h
  · exact .emp a c hac
  · have key : ∀ i j e d, (zs.map fun z : Nat => [D.v (.int .u8 (z : Int))])[i]? = some e → e[j]? = some d → i < zs.length ∧ j = 0 ∧ d = .v (.int .u8 ((zs.getD i 0 : Nat) : Int)) := fun i j e d he hd => by
      simp only [List.getElem?_map, Option.map_eq_some_iff] at he
      obtain ⟨z, hz, rfl⟩ := he
      have hi := (List.getElem?_eq_some_iff.1 hz).1
      cases j with
      | succ j => simp at hd
      | zero =>
        simp only [List.getElem?_cons_zero, Option.some.injEq] at hd
        exact ⟨hi, rfl, by rw [← hd, List.getD_eq_getElem?_getD, hz]; rfl⟩
    refine .row 1 b off cap zs.length _ (fun i _ => .int .u8 ((zs.getD i 0 : Nat) : Int)) (hF b hb) (by simp) hl hm (one_bytes zs) (fun i j e d he hd => ?_) (fun i j e d he hd => rfl) (fun i j e d he hd => ?_)
    · obtain ⟨hi, rfl, _⟩ := key i j e d he hd
      have := hc i hi
      rw [← this]
      simp
    · obtain ⟨_, _, rfl⟩ := key i j e d he hd
      exact .v _
theorem den_rd {w : World} {F : Nat → Prop} {v : Value} {zs : List Nat} (h : FDen w F (bytesD zs) v) (hF : ∀ b, F b → b < w.heap.size) (hz : Byt zs) (hl : zs.length ≤ 2000000) : Rd w v zs := by
  refine ⟨hz, hl, ?_⟩
  unfold bytesD at h
  generalize hes : (zs.map fun z : Nat => [D.v (.int .u8 (z : Int))]) = es at h
  cases h with
  | emp a c h0 =>
    have : zs = [] := by cases zs with | nil => rfl | cons z zs => simp at hes
    exact .inl ⟨this, a, c, rfl, h0⟩
  | row sz b o cap n _ vs hb hn hcap hmax hsz hc h1 hd =>
    subst hes
    have hn' : zs.length = n := by simpa using hn
    subst hn'
    refine .inr ⟨b, o, cap, rfl, hcap, hmax, hF b hb, fun j hj => ?_⟩
    have e := bytes_get zs j hj
    have hs : sz = 1 := (hsz _ (List.mem_of_getElem? e)).symm
    subst hs
    have h2 := hc j 0 _ _ e rfl
    have h3 := hd j 0 _ _ e rfl
    generalize vs j 0 = u at h2 h3
    cases h3
    simpa using h2

theorem DataOk.lift {P : Program} {f : FuncId} {ls : List A} {v : Value} (h : ∀ (w : World) (F : Nat → Prop) (E : Nat → Option Nat) (H : Nat → Nat → Option Value) (args : Array Value), (∀ b, F b → b < w.heap.size) → args.size = ls.length → (∀ (i : Nat) (a : A), ls[i]? = some a → Den w F E H a (args.getD i undef)) →
    Calls P f args w fun e w' => e = .returned v ∧ Below w.heap.size w w') : DataOk P f ls (.d (.v v)) := by
  intro w F E H args hpo hs hd
  refine (h w F E H args hpo.Flt hs hd).mono ?_
  rintro e w' ⟨rfl, hb⟩
  exact ⟨v, .d (.v v), [], F, E, H, rfl, ⟨rfl, rfl⟩, ⟨hb.os, hb.tape, hb.output, hb.size, fun b hlt _ => hb.block b hlt, fun b h => h, fun b h => Nat.lt_of_lt_of_le (hpo.Flt b h) hb.size, fun b h => .inl h, fun _ _ h => h, fun _ _ _ h => h,
    (fun i x hx => by cases hx), (fun i x b hx => by cases hx), (fun i j x y b _ hx => by cases hx), (fun i x b hx => by cases hx)⟩, .d _ _ (.v v)⟩

theorem DataOk.run {P : Program} {f : FuncId} {s v : Value} {w : World} {zs : List Nat} (h : DataOk P f [.d (bytesD zs)] (.d (.v v))) (hR : Rd w s zs) : Calls P f #[s] w fun e w' => e = .returned v ∧ Below w.heap.size w w' := by
  have hpo : PreOk w (· < w.heap.size) (fun _ => none) (fun _ _ => none) [] :=
    ⟨fun b hb => hb, (fun i x hx => by cases hx), (fun i x b hx => by cases hx), (fun i j x y b _ hx => by cases hx), fun i _ => ⟨rfl, fun _ => rfl⟩⟩
  refine (h w (· < w.heap.size) (fun _ => none) (fun _ _ => none) #[s] hpo rfl (fun i a ha => ?_)).mono ?_
  · cases i with
    | succ i => simp at ha
    | zero =>
      simp only [List.getElem?_cons_zero, Option.some.injEq] at ha
      subst ha
      exact .d _ _ (rd_den hR fun b hb => hb)
  · rintro e w' ⟨v', r, bs', F', E', H', rfl, ⟨rfl, rfl⟩, po, hden⟩
    rw [den_v hden]
    exact ⟨rfl, po.os, po.tape, po.output, po.size, fun b hb => po.old b hb (fun i x hx => by cases hx)⟩
theorem byt_fin {zs : List Nat} (h : Byt zs) : ∃ bs : List (Fin 256), bs.map (·.val) = zs := ⟨zs.attach.map fun z => ⟨z.1, h z.1 z.2⟩, by simp⟩
theorem fin_byt (bs : List (Fin 256)) : Byt (bs.map (·.val)) := fun z hz => by
  obtain ⟨x, _, rfl⟩ := List.mem_map.1 hz
  exact x.isLt
/-- One argument alone. -/
theorem arg1 {w : World} {F : Nat → Prop} {E : Nat → Option Nat} {H : Nat → Nat → Option Value} {a : A} {args : Array Value} (hs : args.size = [a].length) (hd : ∀ (i : Nat) (x : A), [a][i]? = some x → Den w F E H x (args.getD i undef)) : ∃ v, args = #[v] ∧ Den w F E H a v := by
  have hs' : args.toList.length = 1 := by simpa using hs
  match hl : args.toList, hs' with
  | [v], _ =>
    obtain rfl : args = #[v] := by rw [← Array.toArray_toList (xs := args), hl]
    exact ⟨v, rfl, hd 0 a rfl⟩

theorem liok_ok : DataOk Try.prog 37 [] (.d (.v (.bool true))) := by
  refine DataOk.lift fun w F E H args _ hs _ => ?_
  obtain rfl : args = #[] := by simpa using hs
  exact li_ok w
/-- An answer in new memory. -/
theorem DataOk.liftN {P : Program} {f : FuncId} {ls : List A} {r : A} (h : ∀ (w : World) (F : Nat → Prop) (E : Nat → Option Nat) (H : Nat → Nat → Option Value) (args : Array Value), (∀ b, F b → b < w.heap.size) → args.size = ls.length → (∀ (i : Nat) (a : A), ls[i]? = some a → Den w F E H a (args.getD i undef)) →
    Calls P f args w fun e w' => ∃ v, e = .returned v ∧ Below w.heap.size w w' ∧ Den w' (fun b => w.heap.size ≤ b ∧ b < w'.heap.size) E H r v) : DataOk P f ls r := by
  intro w F E H args hpo hs hd
  refine (h w F E H args hpo.Flt hs hd).mono ?_
  rintro e w' ⟨v, rfl, hb, hden⟩
  refine ⟨v, r, [], fun b => F b ∨ (w.heap.size ≤ b ∧ b < w'.heap.size), E, H, rfl, ⟨rfl, rfl⟩, ⟨hb.os, hb.tape, hb.output, hb.size, fun b hlt _ => hb.block b hlt, fun b h => .inl h, fun b h => ?_, fun b h => ?_, fun _ _ h => h, fun _ _ _ h => h,
    (fun i x hx => by cases hx), (fun i x b hx => by cases hx), (fun i j x y b _ hx => by cases hx), (fun i x b hx => by cases hx)⟩, hden.mono (fun b h => .inr h) (fun _ _ => rfl) (fun _ _ h => h) (fun _ _ _ h => h)⟩
  · rcases h with h | h
    · exact Nat.lt_of_lt_of_le (hpo.Flt b h) hb.size
    · exact h.2
  · rcases h with h | h
    · exact .inl h
    · exact .inr h.1
theorem own_den {w : World} {B : Nat} {v : Value} {zs : List Nat} (h : Own w B v zs) : FDen w (fun b => B ≤ b ∧ b < w.heap.size) (bytesD zs) v := by
  have h0 : w.ownsRow 0 5 1 v ((zs.map fun z : Nat => [A.d (.v (.int .u8 (z : Int)))]).length) (bcells zs) := by
    have h' : w.ownsRow B 5 1 v zs.length (bcells zs) := h
    rw [List.length_map]
    refine ⟨h'.1, ?_⟩
    rcases h'.2 with h1 | ⟨g, cap, cur, h1, h2, h3⟩
    · exact .inl h1
    · exact .inr ⟨g, cap, cur, h1, Nat.zero_le _, h3⟩
  have hp : Pw (CellOk w (fun _ => False) (fun _ => none) (fun _ _ => none)) (zs.map fun z : Nat => [A.d (.v (.int .u8 (z : Int)))]).flatten (bcells zs) := by
    have e : (zs.map fun z : Nat => [A.d (.v (.int .u8 (z : Int)))]).flatten = zs.map fun z : Nat => A.d (.v (.int .u8 (z : Int))) := by
      clear h0 h
      induction zs with
      | nil => rfl
      | cons z zs ih => simp [ih]
    rw [e]
    refine ⟨by simp [bcells], fun j a u ha hu => ?_⟩
    simp only [List.getElem?_map, Option.map_eq_some_iff, bcells] at ha hu
    obtain ⟨z, hz, rfl⟩ := ha
    obtain ⟨z', hz', rfl⟩ := hu
    rw [hz] at hz'
    obtain rfl := Option.some.inj hz'
    exact ⟨rfl, .d _ _ (.v _)⟩
  have := own_rowA h0 (by intro c hc; obtain ⟨z, _, rfl⟩ := List.mem_map.1 hc; rfl) hp (ds := zs.map fun z : Nat => [D.v (.int .u8 (z : Int))]) (by simp [asData, nrms, nrm])
  refine this.mono (fun b hb => ?_) (fun _ _ => rfl)
  rcases hb with hb | hb
  · exact hb.elim
  · exact World.ownsRow.lt h b hb
/-- The nil list of an answer reads as the empty one. -/
theorem DataOk.nrm {P : Program} {f : FuncId} {ls : List A} {r : A} (h : DataOk P f ls r) : DataOk P f ls (Go.Proofs.Ytdjadeegjbhihaa.nrm r) := by
  intro w F E H args hpo hs hd
  refine (h w F E H args hpo hs hd).mono ?_
  rintro e w' ⟨v, r', bs', F', E', H', rfl, ⟨rfl, rfl⟩, po, hden⟩
  exact ⟨v, _, [], F', E', H', rfl, ⟨rfl, rfl⟩, po, hden.nrm⟩
theorem args2 {w : World} {F : Nat → Prop} {E : Nat → Option Nat} {H : Nat → Nat → Option Value} {a b : A} {args : Array Value} (hs : args.size = [a, b].length) (hd : ∀ (i : Nat) (x : A), [a, b][i]? = some x → Den w F E H x (args.getD i undef)) : ∃ v u, args = #[v, u] ∧ Den w F E H a v ∧ Den w F E H b u := by
  have hs' : args.toList.length = 2 := by simpa using hs
  match hl : args.toList, hs' with
  | [v, u], _ =>
    obtain rfl : args = #[v, u] := by rw [← Array.toArray_toList (xs := args), hl]
    exact ⟨v, u, rfl, hd 0 a rfl, hd 1 b rfl⟩
theorem int2 {P : Program} {f : FuncId} {a b r : Int} (h : ∀ w, Calls P f #[.int .i64 a, .int .i64 b] w fun e w' => e = .returned (.int .i64 r) ∧ w' = w) : DataOk P f [.d (.v (.int .i64 a)), .d (.v (.int .i64 b))] (.d (.v (.int .i64 r))) := by
  refine DataOk.lift fun w F E H args _ hs hd => ?_
  obtain ⟨v, u, rfl, hv, hu⟩ := args2 hs hd
  obtain rfl := den_v hv
  obtain rfl := den_v hu
  refine (h w).mono ?_
  rintro e w' ⟨rfl, rfl⟩
  exact ⟨rfl, Below.refl _ _⟩
theorem int1 {P : Program} {f : FuncId} {a r : Int} (h : ∀ w, Calls P f #[.int .i64 a] w fun e w' => e = .returned (.int .i64 r) ∧ w' = w) : DataOk P f [.d (.v (.int .i64 a))] (.d (.v (.int .i64 r))) := by
  refine DataOk.lift fun w F E H args _ hs hd => ?_
  obtain ⟨v, rfl, hv⟩ := arg1 hs hd
  obtain rfl := den_v hv
  refine (h w).mono ?_
  rintro e w' ⟨rfl, rfl⟩
  exact ⟨rfl, Below.refl _ _⟩
theorem DataOk.run2 {P : Program} {f : FuncId} {s u v : Value} {w : World} {zs ys : List Nat} (h : DataOk P f [.d (bytesD zs), .d (bytesD ys)] (.d (.v v))) (hR : Rd w s zs) (hR' : Rd w u ys) : Calls P f #[s, u] w fun e w' => e = .returned v ∧ Below w.heap.size w w' := by
  have hpo : PreOk w (· < w.heap.size) (fun _ => none) (fun _ _ => none) [] :=
    ⟨fun b hb => hb, (fun i x hx => by cases hx), (fun i x b hx => by cases hx), (fun i j x y b _ hx => by cases hx), fun i _ => ⟨rfl, fun _ => rfl⟩⟩
  refine (h w (· < w.heap.size) (fun _ => none) (fun _ _ => none) #[s, u] hpo rfl (fun i a ha => ?_)).mono ?_
  · match i with
    | 0 => obtain rfl := Option.some.inj ha; exact .d _ _ (rd_den hR fun b hb => hb)
    | 1 => obtain rfl := Option.some.inj ha; exact .d _ _ (rd_den hR' fun b hb => hb)
    | _ + 2 => simp at ha
  · rintro e w' ⟨v', r, bs', F', E', H', rfl, ⟨rfl, rfl⟩, po, hden⟩
    rw [den_v hden]
    exact ⟨rfl, po.os, po.tape, po.output, po.size, fun b hb => po.old b hb (fun i x hx => by cases hx)⟩
end Go.Proofs.Ytdjadeegjbhihaa

/- Pieces over what values read as; PartOk. -/
namespace Go.Proofs.Ytdjadeegjbhihaa
open Go Go.RowKit
def datD (d : Dat) : List D := [.v (.int .i64 d.1), .v (.int .i64 d.2.1), bytesD d.2.2]
def partsD (ds : List Dat) : D := .row (ds.map datD)
def partN (d : Dat) : A := .agg ((datD d).map .d)
theorem datD_len (ds : List Dat) : ∀ e ∈ ds.map datD, e.length = 3 := by
  intro e he
  obtain ⟨d, _, rfl⟩ := List.mem_map.1 he
  rfl
/-- A piece handed over: its cells. -/
theorem partN_args {w : World} {F : Nat → Prop} {E : Nat → Option Nat} {H : Nat → Nat → Option Value} {d : Dat} {v : Value} (hv : Den w F E H (partN d) v) : ∃ a cap, v = .agg #[.int .i64 d.1, .int .i64 d.2.1, .slice a d.2.2.length cap] := by
  obtain ⟨g, l, ys⟩ := d
  obtain ⟨cs, rfl, hs, _, h⟩ := den_agg hv
  have hs' : cs.toList.length = 3 := by simpa [datD] using hs
  match hl : cs.toList, hs' with
  | [x0, x1, x2], _ =>
    obtain rfl : cs = #[x0, x1, x2] := by rw [← Array.toArray_toList (xs := cs), hl]
    obtain rfl := den_v (h 0 _ rfl)
    obtain rfl := den_v (h 1 _ rfl)
    obtain ⟨a, n, cap, rfl, hn⟩ := den_row (den_d (h 2 _ rfl))
    simp only [List.length_map] at hn
    subst hn
    exact ⟨a, cap, rfl⟩
theorem ipartb (d : Dat) {b : Bool} (h : pieceB d.1 d.2.1 d.2.2.length = b) : DataOk Try.prog 83 [partN d] (.d (.v (.bool b))) := by
  subst h
  refine DataOk.lift fun w F E H args _ hs hd => ?_
  obtain ⟨v, rfl, hv⟩ := arg1 hs hd
  obtain ⟨a, cap, rfl⟩ := partN_args hv
  exact impl_part _ _ _ _ _ _
theorem spartb (d : Dat) {b : Bool} (h : pieceB d.1 d.2.1 d.2.2.length = b) : DataOk Try.prog 77 [partN d] (.d (.v (.bool b))) := by
  subst h
  refine DataOk.lift fun w F E H args _ hs hd => ?_
  obtain ⟨v, rfl, hv⟩ := arg1 hs hd
  obtain ⟨a, cap, rfl⟩ := partN_args hv
  exact spec_part _ _ _ _ _ _
end Go.Proofs.Ytdjadeegjbhihaa

/- Lists of pieces that are ok, both sides'; who sends, over what values read as. -/
namespace Go.Proofs.Ytdjadeegjbhihaa
open Go Go.RowKit
/-- A piece that is ok and no longer than m. -/
def partM (m : Int) (d : Dat) : Bool := pieceB d.1 d.2.1 d.2.2.length && decide ((d.2.2.length : Int) ≤ m)
theorem all_drop {p : Dat → Bool} {ds : List Dat} {k : Nat} {d : Dat} (h : ds[k]? = some d) : (ds.drop k).all p = (p d && (ds.drop (k + 1)).all p) := by
  obtain ⟨hk, rfl⟩ := List.getElem?_eq_some_iff.1 h
  rw [List.drop_eq_getElem_cons hk, List.all_cons]
set_option maxHeartbeats 4000000 in
set_option maxRecDepth 100000 in
theorem sparts_ok (ds : List Dat) (m : Int) : DataOk Try.prog 43 [.d (partsD ds), .d (.v (.int .i64 m))] (.d (.v (.bool (ds.all (partM m))))) := by
  refine Spec.intro (n := 28) (rv := [.tmp 4]) Try.func43 rfl rfl rfl (by simp) fun C hN hX => ?_
  refine AW.bound (x := .tmp 0) rfl fun hb => ?_
  simp only [List.length_map] at hb
  refine AW.seq ?_
  apply AW.list
  apply Wk.asg (by conv => lhs; whnf) (lt_of_ble rfl)
  refine Wk.nil ?_
  refine AW.seq (AW.seq ?_)
  apply AW.list
  apply Wk.asg (by conv => lhs; whnf) (lt_of_ble rfl)
  refine Wk.nil (AW.block ?_)
  refine AW.loop (fun k : Nat => St.of 28 [(0, .d (partsD ds)), (1, .d (.v (.int .i64 m))), (5, .d (.v (.int .i64 (k : Int))))] []) (fun k => k ≤ ds.length ∧ (ds.drop k).all (partM m) = ds.all (partM m)) (fun k => ds.length - k) 0 ⟨Nat.zero_le _, rfl⟩ ?_ ?_
  · exact fun a w => Rel.keep ⟨rfl, .cons rfl rfl (.cons rfl rfl (.cons rfl rfl .nil)), .nil, hN.mono (by simp [keys])⟩
  rintro k ⟨hk, hf⟩
  refine AW.seq (AW.seq ?_)
  apply AW.list
  apply Wk.mv (by conv => lhs; whnf) (lt_of_ble rfl)
  apply Wk.mv (by conv => lhs; whnf) (lt_of_ble rfl)
  apply Wk.len un31 rfl (lt_of_ble rfl)
  apply Wk.bin rfl rfl (fun w => by simp [go_sem] <;> rfl) (lt_of_ble rfl)
  refine Wk.nil ?_
  refine AW.cond rfl (fun hc => ?_) (fun hc => ?_)
  · have hlt : k < ds.length := by simpa using hc
    obtain ⟨d, hd⟩ : ∃ d, ds[k]? = some d := ⟨_, List.getElem?_eq_getElem hlt⟩
    have hget : (ds.map datD)[k]? = some (datD d) := by simp [hd]
    have hklt : k < (ds.map datD).length := by simpa using hlt
    have hall := all_drop (p := partM m) hd
    refine AW.skip ?_
    repeat (first | refine thenA_normal ?_ | refine inBlockA_normal ?_)
    refine AW.seq (AW.block (AW.seq ?_))
    cases hp : pieceB d.1 d.2.1 d.2.2.length
    · have hend : ds.all (partM m) = false := by rw [← hf, hall, partM, hp]; rfl
      apply AW.list
      apply Wk.mv (by conv => lhs; whnf) (lt_of_ble rfl)
      apply Wk.mv (by conv => lhs; whnf) (lt_of_ble rfl)
      apply Wk.iad 3 true un31 ty115 rfl rfl hklt (datD_len _) (lt_of_ble rfl)
      apply Wk.ldr 3 true ty115 rfl hget (by conv => lhs; whnf) (lt_of_ble rfl)
      apply Wk.dat (spartb d hp) Try.func77 rfl rfl rfl rfl rfl (lt_of_ble rfl)
      apply Wk.un rfl (fun w => by simp [go_sem] <;> rfl) (lt_of_ble rfl)
      apply Wk.mv (by conv => lhs; whnf) (lt_of_ble rfl)
      apply Wk.goff 18 (ok_move _) rfl rfl (by decide)
      apply Wk.goff 18 (ok_move _) rfl rfl (by decide)
      apply Wk.goff 18 (ok_iaddr un31 ty115) rfl rfl (by decide)
      apply Wk.goff 18 (ok_faddr fd115_2) rfl rfl (by decide)
      apply Wk.goff 18 (ok_loadr ty64) rfl rfl (by decide)
      apply Wk.goff 18 (ok_len un64) rfl rfl (by decide)
      apply Wk.goff 18 (ok_move _) rfl rfl (by decide)
      apply Wk.goff 18 (ok_bin _ _ _ _ _) rfl rfl (by decide)
      apply Wk.pckT rfl (by conv => lhs; whnf) (lt_of_ble rfl)
      refine Wk.nil ?_
      refine AW.cond rfl (fun _ => ?_) (fun hc => by cases hc)
      refine AW.seq ?_
      apply AW.list
      apply Wk.asg (by conv => lhs; whnf) (lt_of_ble rfl)
      refine Wk.nil (AW.ret ?_)
      repeat (first | refine thenA_ret ?_ | refine inBlockA_ret ?_)
      exact RetQ.ret [] (.cons rfl .nil) ⟨by rw [hend]; rfl, rfl⟩ none_kept
    · by_cases hm : m < (d.2.2.length : Int)
      · have hend : ds.all (partM m) = false := by rw [← hf, hall, partM, decide_eq_false (by omega), Bool.and_false]; rfl
        apply AW.list
        apply Wk.mv (by conv => lhs; whnf) (lt_of_ble rfl)
        apply Wk.mv (by conv => lhs; whnf) (lt_of_ble rfl)
        apply Wk.iad 3 true un31 ty115 rfl rfl hklt (datD_len _) (lt_of_ble rfl)
        apply Wk.ldr 3 true ty115 rfl hget (by conv => lhs; whnf) (lt_of_ble rfl)
        apply Wk.dat (spartb d hp) Try.func77 rfl rfl rfl rfl rfl (lt_of_ble rfl)
        apply Wk.un rfl (fun w => by simp [go_sem] <;> rfl) (lt_of_ble rfl)
        apply Wk.mv (by conv => lhs; whnf) (lt_of_ble rfl)
        apply Wk.gon 18 rfl rfl
        apply Wk.mv (by conv => lhs; whnf) (lt_of_ble rfl)
        apply Wk.gon 18 rfl rfl
        apply Wk.mv (by conv => lhs; whnf) (lt_of_ble rfl)
        apply Wk.gon 18 rfl rfl
        apply Wk.iad 3 true un31 ty115 rfl rfl hklt (datD_len _) (lt_of_ble rfl)
        apply Wk.gon 18 rfl rfl
        apply Wk.fad 2 0 false fd115_2 rfl (lt_of_ble rfl)
        apply Wk.gon 18 rfl rfl
        apply Wk.ldr 1 false ty64 rfl hget (by conv => lhs; whnf) (lt_of_ble rfl)
        apply Wk.gon 18 rfl rfl
        apply Wk.len un64 rfl (lt_of_ble rfl)
        apply Wk.gon 18 rfl rfl
        apply Wk.mv (by conv => lhs; whnf) (lt_of_ble rfl)
        apply Wk.gon 18 rfl rfl
        apply Wk.bin rfl rfl (r := .bool true) (fun w => by simp [go_sem] <;> omega) (lt_of_ble rfl)
        apply Wk.pckF rfl (by conv => lhs; whnf) (lt_of_ble rfl)
        refine Wk.nil ?_
        refine AW.cond rfl (fun _ => ?_) (fun hc => by cases hc)
        refine AW.seq ?_
        apply AW.list
        apply Wk.asg (by conv => lhs; whnf) (lt_of_ble rfl)
        refine Wk.nil (AW.ret ?_)
        repeat (first | refine thenA_ret ?_ | refine inBlockA_ret ?_)
        exact RetQ.ret [] (.cons rfl .nil) ⟨by rw [hend]; rfl, rfl⟩ none_kept
      · have hnext : (ds.drop (k + 1)).all (partM m) = ds.all (partM m) := by rw [← hf, hall, partM, hp, decide_eq_true (by omega)]; rfl
        apply AW.list
        apply Wk.mv (by conv => lhs; whnf) (lt_of_ble rfl)
        apply Wk.mv (by conv => lhs; whnf) (lt_of_ble rfl)
        apply Wk.iad 3 true un31 ty115 rfl rfl hklt (datD_len _) (lt_of_ble rfl)
        apply Wk.ldr 3 true ty115 rfl hget (by conv => lhs; whnf) (lt_of_ble rfl)
        apply Wk.dat (spartb d hp) Try.func77 rfl rfl rfl rfl rfl (lt_of_ble rfl)
        apply Wk.un rfl (fun w => by simp [go_sem] <;> rfl) (lt_of_ble rfl)
        apply Wk.mv (by conv => lhs; whnf) (lt_of_ble rfl)
        apply Wk.gon 18 rfl rfl
        apply Wk.mv (by conv => lhs; whnf) (lt_of_ble rfl)
        apply Wk.gon 18 rfl rfl
        apply Wk.mv (by conv => lhs; whnf) (lt_of_ble rfl)
        apply Wk.gon 18 rfl rfl
        apply Wk.iad 3 true un31 ty115 rfl rfl hklt (datD_len _) (lt_of_ble rfl)
        apply Wk.gon 18 rfl rfl
        apply Wk.fad 2 0 false fd115_2 rfl (lt_of_ble rfl)
        apply Wk.gon 18 rfl rfl
        apply Wk.ldr 1 false ty64 rfl hget (by conv => lhs; whnf) (lt_of_ble rfl)
        apply Wk.gon 18 rfl rfl
        apply Wk.len un64 rfl (lt_of_ble rfl)
        apply Wk.gon 18 rfl rfl
        apply Wk.mv (by conv => lhs; whnf) (lt_of_ble rfl)
        apply Wk.gon 18 rfl rfl
        apply Wk.bin rfl rfl (r := .bool false) (fun w => by simp [go_sem] <;> omega) (lt_of_ble rfl)
        apply Wk.pckF rfl (by conv => lhs; whnf) (lt_of_ble rfl)
        refine Wk.nil ?_
        refine AW.cond rfl (fun hc => by cases hc) (fun _ => AW.skip ?_)
        repeat (first | refine thenA_normal ?_ | refine inBlockA_normal ?_)
        apply AW.list
        apply Wk.mv (by conv => lhs; whnf) (lt_of_ble rfl)
        apply Wk.addi rfl rfl (by omega) (lt_of_ble rfl)
        apply Wk.asg (by conv => lhs; whnf) (lt_of_ble rfl)
        refine Wk.nil ?_
        refine ⟨k + 1, ⟨by omega, hnext⟩, by omega, ?_⟩
        exact fun a w => Rel.keep ⟨rfl, .cons rfl rfl (.cons rfl rfl (.cons rfl rfl .nil)), .nil, hN.mono (by simp [keys])⟩
  · have hke : ds.drop k = [] := by
      apply List.drop_eq_nil_of_le
      simp at hc
      omega
    rw [hke] at hf
    refine AW.exit ?_
    repeat (first | refine inBlockA_same ?_ | refine thenA_exit ?_)
    repeat (first | refine thenA_normal ?_ | refine inBlockA_normal ?_)
    refine AW.seq ?_
    apply AW.list
    apply Wk.asg (by conv => lhs; whnf) (lt_of_ble rfl)
    refine Wk.nil (AW.ret ?_)
    repeat (first | refine thenA_ret ?_ | refine inBlockA_ret ?_)
    exact RetQ.ret [] (.cons rfl .nil) ⟨by rw [← hf]; rfl, rfl⟩ none_kept
set_option maxHeartbeats 4000000 in
set_option maxRecDepth 100000 in
theorem iparts_ok (ds : List Dat) (m : Int) : DataOk Try.prog 49 [.d (partsD ds), .d (.v (.int .i64 m))] (.d (.v (.bool (ds.all (partM m))))) := by
  refine Spec.intro (n := 24) (rv := [.tmp 4]) Try.func49 rfl rfl rfl (by simp) fun C hN hX => ?_
  refine AW.bound (x := .tmp 0) rfl fun hb => ?_
  simp only [List.length_map] at hb
  refine AW.seq ?_
  apply AW.list
  apply Wk.asg (by conv => lhs; whnf) (lt_of_ble rfl)
  refine Wk.nil ?_
  refine AW.seq (AW.seq ?_)
  apply AW.list
  apply Wk.mv (by conv => lhs; whnf) (lt_of_ble rfl)
  apply Wk.len un31 rfl (lt_of_ble rfl)
  apply Wk.mv (by conv => lhs; whnf) (lt_of_ble rfl)
  refine Wk.nil (AW.block ?_)
  refine AW.loop (fun k : Nat => St.of 24 [(1, .d (.v (.int .i64 m))), (7, .d (partsD ds)), (8, .d (.v (.int .i64 ((ds.map datD).length : Nat)))), (9, .d (.v (.int .i64 (k : Int))))] []) (fun k => k ≤ ds.length ∧ (ds.drop k).all (partM m) = ds.all (partM m)) (fun k => ds.length - k) 0 ⟨Nat.zero_le _, rfl⟩ ?_ ?_
  · exact fun a w => Rel.keep ⟨rfl, .cons rfl rfl (.cons rfl rfl (.cons rfl rfl (.cons rfl rfl .nil))), .nil, hN.mono (by simp [keys])⟩
  rintro k ⟨hk, hf⟩
  refine AW.seq ?_
  apply AW.list
  apply Wk.bin rfl rfl (fun w => by simp [go_sem] <;> rfl) (lt_of_ble rfl)
  refine Wk.nil ?_
  refine AW.seq ?_
  refine AW.cond rfl (fun hc => ?_) (fun hc => ?_)
  · have hlt : k < ds.length := by simpa using hc
    obtain ⟨d, hd⟩ : ∃ d, ds[k]? = some d := ⟨_, List.getElem?_eq_getElem hlt⟩
    have hget : (ds.map datD)[k]? = some (datD d) := by simp [hd]
    have hklt : k < (ds.map datD).length := by simpa using hlt
    have hall := all_drop (p := partM m) hd
    refine AW.skip ?_
    repeat (first | refine thenA_normal ?_ | refine inBlockA_normal ?_)
    refine AW.seq (AW.block (AW.seq ?_))
    apply AW.list
    apply Wk.iad 3 true un31 ty115 rfl rfl hklt (datD_len _) (lt_of_ble rfl)
    apply Wk.ldr 3 true ty115 rfl hget (by conv => lhs; whnf) (lt_of_ble rfl)
    apply Wk.alc 6 [.int .i64 0, .int .i64 0, .slice none 0 0] ze115 rfl rfl (lt_of_ble rfl)
    apply Wk.sto (i := 6) 3 true ty115 rfl rfl rfl rfl (Nat.le_of_ble_eq_true rfl) (lt_of_ble rfl)
    refine Wk.nil ?_
    refine AW.seq ?_
    cases hp : pieceB d.1 d.2.1 d.2.2.length
    · have hend : ds.all (partM m) = false := by rw [← hf, hall, partM, hp]; rfl
      apply AW.list
      apply Wk.ld (i := 6) 3 true ty115 rfl rfl (by conv => lhs; whnf) (lt_of_ble rfl)
      apply Wk.dat (ipartb d hp) Try.func83 rfl rfl rfl rfl rfl (lt_of_ble rfl)
      apply Wk.un rfl (fun w => by simp [go_sem] <;> rfl) (lt_of_ble rfl)
      apply Wk.mv (by conv => lhs; whnf) (lt_of_ble rfl)
      apply Wk.goff 16 (ok_faddr fd115_2) rfl rfl (by decide)
      apply Wk.goff 16 (ok_load 6 ty64) rfl rfl (by decide)
      apply Wk.goff 16 (ok_len un64) rfl rfl (by decide)
      apply Wk.goff 16 (ok_move _) rfl rfl (by decide)
      apply Wk.goff 16 (ok_bin _ _ _ _ _) rfl rfl (by decide)
      apply Wk.pckT rfl (by conv => lhs; whnf) (lt_of_ble rfl)
      refine Wk.nil ?_
      refine AW.cond rfl (fun _ => ?_) (fun hc => by cases hc)
      refine AW.seq ?_
      apply AW.list
      apply Wk.asg (by conv => lhs; whnf) (lt_of_ble rfl)
      refine Wk.nil (AW.ret ?_)
      repeat (first | refine thenA_ret ?_ | refine inBlockA_ret ?_)
      exact RetQ.ret [] (.cons rfl .nil) ⟨by rw [hend]; rfl, rfl⟩ none_kept
    · by_cases hm : m < (d.2.2.length : Int)
      · have hend : ds.all (partM m) = false := by rw [← hf, hall, partM, decide_eq_false (by omega), Bool.and_false]; rfl
        apply AW.list
        apply Wk.ld (i := 6) 3 true ty115 rfl rfl (by conv => lhs; whnf) (lt_of_ble rfl)
        apply Wk.dat (ipartb d hp) Try.func83 rfl rfl rfl rfl rfl (lt_of_ble rfl)
        apply Wk.un rfl (fun w => by simp [go_sem] <;> rfl) (lt_of_ble rfl)
        apply Wk.mv (by conv => lhs; whnf) (lt_of_ble rfl)
        apply Wk.gon 16 rfl rfl
        apply Wk.fad 2 0 false fd115_2 rfl (lt_of_ble rfl)
        apply Wk.gon 16 rfl rfl
        apply Wk.ld (i := 6) 1 false ty64 rfl rfl (by conv => lhs; whnf) (lt_of_ble rfl)
        apply Wk.gon 16 rfl rfl
        apply Wk.len un64 rfl (lt_of_ble rfl)
        apply Wk.gon 16 rfl rfl
        apply Wk.mv (by conv => lhs; whnf) (lt_of_ble rfl)
        apply Wk.gon 16 rfl rfl
        apply Wk.bin rfl rfl (r := .bool true) (fun w => by simp [go_sem] <;> omega) (lt_of_ble rfl)
        apply Wk.pckF rfl (by conv => lhs; whnf) (lt_of_ble rfl)
        refine Wk.nil ?_
        refine AW.cond rfl (fun _ => ?_) (fun hc => by cases hc)
        refine AW.seq ?_
        apply AW.list
        apply Wk.asg (by conv => lhs; whnf) (lt_of_ble rfl)
        refine Wk.nil (AW.ret ?_)
        repeat (first | refine thenA_ret ?_ | refine inBlockA_ret ?_)
        exact RetQ.ret [] (.cons rfl .nil) ⟨by rw [hend]; rfl, rfl⟩ none_kept
      · have hnext : (ds.drop (k + 1)).all (partM m) = ds.all (partM m) := by rw [← hf, hall, partM, hp, decide_eq_true (by omega)]; rfl
        apply AW.list
        apply Wk.ld (i := 6) 3 true ty115 rfl rfl (by conv => lhs; whnf) (lt_of_ble rfl)
        apply Wk.dat (ipartb d hp) Try.func83 rfl rfl rfl rfl rfl (lt_of_ble rfl)
        apply Wk.un rfl (fun w => by simp [go_sem] <;> rfl) (lt_of_ble rfl)
        apply Wk.mv (by conv => lhs; whnf) (lt_of_ble rfl)
        apply Wk.gon 16 rfl rfl
        apply Wk.fad 2 0 false fd115_2 rfl (lt_of_ble rfl)
        apply Wk.gon 16 rfl rfl
        apply Wk.ld (i := 6) 1 false ty64 rfl rfl (by conv => lhs; whnf) (lt_of_ble rfl)
        apply Wk.gon 16 rfl rfl
        apply Wk.len un64 rfl (lt_of_ble rfl)
        apply Wk.gon 16 rfl rfl
        apply Wk.mv (by conv => lhs; whnf) (lt_of_ble rfl)
        apply Wk.gon 16 rfl rfl
        apply Wk.bin rfl rfl (r := .bool false) (fun w => by simp [go_sem] <;> omega) (lt_of_ble rfl)
        apply Wk.pckF rfl (by conv => lhs; whnf) (lt_of_ble rfl)
        refine Wk.nil ?_
        refine AW.cond rfl (fun hc => by cases hc) (fun _ => AW.skip ?_)
        repeat (first | refine thenA_normal ?_ | refine inBlockA_normal ?_)
        apply AW.list
        apply Wk.addi rfl rfl (by omega) (lt_of_ble rfl)
        apply Wk.mv (by conv => lhs; whnf) (lt_of_ble rfl)
        refine Wk.nil ?_
        refine ⟨k + 1, ⟨by omega, hnext⟩, by omega, ?_⟩
        exact fun a w => Rel.keep ⟨rfl, .cons rfl rfl (.cons rfl rfl (.cons rfl rfl (.cons rfl rfl .nil))), .nil, hN.mono (by simp [keys])⟩
  · have hke : ds.drop k = [] := by
      apply List.drop_eq_nil_of_le
      simp at hc
      omega
    rw [hke] at hf
    refine AW.exit ?_
    repeat (first | refine inBlockA_same ?_ | refine thenA_exit ?_)
    repeat (first | refine thenA_normal ?_ | refine inBlockA_normal ?_)
    refine AW.seq ?_
    apply AW.list
    apply Wk.asg (by conv => lhs; whnf) (lt_of_ble rfl)
    refine Wk.nil (AW.ret ?_)
    repeat (first | refine thenA_ret ?_ | refine inBlockA_ret ?_)
    exact RetQ.ret [] (.cons rfl .nil) ⟨by rw [← hf]; rfl, rfl⟩ none_kept
end Go.Proofs.Ytdjadeegjbhihaa

/- Copies of pieces, and of who sends, in new memory: the specification's. -/
namespace Go.Proofs.Ytdjadeegjbhihaa
open Go Go.RowKit
def piecesA (ds : List Dat) : List (List A) := ds.map fun d => (datD d).map A.d
theorem three_parts (ds : List Dat) : ∀ c ∈ piecesA ds, c.length = 3 := by
  intro c hc
  obtain ⟨d, _, rfl⟩ := List.mem_map.1 hc
  rfl
theorem within_parts {K : List Nat} (ds : List Dat) : (piecesA ds).all (A.withins K) = true := by
  simp [piecesA, datD, bytesD, A.withins, A.within]
theorem asData_parts (ds : List Dat) : asData (piecesA ds) (ds.map datD) := by
  simp [asData, nrms, nrm, piecesA, datD, bytesD]
theorem asData_rows (zs : List Nat) : asData ([] ++ (zs.map fun z : Nat => [D.v (.int .u8 (z : Int))]).map (·.map A.d)) (zs.map fun z : Nat => [.v (.int .u8 (z : Int))]) := by
  simp [asData, nrms, nrm]
/-- Who sends, as plain data. -/
structure TX where
  n : Int
  a : Int
  fl : List Dat
  s : Int
  qu : List Dat
  q : Bool
  t : Int
  h : Bool
  c : Int
  d : Bool
def txA (x : TX) : A := .agg [.d (.v (.int .i64 x.n)), .d (.v (.int .i64 x.a)), .d (partsD x.fl), .d (.v (.int .i64 x.s)), .d (partsD x.qu), .d (.v (.bool x.q)), .d (.v (.int .i64 x.t)), .d (.v (.bool x.h)), .d (.v (.int .i64 x.c)), .d (.v (.bool x.d))]
/-- Lists that are not long. -/
def TX.few (x : TX) : Prop := (x.fl.length ≤ 1000 ∧ ∀ d ∈ x.fl, d.2.2.length ≤ 1000) ∧ (x.qu.length ≤ 1000 ∧ ∀ d ∈ x.qu, d.2.2.length ≤ 1000)
theorem in_slist {L : List Nat} {i k : Nat} {e : TypeId} {es : List (List A)} {sz : Nat} (hi : i ∈ L) (he : es.all (A.withins L) = true) : PostIn L (fun r bs => r = .own i k ∧ bs = [(i, .own k e sz es)]) := by
  rintro r bs' ⟨rfl, rfl⟩
  refine ⟨by simp [A.within, hi], fun j x hx => ?_⟩
  rw [List.lookup_cons] at hx
  split at hx
  · rename_i h
    obtain rfl := Option.some.inj hx
    rw [eq_of_beq h]
    exact ⟨hi, by simpa [Bx.within] using he⟩
  · cases hx
/-- Who sends, with lists of the call's own. -/
def txO (x : TX) (i k j l : Nat) : A := .agg [.d (.v (.int .i64 x.n)), .d (.v (.int .i64 x.a)), .own i k, .d (.v (.int .i64 x.s)), .own j l, .d (.v (.bool x.q)), .d (.v (.int .i64 x.t)), .d (.v (.bool x.h)), .d (.v (.int .i64 x.c)), .d (.v (.bool x.d))]
end Go.Proofs.Ytdjadeegjbhihaa

/- Opening a reader; what has come of a message, over what values read as. -/
namespace Go.Proofs.Ytdjadeegjbhihaa
open Go
set_option maxRecDepth 100000 in
theorem open_ok : OpenOk Try.prog 69 := by
  intro zs
  refine Spec.intro (n := 11) (rv := [.tmp 2]) Try.func69 rfl rfl rfl (by simp) fun C hN hX => ?_
  refine AW.seq ?_
  apply AW.list
  apply Wk.asg (by conv => lhs; whnf) (lt_of_ble rfl)
  refine Wk.nil ?_
  refine AW.seq (AW.seq ?_)
  apply AW.list
  apply Wk.mv (by conv => lhs; whnf) (lt_of_ble rfl)
  apply Wk.len un64 rfl (lt_of_ble rfl)
  apply Wk.bin rfl rfl (fun w => by simp [go_sem] <;> rfl) (lt_of_ble rfl)
  refine Wk.nil ?_
  have fin : ∀ (ys : List (Fin 256)) (σ : St), σ.t 2 = .ptr 0 0 → σ.b 0 = rdr ys 0 → RetQ Try.prog [.tmp 2] (fun r bs => r = .ptr 0 0 ∧ ∃ zs', bs = [(0, rdr zs' 0)]) .ret σ := by
    intro ys σ h2 hb
    exact RetQ.ret [(0, rdr ys 0)] (.cons h2 .nil) ⟨rfl, ys, rfl⟩ (kept1 hb)
  refine AW.cond rfl (fun hc => ?_) (fun hc => ?_)
  · have hl : 2000 ≤ ((zs.map (·.val)).map fun z : Nat => [D.v (.int .u8 (z : Int))]).length := by
      simp at hc ⊢
      omega
    apply AW.list
    apply Wk.mv (by conv => lhs; whnf) (lt_of_ble rfl)
    apply Wk.slc (m := 2000) (l := 0) 1 false un64 ty5 rfl (by exact if_pos ⟨by decide, Int.ofNat_le.2 hl⟩) rfl (one_bytes _) (lt_of_ble rfl)
    apply Wk.asg (by conv => lhs; whnf) (lt_of_ble rfl)
    refine Wk.nil (thenA_normal ?_)
    refine AW.seq ?_
    apply AW.list
    apply Wk.mv (by conv => lhs; whnf) (lt_of_ble rfl)
    apply Wk.bld [.slice none 0 0, .int .i64 0] [(0, 1), (1, 1)] bl145 rfl (by conv => lhs; whnf) (lt_of_ble rfl)
    apply Wk.bx 0 rfl rfl (lt_of_ble rfl)
    apply Wk.asg (by conv => lhs; whnf) (lt_of_ble rfl)
    refine Wk.nil (AW.ret ?_)
    refine fin (zs.take 2000) _ rfl ?_
    simp [rdr, bytesD, List.map_take, St.put, upd, setA]
  · refine AW.skip (thenA_normal ?_)
    refine AW.seq ?_
    apply AW.list
    apply Wk.mv (by conv => lhs; whnf) (lt_of_ble rfl)
    apply Wk.bld [.slice none 0 0, .int .i64 0] [(0, 1), (1, 1)] bl145 rfl (by conv => lhs; whnf) (lt_of_ble rfl)
    apply Wk.bx 0 rfl rfl (lt_of_ble rfl)
    apply Wk.asg (by conv => lhs; whnf) (lt_of_ble rfl)
    refine Wk.nil (AW.ret ?_)
    exact fin zs _ rfl rfl
end Go.Proofs.Ytdjadeegjbhihaa

/- What one wants, drawn; over what values read as. Written by tools/mk_AbsCfg.py. -/
namespace Go.Proofs.Ytdjadeegjbhihaa
open Go
def cfgA (m w s t y : Int) : A := .agg [.d (.v (.int .i64 m)), .d (.v (.int .i64 w)), .d (.v (.int .i64 s)), .d (.v (.int .i64 t)), .d (.v (.int .i64 y))]
def cfgB (m w s t y : Int) : Prop := (1 ≤ m ∧ m ≤ 2) ∧ (1 ≤ w ∧ w ≤ 4) ∧ (1 ≤ s ∧ s ≤ 8) ∧ (1 ≤ t ∧ t ≤ 24) ∧ (1 ≤ y ∧ y ≤ 5)
def cfgPost (rest : List A) (r : A) : Prop := ∃ m w s t y : Int, r = cfgA m w s t y ∧ (0 ≤ m ∧ m ≤ 3 ∧ 0 ≤ w ∧ w ≤ 5 ∧ 0 ≤ s ∧ s ≤ 9 ∧ 0 ≤ t ∧ t ≤ 25 ∧ 0 ≤ y ∧ y ≤ 6) ∧ (rest = [.d (.v (.int .i64 0))] → cfgB m w s t y)
set_option maxRecDepth 100000 in
theorem cfg_ok : DrawOk Try.prog 68 (fun rest => ∃ n : Int, rest = [.d (.v (.int .i64 n))] ∧ n ≤ 1000000 ∧ -1000000 ≤ n) cfgPost 20 := by
  refine DrawOk.zero ?_ ?_ ?_ ?_
  · rintro zs p rest ⟨n, rfl, hn, hn'⟩ hp
    refine Spec.intro (n := 76) (rv := [.cell 4 29]) Try.func68 rfl rfl rfl (by simp) fun C hN hX => ?_
    refine AW.seq ?_
    apply AW.list
    apply Wk.alc 4 [.int .i64 0, .int .i64 0, .int .i64 0, .int .i64 0, .int .i64 0] ze29 rfl rfl (lt_of_ble rfl)
    refine Wk.nil ?_
    let inv : List (Fin 256) × Nat × Int × Int × Int × Int × Int → St := fun x => St.of 76 [(0, .ptr 0 0), (1, .d (.v (.int .i64 n))), (4, .ptr 4 0), (5, .ptr 5 0)] [(0, rdr x.1 x.2.1), (4, .var [.d (.v (.int .i64 0)), .d (.v (.int .i64 0)), .d (.v (.int .i64 0)), .d (.v (.int .i64 0)), .d (.v (.int .i64 0))]), (5, .var [.d (.v (.int .i64 x.2.2.1)), .d (.v (.int .i64 x.2.2.2.1)), .d (.v (.int .i64 x.2.2.2.2.1)), .d (.v (.int .i64 x.2.2.2.2.2.1)), .d (.v (.int .i64 x.2.2.2.2.2.2))])]
    refine AW.via inv (fun x => (x.2.1 ≤ p + 10) ∧ (0 ≤ x.2.2.1 ∧ x.2.2.1 ≤ 3 ∧ 0 ≤ x.2.2.2.1 ∧ x.2.2.2.1 ≤ 5 ∧ 0 ≤ x.2.2.2.2.1 ∧ x.2.2.2.2.1 ≤ 9 ∧ 0 ≤ x.2.2.2.2.2.1 ∧ x.2.2.2.2.2.1 ≤ 25 ∧ 0 ≤ x.2.2.2.2.2.2 ∧ x.2.2.2.2.2.2 ≤ 6) ∧ (n = 0 → cfgB x.2.2.1 x.2.2.2.1 x.2.2.2.2.1 x.2.2.2.2.2.1 x.2.2.2.2.2.2)) ?_ ?_
    · apply AW.draw (hm := hmix) (cs := _)
      · apply Wk.mv (by conv => lhs; whnf) (lt_of_ble rfl)
        apply Wk.drw 0 pick_ok Try.func107 rfl rfl rfl rfl ⟨_, rfl, by omega⟩ (by omega) rfl (lt_of_ble rfl)
        rintro r1 zs1 p1 ⟨k1, rfl, hk1⟩ hp1
        replace hk1 := hk1 _ rfl
        apply Wk.addi rfl rfl (by omega) (lt_of_ble rfl)
        apply Wk.mv (by conv => lhs; whnf) (lt_of_ble rfl)
        apply Wk.drw 0 pick_ok Try.func107 rfl rfl rfl rfl ⟨_, rfl, by omega⟩ (by omega) rfl (lt_of_ble rfl)
        rintro r2 zs2 p2 ⟨k2, rfl, hk2⟩ hp2
        replace hk2 := hk2 _ rfl
        apply Wk.addi rfl rfl (by omega) (lt_of_ble rfl)
        apply Wk.mv (by conv => lhs; whnf) (lt_of_ble rfl)
        apply Wk.drw 0 pick_ok Try.func107 rfl rfl rfl rfl ⟨_, rfl, by omega⟩ (by omega) rfl (lt_of_ble rfl)
        rintro r3 zs3 p3 ⟨k3, rfl, hk3⟩ hp3
        replace hk3 := hk3 _ rfl
        apply Wk.addi rfl rfl (by omega) (lt_of_ble rfl)
        apply Wk.lst 15 1 false [.int .i64 0] un143 ty3 ze3 rfl rfl (by rfl) (by rfl) (by decide) (by decide) rfl rfl (all_len rfl) (lt_of_ble rfl)
        apply Wk.mv (by conv => lhs; whnf) (lt_of_ble rfl)
        apply Wk.drw 0 pick_ok Try.func107 rfl rfl rfl rfl ⟨_, rfl, by omega⟩ (by omega) rfl (lt_of_ble rfl)
        rintro r4 zs4 p4 ⟨k4, rfl, hk4⟩ hp4
        have hk4' : k4 < 3 := by have := hk4 3 rfl; omega
        obtain ⟨s, hs, hs1, hs2⟩ : ∃ v : Int, partA (List.flatten [[A.d (.v (.int .i64 (1 + (k3 : Int))))], [.d (.v (.int .i64 3))], [.d (.v (.int .i64 8))]]) (k4 * 1) 1 false = some (.d (.v (.int .i64 v))) ∧ 1 ≤ v ∧ v ≤ 8 := by
          rcases (show k4 = 0 ∨ k4 = 1 ∨ k4 = 2 by omega) with rfl | rfl | rfl
          · exact ⟨_, rfl, by omega, by omega⟩
          · exact ⟨_, rfl, by omega, by omega⟩
          · exact ⟨_, rfl, by omega, by omega⟩
        apply Wk.iado 15 1 false un143 ty3 rfl rfl rfl hk4' (lt_of_ble rfl)
        apply Wk.ldo (i := 15) 1 false ty3 rfl rfl hs (lt_of_ble rfl)
        apply Wk.mv (by conv => lhs; whnf) (lt_of_ble rfl)
        apply Wk.drw 0 pick_ok Try.func107 rfl rfl rfl rfl ⟨_, rfl, by omega⟩ (by omega) rfl (lt_of_ble rfl)
        rintro r5 zs5 p5 ⟨k5, rfl, hk5⟩ hp5
        replace hk5 := hk5 _ rfl
        apply Wk.addi rfl rfl (by omega) (lt_of_ble rfl)
        apply Wk.lst 23 1 false [.int .i64 0] un143 ty3 ze3 rfl rfl (by rfl) (by rfl) (by decide) (by decide) rfl rfl (all_len rfl) (lt_of_ble rfl)
        apply Wk.mv (by conv => lhs; whnf) (lt_of_ble rfl)
        apply Wk.drw 0 pick_ok Try.func107 rfl rfl rfl rfl ⟨_, rfl, by omega⟩ (by omega) rfl (lt_of_ble rfl)
        rintro r6 zs6 p6 ⟨k6, rfl, hk6⟩ hp6
        have hk6' : k6 < 2 := by have := hk6 2 rfl; omega
        obtain ⟨t, ht, ht1, ht2⟩ : ∃ v : Int, partA (List.flatten [[A.d (.v (.int .i64 24))], [.d (.v (.int .i64 (1 + (k5 : Int))))]]) (k6 * 1) 1 false = some (.d (.v (.int .i64 v))) ∧ 1 ≤ v ∧ v ≤ 24 := by
          rcases (show k6 = 0 ∨ k6 = 1 by omega) with rfl | rfl
          · exact ⟨_, rfl, by omega, by omega⟩
          · exact ⟨_, rfl, by omega, by omega⟩
        apply Wk.iado 23 1 false un143 ty3 rfl rfl rfl hk6' (lt_of_ble rfl)
        apply Wk.ldo (i := 23) 1 false ty3 rfl rfl ht (lt_of_ble rfl)
        apply Wk.mv (by conv => lhs; whnf) (lt_of_ble rfl)
        apply Wk.drw 0 pick_ok Try.func107 rfl rfl rfl rfl ⟨_, rfl, by omega⟩ (by omega) rfl (lt_of_ble rfl)
        rintro r7 zs7 p7 ⟨k7, rfl, hk7⟩ hp7
        replace hk7 := hk7 _ rfl
        apply Wk.addi rfl rfl (by omega) (lt_of_ble rfl)
        apply Wk.bld [.int .i64 0, .int .i64 0, .int .i64 0, .int .i64 0, .int .i64 0] [(0, 1), (1, 1), (2, 1), (3, 1), (4, 1)] bl29 rfl (by conv => lhs; whnf) (lt_of_ble rfl)
        apply Wk.alc 5 [.int .i64 0, .int .i64 0, .int .i64 0, .int .i64 0, .int .i64 0] ze29 rfl rfl (lt_of_ble rfl)
        apply Wk.sto (i := 5) 5 true ty29 rfl rfl rfl rfl (Nat.le_of_ble_eq_true rfl) (lt_of_ble rfl)
        refine Wk.nil (thenA_normal ?_)
        exact ⟨(zs7, p7, 1 + (k1 : Int), 1 + (k2 : Int), s, t, 1 + (k7 : Int)), ⟨by simp only; omega, by simp only; omega, fun _ => by unfold cfgB; simp only; omega⟩, fun a w => Rel.keep ⟨rfl, .cons rfl rfl (.cons rfl rfl (.cons rfl rfl (.cons rfl rfl .nil))), .cons rfl rfl (.cons rfl rfl (.cons rfl rfl .nil)), hN.mono (by simp [keys])⟩⟩
      · rfl
      · rfl
    · rintro ⟨zs8, p8, m, w, s, t, y⟩ ⟨hp8, hv8, hb8⟩
      simp only at hp8 hv8 hb8
      obtain ⟨hm1, hm2, hw1, hw2, hs1, hs2, ht1, ht2, hy1, hy2⟩ := hv8
      show AW Try.prog C _ _ (St.of 76 [(0, .ptr 0 0), (1, .d (.v (.int .i64 n))), (4, .ptr 4 0), (5, .ptr 5 0)] [(0, rdr zs8 p8), (4, .var [.d (.v (.int .i64 0)), .d (.v (.int .i64 0)), .d (.v (.int .i64 0)), .d (.v (.int .i64 0)), .d (.v (.int .i64 0))]), (5, .var [.d (.v (.int .i64 m)), .d (.v (.int .i64 w)), .d (.v (.int .i64 s)), .d (.v (.int .i64 t)), .d (.v (.int .i64 y))])])
      refine AW.via inv (fun x => (x.2.1 ≤ p + 20) ∧ (0 ≤ x.2.2.1 ∧ x.2.2.1 ≤ 3 ∧ 0 ≤ x.2.2.2.1 ∧ x.2.2.2.1 ≤ 5 ∧ 0 ≤ x.2.2.2.2.1 ∧ x.2.2.2.2.1 ≤ 9 ∧ 0 ≤ x.2.2.2.2.2.1 ∧ x.2.2.2.2.2.1 ≤ 25 ∧ 0 ≤ x.2.2.2.2.2.2 ∧ x.2.2.2.2.2.2 ≤ 6) ∧ (n = 0 → cfgB x.2.2.1 x.2.2.2.1 x.2.2.2.2.1 x.2.2.2.2.2.1 x.2.2.2.2.2.2)) ?_ ?_
      · refine AW.seq ?_
        apply AW.list
        apply Wk.mv (by conv => lhs; whnf) (lt_of_ble rfl)
        apply Wk.mv (by conv => lhs; whnf) (lt_of_ble rfl)
        apply Wk.drw 0 odd_ok Try.func108 rfl rfl rfl rfl ⟨_, rfl, by omega⟩ (by omega) rfl (lt_of_ble rfl)
        rintro r6 zs6 p6 ⟨b6, rfl, hb6⟩ hp6
        replace hb6 : n = 0 → b6 = false := fun e => hb6 (by rw [e])
        refine Wk.nil ?_
        refine AW.cond rfl (fun hc6 => ?_) (fun hc6 => ?_)
        · refine AW.seq ?_
          apply AW.list
          apply Wk.mv (by conv => lhs; whnf) (lt_of_ble rfl)
          apply Wk.drw 0 pick_ok Try.func107 rfl rfl rfl rfl ⟨_, rfl, by omega⟩ (by omega) rfl (lt_of_ble rfl)
          rintro r7 zs7 p7 ⟨k7, rfl, _⟩ hp7
          refine Wk.nil (AW.block ?_)
          refine AW.seq ?_
          apply AW.list
          apply Wk.bin rfl rfl (fun w => by simp [go_sem] <;> rfl) (lt_of_ble rfl)
          apply Wk.asg (by conv => lhs; whnf) (lt_of_ble rfl)
          refine Wk.nil ?_
          refine AW.cond rfl (fun hc => ?_) (fun hc => ?_)
          · apply AW.list
            apply Wk.lst 45 1 false [.int .i64 0] un143 ty3 ze3 rfl rfl (by rfl) (by rfl) (by decide) (by decide) rfl rfl (all_len rfl) (lt_of_ble rfl)
            apply Wk.mv (by conv => lhs; whnf) (lt_of_ble rfl)
            apply Wk.drw 0 pick_ok Try.func107 rfl rfl rfl rfl ⟨_, rfl, by omega⟩ (by omega) rfl (lt_of_ble rfl)
            rintro r9 zs9 p9 ⟨k9, rfl, hk9⟩ hp9
            have hk9' : k9 < 2 := by have := hk9 2 rfl; omega
            obtain ⟨v, hv, hv1, hv2⟩ : ∃ v : Int, partA (List.flatten [[A.d (.v (.int .i64 0))], [.d (.v (.int .i64 3))]]) (k9 * 1) 1 false = some (.d (.v (.int .i64 v))) ∧ 0 ≤ v ∧ v ≤ 3 := by
              rcases (show k9 = 0 ∨ k9 = 1 by omega) with rfl | rfl
              · exact ⟨_, rfl, by omega, by omega⟩
              · exact ⟨_, rfl, by omega, by omega⟩
            apply Wk.iado 45 1 false un143 ty3 rfl rfl rfl hk9' (lt_of_ble rfl)
            apply Wk.ldo (i := 45) 1 false ty3 rfl rfl hv (lt_of_ble rfl)
            apply Wk.fad 0 0 false fd29_0 rfl (lt_of_ble rfl)
            apply Wk.sto (i := 5) 1 false ty3 rfl rfl rfl rfl (Nat.le_of_ble_eq_true rfl) (lt_of_ble rfl)
            refine Wk.nil (inBlockA_normal (thenA_normal ?_))
            exact ⟨(zs9, p9, v, w, s, t, y), ⟨by simp only; omega, by simp only; omega, fun e => absurd (hb6 e) (by rw [hc6]; decide)⟩, fun a w => Rel.keep ⟨rfl, .cons rfl rfl (.cons rfl rfl (.cons rfl rfl (.cons rfl rfl .nil))), .cons rfl rfl (.cons rfl rfl (.cons rfl rfl .nil)), hN.mono (by simp [keys])⟩⟩
          · skip
            refine AW.seq ?_
            apply AW.list
            apply Wk.bin rfl rfl (fun w => by simp [go_sem] <;> rfl) (lt_of_ble rfl)
            apply Wk.asg (by conv => lhs; whnf) (lt_of_ble rfl)
            refine Wk.nil ?_
            refine AW.cond rfl (fun hc => ?_) (fun hc => ?_)
            · apply AW.list
              apply Wk.lst 53 1 false [.int .i64 0] un143 ty3 ze3 rfl rfl (by rfl) (by rfl) (by decide) (by decide) rfl rfl (all_len rfl) (lt_of_ble rfl)
              apply Wk.mv (by conv => lhs; whnf) (lt_of_ble rfl)
              apply Wk.drw 0 pick_ok Try.func107 rfl rfl rfl rfl ⟨_, rfl, by omega⟩ (by omega) rfl (lt_of_ble rfl)
              rintro r9 zs9 p9 ⟨k9, rfl, hk9⟩ hp9
              have hk9' : k9 < 2 := by have := hk9 2 rfl; omega
              obtain ⟨v, hv, hv1, hv2⟩ : ∃ v : Int, partA (List.flatten [[A.d (.v (.int .i64 0))], [.d (.v (.int .i64 5))]]) (k9 * 1) 1 false = some (.d (.v (.int .i64 v))) ∧ 0 ≤ v ∧ v ≤ 5 := by
                rcases (show k9 = 0 ∨ k9 = 1 by omega) with rfl | rfl
                · exact ⟨_, rfl, by omega, by omega⟩
                · exact ⟨_, rfl, by omega, by omega⟩
              apply Wk.iado 53 1 false un143 ty3 rfl rfl rfl hk9' (lt_of_ble rfl)
              apply Wk.ldo (i := 53) 1 false ty3 rfl rfl hv (lt_of_ble rfl)
              apply Wk.fad 1 0 false fd29_1 rfl (lt_of_ble rfl)
              apply Wk.sto (i := 5) 1 false ty3 rfl rfl rfl rfl (Nat.le_of_ble_eq_true rfl) (lt_of_ble rfl)
              refine Wk.nil (inBlockA_normal (thenA_normal ?_))
              exact ⟨(zs9, p9, m, v, s, t, y), ⟨by simp only; omega, by simp only; omega, fun e => absurd (hb6 e) (by rw [hc6]; decide)⟩, fun a w => Rel.keep ⟨rfl, .cons rfl rfl (.cons rfl rfl (.cons rfl rfl (.cons rfl rfl .nil))), .cons rfl rfl (.cons rfl rfl (.cons rfl rfl .nil)), hN.mono (by simp [keys])⟩⟩
            · skip
              refine AW.seq ?_
              apply AW.list
              apply Wk.bin rfl rfl (fun w => by simp [go_sem] <;> rfl) (lt_of_ble rfl)
              apply Wk.asg (by conv => lhs; whnf) (lt_of_ble rfl)
              refine Wk.nil ?_
              refine AW.cond rfl (fun hc => ?_) (fun hc => ?_)
              · apply AW.list
                apply Wk.lst 61 1 false [.int .i64 0] un143 ty3 ze3 rfl rfl (by rfl) (by rfl) (by decide) (by decide) rfl rfl (all_len rfl) (lt_of_ble rfl)
                apply Wk.mv (by conv => lhs; whnf) (lt_of_ble rfl)
                apply Wk.drw 0 pick_ok Try.func107 rfl rfl rfl rfl ⟨_, rfl, by omega⟩ (by omega) rfl (lt_of_ble rfl)
                rintro r9 zs9 p9 ⟨k9, rfl, hk9⟩ hp9
                have hk9' : k9 < 2 := by have := hk9 2 rfl; omega
                obtain ⟨v, hv, hv1, hv2⟩ : ∃ v : Int, partA (List.flatten [[A.d (.v (.int .i64 0))], [.d (.v (.int .i64 9))]]) (k9 * 1) 1 false = some (.d (.v (.int .i64 v))) ∧ 0 ≤ v ∧ v ≤ 9 := by
                  rcases (show k9 = 0 ∨ k9 = 1 by omega) with rfl | rfl
                  · exact ⟨_, rfl, by omega, by omega⟩
                  · exact ⟨_, rfl, by omega, by omega⟩
                apply Wk.iado 61 1 false un143 ty3 rfl rfl rfl hk9' (lt_of_ble rfl)
                apply Wk.ldo (i := 61) 1 false ty3 rfl rfl hv (lt_of_ble rfl)
                apply Wk.fad 2 0 false fd29_2 rfl (lt_of_ble rfl)
                apply Wk.sto (i := 5) 1 false ty3 rfl rfl rfl rfl (Nat.le_of_ble_eq_true rfl) (lt_of_ble rfl)
                refine Wk.nil (inBlockA_normal (thenA_normal ?_))
                exact ⟨(zs9, p9, m, w, v, t, y), ⟨by simp only; omega, by simp only; omega, fun e => absurd (hb6 e) (by rw [hc6]; decide)⟩, fun a w => Rel.keep ⟨rfl, .cons rfl rfl (.cons rfl rfl (.cons rfl rfl (.cons rfl rfl .nil))), .cons rfl rfl (.cons rfl rfl (.cons rfl rfl .nil)), hN.mono (by simp [keys])⟩⟩
              · skip
                refine AW.seq ?_
                apply AW.list
                apply Wk.bin rfl rfl (fun w => by simp [go_sem] <;> rfl) (lt_of_ble rfl)
                apply Wk.asg (by conv => lhs; whnf) (lt_of_ble rfl)
                refine Wk.nil ?_
                refine AW.cond rfl (fun hc => ?_) (fun hc => ?_)
                · apply AW.list
                  apply Wk.lst 69 1 false [.int .i64 0] un143 ty3 ze3 rfl rfl (by rfl) (by rfl) (by decide) (by decide) rfl rfl (all_len rfl) (lt_of_ble rfl)
                  apply Wk.mv (by conv => lhs; whnf) (lt_of_ble rfl)
                  apply Wk.drw 0 pick_ok Try.func107 rfl rfl rfl rfl ⟨_, rfl, by omega⟩ (by omega) rfl (lt_of_ble rfl)
                  rintro r9 zs9 p9 ⟨k9, rfl, hk9⟩ hp9
                  have hk9' : k9 < 2 := by have := hk9 2 rfl; omega
                  obtain ⟨v, hv, hv1, hv2⟩ : ∃ v : Int, partA (List.flatten [[A.d (.v (.int .i64 0))], [.d (.v (.int .i64 25))]]) (k9 * 1) 1 false = some (.d (.v (.int .i64 v))) ∧ 0 ≤ v ∧ v ≤ 25 := by
                    rcases (show k9 = 0 ∨ k9 = 1 by omega) with rfl | rfl
                    · exact ⟨_, rfl, by omega, by omega⟩
                    · exact ⟨_, rfl, by omega, by omega⟩
                  apply Wk.iado 69 1 false un143 ty3 rfl rfl rfl hk9' (lt_of_ble rfl)
                  apply Wk.ldo (i := 69) 1 false ty3 rfl rfl hv (lt_of_ble rfl)
                  apply Wk.fad 3 0 false fd29_3 rfl (lt_of_ble rfl)
                  apply Wk.sto (i := 5) 1 false ty3 rfl rfl rfl rfl (Nat.le_of_ble_eq_true rfl) (lt_of_ble rfl)
                  refine Wk.nil (inBlockA_normal (thenA_normal ?_))
                  exact ⟨(zs9, p9, m, w, s, v, y), ⟨by simp only; omega, by simp only; omega, fun e => absurd (hb6 e) (by rw [hc6]; decide)⟩, fun a w => Rel.keep ⟨rfl, .cons rfl rfl (.cons rfl rfl (.cons rfl rfl (.cons rfl rfl .nil))), .cons rfl rfl (.cons rfl rfl (.cons rfl rfl .nil)), hN.mono (by simp [keys])⟩⟩
                · skip
                  apply AW.list
                  apply Wk.lst 37 1 false [.int .i64 0] un143 ty3 ze3 rfl rfl (by rfl) (by rfl) (by decide) (by decide) rfl rfl (all_len rfl) (lt_of_ble rfl)
                  apply Wk.mv (by conv => lhs; whnf) (lt_of_ble rfl)
                  apply Wk.drw 0 pick_ok Try.func107 rfl rfl rfl rfl ⟨_, rfl, by omega⟩ (by omega) rfl (lt_of_ble rfl)
                  rintro r9 zs9 p9 ⟨k9, rfl, hk9⟩ hp9
                  have hk9' : k9 < 2 := by have := hk9 2 rfl; omega
                  obtain ⟨v, hv, hv1, hv2⟩ : ∃ v : Int, partA (List.flatten [[A.d (.v (.int .i64 0))], [.d (.v (.int .i64 6))]]) (k9 * 1) 1 false = some (.d (.v (.int .i64 v))) ∧ 0 ≤ v ∧ v ≤ 6 := by
                    rcases (show k9 = 0 ∨ k9 = 1 by omega) with rfl | rfl
                    · exact ⟨_, rfl, by omega, by omega⟩
                    · exact ⟨_, rfl, by omega, by omega⟩
                  apply Wk.iado 37 1 false un143 ty3 rfl rfl rfl hk9' (lt_of_ble rfl)
                  apply Wk.ldo (i := 37) 1 false ty3 rfl rfl hv (lt_of_ble rfl)
                  apply Wk.fad 4 0 false fd29_4 rfl (lt_of_ble rfl)
                  apply Wk.sto (i := 5) 1 false ty3 rfl rfl rfl rfl (Nat.le_of_ble_eq_true rfl) (lt_of_ble rfl)
                  refine Wk.nil (inBlockA_normal (thenA_normal ?_))
                  exact ⟨(zs9, p9, m, w, s, t, v), ⟨by simp only; omega, by simp only; omega, fun e => absurd (hb6 e) (by rw [hc6]; decide)⟩, fun a w => Rel.keep ⟨rfl, .cons rfl rfl (.cons rfl rfl (.cons rfl rfl (.cons rfl rfl .nil))), .cons rfl rfl (.cons rfl rfl (.cons rfl rfl .nil)), hN.mono (by simp [keys])⟩⟩
        · refine AW.skip (thenA_normal ?_)
          exact ⟨(zs6, p6, m, w, s, t, y), ⟨by simp only; omega, by simp only; omega, hb8⟩, fun a w => Rel.keep ⟨rfl, .cons rfl rfl (.cons rfl rfl (.cons rfl rfl (.cons rfl rfl .nil))), .cons rfl rfl (.cons rfl rfl (.cons rfl rfl .nil)), hN.mono (by simp [keys])⟩⟩
      · rintro ⟨zs9, p9, m, w, s, t, y⟩ ⟨hp9, hv9, hb9⟩
        simp only at hp9 hv9 hb9
        show AW Try.prog C _ _ (St.of 76 [(0, .ptr 0 0), (1, .d (.v (.int .i64 n))), (4, .ptr 4 0), (5, .ptr 5 0)] [(0, rdr zs9 p9), (4, .var [.d (.v (.int .i64 0)), .d (.v (.int .i64 0)), .d (.v (.int .i64 0)), .d (.v (.int .i64 0)), .d (.v (.int .i64 0))]), (5, .var [.d (.v (.int .i64 m)), .d (.v (.int .i64 w)), .d (.v (.int .i64 s)), .d (.v (.int .i64 t)), .d (.v (.int .i64 y))])])
        refine AW.seq ?_
        apply AW.list
        apply Wk.ld (i := 5) 5 true ty29 rfl rfl (by conv => lhs; whnf) (lt_of_ble rfl)
        apply Wk.sto (i := 4) 5 true ty29 rfl rfl rfl rfl (Nat.le_of_ble_eq_true rfl) (lt_of_ble rfl)
        refine Wk.nil (AW.ret ?_)
        refine RetQ.ret [(0, rdr zs9 p9)] (.cons ⟨4, 0, _, _, _, rfl, rfl, ty29, rfl⟩ .nil) ⟨⟨m, w, s, t, y, rfl, hv9, fun e => hb9 ?_⟩, _, _, rfl, hp9⟩ (kept1 rfl)
        simpa using e
  · rintro rest ⟨n, rfl, _⟩; rfl
  · rintro rest _; exact ⟨_, 1, 1, 1, 1, 1, rfl, by omega, fun _ => by unfold cfgB; omega⟩
  · rintro rest r ⟨m, w, s, t, y, rfl, _⟩; rfl
end Go.Proofs.Ytdjadeegjbhihaa

/- l6Tick of the specification, over what values read as. Written by tools/mk_AbsTxTick.py. -/
namespace Go.Proofs.Ytdjadeegjbhihaa
open Go Go.RowKit
def bitZ (b : Bool) : Int := if b then 1 else 0
def frmQ (ack : Int) (bu : Bool) : A := .agg [.d (.v (.int .i64 2)), .d (.v (.int .i64 0)), .d (.v (.int .i64 ack)), .d (.v (.bool true)), .d (.v (.bool false)), .d (.v (.int .i64 (2 * bitZ bu))), .d (.v (.int .i64 0)), .d (.v (.int .i64 0)), .d (.v (.slice none 0 0))]
def frmNo : A := .agg [.d (.v (.int .i64 0)), .d (.v (.int .i64 0)), .d (.v (.int .i64 0)), .d (.v (.bool false)), .d (.v (.bool false)), .d (.v (.int .i64 0)), .d (.v (.int .i64 0)), .d (.v (.int .i64 0)), .d (.v (.slice none 0 0))]
end Go.Proofs.Ytdjadeegjbhihaa

/- TxOk of the specification, over what values read as. Written by tools/mk_AbsTxOk.py. -/
namespace Go.Proofs.Ytdjadeegjbhihaa
open Go Go.RowKit
theorem args3 {w : World} {F : Nat → Prop} {E : Nat → Option Nat} {H : Nat → Nat → Option Value} {a b c : A} {args : Array Value} (hs : args.size = [a, b, c].length) (hd : ∀ (i : Nat) (x : A), [a, b, c][i]? = some x → Den w F E H x (args.getD i undef)) : ∃ v u t, args = #[v, u, t] ∧ Den w F E H a v ∧ Den w F E H b u ∧ Den w F E H c t := by
  have hs' : args.toList.length = 3 := by simpa using hs
  match hl : args.toList, hs' with
  | [v, u, t], _ =>
    obtain rfl : args = #[v, u, t] := by rw [← Array.toArray_toList (xs := args), hl]
    exact ⟨v, u, t, rfl, hd 0 a rfl, hd 1 b rfl, hd 2 c rfl⟩
theorem sinb {n lo hi : Int} {b : Bool} (h : inB n lo hi = b) : DataOk Try.prog 40 [.d (.v (.int .i64 n)), .d (.v (.int .i64 lo)), .d (.v (.int .i64 hi))] (.d (.v (.bool b))) := by
  subst h
  refine DataOk.lift fun w F E H args _ hs hd => ?_
  obtain ⟨v, u, t, rfl, hv, hu, ht⟩ := args3 hs hd
  obtain rfl := den_v hv
  obtain rfl := den_v hu
  obtain rfl := den_v ht
  refine (in_any n lo hi w).mono ?_
  rintro e w' ⟨rfl, rfl⟩
  exact ⟨rfl, Below.refl _ _⟩
theorem cfg_args {w : World} {F : Nat → Prop} {E : Nat → Option Nat} {H : Nat → Nat → Option Value} {m n s t y : Int} {v : Value} (h : Den w F E H (cfgA m n s t y) v) : v = .agg #[.int .i64 m, .int .i64 n, .int .i64 s, .int .i64 t, .int .i64 y] := by
  obtain ⟨cs, rfl, hs, _, h⟩ := den_agg h
  have hs' : cs.toList.length = 5 := by simpa using hs
  match hl : cs.toList, hs' with
  | [x0, x1, x2, x3, x4], _ =>
    obtain rfl : cs = #[x0, x1, x2, x3, x4] := by rw [← Array.toArray_toList (xs := cs), hl]
    obtain rfl := den_v (h 0 _ rfl)
    obtain rfl := den_v (h 1 _ rfl)
    obtain rfl := den_v (h 2 _ rfl)
    obtain rfl := den_v (h 3 _ rfl)
    obtain rfl := den_v (h 4 _ rfl)
    rfl
theorem scfgb {m n s t y : Int} {b : Bool} (h : Opt.ok ⟨m, n, s, t, y⟩ = b) : DataOk Try.prog 36 [cfgA m n s t y] (.d (.v (.bool b))) := by
  subst h
  refine DataOk.lift fun w F E H args _ hs hd => ?_
  obtain ⟨v, rfl, hv⟩ := arg1 hs hd
  obtain rfl := cfg_args hv
  exact spec_cfg_v _ _ _ _ _ w
theorem sfar_ok (a b : Int) : DataOk Try.prog 41 [.d (.v (.int .i64 a)), .d (.v (.int .i64 b))] (.d (.v (.int .i64 (farF a b)))) := int2 (spec_far_any a b)
theorem snum_ok (n : Int) (h : 0 ≤ n) : DataOk Try.prog 42 [.d (.v (.int .i64 n))] (.d (.v (.int .i64 (n % 8)))) := int1 (spec_numof n h)
theorem spartsb (ds : List Dat) (m : Int) {b : Bool} (h : ds.all (partM m) = b) : DataOk Try.prog 43 [.d (partsD ds), .d (.v (.int .i64 m))] (.d (.v (.bool b))) := h ▸ sparts_ok ds m
/-- Who sends is ok. -/
def txOkB (o : Opt) (x : TX) : Bool := o.ok && (inB x.n 0 7 && (inB x.a 0 7 && (decide ((x.fl.length : Int) ≤ o.win) && (decide (farF x.a x.n = (x.fl.length : Int)) && (inB x.s 0 (x.fl.length : Int) && (decide (x.qu.length ≤ 24) && (inB x.t 0 o.tri && (inB x.c 0 9999 && (decide (x.c % 8 = x.a) && (x.fl.all (partM o.mps) && x.qu.all (partM o.mps)))))))))))
set_option maxHeartbeats 16000000 in
set_option maxRecDepth 100000 in
theorem stx_ok (m0 w0 p0 u0 y0 : Int) (x : TX) : DataOk Try.prog 11 [cfgA m0 w0 p0 u0 y0, txA x] (.d (.v (.bool (txOkB ⟨m0, w0, p0, u0, y0⟩ x)))) := by
  obtain ⟨n, a, fl, s, qu, q, t, h, c, d⟩ := x
  have e1 : (((fl.map datD).length : Nat) : Int) = (fl.length : Int) := by rw [List.length_map]
  have e2 : (((qu.map datD).length : Nat) : Int) = (qu.length : Int) := by rw [List.length_map]
  simp only [txOkB]
  cases h0 : Opt.ok ⟨m0, w0, p0, u0, y0⟩
  · rw [Bool.false_and]
    refine Spec.intro (n := 88) (rv := [.tmp 4]) Try.func11 rfl rfl rfl (by simp) fun C hN hX => ?_
    refine AW.seq ?_
    apply AW.list
    apply Wk.bx 2 rfl rfl (lt_of_ble rfl)
    apply Wk.bx 3 rfl rfl (lt_of_ble rfl)
    apply Wk.asg (by conv => lhs; whnf) (lt_of_ble rfl)
    refine Wk.nil ?_
    refine AW.seq (AW.seq ?_)
    apply AW.draw (hm := hmix) (cs := _)
    · apply Wk.ld (i := 2) 5 true ty29 rfl rfl (by conv => lhs; whnf) (lt_of_ble rfl)
      apply Wk.dat (scfgb h0) Try.func36 rfl rfl rfl rfl rfl (lt_of_ble rfl)
      apply Wk.un rfl (fun w => by simp [go_sem] <;> rfl) (lt_of_ble rfl)
      apply Wk.mv (by conv => lhs; whnf) (lt_of_ble rfl)
      apply Wk.goff 8 (ok_faddr fd33_0) rfl rfl (by decide)
      apply Wk.goff 8 (ok_load 3 ty3) rfl rfl (by decide)
      apply Wk.goff 8 (ok_datw ((sinb (n := 0) (lo := 0) (hi := 7) rfl).w rfl) Try.func40 rfl rfl) rfl rfl (by decide)
      apply Wk.goff 8 (ok_un _ _ _) rfl rfl (by decide)
      apply Wk.pckT rfl (by conv => lhs; whnf) (lt_of_ble rfl)
      apply Wk.mv (by conv => lhs; whnf) (lt_of_ble rfl)
      apply Wk.goff 14 (ok_faddr fd33_1) rfl rfl (by decide)
      apply Wk.goff 14 (ok_load 3 ty3) rfl rfl (by decide)
      apply Wk.goff 14 (ok_datw ((sinb (n := 0) (lo := 0) (hi := 7) rfl).w rfl) Try.func40 rfl rfl) rfl rfl (by decide)
      apply Wk.goff 14 (ok_un _ _ _) rfl rfl (by decide)
      apply Wk.pckT rfl (by conv => lhs; whnf) (lt_of_ble rfl)
      apply Wk.mv (by conv => lhs; whnf) (lt_of_ble rfl)
      apply Wk.goff 20 (ok_faddr fd33_2) rfl rfl (by decide)
      apply Wk.goff 20 (ok_load 3 ty31) rfl rfl (by decide)
      apply Wk.goff 20 (ok_len un31) rfl rfl (by decide)
      apply Wk.goff 20 (ok_faddr fd29_1) rfl rfl (by decide)
      apply Wk.goff 20 (ok_load 2 ty3) rfl rfl (by decide)
      apply Wk.goff 20 (ok_bin _ _ _ _ _) rfl rfl (by decide)
      apply Wk.pckT rfl (by conv => lhs; whnf) (lt_of_ble rfl)
      apply Wk.mv (by conv => lhs; whnf) (lt_of_ble rfl)
      apply Wk.goff 28 (ok_faddr fd33_1) rfl rfl (by decide)
      apply Wk.goff 28 (ok_load 3 ty3) rfl rfl (by decide)
      apply Wk.goff 28 (ok_faddr fd33_0) rfl rfl (by decide)
      apply Wk.goff 28 (ok_load 3 ty3) rfl rfl (by decide)
      apply Wk.goff 28 (ok_datw ((sfar_ok 0 0).w rfl) Try.func41 rfl rfl) rfl rfl (by decide)
      apply Wk.goff 28 (ok_faddr fd33_2) rfl rfl (by decide)
      apply Wk.goff 28 (ok_load 3 ty31) rfl rfl (by decide)
      apply Wk.goff 28 (ok_len un31) rfl rfl (by decide)
      apply Wk.goff 28 (ok_bin _ _ _ _ _) rfl rfl (by decide)
      apply Wk.pckT rfl (by conv => lhs; whnf) (lt_of_ble rfl)
      apply Wk.mv (by conv => lhs; whnf) (lt_of_ble rfl)
      apply Wk.goff 39 (ok_faddr fd33_3) rfl rfl (by decide)
      apply Wk.goff 39 (ok_load 3 ty3) rfl rfl (by decide)
      apply Wk.goff 39 (ok_faddr fd33_2) rfl rfl (by decide)
      apply Wk.goff 39 (ok_load 3 ty31) rfl rfl (by decide)
      apply Wk.goff 39 (ok_len un31) rfl rfl (by decide)
      apply Wk.goff 39 (ok_datw ((sinb (n := 0) (lo := 0) (hi := 7) rfl).w rfl) Try.func40 rfl rfl) rfl rfl (by decide)
      apply Wk.goff 39 (ok_un _ _ _) rfl rfl (by decide)
      apply Wk.pckT rfl (by conv => lhs; whnf) (lt_of_ble rfl)
      apply Wk.mv (by conv => lhs; whnf) (lt_of_ble rfl)
      apply Wk.goff 48 (ok_faddr fd33_4) rfl rfl (by decide)
      apply Wk.goff 48 (ok_load 3 ty31) rfl rfl (by decide)
      apply Wk.goff 48 (ok_len un31) rfl rfl (by decide)
      apply Wk.goff 48 (ok_bin _ _ _ _ _) rfl rfl (by decide)
      apply Wk.pckT rfl (by conv => lhs; whnf) (lt_of_ble rfl)
      apply Wk.mv (by conv => lhs; whnf) (lt_of_ble rfl)
      apply Wk.goff 54 (ok_faddr fd33_6) rfl rfl (by decide)
      apply Wk.goff 54 (ok_load 3 ty3) rfl rfl (by decide)
      apply Wk.goff 54 (ok_faddr fd29_4) rfl rfl (by decide)
      apply Wk.goff 54 (ok_load 2 ty3) rfl rfl (by decide)
      apply Wk.goff 54 (ok_datw ((sinb (n := 0) (lo := 0) (hi := 7) rfl).w rfl) Try.func40 rfl rfl) rfl rfl (by decide)
      apply Wk.goff 54 (ok_un _ _ _) rfl rfl (by decide)
      apply Wk.pckT rfl (by conv => lhs; whnf) (lt_of_ble rfl)
      apply Wk.mv (by conv => lhs; whnf) (lt_of_ble rfl)
      apply Wk.goff 62 (ok_faddr fd33_8) rfl rfl (by decide)
      apply Wk.goff 62 (ok_load 3 ty3) rfl rfl (by decide)
      apply Wk.goff 62 (ok_datw ((sinb (n := 0) (lo := 0) (hi := 7) rfl).w rfl) Try.func40 rfl rfl) rfl rfl (by decide)
      apply Wk.goff 62 (ok_un _ _ _) rfl rfl (by decide)
      apply Wk.pckT rfl (by conv => lhs; whnf) (lt_of_ble rfl)
      apply Wk.mv (by conv => lhs; whnf) (lt_of_ble rfl)
      apply Wk.goff 68 (ok_faddr fd33_8) rfl rfl (by decide)
      apply Wk.goff 68 (ok_load 3 ty3) rfl rfl (by decide)
      apply Wk.goff 68 (ok_datw ((snum_ok 0 (by decide)).w rfl) Try.func42 rfl rfl) rfl rfl (by decide)
      apply Wk.goff 68 (ok_faddr fd33_1) rfl rfl (by decide)
      apply Wk.goff 68 (ok_load 3 ty3) rfl rfl (by decide)
      apply Wk.goff 68 (ok_bin _ _ _ _ _) rfl rfl (by decide)
      apply Wk.pckT rfl (by conv => lhs; whnf) (lt_of_ble rfl)
      refine Wk.nil ?_
      refine AW.cond rfl (fun _ => ?_) (fun hc => by cases hc)
      refine AW.seq ?_
      apply AW.list
      apply Wk.asg (by conv => lhs; whnf) (lt_of_ble rfl)
      refine Wk.nil (AW.ret ?_)
      repeat (first | refine thenA_ret ?_ | refine inBlockA_ret ?_)
      exact RetQ.ret [] (.cons rfl .nil) ⟨rfl, rfl⟩ none_kept
    · rfl
    · rfl
  cases h1 : inB n 0 7
  · rw [Bool.true_and, Bool.false_and]
    refine Spec.intro (n := 88) (rv := [.tmp 4]) Try.func11 rfl rfl rfl (by simp) fun C hN hX => ?_
    refine AW.seq ?_
    apply AW.list
    apply Wk.bx 2 rfl rfl (lt_of_ble rfl)
    apply Wk.bx 3 rfl rfl (lt_of_ble rfl)
    apply Wk.asg (by conv => lhs; whnf) (lt_of_ble rfl)
    refine Wk.nil ?_
    refine AW.seq (AW.seq ?_)
    apply AW.draw (hm := hmix) (cs := _)
    · apply Wk.ld (i := 2) 5 true ty29 rfl rfl (by conv => lhs; whnf) (lt_of_ble rfl)
      apply Wk.dat (scfgb h0) Try.func36 rfl rfl rfl rfl rfl (lt_of_ble rfl)
      apply Wk.un rfl (fun w => by simp [go_sem] <;> rfl) (lt_of_ble rfl)
      apply Wk.mv (by conv => lhs; whnf) (lt_of_ble rfl)
      apply Wk.gon 8 rfl rfl
      apply Wk.fad 0 0 false fd33_0 rfl (lt_of_ble rfl)
      apply Wk.gon 8 rfl rfl
      apply Wk.ld (i := 3) 1 false ty3 rfl rfl (by conv => lhs; whnf) (lt_of_ble rfl)
      apply Wk.gon 8 rfl rfl
      apply Wk.dat (sinb h1) Try.func40 rfl rfl rfl rfl rfl (lt_of_ble rfl)
      apply Wk.gon 8 rfl rfl
      apply Wk.un rfl (fun w => by simp [go_sem] <;> rfl) (lt_of_ble rfl)
      apply Wk.pckF rfl (by conv => lhs; whnf) (lt_of_ble rfl)
      apply Wk.mv (by conv => lhs; whnf) (lt_of_ble rfl)
      apply Wk.goff 14 (ok_faddr fd33_1) rfl rfl (by decide)
      apply Wk.goff 14 (ok_load 3 ty3) rfl rfl (by decide)
      apply Wk.goff 14 (ok_datw ((sinb (n := 0) (lo := 0) (hi := 7) rfl).w rfl) Try.func40 rfl rfl) rfl rfl (by decide)
      apply Wk.goff 14 (ok_un _ _ _) rfl rfl (by decide)
      apply Wk.pckT rfl (by conv => lhs; whnf) (lt_of_ble rfl)
      apply Wk.mv (by conv => lhs; whnf) (lt_of_ble rfl)
      apply Wk.goff 20 (ok_faddr fd33_2) rfl rfl (by decide)
      apply Wk.goff 20 (ok_load 3 ty31) rfl rfl (by decide)
      apply Wk.goff 20 (ok_len un31) rfl rfl (by decide)
      apply Wk.goff 20 (ok_faddr fd29_1) rfl rfl (by decide)
      apply Wk.goff 20 (ok_load 2 ty3) rfl rfl (by decide)
      apply Wk.goff 20 (ok_bin _ _ _ _ _) rfl rfl (by decide)
      apply Wk.pckT rfl (by conv => lhs; whnf) (lt_of_ble rfl)
      apply Wk.mv (by conv => lhs; whnf) (lt_of_ble rfl)
      apply Wk.goff 28 (ok_faddr fd33_1) rfl rfl (by decide)
      apply Wk.goff 28 (ok_load 3 ty3) rfl rfl (by decide)
      apply Wk.goff 28 (ok_faddr fd33_0) rfl rfl (by decide)
      apply Wk.goff 28 (ok_load 3 ty3) rfl rfl (by decide)
      apply Wk.goff 28 (ok_datw ((sfar_ok 0 0).w rfl) Try.func41 rfl rfl) rfl rfl (by decide)
      apply Wk.goff 28 (ok_faddr fd33_2) rfl rfl (by decide)
      apply Wk.goff 28 (ok_load 3 ty31) rfl rfl (by decide)
      apply Wk.goff 28 (ok_len un31) rfl rfl (by decide)
      apply Wk.goff 28 (ok_bin _ _ _ _ _) rfl rfl (by decide)
      apply Wk.pckT rfl (by conv => lhs; whnf) (lt_of_ble rfl)
      apply Wk.mv (by conv => lhs; whnf) (lt_of_ble rfl)
      apply Wk.goff 39 (ok_faddr fd33_3) rfl rfl (by decide)
      apply Wk.goff 39 (ok_load 3 ty3) rfl rfl (by decide)
      apply Wk.goff 39 (ok_faddr fd33_2) rfl rfl (by decide)
      apply Wk.goff 39 (ok_load 3 ty31) rfl rfl (by decide)
      apply Wk.goff 39 (ok_len un31) rfl rfl (by decide)
      apply Wk.goff 39 (ok_datw ((sinb (n := 0) (lo := 0) (hi := 7) rfl).w rfl) Try.func40 rfl rfl) rfl rfl (by decide)
      apply Wk.goff 39 (ok_un _ _ _) rfl rfl (by decide)
      apply Wk.pckT rfl (by conv => lhs; whnf) (lt_of_ble rfl)
      apply Wk.mv (by conv => lhs; whnf) (lt_of_ble rfl)
      apply Wk.goff 48 (ok_faddr fd33_4) rfl rfl (by decide)
      apply Wk.goff 48 (ok_load 3 ty31) rfl rfl (by decide)
      apply Wk.goff 48 (ok_len un31) rfl rfl (by decide)
      apply Wk.goff 48 (ok_bin _ _ _ _ _) rfl rfl (by decide)
      apply Wk.pckT rfl (by conv => lhs; whnf) (lt_of_ble rfl)
      apply Wk.mv (by conv => lhs; whnf) (lt_of_ble rfl)
      apply Wk.goff 54 (ok_faddr fd33_6) rfl rfl (by decide)
      apply Wk.goff 54 (ok_load 3 ty3) rfl rfl (by decide)
      apply Wk.goff 54 (ok_faddr fd29_4) rfl rfl (by decide)
      apply Wk.goff 54 (ok_load 2 ty3) rfl rfl (by decide)
      apply Wk.goff 54 (ok_datw ((sinb (n := 0) (lo := 0) (hi := 7) rfl).w rfl) Try.func40 rfl rfl) rfl rfl (by decide)
      apply Wk.goff 54 (ok_un _ _ _) rfl rfl (by decide)
      apply Wk.pckT rfl (by conv => lhs; whnf) (lt_of_ble rfl)
      apply Wk.mv (by conv => lhs; whnf) (lt_of_ble rfl)
      apply Wk.goff 62 (ok_faddr fd33_8) rfl rfl (by decide)
      apply Wk.goff 62 (ok_load 3 ty3) rfl rfl (by decide)
      apply Wk.goff 62 (ok_datw ((sinb (n := 0) (lo := 0) (hi := 7) rfl).w rfl) Try.func40 rfl rfl) rfl rfl (by decide)
      apply Wk.goff 62 (ok_un _ _ _) rfl rfl (by decide)
      apply Wk.pckT rfl (by conv => lhs; whnf) (lt_of_ble rfl)
      apply Wk.mv (by conv => lhs; whnf) (lt_of_ble rfl)
      apply Wk.goff 68 (ok_faddr fd33_8) rfl rfl (by decide)
      apply Wk.goff 68 (ok_load 3 ty3) rfl rfl (by decide)
      apply Wk.goff 68 (ok_datw ((snum_ok 0 (by decide)).w rfl) Try.func42 rfl rfl) rfl rfl (by decide)
      apply Wk.goff 68 (ok_faddr fd33_1) rfl rfl (by decide)
      apply Wk.goff 68 (ok_load 3 ty3) rfl rfl (by decide)
      apply Wk.goff 68 (ok_bin _ _ _ _ _) rfl rfl (by decide)
      apply Wk.pckT rfl (by conv => lhs; whnf) (lt_of_ble rfl)
      refine Wk.nil ?_
      refine AW.cond rfl (fun _ => ?_) (fun hc => by cases hc)
      refine AW.seq ?_
      apply AW.list
      apply Wk.asg (by conv => lhs; whnf) (lt_of_ble rfl)
      refine Wk.nil (AW.ret ?_)
      repeat (first | refine thenA_ret ?_ | refine inBlockA_ret ?_)
      exact RetQ.ret [] (.cons rfl .nil) ⟨rfl, rfl⟩ none_kept
    · rfl
    · rfl
  cases h2 : inB a 0 7
  · rw [Bool.true_and, Bool.true_and, Bool.false_and]
    refine Spec.intro (n := 88) (rv := [.tmp 4]) Try.func11 rfl rfl rfl (by simp) fun C hN hX => ?_
    refine AW.seq ?_
    apply AW.list
    apply Wk.bx 2 rfl rfl (lt_of_ble rfl)
    apply Wk.bx 3 rfl rfl (lt_of_ble rfl)
    apply Wk.asg (by conv => lhs; whnf) (lt_of_ble rfl)
    refine Wk.nil ?_
    refine AW.seq (AW.seq ?_)
    apply AW.draw (hm := hmix) (cs := _)
    · apply Wk.ld (i := 2) 5 true ty29 rfl rfl (by conv => lhs; whnf) (lt_of_ble rfl)
      apply Wk.dat (scfgb h0) Try.func36 rfl rfl rfl rfl rfl (lt_of_ble rfl)
      apply Wk.un rfl (fun w => by simp [go_sem] <;> rfl) (lt_of_ble rfl)
      apply Wk.mv (by conv => lhs; whnf) (lt_of_ble rfl)
      apply Wk.gon 8 rfl rfl
      apply Wk.fad 0 0 false fd33_0 rfl (lt_of_ble rfl)
      apply Wk.gon 8 rfl rfl
      apply Wk.ld (i := 3) 1 false ty3 rfl rfl (by conv => lhs; whnf) (lt_of_ble rfl)
      apply Wk.gon 8 rfl rfl
      apply Wk.dat (sinb h1) Try.func40 rfl rfl rfl rfl rfl (lt_of_ble rfl)
      apply Wk.gon 8 rfl rfl
      apply Wk.un rfl (fun w => by simp [go_sem] <;> rfl) (lt_of_ble rfl)
      apply Wk.pckF rfl (by conv => lhs; whnf) (lt_of_ble rfl)
      apply Wk.mv (by conv => lhs; whnf) (lt_of_ble rfl)
      apply Wk.gon 14 rfl rfl
      apply Wk.fad 1 0 false fd33_1 rfl (lt_of_ble rfl)
      apply Wk.gon 14 rfl rfl
      apply Wk.ld (i := 3) 1 false ty3 rfl rfl (by conv => lhs; whnf) (lt_of_ble rfl)
      apply Wk.gon 14 rfl rfl
      apply Wk.dat (sinb h2) Try.func40 rfl rfl rfl rfl rfl (lt_of_ble rfl)
      apply Wk.gon 14 rfl rfl
      apply Wk.un rfl (fun w => by simp [go_sem] <;> rfl) (lt_of_ble rfl)
      apply Wk.pckF rfl (by conv => lhs; whnf) (lt_of_ble rfl)
      apply Wk.mv (by conv => lhs; whnf) (lt_of_ble rfl)
      apply Wk.goff 20 (ok_faddr fd33_2) rfl rfl (by decide)
      apply Wk.goff 20 (ok_load 3 ty31) rfl rfl (by decide)
      apply Wk.goff 20 (ok_len un31) rfl rfl (by decide)
      apply Wk.goff 20 (ok_faddr fd29_1) rfl rfl (by decide)
      apply Wk.goff 20 (ok_load 2 ty3) rfl rfl (by decide)
      apply Wk.goff 20 (ok_bin _ _ _ _ _) rfl rfl (by decide)
      apply Wk.pckT rfl (by conv => lhs; whnf) (lt_of_ble rfl)
      apply Wk.mv (by conv => lhs; whnf) (lt_of_ble rfl)
      apply Wk.goff 28 (ok_faddr fd33_1) rfl rfl (by decide)
      apply Wk.goff 28 (ok_load 3 ty3) rfl rfl (by decide)
      apply Wk.goff 28 (ok_faddr fd33_0) rfl rfl (by decide)
      apply Wk.goff 28 (ok_load 3 ty3) rfl rfl (by decide)
      apply Wk.goff 28 (ok_datw ((sfar_ok 0 0).w rfl) Try.func41 rfl rfl) rfl rfl (by decide)
      apply Wk.goff 28 (ok_faddr fd33_2) rfl rfl (by decide)
      apply Wk.goff 28 (ok_load 3 ty31) rfl rfl (by decide)
      apply Wk.goff 28 (ok_len un31) rfl rfl (by decide)
      apply Wk.goff 28 (ok_bin _ _ _ _ _) rfl rfl (by decide)
      apply Wk.pckT rfl (by conv => lhs; whnf) (lt_of_ble rfl)
      apply Wk.mv (by conv => lhs; whnf) (lt_of_ble rfl)
      apply Wk.goff 39 (ok_faddr fd33_3) rfl rfl (by decide)
      apply Wk.goff 39 (ok_load 3 ty3) rfl rfl (by decide)
      apply Wk.goff 39 (ok_faddr fd33_2) rfl rfl (by decide)
      apply Wk.goff 39 (ok_load 3 ty31) rfl rfl (by decide)
      apply Wk.goff 39 (ok_len un31) rfl rfl (by decide)
      apply Wk.goff 39 (ok_datw ((sinb (n := 0) (lo := 0) (hi := 7) rfl).w rfl) Try.func40 rfl rfl) rfl rfl (by decide)
      apply Wk.goff 39 (ok_un _ _ _) rfl rfl (by decide)
      apply Wk.pckT rfl (by conv => lhs; whnf) (lt_of_ble rfl)
      apply Wk.mv (by conv => lhs; whnf) (lt_of_ble rfl)
      apply Wk.goff 48 (ok_faddr fd33_4) rfl rfl (by decide)
      apply Wk.goff 48 (ok_load 3 ty31) rfl rfl (by decide)
      apply Wk.goff 48 (ok_len un31) rfl rfl (by decide)
      apply Wk.goff 48 (ok_bin _ _ _ _ _) rfl rfl (by decide)
      apply Wk.pckT rfl (by conv => lhs; whnf) (lt_of_ble rfl)
      apply Wk.mv (by conv => lhs; whnf) (lt_of_ble rfl)
      apply Wk.goff 54 (ok_faddr fd33_6) rfl rfl (by decide)
      apply Wk.goff 54 (ok_load 3 ty3) rfl rfl (by decide)
      apply Wk.goff 54 (ok_faddr fd29_4) rfl rfl (by decide)
      apply Wk.goff 54 (ok_load 2 ty3) rfl rfl (by decide)
      apply Wk.goff 54 (ok_datw ((sinb (n := 0) (lo := 0) (hi := 7) rfl).w rfl) Try.func40 rfl rfl) rfl rfl (by decide)
      apply Wk.goff 54 (ok_un _ _ _) rfl rfl (by decide)
      apply Wk.pckT rfl (by conv => lhs; whnf) (lt_of_ble rfl)
      apply Wk.mv (by conv => lhs; whnf) (lt_of_ble rfl)
      apply Wk.goff 62 (ok_faddr fd33_8) rfl rfl (by decide)
      apply Wk.goff 62 (ok_load 3 ty3) rfl rfl (by decide)
      apply Wk.goff 62 (ok_datw ((sinb (n := 0) (lo := 0) (hi := 7) rfl).w rfl) Try.func40 rfl rfl) rfl rfl (by decide)
      apply Wk.goff 62 (ok_un _ _ _) rfl rfl (by decide)
      apply Wk.pckT rfl (by conv => lhs; whnf) (lt_of_ble rfl)
      apply Wk.mv (by conv => lhs; whnf) (lt_of_ble rfl)
      apply Wk.goff 68 (ok_faddr fd33_8) rfl rfl (by decide)
      apply Wk.goff 68 (ok_load 3 ty3) rfl rfl (by decide)
      apply Wk.goff 68 (ok_datw ((snum_ok 0 (by decide)).w rfl) Try.func42 rfl rfl) rfl rfl (by decide)
      apply Wk.goff 68 (ok_faddr fd33_1) rfl rfl (by decide)
      apply Wk.goff 68 (ok_load 3 ty3) rfl rfl (by decide)
      apply Wk.goff 68 (ok_bin _ _ _ _ _) rfl rfl (by decide)
      apply Wk.pckT rfl (by conv => lhs; whnf) (lt_of_ble rfl)
      refine Wk.nil ?_
      refine AW.cond rfl (fun _ => ?_) (fun hc => by cases hc)
      refine AW.seq ?_
      apply AW.list
      apply Wk.asg (by conv => lhs; whnf) (lt_of_ble rfl)
      refine Wk.nil (AW.ret ?_)
      repeat (first | refine thenA_ret ?_ | refine inBlockA_ret ?_)
      exact RetQ.ret [] (.cons rfl .nil) ⟨rfl, rfl⟩ none_kept
    · rfl
    · rfl
  by_cases h3 : (fl.length : Int) ≤ w0
  case neg =>
    rw [Bool.true_and, Bool.true_and, Bool.true_and, decide_eq_false h3, Bool.false_and]
    refine Spec.intro (n := 88) (rv := [.tmp 4]) Try.func11 rfl rfl rfl (by simp) fun C hN hX => ?_
    refine AW.seq ?_
    apply AW.list
    apply Wk.bx 2 rfl rfl (lt_of_ble rfl)
    apply Wk.bx 3 rfl rfl (lt_of_ble rfl)
    apply Wk.asg (by conv => lhs; whnf) (lt_of_ble rfl)
    refine Wk.nil ?_
    refine AW.seq (AW.seq ?_)
    apply AW.draw (hm := hmix) (cs := _)
    · apply Wk.ld (i := 2) 5 true ty29 rfl rfl (by conv => lhs; whnf) (lt_of_ble rfl)
      apply Wk.dat (scfgb h0) Try.func36 rfl rfl rfl rfl rfl (lt_of_ble rfl)
      apply Wk.un rfl (fun w => by simp [go_sem] <;> rfl) (lt_of_ble rfl)
      apply Wk.mv (by conv => lhs; whnf) (lt_of_ble rfl)
      apply Wk.gon 8 rfl rfl
      apply Wk.fad 0 0 false fd33_0 rfl (lt_of_ble rfl)
      apply Wk.gon 8 rfl rfl
      apply Wk.ld (i := 3) 1 false ty3 rfl rfl (by conv => lhs; whnf) (lt_of_ble rfl)
      apply Wk.gon 8 rfl rfl
      apply Wk.dat (sinb h1) Try.func40 rfl rfl rfl rfl rfl (lt_of_ble rfl)
      apply Wk.gon 8 rfl rfl
      apply Wk.un rfl (fun w => by simp [go_sem] <;> rfl) (lt_of_ble rfl)
      apply Wk.pckF rfl (by conv => lhs; whnf) (lt_of_ble rfl)
      apply Wk.mv (by conv => lhs; whnf) (lt_of_ble rfl)
      apply Wk.gon 14 rfl rfl
      apply Wk.fad 1 0 false fd33_1 rfl (lt_of_ble rfl)
      apply Wk.gon 14 rfl rfl
      apply Wk.ld (i := 3) 1 false ty3 rfl rfl (by conv => lhs; whnf) (lt_of_ble rfl)
      apply Wk.gon 14 rfl rfl
      apply Wk.dat (sinb h2) Try.func40 rfl rfl rfl rfl rfl (lt_of_ble rfl)
      apply Wk.gon 14 rfl rfl
      apply Wk.un rfl (fun w => by simp [go_sem] <;> rfl) (lt_of_ble rfl)
      apply Wk.pckF rfl (by conv => lhs; whnf) (lt_of_ble rfl)
      apply Wk.mv (by conv => lhs; whnf) (lt_of_ble rfl)
      apply Wk.gon 20 rfl rfl
      apply Wk.fad 2 0 false fd33_2 rfl (lt_of_ble rfl)
      apply Wk.gon 20 rfl rfl
      apply Wk.ld (i := 3) 1 false ty31 rfl rfl (by conv => lhs; whnf) (lt_of_ble rfl)
      apply Wk.gon 20 rfl rfl
      apply Wk.len un31 rfl (lt_of_ble rfl)
      apply Wk.gon 20 rfl rfl
      apply Wk.fad 1 0 false fd29_1 rfl (lt_of_ble rfl)
      apply Wk.gon 20 rfl rfl
      apply Wk.ld (i := 2) 1 false ty3 rfl rfl (by conv => lhs; whnf) (lt_of_ble rfl)
      apply Wk.gon 20 rfl rfl
      apply Wk.bin rfl rfl (r := .bool true) (fun w => by rw [e1]; simp [go_sem] <;> omega) (lt_of_ble rfl)
      apply Wk.pckF rfl (by conv => lhs; whnf) (lt_of_ble rfl)
      apply Wk.mv (by conv => lhs; whnf) (lt_of_ble rfl)
      apply Wk.goff 28 (ok_faddr fd33_1) rfl rfl (by decide)
      apply Wk.goff 28 (ok_load 3 ty3) rfl rfl (by decide)
      apply Wk.goff 28 (ok_faddr fd33_0) rfl rfl (by decide)
      apply Wk.goff 28 (ok_load 3 ty3) rfl rfl (by decide)
      apply Wk.goff 28 (ok_datw ((sfar_ok 0 0).w rfl) Try.func41 rfl rfl) rfl rfl (by decide)
      apply Wk.goff 28 (ok_faddr fd33_2) rfl rfl (by decide)
      apply Wk.goff 28 (ok_load 3 ty31) rfl rfl (by decide)
      apply Wk.goff 28 (ok_len un31) rfl rfl (by decide)
      apply Wk.goff 28 (ok_bin _ _ _ _ _) rfl rfl (by decide)
      apply Wk.pckT rfl (by conv => lhs; whnf) (lt_of_ble rfl)
      apply Wk.mv (by conv => lhs; whnf) (lt_of_ble rfl)
      apply Wk.goff 39 (ok_faddr fd33_3) rfl rfl (by decide)
      apply Wk.goff 39 (ok_load 3 ty3) rfl rfl (by decide)
      apply Wk.goff 39 (ok_faddr fd33_2) rfl rfl (by decide)
      apply Wk.goff 39 (ok_load 3 ty31) rfl rfl (by decide)
      apply Wk.goff 39 (ok_len un31) rfl rfl (by decide)
      apply Wk.goff 39 (ok_datw ((sinb (n := 0) (lo := 0) (hi := 7) rfl).w rfl) Try.func40 rfl rfl) rfl rfl (by decide)
      apply Wk.goff 39 (ok_un _ _ _) rfl rfl (by decide)
      apply Wk.pckT rfl (by conv => lhs; whnf) (lt_of_ble rfl)
      apply Wk.mv (by conv => lhs; whnf) (lt_of_ble rfl)
      apply Wk.goff 48 (ok_faddr fd33_4) rfl rfl (by decide)
      apply Wk.goff 48 (ok_load 3 ty31) rfl rfl (by decide)
      apply Wk.goff 48 (ok_len un31) rfl rfl (by decide)
      apply Wk.goff 48 (ok_bin _ _ _ _ _) rfl rfl (by decide)
      apply Wk.pckT rfl (by conv => lhs; whnf) (lt_of_ble rfl)
      apply Wk.mv (by conv => lhs; whnf) (lt_of_ble rfl)
      apply Wk.goff 54 (ok_faddr fd33_6) rfl rfl (by decide)
      apply Wk.goff 54 (ok_load 3 ty3) rfl rfl (by decide)
      apply Wk.goff 54 (ok_faddr fd29_4) rfl rfl (by decide)
      apply Wk.goff 54 (ok_load 2 ty3) rfl rfl (by decide)
      apply Wk.goff 54 (ok_datw ((sinb (n := 0) (lo := 0) (hi := 7) rfl).w rfl) Try.func40 rfl rfl) rfl rfl (by decide)
      apply Wk.goff 54 (ok_un _ _ _) rfl rfl (by decide)
      apply Wk.pckT rfl (by conv => lhs; whnf) (lt_of_ble rfl)
      apply Wk.mv (by conv => lhs; whnf) (lt_of_ble rfl)
      apply Wk.goff 62 (ok_faddr fd33_8) rfl rfl (by decide)
      apply Wk.goff 62 (ok_load 3 ty3) rfl rfl (by decide)
      apply Wk.goff 62 (ok_datw ((sinb (n := 0) (lo := 0) (hi := 7) rfl).w rfl) Try.func40 rfl rfl) rfl rfl (by decide)
      apply Wk.goff 62 (ok_un _ _ _) rfl rfl (by decide)
      apply Wk.pckT rfl (by conv => lhs; whnf) (lt_of_ble rfl)
      apply Wk.mv (by conv => lhs; whnf) (lt_of_ble rfl)
      apply Wk.goff 68 (ok_faddr fd33_8) rfl rfl (by decide)
      apply Wk.goff 68 (ok_load 3 ty3) rfl rfl (by decide)
      apply Wk.goff 68 (ok_datw ((snum_ok 0 (by decide)).w rfl) Try.func42 rfl rfl) rfl rfl (by decide)
      apply Wk.goff 68 (ok_faddr fd33_1) rfl rfl (by decide)
      apply Wk.goff 68 (ok_load 3 ty3) rfl rfl (by decide)
      apply Wk.goff 68 (ok_bin _ _ _ _ _) rfl rfl (by decide)
      apply Wk.pckT rfl (by conv => lhs; whnf) (lt_of_ble rfl)
      refine Wk.nil ?_
      refine AW.cond rfl (fun _ => ?_) (fun hc => by cases hc)
      refine AW.seq ?_
      apply AW.list
      apply Wk.asg (by conv => lhs; whnf) (lt_of_ble rfl)
      refine Wk.nil (AW.ret ?_)
      repeat (first | refine thenA_ret ?_ | refine inBlockA_ret ?_)
      exact RetQ.ret [] (.cons rfl .nil) ⟨rfl, rfl⟩ none_kept
    · rfl
    · rfl
  by_cases h4 : farF a n = (fl.length : Int)
  case neg =>
    rw [Bool.true_and, Bool.true_and, Bool.true_and, decide_eq_true h3, Bool.true_and, decide_eq_false h4, Bool.false_and]
    refine Spec.intro (n := 88) (rv := [.tmp 4]) Try.func11 rfl rfl rfl (by simp) fun C hN hX => ?_
    refine AW.seq ?_
    apply AW.list
    apply Wk.bx 2 rfl rfl (lt_of_ble rfl)
    apply Wk.bx 3 rfl rfl (lt_of_ble rfl)
    apply Wk.asg (by conv => lhs; whnf) (lt_of_ble rfl)
    refine Wk.nil ?_
    refine AW.seq (AW.seq ?_)
    apply AW.draw (hm := hmix) (cs := _)
    · apply Wk.ld (i := 2) 5 true ty29 rfl rfl (by conv => lhs; whnf) (lt_of_ble rfl)
      apply Wk.dat (scfgb h0) Try.func36 rfl rfl rfl rfl rfl (lt_of_ble rfl)
      apply Wk.un rfl (fun w => by simp [go_sem] <;> rfl) (lt_of_ble rfl)
      apply Wk.mv (by conv => lhs; whnf) (lt_of_ble rfl)
      apply Wk.gon 8 rfl rfl
      apply Wk.fad 0 0 false fd33_0 rfl (lt_of_ble rfl)
      apply Wk.gon 8 rfl rfl
      apply Wk.ld (i := 3) 1 false ty3 rfl rfl (by conv => lhs; whnf) (lt_of_ble rfl)
      apply Wk.gon 8 rfl rfl
      apply Wk.dat (sinb h1) Try.func40 rfl rfl rfl rfl rfl (lt_of_ble rfl)
      apply Wk.gon 8 rfl rfl
      apply Wk.un rfl (fun w => by simp [go_sem] <;> rfl) (lt_of_ble rfl)
      apply Wk.pckF rfl (by conv => lhs; whnf) (lt_of_ble rfl)
      apply Wk.mv (by conv => lhs; whnf) (lt_of_ble rfl)
      apply Wk.gon 14 rfl rfl
      apply Wk.fad 1 0 false fd33_1 rfl (lt_of_ble rfl)
      apply Wk.gon 14 rfl rfl
      apply Wk.ld (i := 3) 1 false ty3 rfl rfl (by conv => lhs; whnf) (lt_of_ble rfl)
      apply Wk.gon 14 rfl rfl
      apply Wk.dat (sinb h2) Try.func40 rfl rfl rfl rfl rfl (lt_of_ble rfl)
      apply Wk.gon 14 rfl rfl
      apply Wk.un rfl (fun w => by simp [go_sem] <;> rfl) (lt_of_ble rfl)
      apply Wk.pckF rfl (by conv => lhs; whnf) (lt_of_ble rfl)
      apply Wk.mv (by conv => lhs; whnf) (lt_of_ble rfl)
      apply Wk.gon 20 rfl rfl
      apply Wk.fad 2 0 false fd33_2 rfl (lt_of_ble rfl)
      apply Wk.gon 20 rfl rfl
      apply Wk.ld (i := 3) 1 false ty31 rfl rfl (by conv => lhs; whnf) (lt_of_ble rfl)
      apply Wk.gon 20 rfl rfl
      apply Wk.len un31 rfl (lt_of_ble rfl)
      apply Wk.gon 20 rfl rfl
      apply Wk.fad 1 0 false fd29_1 rfl (lt_of_ble rfl)
      apply Wk.gon 20 rfl rfl
      apply Wk.ld (i := 2) 1 false ty3 rfl rfl (by conv => lhs; whnf) (lt_of_ble rfl)
      apply Wk.gon 20 rfl rfl
      apply Wk.bin rfl rfl (r := .bool false) (fun w => by rw [e1]; simp [go_sem] <;> omega) (lt_of_ble rfl)
      apply Wk.pckF rfl (by conv => lhs; whnf) (lt_of_ble rfl)
      apply Wk.mv (by conv => lhs; whnf) (lt_of_ble rfl)
      apply Wk.gon 28 rfl rfl
      apply Wk.fad 1 0 false fd33_1 rfl (lt_of_ble rfl)
      apply Wk.gon 28 rfl rfl
      apply Wk.ld (i := 3) 1 false ty3 rfl rfl (by conv => lhs; whnf) (lt_of_ble rfl)
      apply Wk.gon 28 rfl rfl
      apply Wk.fad 0 0 false fd33_0 rfl (lt_of_ble rfl)
      apply Wk.gon 28 rfl rfl
      apply Wk.ld (i := 3) 1 false ty3 rfl rfl (by conv => lhs; whnf) (lt_of_ble rfl)
      apply Wk.gon 28 rfl rfl
      apply Wk.dat (sfar_ok a n) Try.func41 rfl rfl rfl rfl rfl (lt_of_ble rfl)
      apply Wk.gon 28 rfl rfl
      apply Wk.fad 2 0 false fd33_2 rfl (lt_of_ble rfl)
      apply Wk.gon 28 rfl rfl
      apply Wk.ld (i := 3) 1 false ty31 rfl rfl (by conv => lhs; whnf) (lt_of_ble rfl)
      apply Wk.gon 28 rfl rfl
      apply Wk.len un31 rfl (lt_of_ble rfl)
      apply Wk.gon 28 rfl rfl
      apply Wk.bin rfl rfl (r := .bool true) (fun w => by rw [e1]; simp [go_sem, h4]) (lt_of_ble rfl)
      apply Wk.pckF rfl (by conv => lhs; whnf) (lt_of_ble rfl)
      apply Wk.mv (by conv => lhs; whnf) (lt_of_ble rfl)
      apply Wk.goff 39 (ok_faddr fd33_3) rfl rfl (by decide)
      apply Wk.goff 39 (ok_load 3 ty3) rfl rfl (by decide)
      apply Wk.goff 39 (ok_faddr fd33_2) rfl rfl (by decide)
      apply Wk.goff 39 (ok_load 3 ty31) rfl rfl (by decide)
      apply Wk.goff 39 (ok_len un31) rfl rfl (by decide)
      apply Wk.goff 39 (ok_datw ((sinb (n := 0) (lo := 0) (hi := 7) rfl).w rfl) Try.func40 rfl rfl) rfl rfl (by decide)
      apply Wk.goff 39 (ok_un _ _ _) rfl rfl (by decide)
      apply Wk.pckT rfl (by conv => lhs; whnf) (lt_of_ble rfl)
      apply Wk.mv (by conv => lhs; whnf) (lt_of_ble rfl)
      apply Wk.goff 48 (ok_faddr fd33_4) rfl rfl (by decide)
      apply Wk.goff 48 (ok_load 3 ty31) rfl rfl (by decide)
      apply Wk.goff 48 (ok_len un31) rfl rfl (by decide)
      apply Wk.goff 48 (ok_bin _ _ _ _ _) rfl rfl (by decide)
      apply Wk.pckT rfl (by conv => lhs; whnf) (lt_of_ble rfl)
      apply Wk.mv (by conv => lhs; whnf) (lt_of_ble rfl)
      apply Wk.goff 54 (ok_faddr fd33_6) rfl rfl (by decide)
      apply Wk.goff 54 (ok_load 3 ty3) rfl rfl (by decide)
      apply Wk.goff 54 (ok_faddr fd29_4) rfl rfl (by decide)
      apply Wk.goff 54 (ok_load 2 ty3) rfl rfl (by decide)
      apply Wk.goff 54 (ok_datw ((sinb (n := 0) (lo := 0) (hi := 7) rfl).w rfl) Try.func40 rfl rfl) rfl rfl (by decide)
      apply Wk.goff 54 (ok_un _ _ _) rfl rfl (by decide)
      apply Wk.pckT rfl (by conv => lhs; whnf) (lt_of_ble rfl)
      apply Wk.mv (by conv => lhs; whnf) (lt_of_ble rfl)
      apply Wk.goff 62 (ok_faddr fd33_8) rfl rfl (by decide)
      apply Wk.goff 62 (ok_load 3 ty3) rfl rfl (by decide)
      apply Wk.goff 62 (ok_datw ((sinb (n := 0) (lo := 0) (hi := 7) rfl).w rfl) Try.func40 rfl rfl) rfl rfl (by decide)
      apply Wk.goff 62 (ok_un _ _ _) rfl rfl (by decide)
      apply Wk.pckT rfl (by conv => lhs; whnf) (lt_of_ble rfl)
      apply Wk.mv (by conv => lhs; whnf) (lt_of_ble rfl)
      apply Wk.goff 68 (ok_faddr fd33_8) rfl rfl (by decide)
      apply Wk.goff 68 (ok_load 3 ty3) rfl rfl (by decide)
      apply Wk.goff 68 (ok_datw ((snum_ok 0 (by decide)).w rfl) Try.func42 rfl rfl) rfl rfl (by decide)
      apply Wk.goff 68 (ok_faddr fd33_1) rfl rfl (by decide)
      apply Wk.goff 68 (ok_load 3 ty3) rfl rfl (by decide)
      apply Wk.goff 68 (ok_bin _ _ _ _ _) rfl rfl (by decide)
      apply Wk.pckT rfl (by conv => lhs; whnf) (lt_of_ble rfl)
      refine Wk.nil ?_
      refine AW.cond rfl (fun _ => ?_) (fun hc => by cases hc)
      refine AW.seq ?_
      apply AW.list
      apply Wk.asg (by conv => lhs; whnf) (lt_of_ble rfl)
      refine Wk.nil (AW.ret ?_)
      repeat (first | refine thenA_ret ?_ | refine inBlockA_ret ?_)
      exact RetQ.ret [] (.cons rfl .nil) ⟨rfl, rfl⟩ none_kept
    · rfl
    · rfl
  cases h5 : inB s 0 (fl.length : Int)
  · rw [Bool.true_and, Bool.true_and, Bool.true_and, decide_eq_true h3, Bool.true_and, decide_eq_true h4, Bool.true_and, Bool.false_and]
    rw [← e1] at h5
    refine Spec.intro (n := 88) (rv := [.tmp 4]) Try.func11 rfl rfl rfl (by simp) fun C hN hX => ?_
    refine AW.seq ?_
    apply AW.list
    apply Wk.bx 2 rfl rfl (lt_of_ble rfl)
    apply Wk.bx 3 rfl rfl (lt_of_ble rfl)
    apply Wk.asg (by conv => lhs; whnf) (lt_of_ble rfl)
    refine Wk.nil ?_
    refine AW.seq (AW.seq ?_)
    apply AW.draw (hm := hmix) (cs := _)
    · apply Wk.ld (i := 2) 5 true ty29 rfl rfl (by conv => lhs; whnf) (lt_of_ble rfl)
      apply Wk.dat (scfgb h0) Try.func36 rfl rfl rfl rfl rfl (lt_of_ble rfl)
      apply Wk.un rfl (fun w => by simp [go_sem] <;> rfl) (lt_of_ble rfl)
      apply Wk.mv (by conv => lhs; whnf) (lt_of_ble rfl)
      apply Wk.gon 8 rfl rfl
      apply Wk.fad 0 0 false fd33_0 rfl (lt_of_ble rfl)
      apply Wk.gon 8 rfl rfl
      apply Wk.ld (i := 3) 1 false ty3 rfl rfl (by conv => lhs; whnf) (lt_of_ble rfl)
      apply Wk.gon 8 rfl rfl
      apply Wk.dat (sinb h1) Try.func40 rfl rfl rfl rfl rfl (lt_of_ble rfl)
      apply Wk.gon 8 rfl rfl
      apply Wk.un rfl (fun w => by simp [go_sem] <;> rfl) (lt_of_ble rfl)
      apply Wk.pckF rfl (by conv => lhs; whnf) (lt_of_ble rfl)
      apply Wk.mv (by conv => lhs; whnf) (lt_of_ble rfl)
      apply Wk.gon 14 rfl rfl
      apply Wk.fad 1 0 false fd33_1 rfl (lt_of_ble rfl)
      apply Wk.gon 14 rfl rfl
      apply Wk.ld (i := 3) 1 false ty3 rfl rfl (by conv => lhs; whnf) (lt_of_ble rfl)
      apply Wk.gon 14 rfl rfl
      apply Wk.dat (sinb h2) Try.func40 rfl rfl rfl rfl rfl (lt_of_ble rfl)
      apply Wk.gon 14 rfl rfl
      apply Wk.un rfl (fun w => by simp [go_sem] <;> rfl) (lt_of_ble rfl)
      apply Wk.pckF rfl (by conv => lhs; whnf) (lt_of_ble rfl)
      apply Wk.mv (by conv => lhs; whnf) (lt_of_ble rfl)
      apply Wk.gon 20 rfl rfl
      apply Wk.fad 2 0 false fd33_2 rfl (lt_of_ble rfl)
      apply Wk.gon 20 rfl rfl
      apply Wk.ld (i := 3) 1 false ty31 rfl rfl (by conv => lhs; whnf) (lt_of_ble rfl)
      apply Wk.gon 20 rfl rfl
      apply Wk.len un31 rfl (lt_of_ble rfl)
      apply Wk.gon 20 rfl rfl
      apply Wk.fad 1 0 false fd29_1 rfl (lt_of_ble rfl)
      apply Wk.gon 20 rfl rfl
      apply Wk.ld (i := 2) 1 false ty3 rfl rfl (by conv => lhs; whnf) (lt_of_ble rfl)
      apply Wk.gon 20 rfl rfl
      apply Wk.bin rfl rfl (r := .bool false) (fun w => by rw [e1]; simp [go_sem] <;> omega) (lt_of_ble rfl)
      apply Wk.pckF rfl (by conv => lhs; whnf) (lt_of_ble rfl)
      apply Wk.mv (by conv => lhs; whnf) (lt_of_ble rfl)
      apply Wk.gon 28 rfl rfl
      apply Wk.fad 1 0 false fd33_1 rfl (lt_of_ble rfl)
      apply Wk.gon 28 rfl rfl
      apply Wk.ld (i := 3) 1 false ty3 rfl rfl (by conv => lhs; whnf) (lt_of_ble rfl)
      apply Wk.gon 28 rfl rfl
      apply Wk.fad 0 0 false fd33_0 rfl (lt_of_ble rfl)
      apply Wk.gon 28 rfl rfl
      apply Wk.ld (i := 3) 1 false ty3 rfl rfl (by conv => lhs; whnf) (lt_of_ble rfl)
      apply Wk.gon 28 rfl rfl
      apply Wk.dat (sfar_ok a n) Try.func41 rfl rfl rfl rfl rfl (lt_of_ble rfl)
      apply Wk.gon 28 rfl rfl
      apply Wk.fad 2 0 false fd33_2 rfl (lt_of_ble rfl)
      apply Wk.gon 28 rfl rfl
      apply Wk.ld (i := 3) 1 false ty31 rfl rfl (by conv => lhs; whnf) (lt_of_ble rfl)
      apply Wk.gon 28 rfl rfl
      apply Wk.len un31 rfl (lt_of_ble rfl)
      apply Wk.gon 28 rfl rfl
      apply Wk.bin rfl rfl (r := .bool false) (fun w => by rw [e1]; simp [go_sem, h4]) (lt_of_ble rfl)
      apply Wk.pckF rfl (by conv => lhs; whnf) (lt_of_ble rfl)
      apply Wk.mv (by conv => lhs; whnf) (lt_of_ble rfl)
      apply Wk.gon 39 rfl rfl
      apply Wk.fad 3 0 false fd33_3 rfl (lt_of_ble rfl)
      apply Wk.gon 39 rfl rfl
      apply Wk.ld (i := 3) 1 false ty3 rfl rfl (by conv => lhs; whnf) (lt_of_ble rfl)
      apply Wk.gon 39 rfl rfl
      apply Wk.fad 2 0 false fd33_2 rfl (lt_of_ble rfl)
      apply Wk.gon 39 rfl rfl
      apply Wk.ld (i := 3) 1 false ty31 rfl rfl (by conv => lhs; whnf) (lt_of_ble rfl)
      apply Wk.gon 39 rfl rfl
      apply Wk.len un31 rfl (lt_of_ble rfl)
      apply Wk.gon 39 rfl rfl
      apply Wk.dat (sinb h5) Try.func40 rfl rfl rfl rfl rfl (lt_of_ble rfl)
      apply Wk.gon 39 rfl rfl
      apply Wk.un rfl (fun w => by simp [go_sem] <;> rfl) (lt_of_ble rfl)
      apply Wk.pckF rfl (by conv => lhs; whnf) (lt_of_ble rfl)
      apply Wk.mv (by conv => lhs; whnf) (lt_of_ble rfl)
      apply Wk.goff 48 (ok_faddr fd33_4) rfl rfl (by decide)
      apply Wk.goff 48 (ok_load 3 ty31) rfl rfl (by decide)
      apply Wk.goff 48 (ok_len un31) rfl rfl (by decide)
      apply Wk.goff 48 (ok_bin _ _ _ _ _) rfl rfl (by decide)
      apply Wk.pckT rfl (by conv => lhs; whnf) (lt_of_ble rfl)
      apply Wk.mv (by conv => lhs; whnf) (lt_of_ble rfl)
      apply Wk.goff 54 (ok_faddr fd33_6) rfl rfl (by decide)
      apply Wk.goff 54 (ok_load 3 ty3) rfl rfl (by decide)
      apply Wk.goff 54 (ok_faddr fd29_4) rfl rfl (by decide)
      apply Wk.goff 54 (ok_load 2 ty3) rfl rfl (by decide)
      apply Wk.goff 54 (ok_datw ((sinb (n := 0) (lo := 0) (hi := 7) rfl).w rfl) Try.func40 rfl rfl) rfl rfl (by decide)
      apply Wk.goff 54 (ok_un _ _ _) rfl rfl (by decide)
      apply Wk.pckT rfl (by conv => lhs; whnf) (lt_of_ble rfl)
      apply Wk.mv (by conv => lhs; whnf) (lt_of_ble rfl)
      apply Wk.goff 62 (ok_faddr fd33_8) rfl rfl (by decide)
      apply Wk.goff 62 (ok_load 3 ty3) rfl rfl (by decide)
      apply Wk.goff 62 (ok_datw ((sinb (n := 0) (lo := 0) (hi := 7) rfl).w rfl) Try.func40 rfl rfl) rfl rfl (by decide)
      apply Wk.goff 62 (ok_un _ _ _) rfl rfl (by decide)
      apply Wk.pckT rfl (by conv => lhs; whnf) (lt_of_ble rfl)
      apply Wk.mv (by conv => lhs; whnf) (lt_of_ble rfl)
      apply Wk.goff 68 (ok_faddr fd33_8) rfl rfl (by decide)
      apply Wk.goff 68 (ok_load 3 ty3) rfl rfl (by decide)
      apply Wk.goff 68 (ok_datw ((snum_ok 0 (by decide)).w rfl) Try.func42 rfl rfl) rfl rfl (by decide)
      apply Wk.goff 68 (ok_faddr fd33_1) rfl rfl (by decide)
      apply Wk.goff 68 (ok_load 3 ty3) rfl rfl (by decide)
      apply Wk.goff 68 (ok_bin _ _ _ _ _) rfl rfl (by decide)
      apply Wk.pckT rfl (by conv => lhs; whnf) (lt_of_ble rfl)
      refine Wk.nil ?_
      refine AW.cond rfl (fun _ => ?_) (fun hc => by cases hc)
      refine AW.seq ?_
      apply AW.list
      apply Wk.asg (by conv => lhs; whnf) (lt_of_ble rfl)
      refine Wk.nil (AW.ret ?_)
      repeat (first | refine thenA_ret ?_ | refine inBlockA_ret ?_)
      exact RetQ.ret [] (.cons rfl .nil) ⟨rfl, rfl⟩ none_kept
    · rfl
    · rfl
  by_cases h6 : qu.length ≤ 24
  case neg =>
    rw [Bool.true_and, Bool.true_and, Bool.true_and, decide_eq_true h3, Bool.true_and, decide_eq_true h4, Bool.true_and, Bool.true_and, decide_eq_false h6, Bool.false_and]
    rw [← e1] at h5
    refine Spec.intro (n := 88) (rv := [.tmp 4]) Try.func11 rfl rfl rfl (by simp) fun C hN hX => ?_
    refine AW.seq ?_
    apply AW.list
    apply Wk.bx 2 rfl rfl (lt_of_ble rfl)
    apply Wk.bx 3 rfl rfl (lt_of_ble rfl)
    apply Wk.asg (by conv => lhs; whnf) (lt_of_ble rfl)
    refine Wk.nil ?_
    refine AW.seq (AW.seq ?_)
    apply AW.draw (hm := hmix) (cs := _)
    · apply Wk.ld (i := 2) 5 true ty29 rfl rfl (by conv => lhs; whnf) (lt_of_ble rfl)
      apply Wk.dat (scfgb h0) Try.func36 rfl rfl rfl rfl rfl (lt_of_ble rfl)
      apply Wk.un rfl (fun w => by simp [go_sem] <;> rfl) (lt_of_ble rfl)
      apply Wk.mv (by conv => lhs; whnf) (lt_of_ble rfl)
      apply Wk.gon 8 rfl rfl
      apply Wk.fad 0 0 false fd33_0 rfl (lt_of_ble rfl)
      apply Wk.gon 8 rfl rfl
      apply Wk.ld (i := 3) 1 false ty3 rfl rfl (by conv => lhs; whnf) (lt_of_ble rfl)
      apply Wk.gon 8 rfl rfl
      apply Wk.dat (sinb h1) Try.func40 rfl rfl rfl rfl rfl (lt_of_ble rfl)
      apply Wk.gon 8 rfl rfl
      apply Wk.un rfl (fun w => by simp [go_sem] <;> rfl) (lt_of_ble rfl)
      apply Wk.pckF rfl (by conv => lhs; whnf) (lt_of_ble rfl)
      apply Wk.mv (by conv => lhs; whnf) (lt_of_ble rfl)
      apply Wk.gon 14 rfl rfl
      apply Wk.fad 1 0 false fd33_1 rfl (lt_of_ble rfl)
      apply Wk.gon 14 rfl rfl
      apply Wk.ld (i := 3) 1 false ty3 rfl rfl (by conv => lhs; whnf) (lt_of_ble rfl)
      apply Wk.gon 14 rfl rfl
      apply Wk.dat (sinb h2) Try.func40 rfl rfl rfl rfl rfl (lt_of_ble rfl)
      apply Wk.gon 14 rfl rfl
      apply Wk.un rfl (fun w => by simp [go_sem] <;> rfl) (lt_of_ble rfl)
      apply Wk.pckF rfl (by conv => lhs; whnf) (lt_of_ble rfl)
      apply Wk.mv (by conv => lhs; whnf) (lt_of_ble rfl)
      apply Wk.gon 20 rfl rfl
      apply Wk.fad 2 0 false fd33_2 rfl (lt_of_ble rfl)
      apply Wk.gon 20 rfl rfl
      apply Wk.ld (i := 3) 1 false ty31 rfl rfl (by conv => lhs; whnf) (lt_of_ble rfl)
      apply Wk.gon 20 rfl rfl
      apply Wk.len un31 rfl (lt_of_ble rfl)
      apply Wk.gon 20 rfl rfl
      apply Wk.fad 1 0 false fd29_1 rfl (lt_of_ble rfl)
      apply Wk.gon 20 rfl rfl
      apply Wk.ld (i := 2) 1 false ty3 rfl rfl (by conv => lhs; whnf) (lt_of_ble rfl)
      apply Wk.gon 20 rfl rfl
      apply Wk.bin rfl rfl (r := .bool false) (fun w => by rw [e1]; simp [go_sem] <;> omega) (lt_of_ble rfl)
      apply Wk.pckF rfl (by conv => lhs; whnf) (lt_of_ble rfl)
      apply Wk.mv (by conv => lhs; whnf) (lt_of_ble rfl)
      apply Wk.gon 28 rfl rfl
      apply Wk.fad 1 0 false fd33_1 rfl (lt_of_ble rfl)
      apply Wk.gon 28 rfl rfl
      apply Wk.ld (i := 3) 1 false ty3 rfl rfl (by conv => lhs; whnf) (lt_of_ble rfl)
      apply Wk.gon 28 rfl rfl
      apply Wk.fad 0 0 false fd33_0 rfl (lt_of_ble rfl)
      apply Wk.gon 28 rfl rfl
      apply Wk.ld (i := 3) 1 false ty3 rfl rfl (by conv => lhs; whnf) (lt_of_ble rfl)
      apply Wk.gon 28 rfl rfl
      apply Wk.dat (sfar_ok a n) Try.func41 rfl rfl rfl rfl rfl (lt_of_ble rfl)
      apply Wk.gon 28 rfl rfl
      apply Wk.fad 2 0 false fd33_2 rfl (lt_of_ble rfl)
      apply Wk.gon 28 rfl rfl
      apply Wk.ld (i := 3) 1 false ty31 rfl rfl (by conv => lhs; whnf) (lt_of_ble rfl)
      apply Wk.gon 28 rfl rfl
      apply Wk.len un31 rfl (lt_of_ble rfl)
      apply Wk.gon 28 rfl rfl
      apply Wk.bin rfl rfl (r := .bool false) (fun w => by rw [e1]; simp [go_sem, h4]) (lt_of_ble rfl)
      apply Wk.pckF rfl (by conv => lhs; whnf) (lt_of_ble rfl)
      apply Wk.mv (by conv => lhs; whnf) (lt_of_ble rfl)
      apply Wk.gon 39 rfl rfl
      apply Wk.fad 3 0 false fd33_3 rfl (lt_of_ble rfl)
      apply Wk.gon 39 rfl rfl
      apply Wk.ld (i := 3) 1 false ty3 rfl rfl (by conv => lhs; whnf) (lt_of_ble rfl)
      apply Wk.gon 39 rfl rfl
      apply Wk.fad 2 0 false fd33_2 rfl (lt_of_ble rfl)
      apply Wk.gon 39 rfl rfl
      apply Wk.ld (i := 3) 1 false ty31 rfl rfl (by conv => lhs; whnf) (lt_of_ble rfl)
      apply Wk.gon 39 rfl rfl
      apply Wk.len un31 rfl (lt_of_ble rfl)
      apply Wk.gon 39 rfl rfl
      apply Wk.dat (sinb h5) Try.func40 rfl rfl rfl rfl rfl (lt_of_ble rfl)
      apply Wk.gon 39 rfl rfl
      apply Wk.un rfl (fun w => by simp [go_sem] <;> rfl) (lt_of_ble rfl)
      apply Wk.pckF rfl (by conv => lhs; whnf) (lt_of_ble rfl)
      apply Wk.mv (by conv => lhs; whnf) (lt_of_ble rfl)
      apply Wk.gon 48 rfl rfl
      apply Wk.fad 4 0 false fd33_4 rfl (lt_of_ble rfl)
      apply Wk.gon 48 rfl rfl
      apply Wk.ld (i := 3) 1 false ty31 rfl rfl (by conv => lhs; whnf) (lt_of_ble rfl)
      apply Wk.gon 48 rfl rfl
      apply Wk.len un31 rfl (lt_of_ble rfl)
      apply Wk.gon 48 rfl rfl
      apply Wk.bin rfl rfl (r := .bool true) (fun w => by rw [e2]; simp [go_sem] <;> omega) (lt_of_ble rfl)
      apply Wk.pckF rfl (by conv => lhs; whnf) (lt_of_ble rfl)
      apply Wk.mv (by conv => lhs; whnf) (lt_of_ble rfl)
      apply Wk.goff 54 (ok_faddr fd33_6) rfl rfl (by decide)
      apply Wk.goff 54 (ok_load 3 ty3) rfl rfl (by decide)
      apply Wk.goff 54 (ok_faddr fd29_4) rfl rfl (by decide)
      apply Wk.goff 54 (ok_load 2 ty3) rfl rfl (by decide)
      apply Wk.goff 54 (ok_datw ((sinb (n := 0) (lo := 0) (hi := 7) rfl).w rfl) Try.func40 rfl rfl) rfl rfl (by decide)
      apply Wk.goff 54 (ok_un _ _ _) rfl rfl (by decide)
      apply Wk.pckT rfl (by conv => lhs; whnf) (lt_of_ble rfl)
      apply Wk.mv (by conv => lhs; whnf) (lt_of_ble rfl)
      apply Wk.goff 62 (ok_faddr fd33_8) rfl rfl (by decide)
      apply Wk.goff 62 (ok_load 3 ty3) rfl rfl (by decide)
      apply Wk.goff 62 (ok_datw ((sinb (n := 0) (lo := 0) (hi := 7) rfl).w rfl) Try.func40 rfl rfl) rfl rfl (by decide)
      apply Wk.goff 62 (ok_un _ _ _) rfl rfl (by decide)
      apply Wk.pckT rfl (by conv => lhs; whnf) (lt_of_ble rfl)
      apply Wk.mv (by conv => lhs; whnf) (lt_of_ble rfl)
      apply Wk.goff 68 (ok_faddr fd33_8) rfl rfl (by decide)
      apply Wk.goff 68 (ok_load 3 ty3) rfl rfl (by decide)
      apply Wk.goff 68 (ok_datw ((snum_ok 0 (by decide)).w rfl) Try.func42 rfl rfl) rfl rfl (by decide)
      apply Wk.goff 68 (ok_faddr fd33_1) rfl rfl (by decide)
      apply Wk.goff 68 (ok_load 3 ty3) rfl rfl (by decide)
      apply Wk.goff 68 (ok_bin _ _ _ _ _) rfl rfl (by decide)
      apply Wk.pckT rfl (by conv => lhs; whnf) (lt_of_ble rfl)
      refine Wk.nil ?_
      refine AW.cond rfl (fun _ => ?_) (fun hc => by cases hc)
      refine AW.seq ?_
      apply AW.list
      apply Wk.asg (by conv => lhs; whnf) (lt_of_ble rfl)
      refine Wk.nil (AW.ret ?_)
      repeat (first | refine thenA_ret ?_ | refine inBlockA_ret ?_)
      exact RetQ.ret [] (.cons rfl .nil) ⟨rfl, rfl⟩ none_kept
    · rfl
    · rfl
  cases h7 : inB t 0 y0
  · rw [Bool.true_and, Bool.true_and, Bool.true_and, decide_eq_true h3, Bool.true_and, decide_eq_true h4, Bool.true_and, Bool.true_and, decide_eq_true h6, Bool.true_and, Bool.false_and]
    rw [← e1] at h5
    refine Spec.intro (n := 88) (rv := [.tmp 4]) Try.func11 rfl rfl rfl (by simp) fun C hN hX => ?_
    refine AW.seq ?_
    apply AW.list
    apply Wk.bx 2 rfl rfl (lt_of_ble rfl)
    apply Wk.bx 3 rfl rfl (lt_of_ble rfl)
    apply Wk.asg (by conv => lhs; whnf) (lt_of_ble rfl)
    refine Wk.nil ?_
    refine AW.seq (AW.seq ?_)
    apply AW.draw (hm := hmix) (cs := _)
    · apply Wk.ld (i := 2) 5 true ty29 rfl rfl (by conv => lhs; whnf) (lt_of_ble rfl)
      apply Wk.dat (scfgb h0) Try.func36 rfl rfl rfl rfl rfl (lt_of_ble rfl)
      apply Wk.un rfl (fun w => by simp [go_sem] <;> rfl) (lt_of_ble rfl)
      apply Wk.mv (by conv => lhs; whnf) (lt_of_ble rfl)
      apply Wk.gon 8 rfl rfl
      apply Wk.fad 0 0 false fd33_0 rfl (lt_of_ble rfl)
      apply Wk.gon 8 rfl rfl
      apply Wk.ld (i := 3) 1 false ty3 rfl rfl (by conv => lhs; whnf) (lt_of_ble rfl)
      apply Wk.gon 8 rfl rfl
      apply Wk.dat (sinb h1) Try.func40 rfl rfl rfl rfl rfl (lt_of_ble rfl)
      apply Wk.gon 8 rfl rfl
      apply Wk.un rfl (fun w => by simp [go_sem] <;> rfl) (lt_of_ble rfl)
      apply Wk.pckF rfl (by conv => lhs; whnf) (lt_of_ble rfl)
      apply Wk.mv (by conv => lhs; whnf) (lt_of_ble rfl)
      apply Wk.gon 14 rfl rfl
      apply Wk.fad 1 0 false fd33_1 rfl (lt_of_ble rfl)
      apply Wk.gon 14 rfl rfl
      apply Wk.ld (i := 3) 1 false ty3 rfl rfl (by conv => lhs; whnf) (lt_of_ble rfl)
      apply Wk.gon 14 rfl rfl
      apply Wk.dat (sinb h2) Try.func40 rfl rfl rfl rfl rfl (lt_of_ble rfl)
      apply Wk.gon 14 rfl rfl
      apply Wk.un rfl (fun w => by simp [go_sem] <;> rfl) (lt_of_ble rfl)
      apply Wk.pckF rfl (by conv => lhs; whnf) (lt_of_ble rfl)
      apply Wk.mv (by conv => lhs; whnf) (lt_of_ble rfl)
      apply Wk.gon 20 rfl rfl
      apply Wk.fad 2 0 false fd33_2 rfl (lt_of_ble rfl)
      apply Wk.gon 20 rfl rfl
      apply Wk.ld (i := 3) 1 false ty31 rfl rfl (by conv => lhs; whnf) (lt_of_ble rfl)
      apply Wk.gon 20 rfl rfl
      apply Wk.len un31 rfl (lt_of_ble rfl)
      apply Wk.gon 20 rfl rfl
      apply Wk.fad 1 0 false fd29_1 rfl (lt_of_ble rfl)
      apply Wk.gon 20 rfl rfl
      apply Wk.ld (i := 2) 1 false ty3 rfl rfl (by conv => lhs; whnf) (lt_of_ble rfl)
      apply Wk.gon 20 rfl rfl
      apply Wk.bin rfl rfl (r := .bool false) (fun w => by rw [e1]; simp [go_sem] <;> omega) (lt_of_ble rfl)
      apply Wk.pckF rfl (by conv => lhs; whnf) (lt_of_ble rfl)
      apply Wk.mv (by conv => lhs; whnf) (lt_of_ble rfl)
      apply Wk.gon 28 rfl rfl
      apply Wk.fad 1 0 false fd33_1 rfl (lt_of_ble rfl)
      apply Wk.gon 28 rfl rfl
      apply Wk.ld (i := 3) 1 false ty3 rfl rfl (by conv => lhs; whnf) (lt_of_ble rfl)
      apply Wk.gon 28 rfl rfl
      apply Wk.fad 0 0 false fd33_0 rfl (lt_of_ble rfl)
      apply Wk.gon 28 rfl rfl
      apply Wk.ld (i := 3) 1 false ty3 rfl rfl (by conv => lhs; whnf) (lt_of_ble rfl)
      apply Wk.gon 28 rfl rfl
      apply Wk.dat (sfar_ok a n) Try.func41 rfl rfl rfl rfl rfl (lt_of_ble rfl)
      apply Wk.gon 28 rfl rfl
      apply Wk.fad 2 0 false fd33_2 rfl (lt_of_ble rfl)
      apply Wk.gon 28 rfl rfl
      apply Wk.ld (i := 3) 1 false ty31 rfl rfl (by conv => lhs; whnf) (lt_of_ble rfl)
      apply Wk.gon 28 rfl rfl
      apply Wk.len un31 rfl (lt_of_ble rfl)
      apply Wk.gon 28 rfl rfl
      apply Wk.bin rfl rfl (r := .bool false) (fun w => by rw [e1]; simp [go_sem, h4]) (lt_of_ble rfl)
      apply Wk.pckF rfl (by conv => lhs; whnf) (lt_of_ble rfl)
      apply Wk.mv (by conv => lhs; whnf) (lt_of_ble rfl)
      apply Wk.gon 39 rfl rfl
      apply Wk.fad 3 0 false fd33_3 rfl (lt_of_ble rfl)
      apply Wk.gon 39 rfl rfl
      apply Wk.ld (i := 3) 1 false ty3 rfl rfl (by conv => lhs; whnf) (lt_of_ble rfl)
      apply Wk.gon 39 rfl rfl
      apply Wk.fad 2 0 false fd33_2 rfl (lt_of_ble rfl)
      apply Wk.gon 39 rfl rfl
      apply Wk.ld (i := 3) 1 false ty31 rfl rfl (by conv => lhs; whnf) (lt_of_ble rfl)
      apply Wk.gon 39 rfl rfl
      apply Wk.len un31 rfl (lt_of_ble rfl)
      apply Wk.gon 39 rfl rfl
      apply Wk.dat (sinb h5) Try.func40 rfl rfl rfl rfl rfl (lt_of_ble rfl)
      apply Wk.gon 39 rfl rfl
      apply Wk.un rfl (fun w => by simp [go_sem] <;> rfl) (lt_of_ble rfl)
      apply Wk.pckF rfl (by conv => lhs; whnf) (lt_of_ble rfl)
      apply Wk.mv (by conv => lhs; whnf) (lt_of_ble rfl)
      apply Wk.gon 48 rfl rfl
      apply Wk.fad 4 0 false fd33_4 rfl (lt_of_ble rfl)
      apply Wk.gon 48 rfl rfl
      apply Wk.ld (i := 3) 1 false ty31 rfl rfl (by conv => lhs; whnf) (lt_of_ble rfl)
      apply Wk.gon 48 rfl rfl
      apply Wk.len un31 rfl (lt_of_ble rfl)
      apply Wk.gon 48 rfl rfl
      apply Wk.bin rfl rfl (r := .bool false) (fun w => by rw [e2]; simp [go_sem] <;> omega) (lt_of_ble rfl)
      apply Wk.pckF rfl (by conv => lhs; whnf) (lt_of_ble rfl)
      apply Wk.mv (by conv => lhs; whnf) (lt_of_ble rfl)
      apply Wk.gon 54 rfl rfl
      apply Wk.fad 6 0 false fd33_6 rfl (lt_of_ble rfl)
      apply Wk.gon 54 rfl rfl
      apply Wk.ld (i := 3) 1 false ty3 rfl rfl (by conv => lhs; whnf) (lt_of_ble rfl)
      apply Wk.gon 54 rfl rfl
      apply Wk.fad 4 0 false fd29_4 rfl (lt_of_ble rfl)
      apply Wk.gon 54 rfl rfl
      apply Wk.ld (i := 2) 1 false ty3 rfl rfl (by conv => lhs; whnf) (lt_of_ble rfl)
      apply Wk.gon 54 rfl rfl
      apply Wk.dat (sinb h7) Try.func40 rfl rfl rfl rfl rfl (lt_of_ble rfl)
      apply Wk.gon 54 rfl rfl
      apply Wk.un rfl (fun w => by simp [go_sem] <;> rfl) (lt_of_ble rfl)
      apply Wk.pckF rfl (by conv => lhs; whnf) (lt_of_ble rfl)
      apply Wk.mv (by conv => lhs; whnf) (lt_of_ble rfl)
      apply Wk.goff 62 (ok_faddr fd33_8) rfl rfl (by decide)
      apply Wk.goff 62 (ok_load 3 ty3) rfl rfl (by decide)
      apply Wk.goff 62 (ok_datw ((sinb (n := 0) (lo := 0) (hi := 7) rfl).w rfl) Try.func40 rfl rfl) rfl rfl (by decide)
      apply Wk.goff 62 (ok_un _ _ _) rfl rfl (by decide)
      apply Wk.pckT rfl (by conv => lhs; whnf) (lt_of_ble rfl)
      apply Wk.mv (by conv => lhs; whnf) (lt_of_ble rfl)
      apply Wk.goff 68 (ok_faddr fd33_8) rfl rfl (by decide)
      apply Wk.goff 68 (ok_load 3 ty3) rfl rfl (by decide)
      apply Wk.goff 68 (ok_datw ((snum_ok 0 (by decide)).w rfl) Try.func42 rfl rfl) rfl rfl (by decide)
      apply Wk.goff 68 (ok_faddr fd33_1) rfl rfl (by decide)
      apply Wk.goff 68 (ok_load 3 ty3) rfl rfl (by decide)
      apply Wk.goff 68 (ok_bin _ _ _ _ _) rfl rfl (by decide)
      apply Wk.pckT rfl (by conv => lhs; whnf) (lt_of_ble rfl)
      refine Wk.nil ?_
      refine AW.cond rfl (fun _ => ?_) (fun hc => by cases hc)
      refine AW.seq ?_
      apply AW.list
      apply Wk.asg (by conv => lhs; whnf) (lt_of_ble rfl)
      refine Wk.nil (AW.ret ?_)
      repeat (first | refine thenA_ret ?_ | refine inBlockA_ret ?_)
      exact RetQ.ret [] (.cons rfl .nil) ⟨rfl, rfl⟩ none_kept
    · rfl
    · rfl
  cases h8 : inB c 0 9999
  · rw [Bool.true_and, Bool.true_and, Bool.true_and, decide_eq_true h3, Bool.true_and, decide_eq_true h4, Bool.true_and, Bool.true_and, decide_eq_true h6, Bool.true_and, Bool.true_and, Bool.false_and]
    rw [← e1] at h5
    refine Spec.intro (n := 88) (rv := [.tmp 4]) Try.func11 rfl rfl rfl (by simp) fun C hN hX => ?_
    refine AW.seq ?_
    apply AW.list
    apply Wk.bx 2 rfl rfl (lt_of_ble rfl)
    apply Wk.bx 3 rfl rfl (lt_of_ble rfl)
    apply Wk.asg (by conv => lhs; whnf) (lt_of_ble rfl)
    refine Wk.nil ?_
    refine AW.seq (AW.seq ?_)
    apply AW.draw (hm := hmix) (cs := _)
    · apply Wk.ld (i := 2) 5 true ty29 rfl rfl (by conv => lhs; whnf) (lt_of_ble rfl)
      apply Wk.dat (scfgb h0) Try.func36 rfl rfl rfl rfl rfl (lt_of_ble rfl)
      apply Wk.un rfl (fun w => by simp [go_sem] <;> rfl) (lt_of_ble rfl)
      apply Wk.mv (by conv => lhs; whnf) (lt_of_ble rfl)
      apply Wk.gon 8 rfl rfl
      apply Wk.fad 0 0 false fd33_0 rfl (lt_of_ble rfl)
      apply Wk.gon 8 rfl rfl
      apply Wk.ld (i := 3) 1 false ty3 rfl rfl (by conv => lhs; whnf) (lt_of_ble rfl)
      apply Wk.gon 8 rfl rfl
      apply Wk.dat (sinb h1) Try.func40 rfl rfl rfl rfl rfl (lt_of_ble rfl)
      apply Wk.gon 8 rfl rfl
      apply Wk.un rfl (fun w => by simp [go_sem] <;> rfl) (lt_of_ble rfl)
      apply Wk.pckF rfl (by conv => lhs; whnf) (lt_of_ble rfl)
      apply Wk.mv (by conv => lhs; whnf) (lt_of_ble rfl)
      apply Wk.gon 14 rfl rfl
      apply Wk.fad 1 0 false fd33_1 rfl (lt_of_ble rfl)
      apply Wk.gon 14 rfl rfl
      apply Wk.ld (i := 3) 1 false ty3 rfl rfl (by conv => lhs; whnf) (lt_of_ble rfl)
      apply Wk.gon 14 rfl rfl
      apply Wk.dat (sinb h2) Try.func40 rfl rfl rfl rfl rfl (lt_of_ble rfl)
      apply Wk.gon 14 rfl rfl
      apply Wk.un rfl (fun w => by simp [go_sem] <;> rfl) (lt_of_ble rfl)
      apply Wk.pckF rfl (by conv => lhs; whnf) (lt_of_ble rfl)
      apply Wk.mv (by conv => lhs; whnf) (lt_of_ble rfl)
      apply Wk.gon 20 rfl rfl
      apply Wk.fad 2 0 false fd33_2 rfl (lt_of_ble rfl)
      apply Wk.gon 20 rfl rfl
      apply Wk.ld (i := 3) 1 false ty31 rfl rfl (by conv => lhs; whnf) (lt_of_ble rfl)
      apply Wk.gon 20 rfl rfl
      apply Wk.len un31 rfl (lt_of_ble rfl)
      apply Wk.gon 20 rfl rfl
      apply Wk.fad 1 0 false fd29_1 rfl (lt_of_ble rfl)
      apply Wk.gon 20 rfl rfl
      apply Wk.ld (i := 2) 1 false ty3 rfl rfl (by conv => lhs; whnf) (lt_of_ble rfl)
      apply Wk.gon 20 rfl rfl
      apply Wk.bin rfl rfl (r := .bool false) (fun w => by rw [e1]; simp [go_sem] <;> omega) (lt_of_ble rfl)
      apply Wk.pckF rfl (by conv => lhs; whnf) (lt_of_ble rfl)
      apply Wk.mv (by conv => lhs; whnf) (lt_of_ble rfl)
      apply Wk.gon 28 rfl rfl
      apply Wk.fad 1 0 false fd33_1 rfl (lt_of_ble rfl)
      apply Wk.gon 28 rfl rfl
      apply Wk.ld (i := 3) 1 false ty3 rfl rfl (by conv => lhs; whnf) (lt_of_ble rfl)
      apply Wk.gon 28 rfl rfl
      apply Wk.fad 0 0 false fd33_0 rfl (lt_of_ble rfl)
      apply Wk.gon 28 rfl rfl
      apply Wk.ld (i := 3) 1 false ty3 rfl rfl (by conv => lhs; whnf) (lt_of_ble rfl)
      apply Wk.gon 28 rfl rfl
      apply Wk.dat (sfar_ok a n) Try.func41 rfl rfl rfl rfl rfl (lt_of_ble rfl)
      apply Wk.gon 28 rfl rfl
      apply Wk.fad 2 0 false fd33_2 rfl (lt_of_ble rfl)
      apply Wk.gon 28 rfl rfl
      apply Wk.ld (i := 3) 1 false ty31 rfl rfl (by conv => lhs; whnf) (lt_of_ble rfl)
      apply Wk.gon 28 rfl rfl
      apply Wk.len un31 rfl (lt_of_ble rfl)
      apply Wk.gon 28 rfl rfl
      apply Wk.bin rfl rfl (r := .bool false) (fun w => by rw [e1]; simp [go_sem, h4]) (lt_of_ble rfl)
      apply Wk.pckF rfl (by conv => lhs; whnf) (lt_of_ble rfl)
      apply Wk.mv (by conv => lhs; whnf) (lt_of_ble rfl)
      apply Wk.gon 39 rfl rfl
      apply Wk.fad 3 0 false fd33_3 rfl (lt_of_ble rfl)
      apply Wk.gon 39 rfl rfl
      apply Wk.ld (i := 3) 1 false ty3 rfl rfl (by conv => lhs; whnf) (lt_of_ble rfl)
      apply Wk.gon 39 rfl rfl
      apply Wk.fad 2 0 false fd33_2 rfl (lt_of_ble rfl)
      apply Wk.gon 39 rfl rfl
      apply Wk.ld (i := 3) 1 false ty31 rfl rfl (by conv => lhs; whnf) (lt_of_ble rfl)
      apply Wk.gon 39 rfl rfl
      apply Wk.len un31 rfl (lt_of_ble rfl)
      apply Wk.gon 39 rfl rfl
      apply Wk.dat (sinb h5) Try.func40 rfl rfl rfl rfl rfl (lt_of_ble rfl)
      apply Wk.gon 39 rfl rfl
      apply Wk.un rfl (fun w => by simp [go_sem] <;> rfl) (lt_of_ble rfl)
      apply Wk.pckF rfl (by conv => lhs; whnf) (lt_of_ble rfl)
      apply Wk.mv (by conv => lhs; whnf) (lt_of_ble rfl)
      apply Wk.gon 48 rfl rfl
      apply Wk.fad 4 0 false fd33_4 rfl (lt_of_ble rfl)
      apply Wk.gon 48 rfl rfl
      apply Wk.ld (i := 3) 1 false ty31 rfl rfl (by conv => lhs; whnf) (lt_of_ble rfl)
      apply Wk.gon 48 rfl rfl
      apply Wk.len un31 rfl (lt_of_ble rfl)
      apply Wk.gon 48 rfl rfl
      apply Wk.bin rfl rfl (r := .bool false) (fun w => by rw [e2]; simp [go_sem] <;> omega) (lt_of_ble rfl)
      apply Wk.pckF rfl (by conv => lhs; whnf) (lt_of_ble rfl)
      apply Wk.mv (by conv => lhs; whnf) (lt_of_ble rfl)
      apply Wk.gon 54 rfl rfl
      apply Wk.fad 6 0 false fd33_6 rfl (lt_of_ble rfl)
      apply Wk.gon 54 rfl rfl
      apply Wk.ld (i := 3) 1 false ty3 rfl rfl (by conv => lhs; whnf) (lt_of_ble rfl)
      apply Wk.gon 54 rfl rfl
      apply Wk.fad 4 0 false fd29_4 rfl (lt_of_ble rfl)
      apply Wk.gon 54 rfl rfl
      apply Wk.ld (i := 2) 1 false ty3 rfl rfl (by conv => lhs; whnf) (lt_of_ble rfl)
      apply Wk.gon 54 rfl rfl
      apply Wk.dat (sinb h7) Try.func40 rfl rfl rfl rfl rfl (lt_of_ble rfl)
      apply Wk.gon 54 rfl rfl
      apply Wk.un rfl (fun w => by simp [go_sem] <;> rfl) (lt_of_ble rfl)
      apply Wk.pckF rfl (by conv => lhs; whnf) (lt_of_ble rfl)
      apply Wk.mv (by conv => lhs; whnf) (lt_of_ble rfl)
      apply Wk.gon 62 rfl rfl
      apply Wk.fad 8 0 false fd33_8 rfl (lt_of_ble rfl)
      apply Wk.gon 62 rfl rfl
      apply Wk.ld (i := 3) 1 false ty3 rfl rfl (by conv => lhs; whnf) (lt_of_ble rfl)
      apply Wk.gon 62 rfl rfl
      apply Wk.dat (sinb h8) Try.func40 rfl rfl rfl rfl rfl (lt_of_ble rfl)
      apply Wk.gon 62 rfl rfl
      apply Wk.un rfl (fun w => by simp [go_sem] <;> rfl) (lt_of_ble rfl)
      apply Wk.pckF rfl (by conv => lhs; whnf) (lt_of_ble rfl)
      apply Wk.mv (by conv => lhs; whnf) (lt_of_ble rfl)
      apply Wk.goff 68 (ok_faddr fd33_8) rfl rfl (by decide)
      apply Wk.goff 68 (ok_load 3 ty3) rfl rfl (by decide)
      apply Wk.goff 68 (ok_datw ((snum_ok 0 (by decide)).w rfl) Try.func42 rfl rfl) rfl rfl (by decide)
      apply Wk.goff 68 (ok_faddr fd33_1) rfl rfl (by decide)
      apply Wk.goff 68 (ok_load 3 ty3) rfl rfl (by decide)
      apply Wk.goff 68 (ok_bin _ _ _ _ _) rfl rfl (by decide)
      apply Wk.pckT rfl (by conv => lhs; whnf) (lt_of_ble rfl)
      refine Wk.nil ?_
      refine AW.cond rfl (fun _ => ?_) (fun hc => by cases hc)
      refine AW.seq ?_
      apply AW.list
      apply Wk.asg (by conv => lhs; whnf) (lt_of_ble rfl)
      refine Wk.nil (AW.ret ?_)
      repeat (first | refine thenA_ret ?_ | refine inBlockA_ret ?_)
      exact RetQ.ret [] (.cons rfl .nil) ⟨rfl, rfl⟩ none_kept
    · rfl
    · rfl
  have hc0 : 0 ≤ c := ((inB_iff _ _ _).1 h8).1
  by_cases h9 : c % 8 = a
  case neg =>
    rw [Bool.true_and, Bool.true_and, Bool.true_and, decide_eq_true h3, Bool.true_and, decide_eq_true h4, Bool.true_and, Bool.true_and, decide_eq_true h6, Bool.true_and, Bool.true_and, Bool.true_and, decide_eq_false h9, Bool.false_and]
    rw [← e1] at h5
    refine Spec.intro (n := 88) (rv := [.tmp 4]) Try.func11 rfl rfl rfl (by simp) fun C hN hX => ?_
    refine AW.seq ?_
    apply AW.list
    apply Wk.bx 2 rfl rfl (lt_of_ble rfl)
    apply Wk.bx 3 rfl rfl (lt_of_ble rfl)
    apply Wk.asg (by conv => lhs; whnf) (lt_of_ble rfl)
    refine Wk.nil ?_
    refine AW.seq (AW.seq ?_)
    apply AW.draw (hm := hmix) (cs := _)
    · apply Wk.ld (i := 2) 5 true ty29 rfl rfl (by conv => lhs; whnf) (lt_of_ble rfl)
      apply Wk.dat (scfgb h0) Try.func36 rfl rfl rfl rfl rfl (lt_of_ble rfl)
      apply Wk.un rfl (fun w => by simp [go_sem] <;> rfl) (lt_of_ble rfl)
      apply Wk.mv (by conv => lhs; whnf) (lt_of_ble rfl)
      apply Wk.gon 8 rfl rfl
      apply Wk.fad 0 0 false fd33_0 rfl (lt_of_ble rfl)
      apply Wk.gon 8 rfl rfl
      apply Wk.ld (i := 3) 1 false ty3 rfl rfl (by conv => lhs; whnf) (lt_of_ble rfl)
      apply Wk.gon 8 rfl rfl
      apply Wk.dat (sinb h1) Try.func40 rfl rfl rfl rfl rfl (lt_of_ble rfl)
      apply Wk.gon 8 rfl rfl
      apply Wk.un rfl (fun w => by simp [go_sem] <;> rfl) (lt_of_ble rfl)
      apply Wk.pckF rfl (by conv => lhs; whnf) (lt_of_ble rfl)
      apply Wk.mv (by conv => lhs; whnf) (lt_of_ble rfl)
      apply Wk.gon 14 rfl rfl
      apply Wk.fad 1 0 false fd33_1 rfl (lt_of_ble rfl)
      apply Wk.gon 14 rfl rfl
      apply Wk.ld (i := 3) 1 false ty3 rfl rfl (by conv => lhs; whnf) (lt_of_ble rfl)
      apply Wk.gon 14 rfl rfl
      apply Wk.dat (sinb h2) Try.func40 rfl rfl rfl rfl rfl (lt_of_ble rfl)
      apply Wk.gon 14 rfl rfl
      apply Wk.un rfl (fun w => by simp [go_sem] <;> rfl) (lt_of_ble rfl)
      apply Wk.pckF rfl (by conv => lhs; whnf) (lt_of_ble rfl)
      apply Wk.mv (by conv => lhs; whnf) (lt_of_ble rfl)
      apply Wk.gon 20 rfl rfl
      apply Wk.fad 2 0 false fd33_2 rfl (lt_of_ble rfl)
      apply Wk.gon 20 rfl rfl
      apply Wk.ld (i := 3) 1 false ty31 rfl rfl (by conv => lhs; whnf) (lt_of_ble rfl)
      apply Wk.gon 20 rfl rfl
      apply Wk.len un31 rfl (lt_of_ble rfl)
      apply Wk.gon 20 rfl rfl
      apply Wk.fad 1 0 false fd29_1 rfl (lt_of_ble rfl)
      apply Wk.gon 20 rfl rfl
      apply Wk.ld (i := 2) 1 false ty3 rfl rfl (by conv => lhs; whnf) (lt_of_ble rfl)
      apply Wk.gon 20 rfl rfl
      apply Wk.bin rfl rfl (r := .bool false) (fun w => by rw [e1]; simp [go_sem] <;> omega) (lt_of_ble rfl)
      apply Wk.pckF rfl (by conv => lhs; whnf) (lt_of_ble rfl)
      apply Wk.mv (by conv => lhs; whnf) (lt_of_ble rfl)
      apply Wk.gon 28 rfl rfl
      apply Wk.fad 1 0 false fd33_1 rfl (lt_of_ble rfl)
      apply Wk.gon 28 rfl rfl
      apply Wk.ld (i := 3) 1 false ty3 rfl rfl (by conv => lhs; whnf) (lt_of_ble rfl)
      apply Wk.gon 28 rfl rfl
      apply Wk.fad 0 0 false fd33_0 rfl (lt_of_ble rfl)
      apply Wk.gon 28 rfl rfl
      apply Wk.ld (i := 3) 1 false ty3 rfl rfl (by conv => lhs; whnf) (lt_of_ble rfl)
      apply Wk.gon 28 rfl rfl
      apply Wk.dat (sfar_ok a n) Try.func41 rfl rfl rfl rfl rfl (lt_of_ble rfl)
      apply Wk.gon 28 rfl rfl
      apply Wk.fad 2 0 false fd33_2 rfl (lt_of_ble rfl)
      apply Wk.gon 28 rfl rfl
      apply Wk.ld (i := 3) 1 false ty31 rfl rfl (by conv => lhs; whnf) (lt_of_ble rfl)
      apply Wk.gon 28 rfl rfl
      apply Wk.len un31 rfl (lt_of_ble rfl)
      apply Wk.gon 28 rfl rfl
      apply Wk.bin rfl rfl (r := .bool false) (fun w => by rw [e1]; simp [go_sem, h4]) (lt_of_ble rfl)
      apply Wk.pckF rfl (by conv => lhs; whnf) (lt_of_ble rfl)
      apply Wk.mv (by conv => lhs; whnf) (lt_of_ble rfl)
      apply Wk.gon 39 rfl rfl
      apply Wk.fad 3 0 false fd33_3 rfl (lt_of_ble rfl)
      apply Wk.gon 39 rfl rfl
      apply Wk.ld (i := 3) 1 false ty3 rfl rfl (by conv => lhs; whnf) (lt_of_ble rfl)
      apply Wk.gon 39 rfl rfl
      apply Wk.fad 2 0 false fd33_2 rfl (lt_of_ble rfl)
      apply Wk.gon 39 rfl rfl
      apply Wk.ld (i := 3) 1 false ty31 rfl rfl (by conv => lhs; whnf) (lt_of_ble rfl)
      apply Wk.gon 39 rfl rfl
      apply Wk.len un31 rfl (lt_of_ble rfl)
      apply Wk.gon 39 rfl rfl
      apply Wk.dat (sinb h5) Try.func40 rfl rfl rfl rfl rfl (lt_of_ble rfl)
      apply Wk.gon 39 rfl rfl
      apply Wk.un rfl (fun w => by simp [go_sem] <;> rfl) (lt_of_ble rfl)
      apply Wk.pckF rfl (by conv => lhs; whnf) (lt_of_ble rfl)
      apply Wk.mv (by conv => lhs; whnf) (lt_of_ble rfl)
      apply Wk.gon 48 rfl rfl
      apply Wk.fad 4 0 false fd33_4 rfl (lt_of_ble rfl)
      apply Wk.gon 48 rfl rfl
      apply Wk.ld (i := 3) 1 false ty31 rfl rfl (by conv => lhs; whnf) (lt_of_ble rfl)
      apply Wk.gon 48 rfl rfl
      apply Wk.len un31 rfl (lt_of_ble rfl)
      apply Wk.gon 48 rfl rfl
      apply Wk.bin rfl rfl (r := .bool false) (fun w => by rw [e2]; simp [go_sem] <;> omega) (lt_of_ble rfl)
      apply Wk.pckF rfl (by conv => lhs; whnf) (lt_of_ble rfl)
      apply Wk.mv (by conv => lhs; whnf) (lt_of_ble rfl)
      apply Wk.gon 54 rfl rfl
      apply Wk.fad 6 0 false fd33_6 rfl (lt_of_ble rfl)
      apply Wk.gon 54 rfl rfl
      apply Wk.ld (i := 3) 1 false ty3 rfl rfl (by conv => lhs; whnf) (lt_of_ble rfl)
      apply Wk.gon 54 rfl rfl
      apply Wk.fad 4 0 false fd29_4 rfl (lt_of_ble rfl)
      apply Wk.gon 54 rfl rfl
      apply Wk.ld (i := 2) 1 false ty3 rfl rfl (by conv => lhs; whnf) (lt_of_ble rfl)
      apply Wk.gon 54 rfl rfl
      apply Wk.dat (sinb h7) Try.func40 rfl rfl rfl rfl rfl (lt_of_ble rfl)
      apply Wk.gon 54 rfl rfl
      apply Wk.un rfl (fun w => by simp [go_sem] <;> rfl) (lt_of_ble rfl)
      apply Wk.pckF rfl (by conv => lhs; whnf) (lt_of_ble rfl)
      apply Wk.mv (by conv => lhs; whnf) (lt_of_ble rfl)
      apply Wk.gon 62 rfl rfl
      apply Wk.fad 8 0 false fd33_8 rfl (lt_of_ble rfl)
      apply Wk.gon 62 rfl rfl
      apply Wk.ld (i := 3) 1 false ty3 rfl rfl (by conv => lhs; whnf) (lt_of_ble rfl)
      apply Wk.gon 62 rfl rfl
      apply Wk.dat (sinb h8) Try.func40 rfl rfl rfl rfl rfl (lt_of_ble rfl)
      apply Wk.gon 62 rfl rfl
      apply Wk.un rfl (fun w => by simp [go_sem] <;> rfl) (lt_of_ble rfl)
      apply Wk.pckF rfl (by conv => lhs; whnf) (lt_of_ble rfl)
      apply Wk.mv (by conv => lhs; whnf) (lt_of_ble rfl)
      apply Wk.gon 68 rfl rfl
      apply Wk.fad 8 0 false fd33_8 rfl (lt_of_ble rfl)
      apply Wk.gon 68 rfl rfl
      apply Wk.ld (i := 3) 1 false ty3 rfl rfl (by conv => lhs; whnf) (lt_of_ble rfl)
      apply Wk.gon 68 rfl rfl
      apply Wk.dat (snum_ok c hc0) Try.func42 rfl rfl rfl rfl rfl (lt_of_ble rfl)
      apply Wk.gon 68 rfl rfl
      apply Wk.fad 1 0 false fd33_1 rfl (lt_of_ble rfl)
      apply Wk.gon 68 rfl rfl
      apply Wk.ld (i := 3) 1 false ty3 rfl rfl (by conv => lhs; whnf) (lt_of_ble rfl)
      apply Wk.gon 68 rfl rfl
      apply Wk.bin rfl rfl (r := .bool true) (fun w => by simp [go_sem, h9]) (lt_of_ble rfl)
      apply Wk.pckF rfl (by conv => lhs; whnf) (lt_of_ble rfl)
      refine Wk.nil ?_
      refine AW.cond rfl (fun _ => ?_) (fun hc => by cases hc)
      refine AW.seq ?_
      apply AW.list
      apply Wk.asg (by conv => lhs; whnf) (lt_of_ble rfl)
      refine Wk.nil (AW.ret ?_)
      repeat (first | refine thenA_ret ?_ | refine inBlockA_ret ?_)
      exact RetQ.ret [] (.cons rfl .nil) ⟨rfl, rfl⟩ none_kept
    · rfl
    · rfl
  rw [Bool.true_and, Bool.true_and, Bool.true_and, decide_eq_true h3, Bool.true_and, decide_eq_true h4, Bool.true_and, Bool.true_and, decide_eq_true h6, Bool.true_and, Bool.true_and, Bool.true_and, decide_eq_true h9, Bool.true_and]
  rw [← e1] at h5
  cases hF : fl.all (partM p0)
  · rw [Bool.false_and]
    refine Spec.intro (n := 88) (rv := [.tmp 4]) Try.func11 rfl rfl rfl (by simp) fun C hN hX => ?_
    refine AW.seq ?_
    apply AW.list
    apply Wk.bx 2 rfl rfl (lt_of_ble rfl)
    apply Wk.bx 3 rfl rfl (lt_of_ble rfl)
    apply Wk.asg (by conv => lhs; whnf) (lt_of_ble rfl)
    refine Wk.nil ?_
    refine AW.seq (AW.seq ?_)
    apply AW.draw (hm := hmix) (cs := _)
    · apply Wk.ld (i := 2) 5 true ty29 rfl rfl (by conv => lhs; whnf) (lt_of_ble rfl)
      apply Wk.dat (scfgb h0) Try.func36 rfl rfl rfl rfl rfl (lt_of_ble rfl)
      apply Wk.un rfl (fun w => by simp [go_sem] <;> rfl) (lt_of_ble rfl)
      apply Wk.mv (by conv => lhs; whnf) (lt_of_ble rfl)
      apply Wk.gon 8 rfl rfl
      apply Wk.fad 0 0 false fd33_0 rfl (lt_of_ble rfl)
      apply Wk.gon 8 rfl rfl
      apply Wk.ld (i := 3) 1 false ty3 rfl rfl (by conv => lhs; whnf) (lt_of_ble rfl)
      apply Wk.gon 8 rfl rfl
      apply Wk.dat (sinb h1) Try.func40 rfl rfl rfl rfl rfl (lt_of_ble rfl)
      apply Wk.gon 8 rfl rfl
      apply Wk.un rfl (fun w => by simp [go_sem] <;> rfl) (lt_of_ble rfl)
      apply Wk.pckF rfl (by conv => lhs; whnf) (lt_of_ble rfl)
      apply Wk.mv (by conv => lhs; whnf) (lt_of_ble rfl)
      apply Wk.gon 14 rfl rfl
      apply Wk.fad 1 0 false fd33_1 rfl (lt_of_ble rfl)
      apply Wk.gon 14 rfl rfl
      apply Wk.ld (i := 3) 1 false ty3 rfl rfl (by conv => lhs; whnf) (lt_of_ble rfl)
      apply Wk.gon 14 rfl rfl
      apply Wk.dat (sinb h2) Try.func40 rfl rfl rfl rfl rfl (lt_of_ble rfl)
      apply Wk.gon 14 rfl rfl
      apply Wk.un rfl (fun w => by simp [go_sem] <;> rfl) (lt_of_ble rfl)
      apply Wk.pckF rfl (by conv => lhs; whnf) (lt_of_ble rfl)
      apply Wk.mv (by conv => lhs; whnf) (lt_of_ble rfl)
      apply Wk.gon 20 rfl rfl
      apply Wk.fad 2 0 false fd33_2 rfl (lt_of_ble rfl)
      apply Wk.gon 20 rfl rfl
      apply Wk.ld (i := 3) 1 false ty31 rfl rfl (by conv => lhs; whnf) (lt_of_ble rfl)
      apply Wk.gon 20 rfl rfl
      apply Wk.len un31 rfl (lt_of_ble rfl)
      apply Wk.gon 20 rfl rfl
      apply Wk.fad 1 0 false fd29_1 rfl (lt_of_ble rfl)
      apply Wk.gon 20 rfl rfl
      apply Wk.ld (i := 2) 1 false ty3 rfl rfl (by conv => lhs; whnf) (lt_of_ble rfl)
      apply Wk.gon 20 rfl rfl
      apply Wk.bin rfl rfl (r := .bool false) (fun w => by rw [e1]; simp [go_sem] <;> omega) (lt_of_ble rfl)
      apply Wk.pckF rfl (by conv => lhs; whnf) (lt_of_ble rfl)
      apply Wk.mv (by conv => lhs; whnf) (lt_of_ble rfl)
      apply Wk.gon 28 rfl rfl
      apply Wk.fad 1 0 false fd33_1 rfl (lt_of_ble rfl)
      apply Wk.gon 28 rfl rfl
      apply Wk.ld (i := 3) 1 false ty3 rfl rfl (by conv => lhs; whnf) (lt_of_ble rfl)
      apply Wk.gon 28 rfl rfl
      apply Wk.fad 0 0 false fd33_0 rfl (lt_of_ble rfl)
      apply Wk.gon 28 rfl rfl
      apply Wk.ld (i := 3) 1 false ty3 rfl rfl (by conv => lhs; whnf) (lt_of_ble rfl)
      apply Wk.gon 28 rfl rfl
      apply Wk.dat (sfar_ok a n) Try.func41 rfl rfl rfl rfl rfl (lt_of_ble rfl)
      apply Wk.gon 28 rfl rfl
      apply Wk.fad 2 0 false fd33_2 rfl (lt_of_ble rfl)
      apply Wk.gon 28 rfl rfl
      apply Wk.ld (i := 3) 1 false ty31 rfl rfl (by conv => lhs; whnf) (lt_of_ble rfl)
      apply Wk.gon 28 rfl rfl
      apply Wk.len un31 rfl (lt_of_ble rfl)
      apply Wk.gon 28 rfl rfl
      apply Wk.bin rfl rfl (r := .bool false) (fun w => by rw [e1]; simp [go_sem, h4]) (lt_of_ble rfl)
      apply Wk.pckF rfl (by conv => lhs; whnf) (lt_of_ble rfl)
      apply Wk.mv (by conv => lhs; whnf) (lt_of_ble rfl)
      apply Wk.gon 39 rfl rfl
      apply Wk.fad 3 0 false fd33_3 rfl (lt_of_ble rfl)
      apply Wk.gon 39 rfl rfl
      apply Wk.ld (i := 3) 1 false ty3 rfl rfl (by conv => lhs; whnf) (lt_of_ble rfl)
      apply Wk.gon 39 rfl rfl
      apply Wk.fad 2 0 false fd33_2 rfl (lt_of_ble rfl)
      apply Wk.gon 39 rfl rfl
      apply Wk.ld (i := 3) 1 false ty31 rfl rfl (by conv => lhs; whnf) (lt_of_ble rfl)
      apply Wk.gon 39 rfl rfl
      apply Wk.len un31 rfl (lt_of_ble rfl)
      apply Wk.gon 39 rfl rfl
      apply Wk.dat (sinb h5) Try.func40 rfl rfl rfl rfl rfl (lt_of_ble rfl)
      apply Wk.gon 39 rfl rfl
      apply Wk.un rfl (fun w => by simp [go_sem] <;> rfl) (lt_of_ble rfl)
      apply Wk.pckF rfl (by conv => lhs; whnf) (lt_of_ble rfl)
      apply Wk.mv (by conv => lhs; whnf) (lt_of_ble rfl)
      apply Wk.gon 48 rfl rfl
      apply Wk.fad 4 0 false fd33_4 rfl (lt_of_ble rfl)
      apply Wk.gon 48 rfl rfl
      apply Wk.ld (i := 3) 1 false ty31 rfl rfl (by conv => lhs; whnf) (lt_of_ble rfl)
      apply Wk.gon 48 rfl rfl
      apply Wk.len un31 rfl (lt_of_ble rfl)
      apply Wk.gon 48 rfl rfl
      apply Wk.bin rfl rfl (r := .bool false) (fun w => by rw [e2]; simp [go_sem] <;> omega) (lt_of_ble rfl)
      apply Wk.pckF rfl (by conv => lhs; whnf) (lt_of_ble rfl)
      apply Wk.mv (by conv => lhs; whnf) (lt_of_ble rfl)
      apply Wk.gon 54 rfl rfl
      apply Wk.fad 6 0 false fd33_6 rfl (lt_of_ble rfl)
      apply Wk.gon 54 rfl rfl
      apply Wk.ld (i := 3) 1 false ty3 rfl rfl (by conv => lhs; whnf) (lt_of_ble rfl)
      apply Wk.gon 54 rfl rfl
      apply Wk.fad 4 0 false fd29_4 rfl (lt_of_ble rfl)
      apply Wk.gon 54 rfl rfl
      apply Wk.ld (i := 2) 1 false ty3 rfl rfl (by conv => lhs; whnf) (lt_of_ble rfl)
      apply Wk.gon 54 rfl rfl
      apply Wk.dat (sinb h7) Try.func40 rfl rfl rfl rfl rfl (lt_of_ble rfl)
      apply Wk.gon 54 rfl rfl
      apply Wk.un rfl (fun w => by simp [go_sem] <;> rfl) (lt_of_ble rfl)
      apply Wk.pckF rfl (by conv => lhs; whnf) (lt_of_ble rfl)
      apply Wk.mv (by conv => lhs; whnf) (lt_of_ble rfl)
      apply Wk.gon 62 rfl rfl
      apply Wk.fad 8 0 false fd33_8 rfl (lt_of_ble rfl)
      apply Wk.gon 62 rfl rfl
      apply Wk.ld (i := 3) 1 false ty3 rfl rfl (by conv => lhs; whnf) (lt_of_ble rfl)
      apply Wk.gon 62 rfl rfl
      apply Wk.dat (sinb h8) Try.func40 rfl rfl rfl rfl rfl (lt_of_ble rfl)
      apply Wk.gon 62 rfl rfl
      apply Wk.un rfl (fun w => by simp [go_sem] <;> rfl) (lt_of_ble rfl)
      apply Wk.pckF rfl (by conv => lhs; whnf) (lt_of_ble rfl)
      apply Wk.mv (by conv => lhs; whnf) (lt_of_ble rfl)
      apply Wk.gon 68 rfl rfl
      apply Wk.fad 8 0 false fd33_8 rfl (lt_of_ble rfl)
      apply Wk.gon 68 rfl rfl
      apply Wk.ld (i := 3) 1 false ty3 rfl rfl (by conv => lhs; whnf) (lt_of_ble rfl)
      apply Wk.gon 68 rfl rfl
      apply Wk.dat (snum_ok c hc0) Try.func42 rfl rfl rfl rfl rfl (lt_of_ble rfl)
      apply Wk.gon 68 rfl rfl
      apply Wk.fad 1 0 false fd33_1 rfl (lt_of_ble rfl)
      apply Wk.gon 68 rfl rfl
      apply Wk.ld (i := 3) 1 false ty3 rfl rfl (by conv => lhs; whnf) (lt_of_ble rfl)
      apply Wk.gon 68 rfl rfl
      apply Wk.bin rfl rfl (r := .bool false) (fun w => by simp [go_sem, h9]) (lt_of_ble rfl)
      apply Wk.pckF rfl (by conv => lhs; whnf) (lt_of_ble rfl)
      refine Wk.nil ?_
      refine AW.cond rfl (fun hc => by cases hc) (fun _ => AW.skip (thenA_normal ?_))
      refine AW.seq ?_
      apply AW.list
      apply Wk.fad 2 0 false fd33_2 rfl (lt_of_ble rfl)
      apply Wk.ld (i := 3) 1 false ty31 rfl rfl (by conv => lhs; whnf) (lt_of_ble rfl)
      apply Wk.fad 2 0 false fd29_2 rfl (lt_of_ble rfl)
      apply Wk.ld (i := 2) 1 false ty3 rfl rfl (by conv => lhs; whnf) (lt_of_ble rfl)
      apply Wk.dat (spartsb fl p0 hF) Try.func43 rfl rfl rfl rfl rfl (lt_of_ble rfl)
      apply Wk.mv (by conv => lhs; whnf) (lt_of_ble rfl)
      apply Wk.goff 81 (ok_faddr fd33_4) rfl rfl (by decide)
      apply Wk.goff 81 (ok_load 3 ty31) rfl rfl (by decide)
      apply Wk.goff 81 (ok_faddr fd29_2) rfl rfl (by decide)
      apply Wk.goff 81 (ok_load 2 ty3) rfl rfl (by decide)
      apply Wk.goff 81 (ok_datw ((sparts_ok qu p0).w rfl) Try.func43 rfl rfl) rfl rfl (by decide)
      apply Wk.pckF rfl (by conv => lhs; whnf) (lt_of_ble rfl)
      apply Wk.asg (by conv => lhs; whnf) (lt_of_ble rfl)
      refine Wk.nil (AW.ret ?_)
      exact RetQ.ret [] (.cons rfl .nil) ⟨rfl, rfl⟩ none_kept
    · rfl
    · rfl
  · rw [Bool.true_and]
    refine Spec.intro (n := 88) (rv := [.tmp 4]) Try.func11 rfl rfl rfl (by simp) fun C hN hX => ?_
    refine AW.seq ?_
    apply AW.list
    apply Wk.bx 2 rfl rfl (lt_of_ble rfl)
    apply Wk.bx 3 rfl rfl (lt_of_ble rfl)
    apply Wk.asg (by conv => lhs; whnf) (lt_of_ble rfl)
    refine Wk.nil ?_
    refine AW.seq (AW.seq ?_)
    apply AW.draw (hm := hmix) (cs := _)
    · apply Wk.ld (i := 2) 5 true ty29 rfl rfl (by conv => lhs; whnf) (lt_of_ble rfl)
      apply Wk.dat (scfgb h0) Try.func36 rfl rfl rfl rfl rfl (lt_of_ble rfl)
      apply Wk.un rfl (fun w => by simp [go_sem] <;> rfl) (lt_of_ble rfl)
      apply Wk.mv (by conv => lhs; whnf) (lt_of_ble rfl)
      apply Wk.gon 8 rfl rfl
      apply Wk.fad 0 0 false fd33_0 rfl (lt_of_ble rfl)
      apply Wk.gon 8 rfl rfl
      apply Wk.ld (i := 3) 1 false ty3 rfl rfl (by conv => lhs; whnf) (lt_of_ble rfl)
      apply Wk.gon 8 rfl rfl
      apply Wk.dat (sinb h1) Try.func40 rfl rfl rfl rfl rfl (lt_of_ble rfl)
      apply Wk.gon 8 rfl rfl
      apply Wk.un rfl (fun w => by simp [go_sem] <;> rfl) (lt_of_ble rfl)
      apply Wk.pckF rfl (by conv => lhs; whnf) (lt_of_ble rfl)
      apply Wk.mv (by conv => lhs; whnf) (lt_of_ble rfl)
      apply Wk.gon 14 rfl rfl
      apply Wk.fad 1 0 false fd33_1 rfl (lt_of_ble rfl)
      apply Wk.gon 14 rfl rfl
      apply Wk.ld (i := 3) 1 false ty3 rfl rfl (by conv => lhs; whnf) (lt_of_ble rfl)
      apply Wk.gon 14 rfl rfl
      apply Wk.dat (sinb h2) Try.func40 rfl rfl rfl rfl rfl (lt_of_ble rfl)
      apply Wk.gon 14 rfl rfl
      apply Wk.un rfl (fun w => by simp [go_sem] <;> rfl) (lt_of_ble rfl)
      apply Wk.pckF rfl (by conv => lhs; whnf) (lt_of_ble rfl)
      apply Wk.mv (by conv => lhs; whnf) (lt_of_ble rfl)
      apply Wk.gon 20 rfl rfl
      apply Wk.fad 2 0 false fd33_2 rfl (lt_of_ble rfl)
      apply Wk.gon 20 rfl rfl
      apply Wk.ld (i := 3) 1 false ty31 rfl rfl (by conv => lhs; whnf) (lt_of_ble rfl)
      apply Wk.gon 20 rfl rfl
      apply Wk.len un31 rfl (lt_of_ble rfl)
      apply Wk.gon 20 rfl rfl
      apply Wk.fad 1 0 false fd29_1 rfl (lt_of_ble rfl)
      apply Wk.gon 20 rfl rfl
      apply Wk.ld (i := 2) 1 false ty3 rfl rfl (by conv => lhs; whnf) (lt_of_ble rfl)
      apply Wk.gon 20 rfl rfl
      apply Wk.bin rfl rfl (r := .bool false) (fun w => by rw [e1]; simp [go_sem] <;> omega) (lt_of_ble rfl)
      apply Wk.pckF rfl (by conv => lhs; whnf) (lt_of_ble rfl)
      apply Wk.mv (by conv => lhs; whnf) (lt_of_ble rfl)
      apply Wk.gon 28 rfl rfl
      apply Wk.fad 1 0 false fd33_1 rfl (lt_of_ble rfl)
      apply Wk.gon 28 rfl rfl
      apply Wk.ld (i := 3) 1 false ty3 rfl rfl (by conv => lhs; whnf) (lt_of_ble rfl)
      apply Wk.gon 28 rfl rfl
      apply Wk.fad 0 0 false fd33_0 rfl (lt_of_ble rfl)
      apply Wk.gon 28 rfl rfl
      apply Wk.ld (i := 3) 1 false ty3 rfl rfl (by conv => lhs; whnf) (lt_of_ble rfl)
      apply Wk.gon 28 rfl rfl
      apply Wk.dat (sfar_ok a n) Try.func41 rfl rfl rfl rfl rfl (lt_of_ble rfl)
      apply Wk.gon 28 rfl rfl
      apply Wk.fad 2 0 false fd33_2 rfl (lt_of_ble rfl)
      apply Wk.gon 28 rfl rfl
      apply Wk.ld (i := 3) 1 false ty31 rfl rfl (by conv => lhs; whnf) (lt_of_ble rfl)
      apply Wk.gon 28 rfl rfl
      apply Wk.len un31 rfl (lt_of_ble rfl)
      apply Wk.gon 28 rfl rfl
      apply Wk.bin rfl rfl (r := .bool false) (fun w => by rw [e1]; simp [go_sem, h4]) (lt_of_ble rfl)
      apply Wk.pckF rfl (by conv => lhs; whnf) (lt_of_ble rfl)
      apply Wk.mv (by conv => lhs; whnf) (lt_of_ble rfl)
      apply Wk.gon 39 rfl rfl
      apply Wk.fad 3 0 false fd33_3 rfl (lt_of_ble rfl)
      apply Wk.gon 39 rfl rfl
      apply Wk.ld (i := 3) 1 false ty3 rfl rfl (by conv => lhs; whnf) (lt_of_ble rfl)
      apply Wk.gon 39 rfl rfl
      apply Wk.fad 2 0 false fd33_2 rfl (lt_of_ble rfl)
      apply Wk.gon 39 rfl rfl
      apply Wk.ld (i := 3) 1 false ty31 rfl rfl (by conv => lhs; whnf) (lt_of_ble rfl)
      apply Wk.gon 39 rfl rfl
      apply Wk.len un31 rfl (lt_of_ble rfl)
      apply Wk.gon 39 rfl rfl
      apply Wk.dat (sinb h5) Try.func40 rfl rfl rfl rfl rfl (lt_of_ble rfl)
      apply Wk.gon 39 rfl rfl
      apply Wk.un rfl (fun w => by simp [go_sem] <;> rfl) (lt_of_ble rfl)
      apply Wk.pckF rfl (by conv => lhs; whnf) (lt_of_ble rfl)
      apply Wk.mv (by conv => lhs; whnf) (lt_of_ble rfl)
      apply Wk.gon 48 rfl rfl
      apply Wk.fad 4 0 false fd33_4 rfl (lt_of_ble rfl)
      apply Wk.gon 48 rfl rfl
      apply Wk.ld (i := 3) 1 false ty31 rfl rfl (by conv => lhs; whnf) (lt_of_ble rfl)
      apply Wk.gon 48 rfl rfl
      apply Wk.len un31 rfl (lt_of_ble rfl)
      apply Wk.gon 48 rfl rfl
      apply Wk.bin rfl rfl (r := .bool false) (fun w => by rw [e2]; simp [go_sem] <;> omega) (lt_of_ble rfl)
      apply Wk.pckF rfl (by conv => lhs; whnf) (lt_of_ble rfl)
      apply Wk.mv (by conv => lhs; whnf) (lt_of_ble rfl)
      apply Wk.gon 54 rfl rfl
      apply Wk.fad 6 0 false fd33_6 rfl (lt_of_ble rfl)
      apply Wk.gon 54 rfl rfl
      apply Wk.ld (i := 3) 1 false ty3 rfl rfl (by conv => lhs; whnf) (lt_of_ble rfl)
      apply Wk.gon 54 rfl rfl
      apply Wk.fad 4 0 false fd29_4 rfl (lt_of_ble rfl)
      apply Wk.gon 54 rfl rfl
      apply Wk.ld (i := 2) 1 false ty3 rfl rfl (by conv => lhs; whnf) (lt_of_ble rfl)
      apply Wk.gon 54 rfl rfl
      apply Wk.dat (sinb h7) Try.func40 rfl rfl rfl rfl rfl (lt_of_ble rfl)
      apply Wk.gon 54 rfl rfl
      apply Wk.un rfl (fun w => by simp [go_sem] <;> rfl) (lt_of_ble rfl)
      apply Wk.pckF rfl (by conv => lhs; whnf) (lt_of_ble rfl)
      apply Wk.mv (by conv => lhs; whnf) (lt_of_ble rfl)
      apply Wk.gon 62 rfl rfl
      apply Wk.fad 8 0 false fd33_8 rfl (lt_of_ble rfl)
      apply Wk.gon 62 rfl rfl
      apply Wk.ld (i := 3) 1 false ty3 rfl rfl (by conv => lhs; whnf) (lt_of_ble rfl)
      apply Wk.gon 62 rfl rfl
      apply Wk.dat (sinb h8) Try.func40 rfl rfl rfl rfl rfl (lt_of_ble rfl)
      apply Wk.gon 62 rfl rfl
      apply Wk.un rfl (fun w => by simp [go_sem] <;> rfl) (lt_of_ble rfl)
      apply Wk.pckF rfl (by conv => lhs; whnf) (lt_of_ble rfl)
      apply Wk.mv (by conv => lhs; whnf) (lt_of_ble rfl)
      apply Wk.gon 68 rfl rfl
      apply Wk.fad 8 0 false fd33_8 rfl (lt_of_ble rfl)
      apply Wk.gon 68 rfl rfl
      apply Wk.ld (i := 3) 1 false ty3 rfl rfl (by conv => lhs; whnf) (lt_of_ble rfl)
      apply Wk.gon 68 rfl rfl
      apply Wk.dat (snum_ok c hc0) Try.func42 rfl rfl rfl rfl rfl (lt_of_ble rfl)
      apply Wk.gon 68 rfl rfl
      apply Wk.fad 1 0 false fd33_1 rfl (lt_of_ble rfl)
      apply Wk.gon 68 rfl rfl
      apply Wk.ld (i := 3) 1 false ty3 rfl rfl (by conv => lhs; whnf) (lt_of_ble rfl)
      apply Wk.gon 68 rfl rfl
      apply Wk.bin rfl rfl (r := .bool false) (fun w => by simp [go_sem, h9]) (lt_of_ble rfl)
      apply Wk.pckF rfl (by conv => lhs; whnf) (lt_of_ble rfl)
      refine Wk.nil ?_
      refine AW.cond rfl (fun hc => by cases hc) (fun _ => AW.skip (thenA_normal ?_))
      refine AW.seq ?_
      apply AW.list
      apply Wk.fad 2 0 false fd33_2 rfl (lt_of_ble rfl)
      apply Wk.ld (i := 3) 1 false ty31 rfl rfl (by conv => lhs; whnf) (lt_of_ble rfl)
      apply Wk.fad 2 0 false fd29_2 rfl (lt_of_ble rfl)
      apply Wk.ld (i := 2) 1 false ty3 rfl rfl (by conv => lhs; whnf) (lt_of_ble rfl)
      apply Wk.dat (spartsb fl p0 hF) Try.func43 rfl rfl rfl rfl rfl (lt_of_ble rfl)
      apply Wk.mv (by conv => lhs; whnf) (lt_of_ble rfl)
      apply Wk.gon 81 rfl rfl
      apply Wk.fad 4 0 false fd33_4 rfl (lt_of_ble rfl)
      apply Wk.gon 81 rfl rfl
      apply Wk.ld (i := 3) 1 false ty31 rfl rfl (by conv => lhs; whnf) (lt_of_ble rfl)
      apply Wk.gon 81 rfl rfl
      apply Wk.fad 2 0 false fd29_2 rfl (lt_of_ble rfl)
      apply Wk.gon 81 rfl rfl
      apply Wk.ld (i := 2) 1 false ty3 rfl rfl (by conv => lhs; whnf) (lt_of_ble rfl)
      apply Wk.gon 81 rfl rfl
      apply Wk.dat (sparts_ok qu p0) Try.func43 rfl rfl rfl rfl rfl (lt_of_ble rfl)
      apply Wk.pckT rfl (by conv => lhs; whnf) (lt_of_ble rfl)
      apply Wk.asg (by conv => lhs; whnf) (lt_of_ble rfl)
      refine Wk.nil (AW.ret ?_)
      exact RetQ.ret [] (.cons rfl .nil) ⟨rfl, rfl⟩ none_kept
    · rfl
    · rfl
end Go.Proofs.Ytdjadeegjbhihaa

/- TxTick of the specification, over what values read as. -/
namespace Go.Proofs.Ytdjadeegjbhihaa
open Go Go.RowKit
def frmG (k s c : Int) (p f : Bool) (y g l : Int) : A := .agg [.d (.v (.int .i64 k)), .d (.v (.int .i64 s)), .d (.v (.int .i64 c)), .d (.v (.bool p)), .d (.v (.bool f)), .d (.v (.int .i64 y)), .d (.v (.int .i64 g)), .d (.v (.int .i64 l)), .d (.v (.slice none 0 0))]
def txNil : A := .agg [.d (.v (.int .i64 0)), .d (.v (.int .i64 0)), .d (.v (.slice none 0 0)), .d (.v (.int .i64 0)), .d (.v (.slice none 0 0)), .d (.v (.bool false)), .d (.v (.int .i64 0)), .d (.v (.bool false)), .d (.v (.int .i64 0)), .d (.v (.bool false))]
theorem stxb {m0 w0 p0 u0 y0 : Int} {x : TX} {b : Bool} (h : txOkB ⟨m0, w0, p0, u0, y0⟩ x = b) : DataOk Try.prog 11 [cfgA m0 w0 p0 u0 y0, txA x] (.d (.v (.bool b))) := h ▸ stx_ok m0 w0 p0 u0 y0 x
end Go.Proofs.Ytdjadeegjbhihaa

/- TxLeft, both sides'; what TxPut does to a copy. -/
namespace Go.Proofs.Ytdjadeegjbhihaa
open Go Go.RowKit
set_option maxRecDepth 100000 in
theorem sleft_ok (x : TX) (h1 : x.fl.length ≤ 2000000) (h2 : x.qu.length ≤ 2000000) : DataOk Try.prog 16 [txA x] (.d (.v (.int .i64 ((x.fl.length : Int) + (x.qu.length : Int))))) := by
  obtain ⟨n, a, fl, s, qu, q, t, h, c, d⟩ := x
  simp only at h1 h2 ⊢
  have e1 : (((fl.map datD).length : Nat) : Int) = (fl.length : Int) := by rw [List.length_map]
  have e2 : (((qu.map datD).length : Nat) : Int) = (qu.length : Int) := by rw [List.length_map]
  refine Spec.intro (n := 10) (rv := [.tmp 2]) Try.func16 rfl rfl rfl (by simp) fun C hN hX => ?_
  refine AW.seq ?_
  apply AW.list
  apply Wk.bx 1 rfl rfl (lt_of_ble rfl)
  apply Wk.asg (by conv => lhs; whnf) (lt_of_ble rfl)
  refine Wk.nil ?_
  refine AW.seq ?_
  apply AW.list
  apply Wk.fad 2 0 false fd33_2 rfl (lt_of_ble rfl)
  apply Wk.ld (i := 1) 1 false ty31 rfl rfl (by conv => lhs; whnf) (lt_of_ble rfl)
  apply Wk.len un31 rfl (lt_of_ble rfl)
  apply Wk.fad 4 0 false fd33_4 rfl (lt_of_ble rfl)
  apply Wk.ld (i := 1) 1 false ty31 rfl rfl (by conv => lhs; whnf) (lt_of_ble rfl)
  apply Wk.len un31 rfl (lt_of_ble rfl)
  apply Wk.addi rfl rfl (by rw [e1, e2]; omega) (lt_of_ble rfl)
  apply Wk.asg (by conv => lhs; whnf) (lt_of_ble rfl)
  refine Wk.nil (AW.ret ?_)
  exact RetQ.ret [] (.cons rfl .nil) ⟨by rw [e1, e2]; rfl, rfl⟩ none_kept
set_option maxRecDepth 100000 in
theorem ileft_ok (x : TX) (h1 : x.fl.length ≤ 2000000) (h2 : x.qu.length ≤ 2000000) : DataOk Try.prog 17 [txA x] (.d (.v (.int .i64 ((x.fl.length : Int) + (x.qu.length : Int))))) := by
  obtain ⟨n, a, fl, s, qu, q, t, h, c, d⟩ := x
  simp only at h1 h2 ⊢
  have e1 : (((fl.map datD).length : Nat) : Int) = (fl.length : Int) := by rw [List.length_map]
  have e2 : (((qu.map datD).length : Nat) : Int) = (qu.length : Int) := by rw [List.length_map]
  refine Spec.intro (n := 10) (rv := [.tmp 2]) Try.func17 rfl rfl rfl (by simp) fun C hN hX => ?_
  refine AW.seq ?_
  apply AW.list
  apply Wk.bx 1 rfl rfl (lt_of_ble rfl)
  apply Wk.asg (by conv => lhs; whnf) (lt_of_ble rfl)
  refine Wk.nil ?_
  refine AW.seq ?_
  apply AW.list
  apply Wk.fad 2 0 false fd33_2 rfl (lt_of_ble rfl)
  apply Wk.ld (i := 1) 1 false ty31 rfl rfl (by conv => lhs; whnf) (lt_of_ble rfl)
  apply Wk.len un31 rfl (lt_of_ble rfl)
  apply Wk.fad 4 0 false fd33_4 rfl (lt_of_ble rfl)
  apply Wk.ld (i := 1) 1 false ty31 rfl rfl (by conv => lhs; whnf) (lt_of_ble rfl)
  apply Wk.len un31 rfl (lt_of_ble rfl)
  apply Wk.addi rfl rfl (by rw [e1, e2]; omega) (lt_of_ble rfl)
  apply Wk.asg (by conv => lhs; whnf) (lt_of_ble rfl)
  refine Wk.nil (AW.ret ?_)
  exact RetQ.ret [] (.cons rfl .nil) ⟨by rw [e1, e2]; rfl, rfl⟩ none_kept
/-- Boxes of the two lists. -/
def txB (fl qu : List Dat) (k l : Nat) : List (Nat × Bx) := [(5, .own k 115 3 (piecesA fl)), (66, .own l 115 3 (piecesA qu))]
/-- A message does not fit. -/
def full (u : Int) (x : TX) (n k : Nat) : Prop := x.d = true ∨ u < (n : Int) ∨ 24 < x.qu.length + k
end Go.Proofs.Ytdjadeegjbhihaa

/- SegCut over what values read as: lists of pieces. -/
namespace Go.Proofs.Ytdjadeegjbhihaa
open Go Go.RowKit
theorem ownP_den {w : World} {B : Nat} {v : Value} {qs : List Pc} (h : OwnP w B v qs) : FDen w (fun b => B ≤ b ∧ b < w.heap.size) (partsD (qs.map Pc.dat)) v := by
  let f : Pc → List A := fun q => [.d (.v (.int .i64 q.seg)), .d (.v (.int .i64 q.len)), .d (bytesD q.bs)]
  have h0 : w.ownsRow 0 115 3 v (qs.map f).length (pcells qs) := by
    have h' := h.1
    rw [List.length_map]
    refine ⟨h'.1, ?_⟩
    rcases h'.2 with h1 | ⟨g, cap, cur, h1, h2, h3⟩
    · exact .inl h1
    · exact .inr ⟨g, cap, cur, h1, Nat.zero_le _, h3⟩
  have hp : Pw (CellOk w (fun b => B ≤ b ∧ b < w.heap.size) (fun _ => none) (fun _ _ => none)) (qs.map f).flatten (pcells qs) := by
    have key : ∀ qs : List Pc, (∀ q ∈ qs, Own w B q.u q.bs) → Pw (CellOk w (fun b => B ≤ b ∧ b < w.heap.size) (fun _ => none) (fun _ _ => none)) (qs.map f).flatten (pcells qs) := by
      intro qs hq
      induction qs with
      | nil => exact Pw.nil
      | cons q qs ih =>
        rw [List.map_cons, List.flatten_cons, pcells_cons]
        refine Pw.append ⟨rfl, fun j a u ha hu => ?_⟩ (ih fun x hx => hq x (List.mem_cons_of_mem _ hx))
        have ho := hq q List.mem_cons_self
        have h1 : q.u.oneCell' = true := by
          rcases (show w.ownsRow B 5 1 q.u _ _ from ho).2 with h | ⟨_, _, _, h, _⟩
          · rw [h.1]; rfl
          · rw [h]; rfl
        match j with
        | 0 => obtain rfl := Option.some.inj ha; obtain rfl := Option.some.inj hu; exact ⟨rfl, .d _ _ (.v _)⟩
        | 1 => obtain rfl := Option.some.inj ha; obtain rfl := Option.some.inj hu; exact ⟨rfl, .d _ _ (.v _)⟩
        | 2 => obtain rfl := Option.some.inj ha; obtain rfl := Option.some.inj hu; exact ⟨h1, .d _ _ (own_den ho)⟩
        | _ + 3 => simp [f] at ha
    exact key qs h.2.1
  have := own_rowA h0 (by intro c hc; obtain ⟨q, _, rfl⟩ := List.mem_map.1 hc; rfl) hp (ds := (qs.map Pc.dat).map datD) (by
    simp only [asData, List.map_map]
    refine List.map_congr_left fun q _ => ?_
    simp [f, nrms, nrm, datD, Pc.dat, bytesD])
  refine this.mono (fun b hb => ?_) (fun _ _ => rfl)
  rcases hb with hb | hb
  · exact hb
  · exact World.ownsRow.lt h.1 b hb
theorem cut_den {B : Nat} {zs : List Nat} {m : Int} {e : Ending} {w : World} {E : Nat → Option Nat} {H : Nat → Nat → Option Value} (h : CutAns B zs m e w) : ∃ v, e = .returned v ∧ Den w (fun b => B ≤ b ∧ b < w.heap.size) E H (.d (partsD (cutD zs m))) v := by
  obtain ⟨v, qs, rfl, ho, hd⟩ := h
  exact ⟨v, rfl, .d _ _ (hd ▸ ownP_den ho)⟩
end Go.Proofs.Ytdjadeegjbhihaa

/- TxPut of the specification, over what values read as: what it answers are lists of the call's own. -/
namespace Go.Proofs.Ytdjadeegjbhihaa
open Go Go.RowKit
theorem lookup2 {i j : Nat} {x y : Bx} {q : Nat} {z : Bx} (h : [(i, x), (j, y)].lookup q = some z) : (q = i ∧ z = x) ∨ (q = j ∧ z = y) := by
  rw [List.lookup_cons] at h
  split at h
  · rename_i e; exact .inl ⟨eq_of_beq e, (Option.some.inj h).symm⟩
  · rw [List.lookup_cons] at h
    split at h
    · rename_i e; exact .inr ⟨eq_of_beq e, (Option.some.inj h).symm⟩
    · cases h
theorem in_txB {fl qu : List Dat} {k l q : Nat} {z : Bx} (h : (txB fl qu k l).lookup q = some z) : q ∈ [5, 66] ∧ z.within [5, 66] = true := by
  rcases lookup2 h with ⟨rfl, rfl⟩ | ⟨rfl, rfl⟩
  · exact ⟨by simp, by simp [Bx.within, within_parts]⟩
  · exact ⟨by simp, by simp [Bx.within, within_parts]⟩
theorem in_txO (x : TX) (k l : Nat) : (txO x 5 k 66 l).within [5, 66] = true := by simp [txO, A.within, A.withins]
theorem in_copy (x : TX) (k l : Nat) : PostIn [5, 66] (fun r bs => r = txO x 5 k 66 l ∧ bs = txB x.fl x.qu k l) := by
  rintro r bs ⟨rfl, rfl⟩
  exact ⟨in_txO x k l, fun i z h => in_txB h⟩
theorem in_put (x : TX) (k l : Nat) (b : Bool) : PostIn [5, 66] (fun r bs => r = .tup [txO x 5 k 66 l, .d (.v (.bool b))] ∧ bs = txB x.fl x.qu k l) := by
  rintro r bs ⟨rfl, rfl⟩
  exact ⟨by simp [A.within, A.withins, in_txO], fun i z h => in_txB h⟩
theorem two_in {σ : St} {i j : Nat} {K : List Nat} (h1 : (σ.b i).within K = true) (h2 : (σ.b j).within K = true) : ∀ q ∈ [i, j], (σ.b q).within K = true := by
  intro q hq
  rcases List.mem_cons.1 hq with rfl | hq
  · exact h1
  · obtain rfl := List.mem_singleton.1 hq; exact h2
def txN : List A := [.d (.v (.int .i64 0)), .d (.v (.int .i64 0)), .d (.v (.slice none 0 0)), .d (.v (.int .i64 0)), .d (.v (.slice none 0 0)), .d (.v (.bool false)), .d (.v (.int .i64 0)), .d (.v (.bool false)), .d (.v (.int .i64 0)), .d (.v (.bool false))]
def txC (x : TX) : List A := [.d (.v (.int .i64 x.n)), .d (.v (.int .i64 x.a)), .d (partsD x.fl), .d (.v (.int .i64 x.s)), .d (partsD x.qu), .d (.v (.bool x.q)), .d (.v (.int .i64 x.t)), .d (.v (.bool x.h)), .d (.v (.int .i64 x.c)), .d (.v (.bool x.d))]
end Go.Proofs.Ytdjadeegjbhihaa

/- TxTick of the specification with lists of the call's own; a copy of which one list is the call's own; a piece's frame. -/
namespace Go.Proofs.Ytdjadeegjbhihaa
open Go Go.RowKit
theorem lookup1 {i : Nat} {x : Bx} {q : Nat} {z : Bx} (h : [(i, x)].lookup q = some z) : q = i ∧ z = x := by
  rw [List.lookup_cons] at h
  split at h
  · rename_i e; exact ⟨eq_of_beq e, (Option.some.inj h).symm⟩
  · cases h
/-- Who sends, with what is on its way as the call's own list. -/
def txF (x : TX) (i k : Nat) : A := .agg [.d (.v (.int .i64 x.n)), .d (.v (.int .i64 x.a)), .own i k, .d (.v (.int .i64 x.s)), .d (partsD x.qu), .d (.v (.bool x.q)), .d (.v (.int .i64 x.t)), .d (.v (.bool x.h)), .d (.v (.int .i64 x.c)), .d (.v (.bool x.d))]
def flB (fl : List Dat) (k : Nat) : List (Nat × Bx) := [(5, .own k 115 3 (piecesA fl))]
theorem in_flB {fl : List Dat} {k q : Nat} {z : Bx} (h : (flB fl k).lookup q = some z) : q ∈ [5] ∧ z.within [5] = true := by
  obtain ⟨rfl, rfl⟩ := lookup1 h
  exact ⟨by simp, by simp [Bx.within, within_parts]⟩
theorem in_copyF (x : TX) (k : Nat) : PostIn [5] (fun r bs => r = txF x 5 k ∧ bs = flB x.fl k) := by
  rintro r bs ⟨rfl, rfl⟩
  exact ⟨by simp [txF, A.within, A.withins], fun i z h => in_flB h⟩
theorem in_tick (x : TX) (k l : Nat) (f : A) (b : Bool) (hf : f.within [5, 66] = true) : PostIn [5, 66] (fun r bs => r = .tup [txO x 5 k 66 l, f, .d (.v (.bool b))] ∧ bs = txB x.fl x.qu k l) := by
  rintro r bs ⟨rfl, rfl⟩
  exact ⟨by simp [A.within, A.withins, in_txO, hf], fun i z h => in_txB h⟩
def frmNC : List A := [.d (.v (.int .i64 0)), .d (.v (.int .i64 0)), .d (.v (.int .i64 0)), .d (.v (.bool false)), .d (.v (.bool false)), .d (.v (.int .i64 0)), .d (.v (.int .i64 0)), .d (.v (.int .i64 0)), .d (.v (.slice none 0 0))]
def frmGC (k s c : Int) (p f : Bool) (y g l : Int) : List A := [.d (.v (.int .i64 k)), .d (.v (.int .i64 s)), .d (.v (.int .i64 c)), .d (.v (.bool p)), .d (.v (.bool f)), .d (.v (.int .i64 y)), .d (.v (.int .i64 g)), .d (.v (.int .i64 l)), .d (.v (.slice none 0 0))]
def frmD (k s c : Int) (p f : Bool) (y g l : Int) (zs : List Nat) : A := .agg [.d (.v (.int .i64 k)), .d (.v (.int .i64 s)), .d (.v (.int .i64 c)), .d (.v (.bool p)), .d (.v (.bool f)), .d (.v (.int .i64 y)), .d (.v (.int .i64 g)), .d (.v (.int .i64 l)), .d (bytesD zs)]
end Go.Proofs.Ytdjadeegjbhihaa

/- l6Send of the specification, over what values read as. Written by tools/mk_AbsTxSend.py. -/
namespace Go.Proofs.Ytdjadeegjbhihaa
open Go Go.RowKit
theorem pieces_at {fl : List Dat} {i : Nat} {d : Dat} (h : fl[i]? = some d) : partA (piecesA fl).flatten (i * 3) 3 true = some (partN d) := by
  have key : ∀ (fl : List Dat) (i : Nat) (d : Dat), fl[i]? = some d → (piecesA fl).flatten.length = fl.length * 3 ∧ ((piecesA fl).flatten.drop (i * 3)).take 3 = (datD d).map A.d := by
    intro fl
    induction fl with
    | nil => intro i d h; simp at h
    | cons e fl ih =>
      intro i d h
      have hl : ∀ fl : List Dat, (piecesA fl).flatten.length = fl.length * 3 := by
        intro fl
        induction fl with
        | nil => rfl
        | cons e fl ih => simp only [piecesA, List.map_cons, List.flatten_cons, List.length_append, List.length_cons]; rw [show ((List.map (fun d => (datD d).map A.d) fl).flatten).length = fl.length * 3 from ih]; simp [datD]; omega
      refine ⟨hl _, ?_⟩
      cases i with
      | zero => obtain rfl : e = d := by simpa using h
                simp [piecesA, datD]
      | succ i =>
        have h' : fl[i]? = some d := by simpa using h
        have := (ih i d h').2
        simp only [piecesA, List.map_cons, List.flatten_cons]
        rw [show (i + 1) * 3 = ((datD e).map A.d).length + i * 3 by simp [datD]; omega, ← List.drop_drop, List.drop_left]
        exact this
  obtain ⟨h1, h2⟩ := key fl i d h
  have hi := (List.getElem?_eq_some_iff.1 h).1
  rw [partA, if_pos rfl, if_pos (by rw [h1]; omega), h2]
  rfl
def cfgC (m w p u y : Int) : List A := [.d (.v (.int .i64 m)), .d (.v (.int .i64 w)), .d (.v (.int .i64 p)), .d (.v (.int .i64 u)), .d (.v (.int .i64 y))]
def txOC (x : TX) (i k j l : Nat) : List A := [.d (.v (.int .i64 x.n)), .d (.v (.int .i64 x.a)), .own i k, .d (.v (.int .i64 x.s)), .own j l, .d (.v (.bool x.q)), .d (.v (.int .i64 x.t)), .d (.v (.bool x.h)), .d (.v (.int .i64 x.c)), .d (.v (.bool x.d))]
/-- Nothing is sent. -/
def idleB (w : Int) (x : TX) : Prop := x.d = true ∨ x.q = true ∨ x.h = true ∨ (x.s = (x.fl.length : Int) ∧ ((x.fl.length : Int) = w ∨ x.qu = [] ∨ 9999 ≤ x.c + (x.fl.length : Int)))
theorem in_send (x : TX) (k : Nat) (f : A) (b : Bool) (hf : f.within [5] = true) : PostIn [5] (fun r bs => r = .tup [txF x 5 k, f, .d (.v (.bool b))] ∧ bs = flB x.fl k) := by
  rintro r bs ⟨rfl, rfl⟩
  exact ⟨by simp [A.within, A.withins, txF, hf], fun i z h => in_flB h⟩
end Go.Proofs.Ytdjadeegjbhihaa

/- TxSend of the specification, over what values read as. Written by tools/mk_AbsTxSend2.py. -/
namespace Go.Proofs.Ytdjadeegjbhihaa
open Go Go.RowKit
theorem one_in {σ : St} {i : Nat} {K : List Nat} (h1 : (σ.b i).within K = true) : ∀ q ∈ [i], (σ.b q).within K = true := by
  intro q hq
  obtain rfl := List.mem_singleton.1 hq
  exact h1
/-- A frame's cells, its bytes whatever they read as. -/
def frmZC (k s c : Int) (p f : Bool) (y g l : Int) (z : D) : List A := [.d (.v (.int .i64 k)), .d (.v (.int .i64 s)), .d (.v (.int .i64 c)), .d (.v (.bool p)), .d (.v (.bool f)), .d (.v (.int .i64 y)), .d (.v (.int .i64 g)), .d (.v (.int .i64 l)), .d z]
def frmZ (k s c : Int) (p f : Bool) (y g l : Int) (z : D) : A := .agg (frmZC k s c p f y g l z)
theorem in_send2 (x : TX) (k l : Nat) (k0 s c : Int) (p f : Bool) (y g l0 : Int) (z : D) (b : Bool) : PostIn [5, 66] (fun r bs => r = .tup [txO x 5 k 66 l, frmZ k0 s c p f y g l0 z, .d (.v (.bool b))] ∧ bs = txB x.fl x.qu k l) := by
  rintro r bs ⟨rfl, rfl⟩
  exact ⟨by simp [A.within, A.withins, txO, frmZ, frmZC], fun i z h => in_txB h⟩
end Go.Proofs.Ytdjadeegjbhihaa

/- What comes of pieces that have come: l6Acked of the specification, over what values read as. -/
namespace Go.Proofs.Ytdjadeegjbhihaa
open Go Go.RowKit
end Go.Proofs.Ytdjadeegjbhihaa

/- l6Hear and TxHear of the specification, over what values read as. Written by tools/mk_AbsTxHearS.py. -/
namespace Go.Proofs.Ytdjadeegjbhihaa
open Go Go.RowKit
/-- Who sends behind: pieces have come; what is said. -/
def ackX (x : TX) (ack : Int) : TX := if (x.fl.length : Int) < farF x.a ack then { x with d := true } else { x with a := ack, fl := x.fl.drop (farF x.a ack).toNat, s := max 0 (x.s - farF x.a ack), c := x.c + farF x.a ack }
def said1 (k y : Int) (z : TX) : TX := if k = 2 then { z with h := decide (y = 2) } else z
def said2 (f : Bool) (z : TX) : TX := if f = true ∧ z.q = true then { z with q := false, t := 0, s := 0 } else z
def said3 (k y : Int) (z : TX) : TX := if k = 2 ∧ y = 1 ∧ z.q = false then { z with s := 0 } else z
def hearX (x : TX) (k ack : Int) (f : Bool) (y : Int) : TX :=
  if x.d = true then x else if (ackX x ack).d = true ∨ (k ≠ 2 ∧ f = false) then ackX x ack else said3 k y (said2 f (said1 k y (ackX x ack)))
theorem far_nonneg {a b : Int} (ha : inB a 0 7 = true) (hb : inB b 0 7 = true) : 0 ≤ farF a b ∧ farF a b < 8 := by
  have h1 := (inB_iff _ _ _).1 ha
  have h2 := (inB_iff _ _ _).1 hb
  rw [farF_in (by omega) (by omega)]
  omega
end Go.Proofs.Ytdjadeegjbhihaa

/- TxHear of the specification, over what values read as. Written by tools/mk_AbsTxHearT.py. -/
namespace Go.Proofs.Ytdjadeegjbhihaa
open Go Go.RowKit
end Go.Proofs.Ytdjadeegjbhihaa

/- What is told of who sends that is ok. -/
namespace Go.Proofs.Ytdjadeegjbhihaa
open Go Go.RowKit
theorem partM_len {p : Int} {d : Dat} (h : partM p d = true) : d.2.2.length ≤ 8 := by
  simp only [partM, pieceB, Bool.and_eq_true, decide_eq_true_eq] at h
  exact h.1.1
theorem txOk_facts {o : Opt} {x : TX} (h : txOkB o x = true) : (1 ≤ o.mode ∧ o.mode ≤ 2) ∧ (1 ≤ o.win ∧ o.win ≤ 4) ∧ (1 ≤ o.mps ∧ o.mps ≤ 8) ∧ (1 ≤ o.mtu ∧ o.mtu ≤ 24) ∧ (1 ≤ o.tri ∧ o.tri ≤ 5) ∧ inB x.n 0 7 = true ∧ inB x.a 0 7 = true ∧ (x.fl.length : Int) ≤ o.win ∧ farF x.a x.n = (x.fl.length : Int) ∧ (0 ≤ x.s ∧ x.s ≤ (x.fl.length : Int)) ∧ x.qu.length ≤ 24 ∧ (0 ≤ x.t ∧ x.t ≤ o.tri) ∧ (0 ≤ x.c ∧ x.c ≤ 9999) ∧ x.c % 8 = x.a ∧ (∀ d ∈ x.fl, partM o.mps d = true) ∧ (∀ d ∈ x.qu, partM o.mps d = true) := by
  simp only [txOkB, Opt.ok, Bool.and_eq_true, decide_eq_true_eq, List.all_eq_true] at h
  obtain ⟨⟨⟨⟨⟨h1, h2⟩, h3⟩, h4⟩, h5⟩, h6, h7, h8, h9, h10, h11, h12, h13, h14, h15, h16⟩ := h
  exact ⟨(inB_iff _ _ _).1 h1, (inB_iff _ _ _).1 h2, (inB_iff _ _ _).1 h3, (inB_iff _ _ _).1 h4, (inB_iff _ _ _).1 h5, h6, h7, h8, h9, (inB_iff _ _ _).1 h10, h11, (inB_iff _ _ _).1 h12, (inB_iff _ _ _).1 h13, h14, h15, h16⟩
end Go.Proofs.Ytdjadeegjbhihaa

/- A call by a contract for all that may be handed to it (FunX, Wk.fnx); what who sends may be behind each step, weakly: for draws. -/
namespace Go.Proofs.Ytdjadeegjbhihaa
open Go Go.RowKit
/-- Who sends, within bounds. -/
def TX.good (cm : Int) (x : TX) : Prop := (0 ≤ x.n ∧ x.n ≤ 7) ∧ (0 ≤ x.a ∧ x.a ≤ 7) ∧ (x.fl.length ≤ 10 ∧ ∀ d ∈ x.fl, (Byt d.2.2 ∧ d.2.2.length ≤ 24)) ∧ (0 ≤ x.s ∧ x.s ≤ 10) ∧ (x.qu.length ≤ 24 ∧ ∀ d ∈ x.qu, (Byt d.2.2 ∧ d.2.2.length ≤ 24)) ∧ (0 ≤ x.t ∧ x.t ≤ 10) ∧ (0 ≤ x.c ∧ x.c ≤ cm)
theorem TX.good.mono {cm cm2 : Int} {x : TX} (h : x.good cm) (hm : cm ≤ cm2) : x.good cm2 := ⟨h.1, h.2.1, h.2.2.1, h.2.2.2.1, h.2.2.2.2.1, h.2.2.2.2.2.1, by have := h.2.2.2.2.2.2; omega⟩
theorem TX.good.few {cm : Int} {x : TX} (h : x.good cm) : x.few := ⟨⟨by have := h.2.2.1.1; omega, fun d hd => by have := h.2.2.1.2 d hd; omega⟩, ⟨by have := h.2.2.2.2.1.1; omega, fun d hd => by have := h.2.2.2.2.1.2 d hd; omega⟩⟩
/-- What comes: who sends, with lists of the call's own, or nothing. -/
def TxR (cm : Int) (r : A) (bs : List (Nat × Bx)) : Prop := (∃ x : TX, x.good cm ∧ r = txO x 5 x.fl.length 66 x.qu.length ∧ bs = txB x.fl x.qu x.fl.length x.qu.length) ∨ (r = txNil ∧ bs = [])
theorem TxR.in_ {cm : Int} {r : A} {bs : List (Nat × Bx)} (h : TxR cm r bs) : r.within [5, 66] = true ∧ ∀ i x, bs.lookup i = some x → i ∈ [5, 66] ∧ x.within [5, 66] = true := by
  rcases h with ⟨x, _, rfl, rfl⟩ | ⟨rfl, rfl⟩
  · exact ⟨in_txO _ _ _, fun i z h => in_txB h⟩
  · exact ⟨rfl, fun i z h => by cases h⟩
def putPre (cm : Int) (aas : List A) : Prop := ∃ (m w p u y : Int) (x : TX) (bs : List (Fin 256)), aas = [cfgA m w p u y, txA x, .d (fbytes bs)] ∧ x.good cm ∧ bs.length ≤ 1000
def putPost (cm : Int) (_ : List A) (r : A) (bs : List (Nat × Bx)) : Prop := ∃ (T : A) (b : Bool), r = .tup [T, .d (.v (.bool b))] ∧ TxR cm T bs
def stepPost (cm : Int) (_ : List A) (r : A) (bs : List (Nat × Bx)) : Prop := ∃ (T : A) (k s c : Int) (p f : Bool) (y g l : Int) (z : D) (b : Bool), r = .tup [T, frmZ k s c p f y g l z, .d (.v (.bool b))] ∧ TxR cm T bs
def tickPre (cm : Int) (aas : List A) : Prop := ∃ (m w p u y : Int) (x : TX) (bu : Bool), aas = [cfgA m w p u y, txA x, .d (.v (.int .i64 0)), .d (.v (.bool bu))] ∧ x.good cm
def sendPre (cm : Int) (aas : List A) : Prop := ∃ (m w p u y : Int) (x : TX), aas = [cfgA m w p u y, txA x, .d (.v (.int .i64 0))] ∧ x.good cm
def hearPre (cm : Int) (aas : List A) : Prop := ∃ (m w p u y : Int) (x : TX) (ack : Int) (f : Bool) (say : Int), aas = [cfgA m w p u y, txA x, frmZ 2 0 ack false f say 0 0 (bytesD [])] ∧ x.good cm ∧ (0 ≤ ack ∧ ack ≤ 7) ∧ (0 ≤ say ∧ say ≤ 2)
theorem stepPost_in {cm : Int} {aas : List A} {r : A} {bs : List (Nat × Bx)} (h : stepPost cm aas r bs) : r.within [5, 66] = true ∧ ∀ i x, bs.lookup i = some x → i ∈ [5, 66] ∧ x.within [5, 66] = true := by
  obtain ⟨T, k, s, c, p, f, y, g, l, z, b, rfl, h⟩ := h
  have := h.in_
  exact ⟨by simp [A.within, A.withins, this.1, frmZ, frmZC], this.2⟩
theorem hearX_good {cm : Int} {x : TX} {k ack : Int} {f : Bool} {y : Int} (hx : x.good cm) (ha : inB x.a 0 7 = true) (hk : inB ack 0 7 = true) : (hearX x k ack f y).good (cm + 8) := by
  have hf := far_nonneg ha hk
  have hk' := (inB_iff _ _ _).1 hk
  have h1 : (ackX x ack).good (cm + 8) := by
    unfold ackX
    split
    · exact hx.mono (by omega)
    · refine ⟨hx.1, by simp only; omega, ⟨by simp only [List.length_drop]; have := hx.2.2.1.1; omega, fun d hd => hx.2.2.1.2 d (List.mem_of_mem_drop hd)⟩, ?_, hx.2.2.2.2.1, hx.2.2.2.2.2.1, ?_⟩
      · have := hx.2.2.2.1; simp only; omega
      · have := hx.2.2.2.2.2.2; simp only; omega
  have h2 : ∀ z : TX, z.good (cm + 8) → (said1 k y z).good (cm + 8) := fun z hz => by unfold said1; split <;> exact hz
  have h3 : ∀ z : TX, z.good (cm + 8) → (said2 f z).good (cm + 8) := fun z hz => by
    unfold said2
    split
    · exact ⟨hz.1, hz.2.1, hz.2.2.1, by simp only; omega, hz.2.2.2.2.1, by simp only; omega, hz.2.2.2.2.2.2⟩
    · exact hz
  have h4 : ∀ z : TX, z.good (cm + 8) → (said3 k y z).good (cm + 8) := fun z hz => by
    unfold said3
    split
    · exact ⟨hz.1, hz.2.1, hz.2.2.1, by simp only; omega, hz.2.2.2.2⟩
    · exact hz
  unfold hearX
  split
  · exact hx.mono (by omega)
  · split
    · exact h1
    · exact h4 _ (h3 _ (h2 _ h1))
end Go.Proofs.Ytdjadeegjbhihaa

/- TxOk of the program, over what values read as. Written by tools/mk_AbsTxOkI.py. -/
namespace Go.Proofs.Ytdjadeegjbhihaa
open Go Go.RowKit
/-- The number of what is so many on, as the program answers it. -/
def numI (n : Int) : Int := if n < 0 then -1 else n % 8
theorem inum_ok (n : Int) : DataOk Try.prog 46 [.d (.v (.int .i64 n))] (.d (.v (.int .i64 (numI n)))) := by
  by_cases h : n < 0
  · rw [numI, if_pos h]; exact int1 (impl_numof_no n h)
  · rw [numI, if_neg h]; exact int1 (impl_numof n (by omega))
theorem inoneb {n hi : Int} {b : Bool} (h : inB n 0 hi = b) : DataOk Try.prog 47 [.d (.v (.int .i64 n)), .d (.v (.int .i64 hi))] (.d (.v (.bool b))) := by
  subst h
  refine DataOk.lift fun w F E H args _ hs hd => ?_
  obtain ⟨v, u, rfl, hv, hu⟩ := args2 hs hd
  obtain rfl := den_v hv
  obtain rfl := den_v hu
  go_enter Try.func47, Try.ntmps47
  go_wp2
  all_goals
    go_ret
    refine ⟨ret_bool ?_, Below.refl _ _⟩
    go_light
    grind [inB]
theorem icfgb {m n s t y : Int} {b : Bool} (h : Opt.ok ⟨m, n, s, t, y⟩ = b) : DataOk Try.prog 48 [cfgA m n s t y] (.d (.v (.bool b))) := by
  subst h
  refine DataOk.lift fun w F E H args _ hs hd => ?_
  obtain ⟨v, rfl, hv⟩ := arg1 hs hd
  obtain rfl := cfg_args hv
  exact impl_cfg_v _ _ _ _ _ w
theorem ifarb (a b : Int) : DataOk Try.prog 45 [.d (.v (.int .i64 a)), .d (.v (.int .i64 b))] (.d (.v (.int .i64 (farF a b)))) := int2 (impl_far_any a b)
theorem ipartsb (ds : List Dat) (m : Int) {b : Bool} (h : ds.all (partM m) = b) : DataOk Try.prog 49 [.d (partsD ds), .d (.v (.int .i64 m))] (.d (.v (.bool b))) := h ▸ iparts_ok ds m
theorem txOk_parts (o : Opt) (x : TX) : txOkB o x = (o.ok && ((decide (farF x.a x.n = (x.fl.length : Int)) && decide (numI x.c = x.a)) && ((inB (x.fl.length : Int) 0 o.win && (inB x.s 0 (x.fl.length : Int) && (inB (x.qu.length : Int) 0 24 && (inB x.t 0 o.tri && inB x.c 0 9999)))) && (x.fl.all (partM o.mps) && x.qu.all (partM o.mps))))) := by
  apply bool_of_iff
  simp only [txOkB, Bool.and_eq_true, decide_eq_true_eq, inB_iff]
  rcases far_cases x.a x.n with ⟨h1, h2, h3⟩ | ⟨_, h2, h3⟩
  · constructor
    · rintro ⟨k1, k2, k3, k4, k5, k6, k7, k8, k9, k10, k11, k12⟩
      exact ⟨k1, ⟨k5, by rw [numI, if_neg (by omega)]; omega⟩, ⟨⟨by omega, k4⟩, k6, ⟨by omega, by omega⟩, k8, k9⟩, k11, k12⟩
    · rintro ⟨k1, ⟨k2, k3⟩, ⟨k4, k5, k6, k7, k8⟩, k9, k10⟩
      rw [numI, if_neg (by omega)] at k3
      exact ⟨k1, by omega, by omega, k4.2, k2, k5, by omega, k7, k8, by omega, k9, k10⟩
  · constructor
    · rintro ⟨k1, k2, k3, k4, k5, _⟩; omega
    · rintro ⟨k1, ⟨k2, k3⟩, _⟩; omega
set_option maxHeartbeats 16000000 in
set_option maxRecDepth 100000 in
theorem itx_ok (m0 w0 p0 u0 y0 : Int) (x : TX) : DataOk Try.prog 14 [cfgA m0 w0 p0 u0 y0, txA x] (.d (.v (.bool (txOkB ⟨m0, w0, p0, u0, y0⟩ x)))) := by
  rw [txOk_parts]
  obtain ⟨n, a, fl, s, qu, q, t, h, c, d⟩ := x
  have e1 : (((fl.map datD).length : Nat) : Int) = (fl.length : Int) := by rw [List.length_map]
  have e2 : (((qu.map datD).length : Nat) : Int) = (qu.length : Int) := by rw [List.length_map]
  simp only
  rw [← e1, ← e2]
  obtain ⟨nb, hnb⟩ : ∃ nb, nb = (decide (farF a n = (((fl.map datD).length : Nat) : Int)) && decide (numI c = a)) := ⟨_, rfl⟩
  obtain ⟨cb, hcb⟩ : ∃ cb, cb = (inB (((fl.map datD).length : Nat) : Int) 0 w0 && (inB s 0 (((fl.map datD).length : Nat) : Int) && (inB (((qu.map datD).length : Nat) : Int) 0 24 && (inB t 0 y0 && inB c 0 9999)))) := ⟨_, rfl⟩
  rw [← hnb, ← hcb]
  refine Spec.intro (n := 76) (rv := [.tmp 4]) Try.func14 rfl rfl rfl (by simp) fun C hN hX => ?_
  have hL : ∃ L : Nat, L = (fl.map datD).length := ⟨_, rfl⟩
  refine AW.seq ?_
  apply AW.list
  apply Wk.bx 2 rfl rfl (lt_of_ble rfl)
  apply Wk.bx 3 rfl rfl (lt_of_ble rfl)
  apply Wk.asg (by conv => lhs; whnf) (lt_of_ble rfl)
  refine Wk.nil ?_
  refine AW.seq ?_
  apply AW.list
  apply Wk.fad 2 0 false fd33_2 rfl (lt_of_ble rfl)
  apply Wk.ld (i := 3) 1 false ty31 rfl rfl (by conv => lhs; whnf) (lt_of_ble rfl)
  apply Wk.len un31 rfl (lt_of_ble rfl)
  apply Wk.asg (by conv => lhs; whnf) (lt_of_ble rfl)
  refine Wk.nil ?_
  refine AW.via (fun b : Bool => St.of 76 [(2, .ptr 2 0), (3, .ptr 3 0), (5, .d (.v (.int .i64 (((fl.map datD).length : Nat) : Int)))), (6, .d (.v (.bool b)))] [(2, .var [.d (.v (.int .i64 m0)), .d (.v (.int .i64 w0)), .d (.v (.int .i64 p0)), .d (.v (.int .i64 u0)), .d (.v (.int .i64 y0))]), (3, .var [.d (.v (.int .i64 n)), .d (.v (.int .i64 a)), .d (partsD fl), .d (.v (.int .i64 s)), .d (partsD qu), .d (.v (.bool q)), .d (.v (.int .i64 t)), .d (.v (.bool h)), .d (.v (.int .i64 c)), .d (.v (.bool d))])]) (fun b => b = nb) ?_ ?_
  · by_cases c1 : farF a n = (((fl.map datD).length : Nat) : Int)
    · by_cases c2 : numI c = a
      · skip
        apply AW.draw (hm := hmix) (cs := _)
        · apply Wk.fad 1 0 false fd33_1 rfl (lt_of_ble rfl)
          apply Wk.ld (i := 3) 1 false ty3 rfl rfl (by conv => lhs; whnf) (lt_of_ble rfl)
          apply Wk.fad 0 0 false fd33_0 rfl (lt_of_ble rfl)
          apply Wk.ld (i := 3) 1 false ty3 rfl rfl (by conv => lhs; whnf) (lt_of_ble rfl)
          apply Wk.dat (ifarb a n) Try.func45 rfl rfl rfl rfl rfl (lt_of_ble rfl)
          apply Wk.mv (by conv => lhs; whnf) (lt_of_ble rfl)
          apply Wk.bin rfl rfl (r := .bool true) (fun w => by simp [go_sem, -List.length_map, c1]) (lt_of_ble rfl)
          apply Wk.mv (by conv => lhs; whnf) (lt_of_ble rfl)
          apply Wk.gon 18 rfl rfl
          apply Wk.fad 8 0 false fd33_8 rfl (lt_of_ble rfl)
          apply Wk.gon 18 rfl rfl
          apply Wk.ld (i := 3) 1 false ty3 rfl rfl (by conv => lhs; whnf) (lt_of_ble rfl)
          apply Wk.gon 18 rfl rfl
          apply Wk.dat (inum_ok c) Try.func46 rfl rfl rfl rfl rfl (lt_of_ble rfl)
          apply Wk.gon 18 rfl rfl
          apply Wk.fad 1 0 false fd33_1 rfl (lt_of_ble rfl)
          apply Wk.gon 18 rfl rfl
          apply Wk.ld (i := 3) 1 false ty3 rfl rfl (by conv => lhs; whnf) (lt_of_ble rfl)
          apply Wk.gon 18 rfl rfl
          apply Wk.bin rfl rfl (r := .bool true) (fun w => by simp [go_sem, c2]) (lt_of_ble rfl)
          apply Wk.pckT rfl (by conv => lhs; whnf) (lt_of_ble rfl)
          apply Wk.asg (by conv => lhs; whnf) (lt_of_ble rfl)
          refine Wk.nil (thenA_normal ?_)
          exact ⟨true, by rw [hnb, decide_eq_true c1, decide_eq_true c2]; rfl, fun a w => Rel.keep ⟨rfl, (.cons rfl rfl (.cons rfl rfl (.cons rfl rfl (.cons rfl rfl .nil)))), .cons rfl rfl (.cons rfl rfl .nil), hN.mono (by simp [keys])⟩⟩
        · rfl
        · rfl
      · skip
        apply AW.draw (hm := hmix) (cs := _)
        · apply Wk.fad 1 0 false fd33_1 rfl (lt_of_ble rfl)
          apply Wk.ld (i := 3) 1 false ty3 rfl rfl (by conv => lhs; whnf) (lt_of_ble rfl)
          apply Wk.fad 0 0 false fd33_0 rfl (lt_of_ble rfl)
          apply Wk.ld (i := 3) 1 false ty3 rfl rfl (by conv => lhs; whnf) (lt_of_ble rfl)
          apply Wk.dat (ifarb a n) Try.func45 rfl rfl rfl rfl rfl (lt_of_ble rfl)
          apply Wk.mv (by conv => lhs; whnf) (lt_of_ble rfl)
          apply Wk.bin rfl rfl (r := .bool true) (fun w => by simp [go_sem, -List.length_map, c1]) (lt_of_ble rfl)
          apply Wk.mv (by conv => lhs; whnf) (lt_of_ble rfl)
          apply Wk.gon 18 rfl rfl
          apply Wk.fad 8 0 false fd33_8 rfl (lt_of_ble rfl)
          apply Wk.gon 18 rfl rfl
          apply Wk.ld (i := 3) 1 false ty3 rfl rfl (by conv => lhs; whnf) (lt_of_ble rfl)
          apply Wk.gon 18 rfl rfl
          apply Wk.dat (inum_ok c) Try.func46 rfl rfl rfl rfl rfl (lt_of_ble rfl)
          apply Wk.gon 18 rfl rfl
          apply Wk.fad 1 0 false fd33_1 rfl (lt_of_ble rfl)
          apply Wk.gon 18 rfl rfl
          apply Wk.ld (i := 3) 1 false ty3 rfl rfl (by conv => lhs; whnf) (lt_of_ble rfl)
          apply Wk.gon 18 rfl rfl
          apply Wk.bin rfl rfl (r := .bool false) (fun w => by simp [go_sem, c2]) (lt_of_ble rfl)
          apply Wk.pckT rfl (by conv => lhs; whnf) (lt_of_ble rfl)
          apply Wk.asg (by conv => lhs; whnf) (lt_of_ble rfl)
          refine Wk.nil (thenA_normal ?_)
          exact ⟨false, by rw [hnb, decide_eq_true c1, decide_eq_false c2]; rfl, fun a w => Rel.keep ⟨rfl, (.cons rfl rfl (.cons rfl rfl (.cons rfl rfl (.cons rfl rfl .nil)))), .cons rfl rfl (.cons rfl rfl .nil), hN.mono (by simp [keys])⟩⟩
        · rfl
        · rfl
    · skip
      apply AW.draw (hm := hmix) (cs := _)
      · apply Wk.fad 1 0 false fd33_1 rfl (lt_of_ble rfl)
        apply Wk.ld (i := 3) 1 false ty3 rfl rfl (by conv => lhs; whnf) (lt_of_ble rfl)
        apply Wk.fad 0 0 false fd33_0 rfl (lt_of_ble rfl)
        apply Wk.ld (i := 3) 1 false ty3 rfl rfl (by conv => lhs; whnf) (lt_of_ble rfl)
        apply Wk.dat (ifarb a n) Try.func45 rfl rfl rfl rfl rfl (lt_of_ble rfl)
        apply Wk.mv (by conv => lhs; whnf) (lt_of_ble rfl)
        apply Wk.bin rfl rfl (r := .bool false) (fun w => by simp [go_sem, -List.length_map, c1]) (lt_of_ble rfl)
        apply Wk.mv (by conv => lhs; whnf) (lt_of_ble rfl)
        apply Wk.goff 18 (ok_faddr fd33_8) rfl rfl (by simp)
        apply Wk.goff 18 (ok_load 3 ty3) rfl rfl (by simp)
        apply Wk.goff 18 (ok_datw ((inum_ok c).w rfl) Try.func46 rfl rfl) rfl rfl (by simp)
        apply Wk.goff 18 (ok_faddr fd33_1) rfl rfl (by simp)
        apply Wk.goff 18 (ok_load 3 ty3) rfl rfl (by simp)
        apply Wk.goff 18 (ok_bin _ _ _ _ _) rfl rfl (by simp)
        apply Wk.pckF rfl (by conv => lhs; whnf) (lt_of_ble rfl)
        apply Wk.asg (by conv => lhs; whnf) (lt_of_ble rfl)
        refine Wk.nil (thenA_normal ?_)
        exact ⟨false, by rw [hnb, decide_eq_false c1]; rfl, fun a w => Rel.keep ⟨rfl, (.cons rfl rfl (.cons rfl rfl (.cons rfl rfl (.cons rfl rfl .nil)))), .cons rfl rfl (.cons rfl rfl .nil), hN.mono (by simp [keys])⟩⟩
      · rfl
      · rfl
  rintro nb' rfl
  refine AW.via (fun b : Bool => St.of 76 [(2, .ptr 2 0), (3, .ptr 3 0), (5, .d (.v (.int .i64 (((fl.map datD).length : Nat) : Int)))), (6, .d (.v (.bool nb'))), (7, .d (.v (.bool b)))] [(2, .var [.d (.v (.int .i64 m0)), .d (.v (.int .i64 w0)), .d (.v (.int .i64 p0)), .d (.v (.int .i64 u0)), .d (.v (.int .i64 y0))]), (3, .var [.d (.v (.int .i64 n)), .d (.v (.int .i64 a)), .d (partsD fl), .d (.v (.int .i64 s)), .d (partsD qu), .d (.v (.bool q)), .d (.v (.int .i64 t)), .d (.v (.bool h)), .d (.v (.int .i64 c)), .d (.v (.bool d))])]) (fun b => b = cb) ?_ ?_
  · skip
    cases k0 : inB (((fl.map datD).length : Nat) : Int) 0 w0
    · skip
      apply AW.list
      apply Wk.mv (by conv => lhs; whnf) (lt_of_ble rfl)
      apply Wk.fad 1 0 false fd29_1 rfl (lt_of_ble rfl)
      apply Wk.ld (i := 2) 1 false ty3 rfl rfl (by conv => lhs; whnf) (lt_of_ble rfl)
      apply Wk.dat (inoneb k0) Try.func47 rfl rfl rfl rfl rfl (lt_of_ble rfl)
      apply Wk.mv (by conv => lhs; whnf) (lt_of_ble rfl)
      apply Wk.goff 30 (ok_faddr fd33_3) rfl rfl (by simp)
      apply Wk.goff 30 (ok_load 3 ty3) rfl rfl (by simp)
      apply Wk.goff 30 (ok_move _) rfl rfl (by simp)
      apply Wk.goff 30 (ok_datw ((inoneb (n := 0) (hi := 0) rfl).w rfl) Try.func47 rfl rfl) rfl rfl (by simp)
      apply Wk.pckF rfl (by conv => lhs; whnf) (lt_of_ble rfl)
      apply Wk.mv (by conv => lhs; whnf) (lt_of_ble rfl)
      apply Wk.goff 36 (ok_faddr fd33_4) rfl rfl (by simp)
      apply Wk.goff 36 (ok_load 3 ty31) rfl rfl (by simp)
      apply Wk.goff 36 (ok_len un31) rfl rfl (by simp)
      apply Wk.goff 36 (ok_datw ((inoneb (n := 0) (hi := 0) rfl).w rfl) Try.func47 rfl rfl) rfl rfl (by simp)
      apply Wk.pckF rfl (by conv => lhs; whnf) (lt_of_ble rfl)
      apply Wk.mv (by conv => lhs; whnf) (lt_of_ble rfl)
      apply Wk.goff 42 (ok_faddr fd33_6) rfl rfl (by simp)
      apply Wk.goff 42 (ok_load 3 ty3) rfl rfl (by simp)
      apply Wk.goff 42 (ok_faddr fd29_4) rfl rfl (by simp)
      apply Wk.goff 42 (ok_load 2 ty3) rfl rfl (by simp)
      apply Wk.goff 42 (ok_datw ((inoneb (n := 0) (hi := 0) rfl).w rfl) Try.func47 rfl rfl) rfl rfl (by simp)
      apply Wk.pckF rfl (by conv => lhs; whnf) (lt_of_ble rfl)
      apply Wk.mv (by conv => lhs; whnf) (lt_of_ble rfl)
      apply Wk.goff 49 (ok_faddr fd33_8) rfl rfl (by simp)
      apply Wk.goff 49 (ok_load 3 ty3) rfl rfl (by simp)
      apply Wk.goff 49 (ok_datw ((inoneb (n := 0) (hi := 0) rfl).w rfl) Try.func47 rfl rfl) rfl rfl (by simp)
      apply Wk.pckF rfl (by conv => lhs; whnf) (lt_of_ble rfl)
      apply Wk.asg (by conv => lhs; whnf) (lt_of_ble rfl)
      refine Wk.nil (thenA_normal ?_)
      exact ⟨false, by rw [hcb, k0]; rfl, fun a w => Rel.keep ⟨rfl, (.cons rfl rfl (.cons rfl rfl (.cons rfl rfl (.cons rfl rfl (.cons rfl rfl .nil))))), .cons rfl rfl (.cons rfl rfl .nil), hN.mono (by simp [keys])⟩⟩
    · skip
      cases k1 : inB s 0 (((fl.map datD).length : Nat) : Int)
      · skip
        apply AW.list
        apply Wk.mv (by conv => lhs; whnf) (lt_of_ble rfl)
        apply Wk.fad 1 0 false fd29_1 rfl (lt_of_ble rfl)
        apply Wk.ld (i := 2) 1 false ty3 rfl rfl (by conv => lhs; whnf) (lt_of_ble rfl)
        apply Wk.dat (inoneb k0) Try.func47 rfl rfl rfl rfl rfl (lt_of_ble rfl)
        apply Wk.mv (by conv => lhs; whnf) (lt_of_ble rfl)
        apply Wk.gon 30 rfl rfl
        apply Wk.fad 3 0 false fd33_3 rfl (lt_of_ble rfl)
        apply Wk.gon 30 rfl rfl
        apply Wk.ld (i := 3) 1 false ty3 rfl rfl (by conv => lhs; whnf) (lt_of_ble rfl)
        apply Wk.gon 30 rfl rfl
        apply Wk.mv (by conv => lhs; whnf) (lt_of_ble rfl)
        apply Wk.gon 30 rfl rfl
        apply Wk.dat (inoneb k1) Try.func47 rfl rfl rfl rfl rfl (lt_of_ble rfl)
        apply Wk.pckT rfl (by conv => lhs; whnf) (lt_of_ble rfl)
        apply Wk.mv (by conv => lhs; whnf) (lt_of_ble rfl)
        apply Wk.goff 36 (ok_faddr fd33_4) rfl rfl (by simp)
        apply Wk.goff 36 (ok_load 3 ty31) rfl rfl (by simp)
        apply Wk.goff 36 (ok_len un31) rfl rfl (by simp)
        apply Wk.goff 36 (ok_datw ((inoneb (n := 0) (hi := 0) rfl).w rfl) Try.func47 rfl rfl) rfl rfl (by simp)
        apply Wk.pckF rfl (by conv => lhs; whnf) (lt_of_ble rfl)
        apply Wk.mv (by conv => lhs; whnf) (lt_of_ble rfl)
        apply Wk.goff 42 (ok_faddr fd33_6) rfl rfl (by simp)
        apply Wk.goff 42 (ok_load 3 ty3) rfl rfl (by simp)
        apply Wk.goff 42 (ok_faddr fd29_4) rfl rfl (by simp)
        apply Wk.goff 42 (ok_load 2 ty3) rfl rfl (by simp)
        apply Wk.goff 42 (ok_datw ((inoneb (n := 0) (hi := 0) rfl).w rfl) Try.func47 rfl rfl) rfl rfl (by simp)
        apply Wk.pckF rfl (by conv => lhs; whnf) (lt_of_ble rfl)
        apply Wk.mv (by conv => lhs; whnf) (lt_of_ble rfl)
        apply Wk.goff 49 (ok_faddr fd33_8) rfl rfl (by simp)
        apply Wk.goff 49 (ok_load 3 ty3) rfl rfl (by simp)
        apply Wk.goff 49 (ok_datw ((inoneb (n := 0) (hi := 0) rfl).w rfl) Try.func47 rfl rfl) rfl rfl (by simp)
        apply Wk.pckF rfl (by conv => lhs; whnf) (lt_of_ble rfl)
        apply Wk.asg (by conv => lhs; whnf) (lt_of_ble rfl)
        refine Wk.nil (thenA_normal ?_)
        exact ⟨false, by rw [hcb, k0, k1]; rfl, fun a w => Rel.keep ⟨rfl, (.cons rfl rfl (.cons rfl rfl (.cons rfl rfl (.cons rfl rfl (.cons rfl rfl .nil))))), .cons rfl rfl (.cons rfl rfl .nil), hN.mono (by simp [keys])⟩⟩
      · skip
        cases k2 : inB (((qu.map datD).length : Nat) : Int) 0 24
        · skip
          apply AW.list
          apply Wk.mv (by conv => lhs; whnf) (lt_of_ble rfl)
          apply Wk.fad 1 0 false fd29_1 rfl (lt_of_ble rfl)
          apply Wk.ld (i := 2) 1 false ty3 rfl rfl (by conv => lhs; whnf) (lt_of_ble rfl)
          apply Wk.dat (inoneb k0) Try.func47 rfl rfl rfl rfl rfl (lt_of_ble rfl)
          apply Wk.mv (by conv => lhs; whnf) (lt_of_ble rfl)
          apply Wk.gon 30 rfl rfl
          apply Wk.fad 3 0 false fd33_3 rfl (lt_of_ble rfl)
          apply Wk.gon 30 rfl rfl
          apply Wk.ld (i := 3) 1 false ty3 rfl rfl (by conv => lhs; whnf) (lt_of_ble rfl)
          apply Wk.gon 30 rfl rfl
          apply Wk.mv (by conv => lhs; whnf) (lt_of_ble rfl)
          apply Wk.gon 30 rfl rfl
          apply Wk.dat (inoneb k1) Try.func47 rfl rfl rfl rfl rfl (lt_of_ble rfl)
          apply Wk.pckT rfl (by conv => lhs; whnf) (lt_of_ble rfl)
          apply Wk.mv (by conv => lhs; whnf) (lt_of_ble rfl)
          apply Wk.gon 36 rfl rfl
          apply Wk.fad 4 0 false fd33_4 rfl (lt_of_ble rfl)
          apply Wk.gon 36 rfl rfl
          apply Wk.ld (i := 3) 1 false ty31 rfl rfl (by conv => lhs; whnf) (lt_of_ble rfl)
          apply Wk.gon 36 rfl rfl
          apply Wk.len un31 rfl (lt_of_ble rfl)
          apply Wk.gon 36 rfl rfl
          apply Wk.dat (inoneb k2) Try.func47 rfl rfl rfl rfl rfl (lt_of_ble rfl)
          apply Wk.pckT rfl (by conv => lhs; whnf) (lt_of_ble rfl)
          apply Wk.mv (by conv => lhs; whnf) (lt_of_ble rfl)
          apply Wk.goff 42 (ok_faddr fd33_6) rfl rfl (by simp)
          apply Wk.goff 42 (ok_load 3 ty3) rfl rfl (by simp)
          apply Wk.goff 42 (ok_faddr fd29_4) rfl rfl (by simp)
          apply Wk.goff 42 (ok_load 2 ty3) rfl rfl (by simp)
          apply Wk.goff 42 (ok_datw ((inoneb (n := 0) (hi := 0) rfl).w rfl) Try.func47 rfl rfl) rfl rfl (by simp)
          apply Wk.pckF rfl (by conv => lhs; whnf) (lt_of_ble rfl)
          apply Wk.mv (by conv => lhs; whnf) (lt_of_ble rfl)
          apply Wk.goff 49 (ok_faddr fd33_8) rfl rfl (by simp)
          apply Wk.goff 49 (ok_load 3 ty3) rfl rfl (by simp)
          apply Wk.goff 49 (ok_datw ((inoneb (n := 0) (hi := 0) rfl).w rfl) Try.func47 rfl rfl) rfl rfl (by simp)
          apply Wk.pckF rfl (by conv => lhs; whnf) (lt_of_ble rfl)
          apply Wk.asg (by conv => lhs; whnf) (lt_of_ble rfl)
          refine Wk.nil (thenA_normal ?_)
          exact ⟨false, by rw [hcb, k0, k1, k2]; rfl, fun a w => Rel.keep ⟨rfl, (.cons rfl rfl (.cons rfl rfl (.cons rfl rfl (.cons rfl rfl (.cons rfl rfl .nil))))), .cons rfl rfl (.cons rfl rfl .nil), hN.mono (by simp [keys])⟩⟩
        · skip
          cases k3 : inB t 0 y0
          · skip
            apply AW.list
            apply Wk.mv (by conv => lhs; whnf) (lt_of_ble rfl)
            apply Wk.fad 1 0 false fd29_1 rfl (lt_of_ble rfl)
            apply Wk.ld (i := 2) 1 false ty3 rfl rfl (by conv => lhs; whnf) (lt_of_ble rfl)
            apply Wk.dat (inoneb k0) Try.func47 rfl rfl rfl rfl rfl (lt_of_ble rfl)
            apply Wk.mv (by conv => lhs; whnf) (lt_of_ble rfl)
            apply Wk.gon 30 rfl rfl
            apply Wk.fad 3 0 false fd33_3 rfl (lt_of_ble rfl)
            apply Wk.gon 30 rfl rfl
            apply Wk.ld (i := 3) 1 false ty3 rfl rfl (by conv => lhs; whnf) (lt_of_ble rfl)
            apply Wk.gon 30 rfl rfl
            apply Wk.mv (by conv => lhs; whnf) (lt_of_ble rfl)
            apply Wk.gon 30 rfl rfl
            apply Wk.dat (inoneb k1) Try.func47 rfl rfl rfl rfl rfl (lt_of_ble rfl)
            apply Wk.pckT rfl (by conv => lhs; whnf) (lt_of_ble rfl)
            apply Wk.mv (by conv => lhs; whnf) (lt_of_ble rfl)
            apply Wk.gon 36 rfl rfl
            apply Wk.fad 4 0 false fd33_4 rfl (lt_of_ble rfl)
            apply Wk.gon 36 rfl rfl
            apply Wk.ld (i := 3) 1 false ty31 rfl rfl (by conv => lhs; whnf) (lt_of_ble rfl)
            apply Wk.gon 36 rfl rfl
            apply Wk.len un31 rfl (lt_of_ble rfl)
            apply Wk.gon 36 rfl rfl
            apply Wk.dat (inoneb k2) Try.func47 rfl rfl rfl rfl rfl (lt_of_ble rfl)
            apply Wk.pckT rfl (by conv => lhs; whnf) (lt_of_ble rfl)
            apply Wk.mv (by conv => lhs; whnf) (lt_of_ble rfl)
            apply Wk.gon 42 rfl rfl
            apply Wk.fad 6 0 false fd33_6 rfl (lt_of_ble rfl)
            apply Wk.gon 42 rfl rfl
            apply Wk.ld (i := 3) 1 false ty3 rfl rfl (by conv => lhs; whnf) (lt_of_ble rfl)
            apply Wk.gon 42 rfl rfl
            apply Wk.fad 4 0 false fd29_4 rfl (lt_of_ble rfl)
            apply Wk.gon 42 rfl rfl
            apply Wk.ld (i := 2) 1 false ty3 rfl rfl (by conv => lhs; whnf) (lt_of_ble rfl)
            apply Wk.gon 42 rfl rfl
            apply Wk.dat (inoneb k3) Try.func47 rfl rfl rfl rfl rfl (lt_of_ble rfl)
            apply Wk.pckT rfl (by conv => lhs; whnf) (lt_of_ble rfl)
            apply Wk.mv (by conv => lhs; whnf) (lt_of_ble rfl)
            apply Wk.goff 49 (ok_faddr fd33_8) rfl rfl (by simp)
            apply Wk.goff 49 (ok_load 3 ty3) rfl rfl (by simp)
            apply Wk.goff 49 (ok_datw ((inoneb (n := 0) (hi := 0) rfl).w rfl) Try.func47 rfl rfl) rfl rfl (by simp)
            apply Wk.pckF rfl (by conv => lhs; whnf) (lt_of_ble rfl)
            apply Wk.asg (by conv => lhs; whnf) (lt_of_ble rfl)
            refine Wk.nil (thenA_normal ?_)
            exact ⟨false, by rw [hcb, k0, k1, k2, k3]; rfl, fun a w => Rel.keep ⟨rfl, (.cons rfl rfl (.cons rfl rfl (.cons rfl rfl (.cons rfl rfl (.cons rfl rfl .nil))))), .cons rfl rfl (.cons rfl rfl .nil), hN.mono (by simp [keys])⟩⟩
          · skip
            cases k4 : inB c 0 9999
            · skip
              apply AW.list
              apply Wk.mv (by conv => lhs; whnf) (lt_of_ble rfl)
              apply Wk.fad 1 0 false fd29_1 rfl (lt_of_ble rfl)
              apply Wk.ld (i := 2) 1 false ty3 rfl rfl (by conv => lhs; whnf) (lt_of_ble rfl)
              apply Wk.dat (inoneb k0) Try.func47 rfl rfl rfl rfl rfl (lt_of_ble rfl)
              apply Wk.mv (by conv => lhs; whnf) (lt_of_ble rfl)
              apply Wk.gon 30 rfl rfl
              apply Wk.fad 3 0 false fd33_3 rfl (lt_of_ble rfl)
              apply Wk.gon 30 rfl rfl
              apply Wk.ld (i := 3) 1 false ty3 rfl rfl (by conv => lhs; whnf) (lt_of_ble rfl)
              apply Wk.gon 30 rfl rfl
              apply Wk.mv (by conv => lhs; whnf) (lt_of_ble rfl)
              apply Wk.gon 30 rfl rfl
              apply Wk.dat (inoneb k1) Try.func47 rfl rfl rfl rfl rfl (lt_of_ble rfl)
              apply Wk.pckT rfl (by conv => lhs; whnf) (lt_of_ble rfl)
              apply Wk.mv (by conv => lhs; whnf) (lt_of_ble rfl)
              apply Wk.gon 36 rfl rfl
              apply Wk.fad 4 0 false fd33_4 rfl (lt_of_ble rfl)
              apply Wk.gon 36 rfl rfl
              apply Wk.ld (i := 3) 1 false ty31 rfl rfl (by conv => lhs; whnf) (lt_of_ble rfl)
              apply Wk.gon 36 rfl rfl
              apply Wk.len un31 rfl (lt_of_ble rfl)
              apply Wk.gon 36 rfl rfl
              apply Wk.dat (inoneb k2) Try.func47 rfl rfl rfl rfl rfl (lt_of_ble rfl)
              apply Wk.pckT rfl (by conv => lhs; whnf) (lt_of_ble rfl)
              apply Wk.mv (by conv => lhs; whnf) (lt_of_ble rfl)
              apply Wk.gon 42 rfl rfl
              apply Wk.fad 6 0 false fd33_6 rfl (lt_of_ble rfl)
              apply Wk.gon 42 rfl rfl
              apply Wk.ld (i := 3) 1 false ty3 rfl rfl (by conv => lhs; whnf) (lt_of_ble rfl)
              apply Wk.gon 42 rfl rfl
              apply Wk.fad 4 0 false fd29_4 rfl (lt_of_ble rfl)
              apply Wk.gon 42 rfl rfl
              apply Wk.ld (i := 2) 1 false ty3 rfl rfl (by conv => lhs; whnf) (lt_of_ble rfl)
              apply Wk.gon 42 rfl rfl
              apply Wk.dat (inoneb k3) Try.func47 rfl rfl rfl rfl rfl (lt_of_ble rfl)
              apply Wk.pckT rfl (by conv => lhs; whnf) (lt_of_ble rfl)
              apply Wk.mv (by conv => lhs; whnf) (lt_of_ble rfl)
              apply Wk.gon 49 rfl rfl
              apply Wk.fad 8 0 false fd33_8 rfl (lt_of_ble rfl)
              apply Wk.gon 49 rfl rfl
              apply Wk.ld (i := 3) 1 false ty3 rfl rfl (by conv => lhs; whnf) (lt_of_ble rfl)
              apply Wk.gon 49 rfl rfl
              apply Wk.dat (inoneb k4) Try.func47 rfl rfl rfl rfl rfl (lt_of_ble rfl)
              apply Wk.pckT rfl (by conv => lhs; whnf) (lt_of_ble rfl)
              apply Wk.asg (by conv => lhs; whnf) (lt_of_ble rfl)
              refine Wk.nil (thenA_normal ?_)
              exact ⟨false, by rw [hcb, k0, k1, k2, k3, k4]; rfl, fun a w => Rel.keep ⟨rfl, (.cons rfl rfl (.cons rfl rfl (.cons rfl rfl (.cons rfl rfl (.cons rfl rfl .nil))))), .cons rfl rfl (.cons rfl rfl .nil), hN.mono (by simp [keys])⟩⟩
            · skip
              apply AW.list
              apply Wk.mv (by conv => lhs; whnf) (lt_of_ble rfl)
              apply Wk.fad 1 0 false fd29_1 rfl (lt_of_ble rfl)
              apply Wk.ld (i := 2) 1 false ty3 rfl rfl (by conv => lhs; whnf) (lt_of_ble rfl)
              apply Wk.dat (inoneb k0) Try.func47 rfl rfl rfl rfl rfl (lt_of_ble rfl)
              apply Wk.mv (by conv => lhs; whnf) (lt_of_ble rfl)
              apply Wk.gon 30 rfl rfl
              apply Wk.fad 3 0 false fd33_3 rfl (lt_of_ble rfl)
              apply Wk.gon 30 rfl rfl
              apply Wk.ld (i := 3) 1 false ty3 rfl rfl (by conv => lhs; whnf) (lt_of_ble rfl)
              apply Wk.gon 30 rfl rfl
              apply Wk.mv (by conv => lhs; whnf) (lt_of_ble rfl)
              apply Wk.gon 30 rfl rfl
              apply Wk.dat (inoneb k1) Try.func47 rfl rfl rfl rfl rfl (lt_of_ble rfl)
              apply Wk.pckT rfl (by conv => lhs; whnf) (lt_of_ble rfl)
              apply Wk.mv (by conv => lhs; whnf) (lt_of_ble rfl)
              apply Wk.gon 36 rfl rfl
              apply Wk.fad 4 0 false fd33_4 rfl (lt_of_ble rfl)
              apply Wk.gon 36 rfl rfl
              apply Wk.ld (i := 3) 1 false ty31 rfl rfl (by conv => lhs; whnf) (lt_of_ble rfl)
              apply Wk.gon 36 rfl rfl
              apply Wk.len un31 rfl (lt_of_ble rfl)
              apply Wk.gon 36 rfl rfl
              apply Wk.dat (inoneb k2) Try.func47 rfl rfl rfl rfl rfl (lt_of_ble rfl)
              apply Wk.pckT rfl (by conv => lhs; whnf) (lt_of_ble rfl)
              apply Wk.mv (by conv => lhs; whnf) (lt_of_ble rfl)
              apply Wk.gon 42 rfl rfl
              apply Wk.fad 6 0 false fd33_6 rfl (lt_of_ble rfl)
              apply Wk.gon 42 rfl rfl
              apply Wk.ld (i := 3) 1 false ty3 rfl rfl (by conv => lhs; whnf) (lt_of_ble rfl)
              apply Wk.gon 42 rfl rfl
              apply Wk.fad 4 0 false fd29_4 rfl (lt_of_ble rfl)
              apply Wk.gon 42 rfl rfl
              apply Wk.ld (i := 2) 1 false ty3 rfl rfl (by conv => lhs; whnf) (lt_of_ble rfl)
              apply Wk.gon 42 rfl rfl
              apply Wk.dat (inoneb k3) Try.func47 rfl rfl rfl rfl rfl (lt_of_ble rfl)
              apply Wk.pckT rfl (by conv => lhs; whnf) (lt_of_ble rfl)
              apply Wk.mv (by conv => lhs; whnf) (lt_of_ble rfl)
              apply Wk.gon 49 rfl rfl
              apply Wk.fad 8 0 false fd33_8 rfl (lt_of_ble rfl)
              apply Wk.gon 49 rfl rfl
              apply Wk.ld (i := 3) 1 false ty3 rfl rfl (by conv => lhs; whnf) (lt_of_ble rfl)
              apply Wk.gon 49 rfl rfl
              apply Wk.dat (inoneb k4) Try.func47 rfl rfl rfl rfl rfl (lt_of_ble rfl)
              apply Wk.pckT rfl (by conv => lhs; whnf) (lt_of_ble rfl)
              apply Wk.asg (by conv => lhs; whnf) (lt_of_ble rfl)
              refine Wk.nil (thenA_normal ?_)
              exact ⟨true, by rw [hcb, k0, k1, k2, k3, k4]; rfl, fun a w => Rel.keep ⟨rfl, (.cons rfl rfl (.cons rfl rfl (.cons rfl rfl (.cons rfl rfl (.cons rfl rfl .nil))))), .cons rfl rfl (.cons rfl rfl .nil), hN.mono (by simp [keys])⟩⟩
  rintro cb' rfl
  refine AW.seq ?_
  clear hnb hcb
  cases h0 : Opt.ok ⟨m0, w0, p0, u0, y0⟩
  · skip
    apply AW.list
    apply Wk.ld (i := 2) 5 true ty29 rfl rfl (by conv => lhs; whnf) (lt_of_ble rfl)
    apply Wk.dat (icfgb h0) Try.func48 rfl rfl rfl rfl rfl (lt_of_ble rfl)
    apply Wk.mv (by conv => lhs; whnf) (lt_of_ble rfl)
    apply Wk.goff 56 (ok_move _) rfl rfl (by simp)
    apply Wk.pckF rfl (by conv => lhs; whnf) (lt_of_ble rfl)
    apply Wk.mv (by conv => lhs; whnf) (lt_of_ble rfl)
    apply Wk.goff 59 (ok_move _) rfl rfl (by simp)
    apply Wk.pckF rfl (by conv => lhs; whnf) (lt_of_ble rfl)
    apply Wk.mv (by conv => lhs; whnf) (lt_of_ble rfl)
    apply Wk.goff 62 (ok_faddr fd33_2) rfl rfl (by simp)
    apply Wk.goff 62 (ok_load 3 ty31) rfl rfl (by simp)
    apply Wk.goff 62 (ok_faddr fd29_2) rfl rfl (by simp)
    apply Wk.goff 62 (ok_load 2 ty3) rfl rfl (by simp)
    apply Wk.goff 62 (ok_datw ((ipartsb [] 0 rfl).w rfl) Try.func49 rfl rfl) rfl rfl (by simp)
    apply Wk.pckF rfl (by conv => lhs; whnf) (lt_of_ble rfl)
    apply Wk.mv (by conv => lhs; whnf) (lt_of_ble rfl)
    apply Wk.goff 69 (ok_faddr fd33_4) rfl rfl (by simp)
    apply Wk.goff 69 (ok_load 3 ty31) rfl rfl (by simp)
    apply Wk.goff 69 (ok_faddr fd29_2) rfl rfl (by simp)
    apply Wk.goff 69 (ok_load 2 ty3) rfl rfl (by simp)
    apply Wk.goff 69 (ok_datw ((ipartsb [] 0 rfl).w rfl) Try.func49 rfl rfl) rfl rfl (by simp)
    apply Wk.pckF rfl (by conv => lhs; whnf) (lt_of_ble rfl)
    apply Wk.asg (by conv => lhs; whnf) (lt_of_ble rfl)
    refine Wk.nil (AW.ret ?_)
    exact RetQ.ret [] (.cons rfl .nil) ⟨rfl, rfl⟩ none_kept
  · skip
    cases nb'
    · skip
      apply AW.list
      apply Wk.ld (i := 2) 5 true ty29 rfl rfl (by conv => lhs; whnf) (lt_of_ble rfl)
      apply Wk.dat (icfgb h0) Try.func48 rfl rfl rfl rfl rfl (lt_of_ble rfl)
      apply Wk.mv (by conv => lhs; whnf) (lt_of_ble rfl)
      apply Wk.gon 56 rfl rfl
      apply Wk.mv (by conv => lhs; whnf) (lt_of_ble rfl)
      apply Wk.pckT rfl (by conv => lhs; whnf) (lt_of_ble rfl)
      apply Wk.mv (by conv => lhs; whnf) (lt_of_ble rfl)
      apply Wk.goff 59 (ok_move _) rfl rfl (by simp)
      apply Wk.pckF rfl (by conv => lhs; whnf) (lt_of_ble rfl)
      apply Wk.mv (by conv => lhs; whnf) (lt_of_ble rfl)
      apply Wk.goff 62 (ok_faddr fd33_2) rfl rfl (by simp)
      apply Wk.goff 62 (ok_load 3 ty31) rfl rfl (by simp)
      apply Wk.goff 62 (ok_faddr fd29_2) rfl rfl (by simp)
      apply Wk.goff 62 (ok_load 2 ty3) rfl rfl (by simp)
      apply Wk.goff 62 (ok_datw ((ipartsb [] 0 rfl).w rfl) Try.func49 rfl rfl) rfl rfl (by simp)
      apply Wk.pckF rfl (by conv => lhs; whnf) (lt_of_ble rfl)
      apply Wk.mv (by conv => lhs; whnf) (lt_of_ble rfl)
      apply Wk.goff 69 (ok_faddr fd33_4) rfl rfl (by simp)
      apply Wk.goff 69 (ok_load 3 ty31) rfl rfl (by simp)
      apply Wk.goff 69 (ok_faddr fd29_2) rfl rfl (by simp)
      apply Wk.goff 69 (ok_load 2 ty3) rfl rfl (by simp)
      apply Wk.goff 69 (ok_datw ((ipartsb [] 0 rfl).w rfl) Try.func49 rfl rfl) rfl rfl (by simp)
      apply Wk.pckF rfl (by conv => lhs; whnf) (lt_of_ble rfl)
      apply Wk.asg (by conv => lhs; whnf) (lt_of_ble rfl)
      refine Wk.nil (AW.ret ?_)
      exact RetQ.ret [] (.cons rfl .nil) ⟨rfl, rfl⟩ none_kept
    · skip
      cases cb'
      · skip
        apply AW.list
        apply Wk.ld (i := 2) 5 true ty29 rfl rfl (by conv => lhs; whnf) (lt_of_ble rfl)
        apply Wk.dat (icfgb h0) Try.func48 rfl rfl rfl rfl rfl (lt_of_ble rfl)
        apply Wk.mv (by conv => lhs; whnf) (lt_of_ble rfl)
        apply Wk.gon 56 rfl rfl
        apply Wk.mv (by conv => lhs; whnf) (lt_of_ble rfl)
        apply Wk.pckT rfl (by conv => lhs; whnf) (lt_of_ble rfl)
        apply Wk.mv (by conv => lhs; whnf) (lt_of_ble rfl)
        apply Wk.gon 59 rfl rfl
        apply Wk.mv (by conv => lhs; whnf) (lt_of_ble rfl)
        apply Wk.pckT rfl (by conv => lhs; whnf) (lt_of_ble rfl)
        apply Wk.mv (by conv => lhs; whnf) (lt_of_ble rfl)
        apply Wk.goff 62 (ok_faddr fd33_2) rfl rfl (by simp)
        apply Wk.goff 62 (ok_load 3 ty31) rfl rfl (by simp)
        apply Wk.goff 62 (ok_faddr fd29_2) rfl rfl (by simp)
        apply Wk.goff 62 (ok_load 2 ty3) rfl rfl (by simp)
        apply Wk.goff 62 (ok_datw ((ipartsb [] 0 rfl).w rfl) Try.func49 rfl rfl) rfl rfl (by simp)
        apply Wk.pckF rfl (by conv => lhs; whnf) (lt_of_ble rfl)
        apply Wk.mv (by conv => lhs; whnf) (lt_of_ble rfl)
        apply Wk.goff 69 (ok_faddr fd33_4) rfl rfl (by simp)
        apply Wk.goff 69 (ok_load 3 ty31) rfl rfl (by simp)
        apply Wk.goff 69 (ok_faddr fd29_2) rfl rfl (by simp)
        apply Wk.goff 69 (ok_load 2 ty3) rfl rfl (by simp)
        apply Wk.goff 69 (ok_datw ((ipartsb [] 0 rfl).w rfl) Try.func49 rfl rfl) rfl rfl (by simp)
        apply Wk.pckF rfl (by conv => lhs; whnf) (lt_of_ble rfl)
        apply Wk.asg (by conv => lhs; whnf) (lt_of_ble rfl)
        refine Wk.nil (AW.ret ?_)
        exact RetQ.ret [] (.cons rfl .nil) ⟨rfl, rfl⟩ none_kept
      · skip
        cases h3 : fl.all (partM p0)
        · skip
          apply AW.list
          apply Wk.ld (i := 2) 5 true ty29 rfl rfl (by conv => lhs; whnf) (lt_of_ble rfl)
          apply Wk.dat (icfgb h0) Try.func48 rfl rfl rfl rfl rfl (lt_of_ble rfl)
          apply Wk.mv (by conv => lhs; whnf) (lt_of_ble rfl)
          apply Wk.gon 56 rfl rfl
          apply Wk.mv (by conv => lhs; whnf) (lt_of_ble rfl)
          apply Wk.pckT rfl (by conv => lhs; whnf) (lt_of_ble rfl)
          apply Wk.mv (by conv => lhs; whnf) (lt_of_ble rfl)
          apply Wk.gon 59 rfl rfl
          apply Wk.mv (by conv => lhs; whnf) (lt_of_ble rfl)
          apply Wk.pckT rfl (by conv => lhs; whnf) (lt_of_ble rfl)
          apply Wk.mv (by conv => lhs; whnf) (lt_of_ble rfl)
          apply Wk.gon 62 rfl rfl
          apply Wk.fad 2 0 false fd33_2 rfl (lt_of_ble rfl)
          apply Wk.gon 62 rfl rfl
          apply Wk.ld (i := 3) 1 false ty31 rfl rfl (by conv => lhs; whnf) (lt_of_ble rfl)
          apply Wk.gon 62 rfl rfl
          apply Wk.fad 2 0 false fd29_2 rfl (lt_of_ble rfl)
          apply Wk.gon 62 rfl rfl
          apply Wk.ld (i := 2) 1 false ty3 rfl rfl (by conv => lhs; whnf) (lt_of_ble rfl)
          apply Wk.gon 62 rfl rfl
          apply Wk.dat (ipartsb fl p0 h3) Try.func49 rfl rfl rfl rfl rfl (lt_of_ble rfl)
          apply Wk.pckT rfl (by conv => lhs; whnf) (lt_of_ble rfl)
          apply Wk.mv (by conv => lhs; whnf) (lt_of_ble rfl)
          apply Wk.goff 69 (ok_faddr fd33_4) rfl rfl (by simp)
          apply Wk.goff 69 (ok_load 3 ty31) rfl rfl (by simp)
          apply Wk.goff 69 (ok_faddr fd29_2) rfl rfl (by simp)
          apply Wk.goff 69 (ok_load 2 ty3) rfl rfl (by simp)
          apply Wk.goff 69 (ok_datw ((ipartsb [] 0 rfl).w rfl) Try.func49 rfl rfl) rfl rfl (by simp)
          apply Wk.pckF rfl (by conv => lhs; whnf) (lt_of_ble rfl)
          apply Wk.asg (by conv => lhs; whnf) (lt_of_ble rfl)
          refine Wk.nil (AW.ret ?_)
          exact RetQ.ret [] (.cons rfl .nil) ⟨rfl, rfl⟩ none_kept
        · skip
          cases h4 : qu.all (partM p0)
          · skip
            apply AW.list
            apply Wk.ld (i := 2) 5 true ty29 rfl rfl (by conv => lhs; whnf) (lt_of_ble rfl)
            apply Wk.dat (icfgb h0) Try.func48 rfl rfl rfl rfl rfl (lt_of_ble rfl)
            apply Wk.mv (by conv => lhs; whnf) (lt_of_ble rfl)
            apply Wk.gon 56 rfl rfl
            apply Wk.mv (by conv => lhs; whnf) (lt_of_ble rfl)
            apply Wk.pckT rfl (by conv => lhs; whnf) (lt_of_ble rfl)
            apply Wk.mv (by conv => lhs; whnf) (lt_of_ble rfl)
            apply Wk.gon 59 rfl rfl
            apply Wk.mv (by conv => lhs; whnf) (lt_of_ble rfl)
            apply Wk.pckT rfl (by conv => lhs; whnf) (lt_of_ble rfl)
            apply Wk.mv (by conv => lhs; whnf) (lt_of_ble rfl)
            apply Wk.gon 62 rfl rfl
            apply Wk.fad 2 0 false fd33_2 rfl (lt_of_ble rfl)
            apply Wk.gon 62 rfl rfl
            apply Wk.ld (i := 3) 1 false ty31 rfl rfl (by conv => lhs; whnf) (lt_of_ble rfl)
            apply Wk.gon 62 rfl rfl
            apply Wk.fad 2 0 false fd29_2 rfl (lt_of_ble rfl)
            apply Wk.gon 62 rfl rfl
            apply Wk.ld (i := 2) 1 false ty3 rfl rfl (by conv => lhs; whnf) (lt_of_ble rfl)
            apply Wk.gon 62 rfl rfl
            apply Wk.dat (ipartsb fl p0 h3) Try.func49 rfl rfl rfl rfl rfl (lt_of_ble rfl)
            apply Wk.pckT rfl (by conv => lhs; whnf) (lt_of_ble rfl)
            apply Wk.mv (by conv => lhs; whnf) (lt_of_ble rfl)
            apply Wk.gon 69 rfl rfl
            apply Wk.fad 4 0 false fd33_4 rfl (lt_of_ble rfl)
            apply Wk.gon 69 rfl rfl
            apply Wk.ld (i := 3) 1 false ty31 rfl rfl (by conv => lhs; whnf) (lt_of_ble rfl)
            apply Wk.gon 69 rfl rfl
            apply Wk.fad 2 0 false fd29_2 rfl (lt_of_ble rfl)
            apply Wk.gon 69 rfl rfl
            apply Wk.ld (i := 2) 1 false ty3 rfl rfl (by conv => lhs; whnf) (lt_of_ble rfl)
            apply Wk.gon 69 rfl rfl
            apply Wk.dat (ipartsb qu p0 h4) Try.func49 rfl rfl rfl rfl rfl (lt_of_ble rfl)
            apply Wk.pckT rfl (by conv => lhs; whnf) (lt_of_ble rfl)
            apply Wk.asg (by conv => lhs; whnf) (lt_of_ble rfl)
            refine Wk.nil (AW.ret ?_)
            exact RetQ.ret [] (.cons rfl .nil) ⟨rfl, rfl⟩ none_kept
          · skip
            apply AW.list
            apply Wk.ld (i := 2) 5 true ty29 rfl rfl (by conv => lhs; whnf) (lt_of_ble rfl)
            apply Wk.dat (icfgb h0) Try.func48 rfl rfl rfl rfl rfl (lt_of_ble rfl)
            apply Wk.mv (by conv => lhs; whnf) (lt_of_ble rfl)
            apply Wk.gon 56 rfl rfl
            apply Wk.mv (by conv => lhs; whnf) (lt_of_ble rfl)
            apply Wk.pckT rfl (by conv => lhs; whnf) (lt_of_ble rfl)
            apply Wk.mv (by conv => lhs; whnf) (lt_of_ble rfl)
            apply Wk.gon 59 rfl rfl
            apply Wk.mv (by conv => lhs; whnf) (lt_of_ble rfl)
            apply Wk.pckT rfl (by conv => lhs; whnf) (lt_of_ble rfl)
            apply Wk.mv (by conv => lhs; whnf) (lt_of_ble rfl)
            apply Wk.gon 62 rfl rfl
            apply Wk.fad 2 0 false fd33_2 rfl (lt_of_ble rfl)
            apply Wk.gon 62 rfl rfl
            apply Wk.ld (i := 3) 1 false ty31 rfl rfl (by conv => lhs; whnf) (lt_of_ble rfl)
            apply Wk.gon 62 rfl rfl
            apply Wk.fad 2 0 false fd29_2 rfl (lt_of_ble rfl)
            apply Wk.gon 62 rfl rfl
            apply Wk.ld (i := 2) 1 false ty3 rfl rfl (by conv => lhs; whnf) (lt_of_ble rfl)
            apply Wk.gon 62 rfl rfl
            apply Wk.dat (ipartsb fl p0 h3) Try.func49 rfl rfl rfl rfl rfl (lt_of_ble rfl)
            apply Wk.pckT rfl (by conv => lhs; whnf) (lt_of_ble rfl)
            apply Wk.mv (by conv => lhs; whnf) (lt_of_ble rfl)
            apply Wk.gon 69 rfl rfl
            apply Wk.fad 4 0 false fd33_4 rfl (lt_of_ble rfl)
            apply Wk.gon 69 rfl rfl
            apply Wk.ld (i := 3) 1 false ty31 rfl rfl (by conv => lhs; whnf) (lt_of_ble rfl)
            apply Wk.gon 69 rfl rfl
            apply Wk.fad 2 0 false fd29_2 rfl (lt_of_ble rfl)
            apply Wk.gon 69 rfl rfl
            apply Wk.ld (i := 2) 1 false ty3 rfl rfl (by conv => lhs; whnf) (lt_of_ble rfl)
            apply Wk.gon 69 rfl rfl
            apply Wk.dat (ipartsb qu p0 h4) Try.func49 rfl rfl rfl rfl rfl (lt_of_ble rfl)
            apply Wk.pckT rfl (by conv => lhs; whnf) (lt_of_ble rfl)
            apply Wk.asg (by conv => lhs; whnf) (lt_of_ble rfl)
            refine Wk.nil (AW.ret ?_)
            exact RetQ.ret [] (.cons rfl .nil) ⟨rfl, rfl⟩ none_kept
end Go.Proofs.Ytdjadeegjbhihaa
