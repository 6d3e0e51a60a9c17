/- Laws and contracts that the proof stands on: AbsNum, AbsPick, AbsBytes, AbsMemo, AbsOpen, AbsJoin, AbsPut, AbsCut, AbsSegLaw. -/
import Derived.Test.YtpghbdigiplbiaaMa
import Derived.Test.YtpghbdigiplbiaaMb
import Derived.Test.YtpghbdigiplbiaaMc
/- Numbers, as operations of a walk. -/
namespace Go.Proofs.Ytpghbdigiplbiaa
open Go
section
variable {P : Program} {C : Ctx} {ops : Array Oper} {os : List Oper} {cs : List Cert} {σ : St} {K : St → Prop} {d : Nat} {ty : TypeId} {pos : String} {af : Array Edge} {t yt : TypeId} {x y : Operand} {a b : Nat}
theorem Wk.remn (hx : aev σ x = .d (.v (.int .i64 (a : Int)))) (hy : aev σ y = .d (.v (.int .i64 (b : Int)))) (hb : 0 < b) (hd : d < σ.n)
    (h : Wk P C ops os cs (σ.put (T d) (.a (.d (.v (.int .i64 ((a % b : Nat) : Int)))))) K) : Wk P C ops (⟨some d, .binOp .rem t x y yt, ty, pos, af, none⟩ :: os) (⟨kof x ++ kof y, [T d], beh1 (rBin P .rem t x y) d⟩ :: cs) σ K :=
  Wk.bin hx hy (fun w => by
    have : ¬ b = 0 := by omega
    simp [go_sem, this]
    exact Int.tmod_eq_emod_of_nonneg (by omega)) hd h
theorem Wk.quon (hx : aev σ x = .d (.v (.int .i64 (a : Int)))) (hy : aev σ y = .d (.v (.int .i64 (b : Int)))) (hb : 0 < b) (ha : a ≤ 9223372036854775807) (hd : d < σ.n)
    (h : Wk P C ops os cs (σ.put (T d) (.a (.d (.v (.int .i64 ((a / b : Nat) : Int)))))) K) : Wk P C ops (⟨some d, .binOp .quo t x y yt, ty, pos, af, none⟩ :: os) (⟨kof x ++ kof y, [T d], beh1 (rBin P .quo t x y) d⟩ :: cs) σ K :=
  Wk.bin hx hy (fun w => by
    have : ¬ b = 0 := by omega
    have h1 : a / b ≤ a := Nat.div_le_self a b
    have h2 : ((a : Int) / (b : Int)) = ((a / b : Nat) : Int) := by simp
    have h3 : IntKind.i64.wrap ((a : Int) / (b : Int)) = (a : Int) / (b : Int) := by
      rw [h2]
      generalize a / b = q at h1 ⊢
      exact wrap64 (by omega) (by omega)
    simp [go_sem, this, h3]) hd h
theorem Wk.muln (hx : aev σ x = .d (.v (.int .i64 (a : Int)))) (hy : aev σ y = .d (.v (.int .i64 (b : Int)))) (hb : a * b ≤ 9223372036854775807) (hd : d < σ.n)
    (h : Wk P C ops os cs (σ.put (T d) (.a (.d (.v (.int .i64 ((a * b : Nat) : Int)))))) K) : Wk P C ops (⟨some d, .binOp .mul t x y yt, ty, pos, af, none⟩ :: os) (⟨kof x ++ kof y, [T d], beh1 (rBin P .mul t x y) d⟩ :: cs) σ K :=
  Wk.bin hx hy (fun w => by
    have h2 : ((a : Int) * (b : Int)) = ((a * b : Nat) : Int) := by simp
    have h1 := wrap64 (n := ((a * b : Nat) : Int)) (by omega) (by omega)
    rw [← h2] at h1
    simp [go_sem, h1]) hd h
theorem Wk.addn (hx : aev σ x = .d (.v (.int .i64 (a : Int)))) (hy : aev σ y = .d (.v (.int .i64 (b : Int)))) (hb : a + b ≤ 9223372036854775807) (hd : d < σ.n)
    (h : Wk P C ops os cs (σ.put (T d) (.a (.d (.v (.int .i64 ((a + b : Nat) : Int)))))) K) : Wk P C ops (⟨some d, .binOp .add t x y yt, ty, pos, af, none⟩ :: os) (⟨kof x ++ kof y, [T d], beh1 (rBin P .add t x y) d⟩ :: cs) σ K :=
  Wk.addi hx hy (by omega) hd (by rw [← Int.natCast_add]; exact h)
theorem Wk.subn (hx : aev σ x = .d (.v (.int .i64 (a : Int)))) (hy : aev σ y = .d (.v (.int .i64 (b : Int)))) (hb : b ≤ a) (ha : a ≤ 9223372036854775807) (hd : d < σ.n)
    (h : Wk P C ops os cs (σ.put (T d) (.a (.d (.v (.int .i64 ((a - b : Nat) : Int)))))) K) : Wk P C ops (⟨some d, .binOp .sub t x y yt, ty, pos, af, none⟩ :: os) (⟨kof x ++ kof y, [T d], beh1 (rBin P .sub t x y) d⟩ :: cs) σ K :=
  Wk.subi hx hy (by omega) hd (by rw [← Int.ofNat_sub hb]; exact h)
theorem Wk.xorn (hx : aev σ x = .d (.v (.int .i64 (a : Int)))) (hy : aev σ y = .d (.v (.int .i64 (b : Int)))) (ha : a < 9223372036854775808) (hb : b < 9223372036854775808) (hd : d < σ.n)
    (h : Wk P C ops os cs (σ.put (T d) (.a (.d (.v (.int .i64 ((a ^^^ b : Nat) : Int)))))) K) : Wk P C ops (⟨some d, .binOp .xor t x y yt, ty, pos, af, none⟩ :: os) (⟨kof x ++ kof y, [T d], beh1 (rBin P .xor t x y) d⟩ :: cs) σ K :=
  Wk.bin hx hy (fun w => by simp [go_sem, i64_xor_nat a b ha hb]) hd h
/-- A number of one kind as one of another. -/
theorem Wk.convi {s : TypeId} {n : Int} {j k : IntKind} (hx : aev σ x = .d (.v (.int j n))) (hs : P.underlying s = some (.int j)) (ht : P.underlying t = some (.int k)) (hd : d < σ.n)
    (h : Wk P C ops os cs (σ.put (T d) (.a (.d (.v (.int k (k.wrap n)))))) K) : Wk P C ops (⟨some d, .convert s t x, ty, pos, af, none⟩ :: os) (⟨kof x, [T d], beh1 (rConv P s t x) d⟩ :: cs) σ K :=
  Wk.conv hx (fun w => by simp [convert, run_underlying hs, run_underlying ht, Conv.intToInt]) hd h
/-- A byte as a number. -/
theorem Wk.convn {s : TypeId} {j : IntKind} (hx : aev σ x = .d (.v (.int j (a : Int)))) (hs : P.underlying s = some (.int j)) (ht : P.underlying t = some (.int .i64)) (ha : a ≤ 9223372036854775807) (hd : d < σ.n)
    (h : Wk P C ops os cs (σ.put (T d) (.a (.d (.v (.int .i64 (a : Int)))))) K) : Wk P C ops (⟨some d, .convert s t x, ty, pos, af, none⟩ :: os) (⟨kof x, [T d], beh1 (rConv P s t x) d⟩ :: cs) σ K :=
  Wk.conv hx (fun w => by simp [convert, run_underlying hs, run_underlying ht, Conv.intToInt, wrap64 (n := (a : Int)) (by omega) (by omega)]) hd h
theorem wrap8 {n : Int} (h1 : 0 ≤ n) (h2 : n ≤ 255) : IntKind.u8.wrap n = n := by
  simp [IntKind.wrap, IntKind.bits, IntKind.signed]
  omega
theorem wrap8_nat (n : Int) : ∃ z : Nat, IntKind.u8.wrap n = (z : Int) ∧ z < 256 := by
  refine ⟨(n % 256).toNat, ?_, ?_⟩
  · simp [IntKind.wrap, IntKind.bits, IntKind.signed]
    omega
  · omega
/-- A number as a byte. -/
theorem Wk.convb {s : TypeId} {j : IntKind} {n : Int} (hx : aev σ x = .d (.v (.int j n))) (hs : P.underlying s = some (.int j)) (ht : P.underlying t = some (.int .u8)) (hd : d < σ.n)
    (h : ∀ z : Fin 256, Wk P C ops os cs (σ.put (T d) (.a (.d (.v (.int .u8 ((z.val : Nat) : Int)))))) K) : Wk P C ops (⟨some d, .convert s t x, ty, pos, af, none⟩ :: os) (⟨kof x, [T d], beh1 (rConv P s t x) d⟩ :: cs) σ K := by
  obtain ⟨z, hz, hlt⟩ := wrap8_nat n
  exact Wk.conv (r := .int .u8 (z : Int)) hx (fun w => by simp [convert, run_underlying hs, run_underlying ht, Conv.intToInt, hz]) hd (h ⟨z, hlt⟩)
end
end Go.Proofs.Ytpghbdigiplbiaa

/- The reader of codes, over what values read as. -/
namespace Go.Proofs.Ytpghbdigiplbiaa
open Go
set_option maxRecDepth 100000 in
theorem pick_ok : DrawOk Try.prog 26 (fun rest => ∃ n : Int, rest = [.d (.v (.int .i64 n))] ∧ n ≤ 1000000) (fun rest r => ∃ k : Nat, r = .d (.v (.int .i64 (k : Int))) ∧ ∀ n : Int, rest = [.d (.v (.int .i64 n))] → (k : Int) < n ∨ k = 0 ∧ n < 1) 1 := by
  refine DrawOk.zero ?_ ?_ ?_ ?_
  · rintro zs p rest ⟨n, rfl, hn⟩ hp
    refine Spec.intro (n := 99) (rv := [.tmp 4]) Try.func26 rfl rfl rfl (by simp) fun C hN hX => ?_
    refine AW.seq ?_
    apply AW.list
    apply Wk.asg (by conv => lhs; whnf) (lt_of_ble rfl)
    refine Wk.nil ?_
    refine AW.seq ?_
    apply AW.list
    apply Wk.mv (by conv => lhs; whnf) (lt_of_ble rfl)
    apply Wk.mv (by conv => lhs; whnf) (lt_of_ble rfl)
    apply Wk.nilc rfl (lt_of_ble rfl)
    apply Wk.fad 1 0 false fd71_1 rfl (lt_of_ble rfl)
    apply Wk.ld (i := 0) 1 false ty3 rfl rfl (by conv => lhs; whnf) (lt_of_ble rfl)
    apply Wk.addn (b := 1) rfl rfl (by omega) (lt_of_ble rfl)
    apply Wk.nilc rfl (lt_of_ble rfl)
    apply Wk.fad 1 0 false fd71_1 rfl (lt_of_ble rfl)
    apply Wk.sto (i := 0) 1 false ty3 rfl rfl rfl rfl (Nat.le_of_ble_eq_true rfl) (lt_of_ble rfl)
    refine Wk.nil ?_
    refine AW.keep (n := 99) (ts := [(0, .ptr 0 0), (1, .d (.v (.int .i64 n)))]) (bs := [(0, rdr zs (p + 1))]) ⟨rfl, .cons rfl rfl (.cons rfl rfl .nil), .cons rfl rfl .nil, hN⟩ ?_
    refine AW.seq (AW.seq ?_)
    have fin : ∀ (k : Nat) (σ : St), ((k : Int) < n ∨ k = 0 ∧ n < 1) → σ.t 4 = .d (.v (.int .i64 (k : Int))) → σ.b 0 = rdr zs (p + 1) → RetQ Try.prog [.tmp 4] (fun r bs => (∃ k : Nat, r = .d (.v (.int .i64 (k : Int))) ∧ ∀ m : Int, [A.d (.v (.int .i64 n))] = [.d (.v (.int .i64 m))] → (k : Int) < m ∨ k = 0 ∧ m < 1) ∧ ∃ zs' p', bs = [(0, rdr zs' p')] ∧ p' ≤ p + 1) .ret σ := by
      intro k σ hk h4 hb
      refine RetQ.ret [(0, rdr zs (p + 1))] (.cons h4 .nil) ⟨⟨k, rfl, fun m e => ?_⟩, zs, p + 1, rfl, Nat.le_refl _⟩ (fun i x hx => ?_)
      · simp only [List.cons.injEq, A.d.injEq, D.v.injEq, Value.int.injEq, true_and, and_true] at e
        rw [← e]; exact hk
      · rw [List.lookup_cons] at hx
        split at hx
        · rename_i he
          rw [eq_of_beq he, hb]
          exact Option.some.inj hx
        · cases hx
    by_cases h1 : n < 1
    · apply AW.list
      apply Wk.mv (by conv => lhs; whnf) (lt_of_ble rfl)
      apply Wk.bin (r := .bool true) rfl rfl (fun w => by simp [go_sem, h1]) (lt_of_ble rfl)
      apply Wk.mv (by conv => lhs; whnf) (lt_of_ble rfl)
      apply Wk.goff 17 (ok_move _) rfl rfl (by decide)
      apply Wk.goff 17 (ok_nil _) rfl rfl (by decide)
      apply Wk.goff 17 (ok_faddr fd71_0) rfl rfl (by decide)
      apply Wk.goff 17 (ok_load 0 ty22) rfl rfl (by decide)
      apply Wk.goff 17 (ok_len un22) rfl rfl (by decide)
      apply Wk.goff 17 (ok_bin _ _ _ _ _) rfl rfl (by decide)
      apply Wk.pckT rfl (by conv => lhs; whnf) (lt_of_ble rfl)
      refine Wk.nil ?_
      refine AW.cond rfl (fun _ => ?_) (fun h => by cases h)
      refine AW.seq ?_
      apply AW.list
      apply Wk.asg (by conv => lhs; whnf) (lt_of_ble rfl)
      refine Wk.nil (AW.ret ?_)
      exact fin 0 _ (.inr ⟨rfl, h1⟩) rfl rfl
    · apply AW.list
      apply Wk.mv (by conv => lhs; whnf) (lt_of_ble rfl)
      apply Wk.bin (r := .bool false) rfl rfl (fun w => by simp [go_sem, h1]) (lt_of_ble rfl)
      apply Wk.mv (by conv => lhs; whnf) (lt_of_ble rfl)
      apply Wk.gon 17 rfl rfl
      apply Wk.mv (by conv => lhs; whnf) (lt_of_ble rfl)
      apply Wk.gon 17 rfl rfl
      apply Wk.nilc rfl (lt_of_ble rfl)
      apply Wk.gon 17 rfl rfl
      apply Wk.fad 0 0 false fd71_0 rfl (lt_of_ble rfl)
      apply Wk.gon 17 rfl rfl
      apply Wk.ld (i := 0) 1 false ty22 rfl rfl (by conv => lhs; whnf) (lt_of_ble rfl)
      apply Wk.gon 17 rfl rfl
      apply Wk.len un22 rfl (lt_of_ble rfl)
      apply Wk.gon 17 rfl rfl
      apply Wk.bin rfl rfl (fun w => by simp [go_sem] <;> rfl) (lt_of_ble rfl)
      apply Wk.pckF rfl (by conv => lhs; whnf) (lt_of_ble rfl)
      refine Wk.nil ?_
      refine AW.cond rfl (fun h0 => ?_) (fun h0 => ?_)
      · refine AW.seq ?_
        apply AW.list
        apply Wk.asg (by conv => lhs; whnf) (lt_of_ble rfl)
        refine Wk.nil (AW.ret ?_)
        exact fin 0 _ (.inl (by omega)) rfl rfl
      · have hl : 0 < zs.length := by
          simp only [beq_eq_false_iff_ne, ne_eq] at h0
          omega
        obtain ⟨m, rfl⟩ : ∃ m : Nat, n = (m : Int) := ⟨n.toNat, by omega⟩
        refine AW.skip (thenA_normal ?_)
        refine AW.keep (n := 99) (ts := [(0, .ptr 0 0), (1, .d (.v (.int .i64 (m : Int))))]) (bs := [(0, rdr zs (p + 1))]) ⟨rfl, .cons rfl rfl (.cons rfl rfl .nil), .cons rfl rfl .nil, hN⟩ ?_
        refine AW.seq ?_
        apply AW.list
        apply Wk.mv (by conv => lhs; whnf) (lt_of_ble rfl)
        apply Wk.nilc rfl (lt_of_ble rfl)
        apply Wk.fad 1 0 false fd71_1 rfl (lt_of_ble rfl)
        apply Wk.ld (i := 0) 1 false ty3 rfl rfl (by conv => lhs; whnf) (lt_of_ble rfl)
        apply Wk.subn (b := 1) rfl rfl (by omega) (by omega) (lt_of_ble rfl)
        apply Wk.asg (by conv => lhs; whnf) (lt_of_ble rfl)
        refine Wk.nil ?_
        refine AW.seq (AW.seq ?_)
        apply AW.list
        apply Wk.mv (by conv => lhs; whnf) (lt_of_ble rfl)
        apply Wk.mv (by conv => lhs; whnf) (lt_of_ble rfl)
        apply Wk.nilc rfl (lt_of_ble rfl)
        apply Wk.fad 0 0 false fd71_0 rfl (lt_of_ble rfl)
        apply Wk.ld (i := 0) 1 false ty22 rfl rfl (by conv => lhs; whnf) (lt_of_ble rfl)
        apply Wk.len un22 rfl (lt_of_ble rfl)
        apply Wk.bin rfl rfl (fun w => by simp [go_sem] <;> rfl) (lt_of_ble rfl)
        refine Wk.nil ?_
        refine AW.cond rfl (fun hc => ?_) (fun hc => ?_)
        · have hlt : p < zs.length := by simpa using hc
          have hlt' : p < (zs.map (·.val)).length := by simpa using hlt
          have hm : 0 < m := by omega
          refine AW.keep (n := 99) (ts := [(0, .ptr 0 0), (1, .d (.v (.int .i64 (m : Int)))), (5, .d (.v (.int .i64 (p : Int))))]) (bs := [(0, rdr zs (p + 1))]) ⟨rfl, .cons rfl rfl (.cons rfl rfl (.cons rfl rfl .nil)), .cons rfl rfl .nil, hN⟩ ?_
          refine AW.seq ?_
          apply AW.list
          apply Wk.mv (by conv => lhs; whnf) (lt_of_ble rfl)
          apply Wk.nilc rfl (lt_of_ble rfl)
          apply Wk.fad 0 0 false fd71_0 rfl (lt_of_ble rfl)
          apply Wk.ld (i := 0) 1 false ty22 rfl rfl (by conv => lhs; whnf) (lt_of_ble rfl)
          apply Wk.mv (by conv => lhs; whnf) (lt_of_ble rfl)
          apply Wk.iad 1 false un22 ty5 rfl rfl (by simpa using hlt) (one_bytes _) (lt_of_ble rfl)
          apply Wk.ldr 1 false ty5 rfl (bytes_get (zs.map (·.val)) p hlt') (by conv => lhs; whnf) (lt_of_ble rfl)
          apply Wk.convn rfl ui5 ui3 (by have := fin_lt zs p; omega) (lt_of_ble rfl)
          apply Wk.mv (by conv => lhs; whnf) (lt_of_ble rfl)
          apply Wk.remn rfl rfl hm (lt_of_ble rfl)
          apply Wk.asg (by conv => lhs; whnf) (lt_of_ble rfl)
          refine Wk.nil (AW.ret ?_)
          exact fin _ _ (.inl (by have := Nat.mod_lt ((zs.map (·.val)).getD p 0) hm; omega)) rfl rfl
        · have hm : 0 < m := by omega
          refine AW.skip (thenA_normal ?_)
          refine AW.bound (x := .tmp 34) rfl fun hlen => ?_
          simp only [List.length_map] at hlen
          refine AW.keep (n := 99) (ts := [(0, .ptr 0 0), (1, .d (.v (.int .i64 (m : Int)))), (5, .d (.v (.int .i64 (p : Int))))]) (bs := [(0, rdr zs (p + 1))]) ⟨rfl, .cons rfl rfl (.cons rfl rfl (.cons rfl rfl .nil)), .cons rfl rfl .nil, hN⟩ ?_
          have hl' : 0 < ((zs.map (·.val)).map fun z : Nat => [D.v (.int .u8 (z : Int))]).length := by simpa using hl
          have hlm : ((zs.map (·.val)).map fun z : Nat => [D.v (.int .u8 (z : Int))]).length = (zs.map (·.val)).length := by simp
          have x1 := fin_lt zs (p % ((zs.map (·.val)).map fun z : Nat => [D.v (.int .u8 (z : Int))]).length)
          have x2 := fin_lt zs ((p * 7 + 3) % ((zs.map (·.val)).map fun z : Nat => [D.v (.int .u8 (z : Int))]).length)
          have q1 := Nat.mod_lt p hl'
          have q2 := Nat.mod_lt (p * 7 + 3) hl'
          have q3 := Nat.div_le_self p ((zs.map (·.val)).map fun z : Nat => [D.v (.int .u8 (z : Int))]).length
          refine AW.seq ?_
          apply AW.drawd (hm := hmix) (cs := _) (σ1 := _)
          · apply Wk.mv (by conv => lhs; whnf) (lt_of_ble rfl)
            apply Wk.nilc rfl (lt_of_ble rfl)
            apply Wk.fad 0 0 false fd71_0 rfl (lt_of_ble rfl)
            apply Wk.ld (i := 0) 1 false ty22 rfl rfl (by conv => lhs; whnf) (lt_of_ble rfl)
            apply Wk.mv (by conv => lhs; whnf) (lt_of_ble rfl)
            apply Wk.mv (by conv => lhs; whnf) (lt_of_ble rfl)
            apply Wk.nilc rfl (lt_of_ble rfl)
            apply Wk.fad 0 0 false fd71_0 rfl (lt_of_ble rfl)
            apply Wk.ld (i := 0) 1 false ty22 rfl rfl (by conv => lhs; whnf) (lt_of_ble rfl)
            apply Wk.len un22 rfl (lt_of_ble rfl)
            apply Wk.remn rfl rfl hl' (lt_of_ble rfl)
            apply Wk.iad 1 false un22 ty5 rfl rfl q1 (one_bytes _) (lt_of_ble rfl)
            apply Wk.ldr 1 false ty5 rfl (bytes_get (zs.map (·.val)) _ (hlm ▸ q1)) (by conv => lhs; whnf) (lt_of_ble rfl)
            apply Wk.convn rfl ui5 ui3 (by omega) (lt_of_ble rfl)
            apply Wk.muln (b := 131) rfl rfl (by omega) (lt_of_ble rfl)
            apply Wk.mv (by conv => lhs; whnf) (lt_of_ble rfl)
            apply Wk.nilc rfl (lt_of_ble rfl)
            apply Wk.fad 0 0 false fd71_0 rfl (lt_of_ble rfl)
            apply Wk.ld (i := 0) 1 false ty22 rfl rfl (by conv => lhs; whnf) (lt_of_ble rfl)
            apply Wk.mv (by conv => lhs; whnf) (lt_of_ble rfl)
            apply Wk.muln (b := 7) rfl rfl (by omega) (lt_of_ble rfl)
            apply Wk.addn (b := 3) rfl rfl (by omega) (lt_of_ble rfl)
            apply Wk.mv (by conv => lhs; whnf) (lt_of_ble rfl)
            apply Wk.nilc rfl (lt_of_ble rfl)
            apply Wk.fad 0 0 false fd71_0 rfl (lt_of_ble rfl)
            apply Wk.ld (i := 0) 1 false ty22 rfl rfl (by conv => lhs; whnf) (lt_of_ble rfl)
            apply Wk.len un22 rfl (lt_of_ble rfl)
            apply Wk.remn rfl rfl hl' (lt_of_ble rfl)
            apply Wk.iad 1 false un22 ty5 rfl rfl q2 (one_bytes _) (lt_of_ble rfl)
            apply Wk.ldr 1 false ty5 rfl (bytes_get (zs.map (·.val)) _ (hlm ▸ q2)) (by conv => lhs; whnf) (lt_of_ble rfl)
            apply Wk.convn rfl ui5 ui3 (by omega) (lt_of_ble rfl)
            apply Wk.muln (b := 1117) rfl rfl (by omega) (lt_of_ble rfl)
            apply Wk.addn rfl rfl (by omega) (lt_of_ble rfl)
            apply Wk.mv (by conv => lhs; whnf) (lt_of_ble rfl)
            apply Wk.muln (b := 29) rfl rfl (by omega) (lt_of_ble rfl)
            apply Wk.addn rfl rfl (by omega) (lt_of_ble rfl)
            apply Wk.mv (by conv => lhs; whnf) (lt_of_ble rfl)
            apply Wk.mv (by conv => lhs; whnf) (lt_of_ble rfl)
            apply Wk.nilc rfl (lt_of_ble rfl)
            apply Wk.fad 0 0 false fd71_0 rfl (lt_of_ble rfl)
            apply Wk.ld (i := 0) 1 false ty22 rfl rfl (by conv => lhs; whnf) (lt_of_ble rfl)
            apply Wk.len un22 rfl (lt_of_ble rfl)
            apply Wk.quon rfl rfl hl' (by omega) (lt_of_ble rfl)
            apply Wk.muln (b := 53) rfl rfl (by omega) (lt_of_ble rfl)
            apply Wk.addn rfl rfl (by omega) (lt_of_ble rfl)
            apply Wk.asg (by conv => lhs; whnf) (lt_of_ble rfl)
            exact Wk.nil rfl
          · rfl
          · rfl
          obtain ⟨X, hX1, hX2⟩ : ∃ X : Nat, X = (zs.map (·.val)).getD (p % ((zs.map (·.val)).map fun z : Nat => [D.v (.int .u8 (z : Int))]).length) 0 * 131 + (zs.map (·.val)).getD ((p * 7 + 3) % ((zs.map (·.val)).map fun z : Nat => [D.v (.int .u8 (z : Int))]).length) 0 * 1117 + p * 29 + p / ((zs.map (·.val)).map fun z : Nat => [D.v (.int .u8 (z : Int))]).length * 53 ∧ X ≤ 1000000000000000 := ⟨_, rfl, by omega⟩
          refine AW.keep (n := 99) (ts := [(1, .d (.v (.int .i64 (m : Int)))), (6, .d (.v (.int .i64 (X : Int))))]) (bs := [(0, rdr zs (p + 1))]) ⟨rfl, .cons rfl rfl (.cons (by rw [hX1]; rfl) rfl .nil), .cons rfl rfl .nil, hN⟩ ?_
          clear x1 x2 q1 q2 q3 hX1 hl' hlm
          have h64 : X / 64 ≤ X := Nat.div_le_self X 64
          refine AW.seq ?_
          apply AW.list
          apply Wk.mv (by conv => lhs; whnf) (lt_of_ble rfl)
          apply Wk.mv (by conv => lhs; whnf) (lt_of_ble rfl)
          apply Wk.quon (b := 64) rfl rfl (by omega) (by omega) (lt_of_ble rfl)
          apply Wk.xorn rfl rfl (by omega) (by omega) (lt_of_ble rfl)
          apply Wk.asg (by conv => lhs; whnf) (lt_of_ble rfl)
          refine Wk.nil ?_
          refine AW.seq ?_
          apply AW.list
          apply Wk.mv (by conv => lhs; whnf) (lt_of_ble rfl)
          apply Wk.mv (by conv => lhs; whnf) (lt_of_ble rfl)
          apply Wk.remn rfl rfl hm (lt_of_ble rfl)
          apply Wk.asg (by conv => lhs; whnf) (lt_of_ble rfl)
          refine Wk.nil (AW.ret ?_)
          exact fin _ _ (.inl (by have := Nat.mod_lt (X ^^^ X / 64) hm; omega)) rfl rfl
  · rintro rest ⟨n, rfl, _⟩
    rfl
  · rintro rest ⟨n, rfl, _⟩
    by_cases h : n < 1
    · exact ⟨_, 0, rfl, fun m e => by simp only [List.cons.injEq, A.d.injEq, D.v.injEq, Value.int.injEq, true_and, and_true] at e; omega⟩
    · exact ⟨_, 0, rfl, fun m e => by simp only [List.cons.injEq, A.d.injEq, D.v.injEq, Value.int.injEq, true_and, and_true] at e; omega⟩
  · rintro rest r ⟨k, rfl, _⟩
    rfl
end Go.Proofs.Ytpghbdigiplbiaa

/- Draws of truths and of bytes, over what values read as. -/
namespace Go.Proofs.Ytpghbdigiplbiaa
open Go
set_option maxRecDepth 100000 in
theorem odd_ok : DrawOk Try.prog 41 (fun rest => ∃ n : Int, rest = [.d (.v (.int .i64 n))] ∧ n ≤ 1000000 ∧ -1000000 ≤ n) (fun rest r => ∃ b : Bool, r = .d (.v (.bool b)) ∧ (rest = [.d (.v (.int .i64 0))] → b = false)) 1 := by
  refine DrawOk.zero ?_ ?_ ?_ ?_
  · rintro zs p rest ⟨n, rfl, hn, hn'⟩ hp
    refine Spec.intro (n := 15) (rv := [.tmp 4]) Try.func41 rfl rfl rfl (by simp) fun C hN hX => ?_
    refine AW.seq ?_
    apply AW.list
    apply Wk.asg (by conv => lhs; whnf) (lt_of_ble rfl)
    refine Wk.nil ?_
    refine AW.seq ?_
    by_cases h1 : 0 < n
    · apply AW.list
      apply Wk.mv (by conv => lhs; whnf) (lt_of_ble rfl)
      apply Wk.bin (r := .bool true) rfl rfl (fun w => by simp [go_sem, h1]) (lt_of_ble rfl)
      apply Wk.mv (by conv => lhs; whnf) (lt_of_ble rfl)
      apply Wk.gon 7 rfl rfl
      apply Wk.mv (by conv => lhs; whnf) (lt_of_ble rfl)
      apply Wk.gon 7 rfl rfl
      apply Wk.mv (by conv => lhs; whnf) (lt_of_ble rfl)
      apply Wk.gon 7 rfl rfl
      apply Wk.drw 0 pick_ok Try.func26 rfl rfl rfl rfl ⟨n, rfl, hn⟩ hp rfl (lt_of_ble rfl)
      rintro r zs' p' ⟨k, rfl, hk⟩ hp'
      apply Wk.gon 7 rfl rfl
      apply Wk.mv (by conv => lhs; whnf) (lt_of_ble rfl)
      apply Wk.gon 7 rfl rfl
      apply Wk.subi rfl rfl (by omega) (lt_of_ble rfl)
      apply Wk.gon 7 rfl rfl
      apply Wk.bin rfl rfl (fun w => by simp [go_sem] <;> rfl) (lt_of_ble rfl)
      apply Wk.pckT rfl (by conv => lhs; whnf) (lt_of_ble rfl)
      apply Wk.asg (by conv => lhs; whnf) (lt_of_ble rfl)
      refine Wk.nil (AW.ret ?_)
      refine RetQ.ret [(0, rdr zs' p')] (.cons rfl .nil) ⟨⟨_, rfl, fun e => ?_⟩, _, _, rfl, hp'⟩ (kept1 rfl)
      simp only [List.cons.injEq, A.d.injEq, D.v.injEq, Value.int.injEq, true_and, and_true] at e
      omega
    · apply AW.list
      apply Wk.mv (by conv => lhs; whnf) (lt_of_ble rfl)
      apply Wk.bin (r := .bool false) rfl rfl (fun w => by simp [go_sem, h1]) (lt_of_ble rfl)
      apply Wk.mv (by conv => lhs; whnf) (lt_of_ble rfl)
      apply Wk.goff 7 (ok_move _) rfl rfl (by decide)
      apply Wk.goff 7 (ok_move _) rfl rfl (by decide)
      apply Wk.goff 7 (ok_drw 0 pick_ok Try.func26 rfl rfl) rfl rfl (by decide)
      apply Wk.goff 7 (ok_move _) rfl rfl (by decide)
      apply Wk.goff 7 (ok_bin _ _ _ _ _) rfl rfl (by decide)
      apply Wk.goff 7 (ok_bin _ _ _ _ _) rfl rfl (by decide)
      apply Wk.pckF rfl (by conv => lhs; whnf) (lt_of_ble rfl)
      apply Wk.asg (by conv => lhs; whnf) (lt_of_ble rfl)
      refine Wk.nil (AW.ret ?_)
      exact RetQ.ret [(0, rdr zs p)] (.cons rfl .nil) ⟨⟨false, rfl, fun _ => rfl⟩, _, _, rfl, Nat.le_succ p⟩ (kept1 rfl)
  · rintro rest ⟨n, rfl, _⟩; rfl
  · rintro rest _; exact ⟨_, false, rfl, fun _ => rfl⟩
  · rintro rest r ⟨k, rfl, _⟩; rfl

def fbytes (zs : List (Fin 256)) : D := bytesD (zs.map (·.val))
def cellsB (zs : List (Fin 256)) : List (List A) := (zs.map (·.val)).map fun z : Nat => [A.d (.v (.int .u8 (z : Int)))]
def cellsD (zs : List (Fin 256)) : List (List D) := (zs.map (·.val)).map fun z : Nat => [D.v (.int .u8 (z : Int))]
theorem asData_cells (zs : List (Fin 256)) : asData (cellsB zs) (cellsD zs) := asData_bytes _
theorem one_cellsB (zs : List (Fin 256)) : ∀ c ∈ cellsB zs, c.length = 1 := by
  intro c hc
  obtain ⟨z, _, rfl⟩ := List.mem_map.1 hc
  rfl
theorem within_cellsB {K : List Nat} (zs : List (Fin 256)) : (cellsB zs).all (A.withins K) = true := by
  simp [cellsB, A.withins, A.within]
set_option maxRecDepth 100000 in
theorem bytes_ok : DrawOk Try.prog 25 (fun rest => ∃ n : Int, rest = [.d (.v (.int .i64 n))] ∧ n ≤ 1000 ∧ -1000 ≤ n) (fun rest r => ∃ bs : List (Fin 256), r = .d (fbytes bs) ∧ ∀ n : Int, rest = [.d (.v (.int .i64 n))] → (bs.length : Int) ≤ n ∨ bs = []) 3001 := by
  refine DrawOk.zero ?_ ?_ ?_ ?_
  · rintro zs p rest ⟨n, rfl, hn, hn'⟩ hp
    refine Spec.intro (n := 30) (rv := [.tmp 4]) Try.func25 rfl rfl rfl (by simp) fun C hN hX => ?_
    refine AW.seq ?_
    apply AW.list
    apply Wk.asg (by conv => lhs; whnf) (lt_of_ble rfl)
    refine Wk.nil ?_
    refine AW.seq ?_
    apply AW.list
    apply Wk.lst 7 1 false [.int .u8 0] un22 ty5 ze5 rfl rfl (by rfl) (by rfl) (by decide) (by decide) rfl rfl (all_len rfl) (lt_of_ble rfl)
    apply Wk.asg (by conv => lhs; whnf) (lt_of_ble rfl)
    refine Wk.nil ?_
    refine AW.seq (AW.seq ?_)
    apply AW.list
    apply Wk.mv (by conv => lhs; whnf) (lt_of_ble rfl)
    apply Wk.mv (by conv => lhs; whnf) (lt_of_ble rfl)
    apply Wk.addi rfl rfl (by omega) (lt_of_ble rfl)
    apply Wk.drw 0 pick_ok Try.func26 rfl rfl rfl rfl ⟨n + 1, rfl, by omega⟩ (by omega) rfl (lt_of_ble rfl)
    rintro r zs1 p1 ⟨k, rfl, hk⟩ hp1
    replace hk := hk _ rfl
    apply Wk.asg (by conv => lhs; whnf) (lt_of_ble rfl)
    refine Wk.nil ?_
    refine AW.block ?_
    let inv : Nat × Nat × List (Fin 256) × Nat × List (Fin 256) → St := fun x => St.of 30 [(0, .ptr 0 0), (5, .own 7 x.2.1), (6, .d (.v (.int .i64 (x.1 : Int))))] [(0, rdr x.2.2.1 x.2.2.2.1), (7, .own x.2.1 5 1 (cellsB x.2.2.2.2))]
    refine AW.loop inv (fun x => x.1 ≤ k ∧ x.2.2.2.1 + 3 * x.1 ≤ p + 1 + 3 * k ∧ x.2.2.2.2.length + x.1 ≤ k) (fun x => x.1) (k, 0, zs1, p1, []) ⟨Nat.le_refl _, by simp only; omega, by simp⟩ ?_ ?_
    · exact fun a w => Rel.keep ⟨rfl, .cons rfl rfl (.cons rfl rfl (.cons rfl rfl .nil)), .cons rfl rfl (.cons rfl rfl .nil), ⟨fun i b hb => by have := hN.1 i b hb; simp [keys] at this ⊢; exact .inl this, fun i q v hv => by have := hN.2 i q v hv; simp [keys] at this ⊢; exact .inl this⟩⟩
    · rintro ⟨m, q, zs2, p2, bs⟩ ⟨h1, h2, h3⟩
      simp only at h1 h2 h3
      show AW Try.prog C _ _ (St.of 30 [(0, .ptr 0 0), (5, .own 7 q), (6, .d (.v (.int .i64 (m : Int))))] [(0, rdr zs2 p2), (7, .own q 5 1 (cellsB bs))])
      refine AW.seq (AW.seq ?_)
      apply AW.list
      apply Wk.mv (by conv => lhs; whnf) (lt_of_ble rfl)
      apply Wk.bin rfl rfl (fun w => by simp [go_sem] <;> rfl) (lt_of_ble rfl)
      refine Wk.nil ?_
      refine AW.cond rfl (fun hc => ?_) (fun hc => ?_)
      · have hm : 0 < m := by simpa using hc
        refine AW.skip (thenA_normal ?_)
        refine AW.seq (AW.block ?_)
        apply AW.list
        apply Wk.mv (by conv => lhs; whnf) (lt_of_ble rfl)
        apply Wk.mv (by conv => lhs; whnf) (lt_of_ble rfl)
        apply Wk.drw 0 pick_ok Try.func26 rfl rfl rfl rfl ⟨_, rfl, by omega⟩ (by omega) rfl (lt_of_ble rfl)
        rintro r1 zs3 p3 ⟨k1, rfl, hk1⟩ hp3
        apply Wk.mv (by conv => lhs; whnf) (lt_of_ble rfl)
        apply Wk.drw 0 pick_ok Try.func26 rfl rfl rfl rfl ⟨_, rfl, by omega⟩ (by omega) rfl (lt_of_ble rfl)
        rintro r2 zs4 p4 ⟨k2, rfl, hk2⟩ hp4
        apply Wk.lst 21 1 false [.int .i64 0] un49 ty3 ze3 rfl rfl (by rfl) (by rfl) (by decide) (by decide) rfl rfl (all_len rfl) (lt_of_ble rfl)
        apply Wk.mv (by conv => lhs; whnf) (lt_of_ble rfl)
        apply Wk.drw 0 pick_ok Try.func26 rfl rfl rfl rfl ⟨_, rfl, by omega⟩ (by omega) rfl (lt_of_ble rfl)
        rintro r3 zs5 p5 ⟨k3, rfl, hk3⟩ hp5
        have hk3 : k3 < 3 := by have := hk3 3 rfl; omega
        obtain ⟨v, hv⟩ : ∃ v : Int, partA (List.flatten [[A.d (.v (.int .i64 (k1 : Int)))], [.d (.v (.int .i64 (k2 : Int)))], [.d (.v (.int .i64 255))]]) (k3 * 1) 1 false = some (.d (.v (.int .i64 v))) := by
          rcases (show k3 = 0 ∨ k3 = 1 ∨ k3 = 2 by omega) with rfl | rfl | rfl <;> exact ⟨_, rfl⟩
        apply Wk.iado 21 1 false un49 ty3 rfl rfl rfl hk3 (lt_of_ble rfl)
        apply Wk.ldo (i := 21) 1 false ty3 rfl rfl hv (lt_of_ble rfl)
        apply Wk.convb rfl ui3 ui5 (lt_of_ble rfl)
        intro z
        apply Wk.lst 27 1 false [.int .u8 0] un22 ty5 ze5 rfl rfl (by rfl) (by rfl) (by decide) (by decide) rfl rfl (all_len rfl) (lt_of_ble rfl)
        apply Wk.appOO 7 27 1 un22 ap5 rfl rfl rfl rfl (by decide) (all_len rfl) (one_cellsB bs) (by simp [cellsB]; omega) (lt_of_ble rfl)
        apply Wk.asg (by conv => lhs; whnf) (lt_of_ble rfl)
        refine Wk.nil (inBlockA_normal (thenA_normal ?_))
        apply AW.list
        apply Wk.mv (by conv => lhs; whnf) (lt_of_ble rfl)
        apply Wk.subn (b := 1) rfl rfl (by omega) (by omega) (lt_of_ble rfl)
        apply Wk.asg (by conv => lhs; whnf) (lt_of_ble rfl)
        refine Wk.nil ?_
        refine ⟨(m - 1, q + 1, zs5, p5, bs ++ [z]), ⟨by simp only; omega, by simp only; omega, by simp; omega⟩, by simp only; omega, ?_⟩
        refine fun a w => Rel.keep ⟨rfl, .cons rfl rfl (.cons rfl rfl (.cons rfl rfl .nil)), .cons rfl rfl (.cons ?_ ?_ .nil), ⟨fun i b hb => by have := hN.1 i b hb; simp [keys] at this ⊢; exact .inl this, fun i q v hv => by have := hN.2 i q v hv; simp [keys] at this ⊢; exact .inl this⟩⟩
        · simp only [cellsB, List.map_append]
          rfl
        · exact within_cellsB _
      · have hm : m = 0 := by simpa using hc
        refine AW.exit ?_
        repeat (first | refine inBlockA_same ?_ | refine thenA_exit ?_)
        refine thenA_normal ?_
        refine AW.thaw (t := 5) (i := 7) (cellsD bs) rfl rfl (asData_cells bs) (hX.one (by decide) rfl) ?_
        refine AW.seq ?_
        apply AW.list
        apply Wk.mv (by conv => lhs; whnf) (lt_of_ble rfl)
        apply Wk.asg (by conv => lhs; whnf) (lt_of_ble rfl)
        refine Wk.nil (AW.ret ?_)
        refine RetQ.ret [(0, rdr zs2 p2)] (.cons rfl .nil) ⟨⟨bs, rfl, fun n' e => ?_⟩, _, _, rfl, by omega⟩ (kept1 rfl)
        simp only [List.cons.injEq, A.d.injEq, D.v.injEq, Value.int.injEq, true_and, and_true] at e
        subst e
        rcases hk with hk | hk
        · exact .inl (by omega)
        · exact .inr (List.eq_nil_of_length_eq_zero (by omega))
  · rintro rest ⟨n, rfl, _⟩; rfl
  · rintro rest _; exact ⟨_, [], rfl, fun _ _ => .inr rfl⟩
  · rintro rest r ⟨k, rfl, _⟩; rfl
end Go.Proofs.Ytpghbdigiplbiaa

/- Between what values read as and the memory itself: rows of bytes; contracts over memory as contracts over data; a law at a code. -/
namespace Go.Proofs.Ytpghbdigiplbiaa
open Go Go.RowKit
theorem rd_den {w : World} {F : Nat → Prop} {v : Value} {zs : List Nat} (h : Rd w v zs) (hF : ∀ b, b < w.heap.size → F b) : FDen w F (bytesD zs) v := by
  obtain ⟨_, _, ⟨rfl, a, c, rfl, hac⟩ | ⟨b, off, cap, rfl, hl, hm, hb, hc⟩⟩ := h
  · exact .emp a c hac
  · have key : ∀ i j e d, (zs.map fun z : Nat => [D.v (.int .u8 (z : Int))])[i]? = some e → e[j]? = some d → i < zs.length ∧ j = 0 ∧ d = .v (.int .u8 ((zs.getD i 0 : Nat) : Int)) := fun i j e d he hd => by
      simp only [List.getElem?_map, Option.map_eq_some_iff] at he
      obtain ⟨z, hz, rfl⟩ := he
      have hi := (List.getElem?_eq_some_iff.1 hz).1
      cases j with
      | succ j => simp at hd
      | zero =>
        simp only [List.getElem?_cons_zero, Option.some.injEq] at hd
        exact ⟨hi, rfl, by rw [← hd, List.getD_eq_getElem?_getD, hz]; rfl⟩
    refine .row 1 b off cap zs.length _ (fun i _ => .int .u8 ((zs.getD i 0 : Nat) : Int)) (hF b hb) (by simp) hl hm (one_bytes zs) (fun i j e d he hd => ?_) (fun i j e d he hd => rfl) (fun i j e d he hd => ?_)
    · obtain ⟨hi, rfl, _⟩ := key i j e d he hd
      have := hc i hi
      rw [← this]
      simp
    · obtain ⟨_, _, rfl⟩ := key i j e d he hd
      exact .v _
theorem den_rd {w : World} {F : Nat → Prop} {v : Value} {zs : List Nat} (h : FDen w F (bytesD zs) v) (hF : ∀ b, F b → b < w.heap.size) (hz : Byt zs) (hl : zs.length ≤ 2000000) : Rd w v zs := by
  refine ⟨hz, hl, ?_⟩
  unfold bytesD at h
  generalize hes : (zs.map fun z : Nat => [D.v (.int .u8 (z : Int))]) = es at h
  cases h with
  | emp a c h0 =>
    have : zs = [] := by cases zs with | nil => rfl | cons z zs => simp at hes
    exact .inl ⟨this, a, c, rfl, h0⟩
  | row sz b o cap n _ vs hb hn hcap hmax hsz hc h1 hd =>
    subst hes
    have hn' : zs.length = n := by simpa using hn
    subst hn'
    refine .inr ⟨b, o, cap, rfl, hcap, hmax, hF b hb, fun j hj => ?_⟩
    have e := bytes_get zs j hj
    have hs : sz = 1 := (hsz _ (List.mem_of_getElem? e)).symm
    subst hs
    have h2 := hc j 0 _ _ e rfl
    have h3 := hd j 0 _ _ e rfl
    generalize vs j 0 = u at h2 h3
    cases h3
    simpa using h2

theorem DataOk.lift {P : Program} {f : FuncId} {ls : List A} {v : Value} (h : ∀ (w : World) (F : Nat → Prop) (E : Nat → Option Nat) (H : Nat → Nat → Option Value) (args : Array Value), (∀ b, F b → b < w.heap.size) → args.size = ls.length → (∀ (i : Nat) (a : A), ls[i]? = some a → Den w F E H a (args.getD i undef)) →
    Calls P f args w fun e w' => e = .returned v ∧ Below w.heap.size w w') : DataOk P f ls (.d (.v v)) := by
  intro w F E H args hpo hs hd
  refine (h w F E H args hpo.Flt hs hd).mono ?_
  rintro e w' ⟨rfl, hb⟩
  exact ⟨v, .d (.v v), [], F, E, H, rfl, ⟨rfl, rfl⟩, ⟨hb.os, hb.tape, hb.output, hb.size, fun b hlt _ => hb.block b hlt, fun b h => h, fun b h => Nat.lt_of_lt_of_le (hpo.Flt b h) hb.size, fun b h => .inl h, fun _ _ h => h, fun _ _ _ h => h,
    (fun i x hx => by cases hx), (fun i x b hx => by cases hx), (fun i j x y b _ hx => by cases hx), (fun i x b hx => by cases hx)⟩, .d _ _ (.v v)⟩

theorem DataOk.run {P : Program} {f : FuncId} {s v : Value} {w : World} {zs : List Nat} (h : DataOk P f [.d (bytesD zs)] (.d (.v v))) (hR : Rd w s zs) : Calls P f #[s] w fun e w' => e = .returned v ∧ Below w.heap.size w w' := by
  have hpo : PreOk w (· < w.heap.size) (fun _ => none) (fun _ _ => none) [] :=
    ⟨fun b hb => hb, (fun i x hx => by cases hx), (fun i x b hx => by cases hx), (fun i j x y b _ hx => by cases hx), fun i _ => ⟨rfl, fun _ => rfl⟩⟩
  refine (h w (· < w.heap.size) (fun _ => none) (fun _ _ => none) #[s] hpo rfl (fun i a ha => ?_)).mono ?_
  · cases i with
    | succ i => simp at ha
    | zero =>
      simp only [List.getElem?_cons_zero, Option.some.injEq] at ha
      subst ha
      exact .d _ _ (rd_den hR fun b hb => hb)
  · rintro e w' ⟨v', r, bs', F', E', H', rfl, ⟨rfl, rfl⟩, po, hden⟩
    rw [den_v hden]
    exact ⟨rfl, po.os, po.tape, po.output, po.size, fun b hb => po.old b hb (fun i x hx => by cases hx)⟩
theorem byt_fin {zs : List Nat} (h : Byt zs) : ∃ bs : List (Fin 256), bs.map (·.val) = zs := ⟨zs.attach.map fun z => ⟨z.1, h z.1 z.2⟩, by simp⟩
theorem fin_byt (bs : List (Fin 256)) : Byt (bs.map (·.val)) := fun z hz => by
  obtain ⟨x, _, rfl⟩ := List.mem_map.1 hz
  exact x.isLt
/-- One argument alone. -/
theorem arg1 {w : World} {F : Nat → Prop} {E : Nat → Option Nat} {H : Nat → Nat → Option Value} {a : A} {args : Array Value} (hs : args.size = [a].length) (hd : ∀ (i : Nat) (x : A), [a][i]? = some x → Den w F E H x (args.getD i undef)) : ∃ v, args = #[v] ∧ Den w F E H a v := by
  have hs' : args.toList.length = 1 := by simpa using hs
  match hl : args.toList, hs' with
  | [v], _ =>
    obtain rfl : args = #[v] := by rw [← Array.toArray_toList (xs := args), hl]
    exact ⟨v, rfl, hd 0 a rfl⟩

theorem liok_ok : DataOk Try.prog 12 [] (.d (.v (.bool true))) := by
  refine DataOk.lift fun w F E H args _ hs _ => ?_
  obtain rfl : args = #[] := by simpa using hs
  exact li_ok w
/-- An answer in new memory. -/
theorem DataOk.liftN {P : Program} {f : FuncId} {ls : List A} {r : A} (h : ∀ (w : World) (F : Nat → Prop) (E : Nat → Option Nat) (H : Nat → Nat → Option Value) (args : Array Value), (∀ b, F b → b < w.heap.size) → args.size = ls.length → (∀ (i : Nat) (a : A), ls[i]? = some a → Den w F E H a (args.getD i undef)) →
    Calls P f args w fun e w' => ∃ v, e = .returned v ∧ Below w.heap.size w w' ∧ Den w' (fun b => w.heap.size ≤ b ∧ b < w'.heap.size) E H r v) : DataOk P f ls r := by
  intro w F E H args hpo hs hd
  refine (h w F E H args hpo.Flt hs hd).mono ?_
  rintro e w' ⟨v, rfl, hb, hden⟩
  refine ⟨v, r, [], fun b => F b ∨ (w.heap.size ≤ b ∧ b < w'.heap.size), E, H, rfl, ⟨rfl, rfl⟩, ⟨hb.os, hb.tape, hb.output, hb.size, fun b hlt _ => hb.block b hlt, fun b h => .inl h, fun b h => ?_, fun b h => ?_, fun _ _ h => h, fun _ _ _ h => h,
    (fun i x hx => by cases hx), (fun i x b hx => by cases hx), (fun i j x y b _ hx => by cases hx), (fun i x b hx => by cases hx)⟩, hden.mono (fun b h => .inr h) (fun _ _ => rfl) (fun _ _ h => h) (fun _ _ _ h => h)⟩
  · rcases h with h | h
    · exact Nat.lt_of_lt_of_le (hpo.Flt b h) hb.size
    · exact h.2
  · rcases h with h | h
    · exact .inl h
    · exact .inr h.1
theorem own_den {w : World} {B : Nat} {v : Value} {zs : List Nat} (h : Own w B v zs) : FDen w (fun b => B ≤ b ∧ b < w.heap.size) (bytesD zs) v := by
  have h0 : w.ownsRow 0 5 1 v ((zs.map fun z : Nat => [A.d (.v (.int .u8 (z : Int)))]).length) (bcells zs) := by
    have h' : w.ownsRow B 5 1 v zs.length (bcells zs) := h
    rw [List.length_map]
    refine ⟨h'.1, ?_⟩
    rcases h'.2 with h1 | ⟨g, cap, cur, h1, h2, h3⟩
    · exact .inl h1
    · exact .inr ⟨g, cap, cur, h1, Nat.zero_le _, h3⟩
  have hp : Pw (CellOk w (fun _ => False) (fun _ => none) (fun _ _ => none)) (zs.map fun z : Nat => [A.d (.v (.int .u8 (z : Int)))]).flatten (bcells zs) := by
    have e : (zs.map fun z : Nat => [A.d (.v (.int .u8 (z : Int)))]).flatten = zs.map fun z : Nat => A.d (.v (.int .u8 (z : Int))) := by
      clear h0 h
      induction zs with
      | nil => rfl
      | cons z zs ih => simp [ih]
    rw [e]
    refine ⟨by simp [bcells], fun j a u ha hu => ?_⟩
    simp only [List.getElem?_map, Option.map_eq_some_iff, bcells] at ha hu
    obtain ⟨z, hz, rfl⟩ := ha
    obtain ⟨z', hz', rfl⟩ := hu
    rw [hz] at hz'
    obtain rfl := Option.some.inj hz'
    exact ⟨rfl, .d _ _ (.v _)⟩
  have := own_rowA h0 (by intro c hc; obtain ⟨z, _, rfl⟩ := List.mem_map.1 hc; rfl) hp (ds := zs.map fun z : Nat => [D.v (.int .u8 (z : Int))]) (by simp [asData, nrms, nrm])
  refine this.mono (fun b hb => ?_) (fun _ _ => rfl)
  rcases hb with hb | hb
  · exact hb.elim
  · exact World.ownsRow.lt h b hb
/-- The nil list of an answer reads as the empty one. -/
theorem DataOk.nrm {P : Program} {f : FuncId} {ls : List A} {r : A} (h : DataOk P f ls r) : DataOk P f ls (Go.Proofs.Ytpghbdigiplbiaa.nrm r) := by
  intro w F E H args hpo hs hd
  refine (h w F E H args hpo hs hd).mono ?_
  rintro e w' ⟨v, r', bs', F', E', H', rfl, ⟨rfl, rfl⟩, po, hden⟩
  exact ⟨v, _, [], F', E', H', rfl, ⟨rfl, rfl⟩, po, hden.nrm⟩
theorem args2 {w : World} {F : Nat → Prop} {E : Nat → Option Nat} {H : Nat → Nat → Option Value} {a b : A} {args : Array Value} (hs : args.size = [a, b].length) (hd : ∀ (i : Nat) (x : A), [a, b][i]? = some x → Den w F E H x (args.getD i undef)) : ∃ v u, args = #[v, u] ∧ Den w F E H a v ∧ Den w F E H b u := by
  have hs' : args.toList.length = 2 := by simpa using hs
  match hl : args.toList, hs' with
  | [v, u], _ =>
    obtain rfl : args = #[v, u] := by rw [← Array.toArray_toList (xs := args), hl]
    exact ⟨v, u, rfl, hd 0 a rfl, hd 1 b rfl⟩
theorem int2 {P : Program} {f : FuncId} {a b r : Int} (h : ∀ w, Calls P f #[.int .i64 a, .int .i64 b] w fun e w' => e = .returned (.int .i64 r) ∧ w' = w) : DataOk P f [.d (.v (.int .i64 a)), .d (.v (.int .i64 b))] (.d (.v (.int .i64 r))) := by
  refine DataOk.lift fun w F E H args _ hs hd => ?_
  obtain ⟨v, u, rfl, hv, hu⟩ := args2 hs hd
  obtain rfl := den_v hv
  obtain rfl := den_v hu
  refine (h w).mono ?_
  rintro e w' ⟨rfl, rfl⟩
  exact ⟨rfl, Below.refl _ _⟩
theorem int1 {P : Program} {f : FuncId} {a r : Int} (h : ∀ w, Calls P f #[.int .i64 a] w fun e w' => e = .returned (.int .i64 r) ∧ w' = w) : DataOk P f [.d (.v (.int .i64 a))] (.d (.v (.int .i64 r))) := by
  refine DataOk.lift fun w F E H args _ hs hd => ?_
  obtain ⟨v, rfl, hv⟩ := arg1 hs hd
  obtain rfl := den_v hv
  refine (h w).mono ?_
  rintro e w' ⟨rfl, rfl⟩
  exact ⟨rfl, Below.refl _ _⟩
theorem DataOk.run2 {P : Program} {f : FuncId} {s u v : Value} {w : World} {zs ys : List Nat} (h : DataOk P f [.d (bytesD zs), .d (bytesD ys)] (.d (.v v))) (hR : Rd w s zs) (hR' : Rd w u ys) : Calls P f #[s, u] w fun e w' => e = .returned v ∧ Below w.heap.size w w' := by
  have hpo : PreOk w (· < w.heap.size) (fun _ => none) (fun _ _ => none) [] :=
    ⟨fun b hb => hb, (fun i x hx => by cases hx), (fun i x b hx => by cases hx), (fun i j x y b _ hx => by cases hx), fun i _ => ⟨rfl, fun _ => rfl⟩⟩
  refine (h w (· < w.heap.size) (fun _ => none) (fun _ _ => none) #[s, u] hpo rfl (fun i a ha => ?_)).mono ?_
  · match i with
    | 0 => obtain rfl := Option.some.inj ha; exact .d _ _ (rd_den hR fun b hb => hb)
    | 1 => obtain rfl := Option.some.inj ha; exact .d _ _ (rd_den hR' fun b hb => hb)
    | _ + 2 => simp at ha
  · rintro e w' ⟨v', r, bs', F', E', H', rfl, ⟨rfl, rfl⟩, po, hden⟩
    rw [den_v hden]
    exact ⟨rfl, po.os, po.tape, po.output, po.size, fun b hb => po.old b hb (fun i x hx => by cases hx)⟩
end Go.Proofs.Ytpghbdigiplbiaa

/- Opening a reader; what has come of a message, over what values read as. -/
namespace Go.Proofs.Ytpghbdigiplbiaa
open Go
set_option maxRecDepth 100000 in
theorem open_ok : OpenOk Try.prog 24 := by
  intro zs
  refine Spec.intro (n := 11) (rv := [.tmp 2]) Try.func24 rfl rfl rfl (by simp) fun C hN hX => ?_
  refine AW.seq ?_
  apply AW.list
  apply Wk.asg (by conv => lhs; whnf) (lt_of_ble rfl)
  refine Wk.nil ?_
  refine AW.seq (AW.seq ?_)
  apply AW.list
  apply Wk.mv (by conv => lhs; whnf) (lt_of_ble rfl)
  apply Wk.len un22 rfl (lt_of_ble rfl)
  apply Wk.bin rfl rfl (fun w => by simp [go_sem] <;> rfl) (lt_of_ble rfl)
  refine Wk.nil ?_
  have fin : ∀ (ys : List (Fin 256)) (σ : St), σ.t 2 = .ptr 0 0 → σ.b 0 = rdr ys 0 → RetQ Try.prog [.tmp 2] (fun r bs => r = .ptr 0 0 ∧ ∃ zs', bs = [(0, rdr zs' 0)]) .ret σ := by
    intro ys σ h2 hb
    exact RetQ.ret [(0, rdr ys 0)] (.cons h2 .nil) ⟨rfl, ys, rfl⟩ (kept1 hb)
  refine AW.cond rfl (fun hc => ?_) (fun hc => ?_)
  · have hl : 2000 ≤ ((zs.map (·.val)).map fun z : Nat => [D.v (.int .u8 (z : Int))]).length := by
      simp at hc ⊢
      omega
    apply AW.list
    apply Wk.mv (by conv => lhs; whnf) (lt_of_ble rfl)
    apply Wk.slc (m := 2000) (l := 0) 1 false un22 ty5 rfl (by exact if_pos ⟨by decide, Int.ofNat_le.2 hl⟩) rfl (one_bytes _) (lt_of_ble rfl)
    apply Wk.asg (by conv => lhs; whnf) (lt_of_ble rfl)
    refine Wk.nil (thenA_normal ?_)
    refine AW.seq ?_
    apply AW.list
    apply Wk.mv (by conv => lhs; whnf) (lt_of_ble rfl)
    apply Wk.bld [.slice none 0 0, .int .i64 0] [(0, 1), (1, 1)] bl71 rfl (by conv => lhs; whnf) (lt_of_ble rfl)
    apply Wk.bx 0 rfl rfl (lt_of_ble rfl)
    apply Wk.asg (by conv => lhs; whnf) (lt_of_ble rfl)
    refine Wk.nil (AW.ret ?_)
    refine fin (zs.take 2000) _ rfl ?_
    simp [rdr, bytesD, List.map_take, St.put, upd, setA]
  · refine AW.skip (thenA_normal ?_)
    refine AW.seq ?_
    apply AW.list
    apply Wk.mv (by conv => lhs; whnf) (lt_of_ble rfl)
    apply Wk.bld [.slice none 0 0, .int .i64 0] [(0, 1), (1, 1)] bl71 rfl (by conv => lhs; whnf) (lt_of_ble rfl)
    apply Wk.bx 0 rfl rfl (lt_of_ble rfl)
    apply Wk.asg (by conv => lhs; whnf) (lt_of_ble rfl)
    refine Wk.nil (AW.ret ?_)
    exact fin zs _ rfl rfl
end Go.Proofs.Ytpghbdigiplbiaa

/- What has come of a message, drawn; over what values read as. -/
namespace Go.Proofs.Ytpghbdigiplbiaa
open Go
def joinA (m : Int) (bs : List (Fin 256)) : A := .agg [.d (.v (.int .i64 m)), .d (fbytes bs)]
def joinPost (_ : List A) (r : A) : Prop := ∃ (m : Int) (bs : List (Fin 256)), r = joinA m bs ∧ -1 ≤ m ∧ m ≤ 100 ∧ bs.length ≤ 1000
set_option maxRecDepth 100000 in
theorem join_ok : DrawOk Try.prog 34 (fun rest => ∃ n : Int, rest = [.d (.v (.int .i64 n))] ∧ n ≤ 1000000 ∧ -1000000 ≤ n) joinPost 6100 := by
  refine DrawOk.zero ?_ ?_ ?_ ?_
  · rintro zs p rest ⟨n, rfl, hn, hn'⟩ hp
    refine Spec.intro (n := 47) (rv := [.cell 4 30]) Try.func34 rfl rfl rfl (by simp) fun C hN hX => ?_
    refine AW.seq ?_
    apply AW.list
    apply Wk.alc 4 [.int .i64 0, .slice none 0 0] ze30 rfl rfl (lt_of_ble rfl)
    refine Wk.nil ?_
    refine AW.seq ?_
    apply AW.list
    apply Wk.bld [.int .i64 0, .slice none 0 0] [(0, 1), (1, 1)] bl30 rfl (by conv => lhs; whnf) (lt_of_ble rfl)
    apply Wk.alc 5 [.int .i64 0, .slice none 0 0] ze30 rfl rfl (lt_of_ble rfl)
    apply Wk.sto (i := 5) 2 true ty30 rfl rfl rfl rfl (Nat.le_of_ble_eq_true rfl) (lt_of_ble rfl)
    refine Wk.nil ?_
    refine AW.nrmb (j := 5) rfl ?_
    let inv : List (Fin 256) × Nat × Int × List (Fin 256) → St := fun x => St.of 47 [(0, .ptr 0 0), (1, .d (.v (.int .i64 n))), (4, .ptr 4 0), (5, .ptr 5 0)] [(0, rdr x.1 x.2.1), (4, .var [.d (.v (.int .i64 0)), .d (.v (.slice none 0 0))]), (5, .var [.d (.v (.int .i64 x.2.2.1)), .d (fbytes x.2.2.2)])]
    refine AW.via inv (fun x => x.2.1 ≤ p + 3004 ∧ -1 ≤ x.2.2.1 ∧ x.2.2.1 ≤ 100 ∧ x.2.2.2.length ≤ 1000) ?_ ?_
    · refine AW.seq ?_
      apply AW.list
      apply Wk.mv (by conv => lhs; whnf) (lt_of_ble rfl)
      apply Wk.drw 0 pick_ok Try.func26 rfl rfl rfl rfl ⟨_, rfl, by omega⟩ (by omega) rfl (lt_of_ble rfl)
      rintro r1 zs1 p1 ⟨k1, rfl, hk1⟩ hp1
      apply Wk.bin rfl rfl (fun w => by simp [go_sem] <;> rfl) (lt_of_ble rfl)
      refine Wk.nil ?_
      refine AW.cond rfl (fun hc => ?_) (fun hc => ?_)
      · refine AW.seq ?_
        apply AW.list
        apply Wk.mv (by conv => lhs; whnf) (lt_of_ble rfl)
        apply Wk.drw 0 pick_ok Try.func26 rfl rfl rfl rfl ⟨_, rfl, by omega⟩ (by omega) rfl (lt_of_ble rfl)
        rintro r2 zs2 p2 ⟨k2, rfl, hk2⟩ hp2
        replace hk2 := hk2 _ rfl
        apply Wk.addi rfl rfl (by omega) (lt_of_ble rfl)
        apply Wk.fad 0 0 false fd30_0 rfl (lt_of_ble rfl)
        apply Wk.sto (i := 5) 1 false ty3 rfl rfl rfl rfl (Nat.le_of_ble_eq_true rfl) (lt_of_ble rfl)
        refine Wk.nil ?_
        refine AW.seq ?_
        apply AW.list
        apply Wk.mv (by conv => lhs; whnf) (lt_of_ble rfl)
        apply Wk.fad 0 0 false fd30_0 rfl (lt_of_ble rfl)
        apply Wk.ld (i := 5) 1 false ty3 rfl rfl (by conv => lhs; whnf) (lt_of_ble rfl)
        apply Wk.subi rfl rfl (by omega) (lt_of_ble rfl)
        apply Wk.drw 0 bytes_ok Try.func25 rfl rfl rfl rfl ⟨_, rfl, by omega⟩ (by omega) rfl (lt_of_ble rfl)
        rintro r3 zs3 p3 ⟨bs, rfl, hbs⟩ hp3
        replace hbs := hbs _ rfl
        apply Wk.asg (by conv => lhs; whnf) (lt_of_ble rfl)
        refine Wk.nil ?_
        let inv6 : List (Fin 256) → St := fun bs => St.of 47 [(0, .ptr 0 0), (1, .d (.v (.int .i64 n))), (4, .ptr 4 0), (5, .ptr 5 0), (6, .d (fbytes bs))] [(0, rdr zs3 p3), (4, .var [.d (.v (.int .i64 0)), .d (.v (.slice none 0 0))]), (5, .var [.d (.v (.int .i64 (2 + (k2 : Int)))), .d (fbytes [])])]
        refine AW.via inv6 (fun bs => bs.length ≤ 1000) ?_ ?_
        · refine AW.seq ?_
          apply AW.list
          apply Wk.mv (by conv => lhs; whnf) (lt_of_ble rfl)
          apply Wk.len un22 rfl (lt_of_ble rfl)
          apply Wk.bin rfl rfl (fun w => by simp [go_sem] <;> rfl) (lt_of_ble rfl)
          refine Wk.nil ?_
          refine AW.cond rfl (fun hc => ?_) (fun hc => ?_)
          · apply AW.list
            apply Wk.lst 23 1 false [.int .u8 0] un22 ty5 ze5 rfl rfl (by rfl) (by rfl) (by decide) (by decide) rfl rfl (all_len rfl) (lt_of_ble rfl)
            apply Wk.asg (by conv => lhs; whnf) (lt_of_ble rfl)
            refine Wk.nil (thenA_normal ?_)
            exact ⟨[1], by simp, fun a w hR => Rel.keep ⟨rfl, .cons rfl rfl (.cons rfl rfl (.cons rfl rfl (.cons rfl rfl (.cons rfl rfl .nil)))), .cons rfl rfl (.cons rfl rfl (.cons rfl rfl .nil)), hN.mono (by simp [keys])⟩ (Rel.thaw (t := 6) (i := 23) (cellsD [1]) rfl rfl (by rfl) (hX.one (by decide) rfl) hR)⟩
          · refine AW.skip (thenA_normal ?_)
            have hb : bs.length ≤ 1000 := by
              rcases hbs with h | h
              · omega
              · rw [h]; simp
            exact ⟨bs, hb, fun a w => Rel.keep ⟨rfl, .cons rfl rfl (.cons rfl rfl (.cons rfl rfl (.cons rfl rfl (.cons rfl rfl .nil)))), .cons rfl rfl (.cons rfl rfl (.cons rfl rfl .nil)), hN.mono (by simp [keys])⟩⟩
        · intro ys hys
          show AW Try.prog C _ _ (St.of 47 [(0, .ptr 0 0), (1, .d (.v (.int .i64 n))), (4, .ptr 4 0), (5, .ptr 5 0), (6, .d (fbytes ys))] [(0, rdr zs3 p3), (4, .var [.d (.v (.int .i64 0)), .d (.v (.slice none 0 0))]), (5, .var [.d (.v (.int .i64 (2 + (k2 : Int)))), .d (fbytes [])])])
          apply AW.list
          apply Wk.mv (by conv => lhs; whnf) (lt_of_ble rfl)
          apply Wk.fad 1 0 false fd30_1 rfl (lt_of_ble rfl)
          apply Wk.sto (i := 5) 1 false ty22 rfl rfl rfl rfl (Nat.le_of_ble_eq_true rfl) (lt_of_ble rfl)
          refine Wk.nil (thenA_normal ?_)
          exact ⟨(zs3, p3, 2 + (k2 : Int), ys), ⟨by simp only; omega, by simp only; omega, by simp only; omega, hys⟩, fun a w => Rel.keep ⟨rfl, .cons rfl rfl (.cons rfl rfl (.cons rfl rfl (.cons rfl rfl .nil))), .cons rfl rfl (.cons rfl rfl (.cons rfl rfl .nil)), hN.mono (by simp [keys])⟩⟩
      · refine AW.skip (thenA_normal ?_)
        exact ⟨(zs1, p1, 0, []), ⟨by simp only; omega, by simp, by simp, by simp⟩, fun a w => Rel.keep ⟨rfl, .cons rfl rfl (.cons rfl rfl (.cons rfl rfl (.cons rfl rfl .nil))), .cons rfl rfl (.cons rfl rfl (.cons rfl rfl .nil)), hN.mono (by simp [keys])⟩⟩
    · rintro ⟨zs4, p4, m, bs⟩ ⟨hp4, hm1, hm2, hbs⟩
      simp only at hp4 hm1 hm2 hbs
      show AW Try.prog C _ _ (St.of 47 [(0, .ptr 0 0), (1, .d (.v (.int .i64 n))), (4, .ptr 4 0), (5, .ptr 5 0)] [(0, rdr zs4 p4), (4, .var [.d (.v (.int .i64 0)), .d (.v (.slice none 0 0))]), (5, .var [.d (.v (.int .i64 m)), .d (fbytes bs)])])
      refine AW.via inv (fun x => x.2.1 ≤ p + 6100 ∧ -1 ≤ x.2.2.1 ∧ x.2.2.1 ≤ 100 ∧ x.2.2.2.length ≤ 1000) ?_ ?_
      · refine AW.seq ?_
        apply AW.list
        apply Wk.mv (by conv => lhs; whnf) (lt_of_ble rfl)
        apply Wk.mv (by conv => lhs; whnf) (lt_of_ble rfl)
        apply Wk.drw 0 odd_ok Try.func41 rfl rfl rfl rfl ⟨_, rfl, by omega⟩ (by omega) rfl (lt_of_ble rfl)
        rintro r5 zs5 p5 ⟨b5, rfl, _⟩ hp5
        refine Wk.nil ?_
        refine AW.cond rfl (fun hc => ?_) (fun hc => ?_)
        · refine AW.seq ?_
          apply AW.list
          apply Wk.mv (by conv => lhs; whnf) (lt_of_ble rfl)
          apply Wk.drw 0 pick_ok Try.func26 rfl rfl rfl rfl ⟨_, rfl, by omega⟩ (by omega) rfl (lt_of_ble rfl)
          rintro r6 zs6 p6 ⟨k6, rfl, hk6⟩ hp6
          refine Wk.nil (AW.block ?_)
          refine AW.seq ?_
          apply AW.list
          apply Wk.bin rfl rfl (fun w => by simp [go_sem] <;> rfl) (lt_of_ble rfl)
          apply Wk.asg (by conv => lhs; whnf) (lt_of_ble rfl)
          refine Wk.nil ?_
          refine AW.cond rfl (fun hc => ?_) (fun hc => ?_)
          · apply AW.list
            apply Wk.lst 36 1 false [.int .i64 0] un49 ty3 ze3 rfl rfl (by rfl) (by rfl) (by decide) (by decide) rfl rfl (all_len rfl) (lt_of_ble rfl)
            apply Wk.mv (by conv => lhs; whnf) (lt_of_ble rfl)
            apply Wk.drw 0 pick_ok Try.func26 rfl rfl rfl rfl ⟨_, rfl, by omega⟩ (by omega) rfl (lt_of_ble rfl)
            rintro r7 zs7 p7 ⟨k7, rfl, hk7⟩ hp7
            have hk7' : k7 < 3 := by have := hk7 3 rfl; omega
            obtain ⟨v, hv, hv1, hv2⟩ : ∃ v : Int, partA (List.flatten [[A.d (.v (.int .i64 (-1)))], [.d (.v (.int .i64 1))], [.d (.v (.int .i64 25))]]) (k7 * 1) 1 false = some (.d (.v (.int .i64 v))) ∧ -1 ≤ v ∧ v ≤ 100 := by
              rcases (show k7 = 0 ∨ k7 = 1 ∨ k7 = 2 by omega) with rfl | rfl | rfl <;> exact ⟨_, rfl, by decide, by decide⟩
            apply Wk.iado 36 1 false un49 ty3 rfl rfl rfl hk7' (lt_of_ble rfl)
            apply Wk.ldo (i := 36) 1 false ty3 rfl rfl hv (lt_of_ble rfl)
            apply Wk.fad 0 0 false fd30_0 rfl (lt_of_ble rfl)
            apply Wk.sto (i := 5) 1 false ty3 rfl rfl rfl rfl (Nat.le_of_ble_eq_true rfl) (lt_of_ble rfl)
            refine Wk.nil (inBlockA_normal (thenA_normal ?_))
            exact ⟨(zs7, p7, v, bs), ⟨by simp only; omega, hv1, hv2, hbs⟩, fun a w => Rel.keep ⟨rfl, .cons rfl rfl (.cons rfl rfl (.cons rfl rfl (.cons rfl rfl .nil))), .cons rfl rfl (.cons rfl rfl (.cons rfl rfl .nil)), hN.mono (by simp [keys])⟩⟩
          · refine AW.seq ?_
            apply AW.list
            apply Wk.bin rfl rfl (fun w => by simp [go_sem] <;> rfl) (lt_of_ble rfl)
            apply Wk.asg (by conv => lhs; whnf) (lt_of_ble rfl)
            refine Wk.nil ?_
            refine AW.cond rfl (fun hc => ?_) (fun hc => ?_)
            · apply AW.list
              apply Wk.lst 44 1 false [.int .u8 0] un22 ty5 ze5 rfl rfl (by rfl) (by rfl) (by decide) (by decide) rfl rfl (all_len rfl) (lt_of_ble rfl)
              apply Wk.fad 1 0 false fd30_1 rfl (lt_of_ble rfl)
              apply Wk.sto (i := 5) 1 false ty22 rfl rfl rfl rfl (Nat.le_of_ble_eq_true rfl) (lt_of_ble rfl)
              refine Wk.nil (inBlockA_normal (thenA_normal ?_))
              refine ⟨(zs6, p6, m, []), ⟨by simp only; omega, hm1, hm2, by simp⟩, fun a w hR => ?_⟩
              have h := Rel.thawc (j := 5) (c := 1) (i := 44) [] rfl (by rfl) (by rfl) (by rfl) (hX.one (by decide) rfl) hR
              refine Rel.keep ?_ h
              exact ⟨rfl, .cons rfl rfl (.cons rfl rfl (.cons rfl rfl (.cons rfl rfl .nil))), .cons rfl rfl (.cons rfl rfl (.cons rfl rfl .nil)), hN.mono (by simp [keys])⟩
            · apply AW.list
              apply Wk.mv (by conv => lhs; whnf) (lt_of_ble rfl)
              apply Wk.drw 0 bytes_ok Try.func25 rfl rfl rfl rfl ⟨_, rfl, by omega⟩ (by omega) rfl (lt_of_ble rfl)
              rintro r7 zs7 p7 ⟨ys, rfl, hys⟩ hp7
              replace hys := hys _ rfl
              apply Wk.fad 1 0 false fd30_1 rfl (lt_of_ble rfl)
              apply Wk.sto (i := 5) 1 false ty22 rfl rfl rfl rfl (Nat.le_of_ble_eq_true rfl) (lt_of_ble rfl)
              refine Wk.nil (inBlockA_normal (thenA_normal ?_))
              have hy : ys.length ≤ 1000 := by
                rcases hys with h | h
                · omega
                · rw [h]; simp
              exact ⟨(zs7, p7, m, ys), ⟨by simp only; omega, hm1, hm2, hy⟩, fun a w => Rel.keep ⟨rfl, .cons rfl rfl (.cons rfl rfl (.cons rfl rfl (.cons rfl rfl .nil))), .cons rfl rfl (.cons rfl rfl (.cons rfl rfl .nil)), hN.mono (by simp [keys])⟩⟩
        · refine AW.skip (thenA_normal ?_)
          exact ⟨(zs5, p5, m, bs), ⟨by simp only; omega, hm1, hm2, hbs⟩, fun a w => Rel.keep ⟨rfl, .cons rfl rfl (.cons rfl rfl (.cons rfl rfl (.cons rfl rfl .nil))), .cons rfl rfl (.cons rfl rfl (.cons rfl rfl .nil)), hN.mono (by simp [keys])⟩⟩
      · rintro ⟨zs8, p8, m8, bs8⟩ ⟨hp8, h1, h2, h3⟩
        simp only at hp8 h1 h2 h3
        show AW Try.prog C _ _ (St.of 47 [(0, .ptr 0 0), (1, .d (.v (.int .i64 n))), (4, .ptr 4 0), (5, .ptr 5 0)] [(0, rdr zs8 p8), (4, .var [.d (.v (.int .i64 0)), .d (.v (.slice none 0 0))]), (5, .var [.d (.v (.int .i64 m8)), .d (fbytes bs8)])])
        refine AW.seq ?_
        apply AW.list
        apply Wk.ld (i := 5) 2 true ty30 rfl rfl (by conv => lhs; whnf) (lt_of_ble rfl)
        apply Wk.sto (i := 4) 2 true ty30 rfl rfl rfl rfl (Nat.le_of_ble_eq_true rfl) (lt_of_ble rfl)
        refine Wk.nil (AW.ret ?_)
        exact RetQ.ret [(0, rdr zs8 p8)] (.cons ⟨4, 0, _, _, _, rfl, rfl, ty30, rfl⟩ .nil) ⟨⟨m8, bs8, rfl, h1, h2, h3⟩, _, _, rfl, hp8⟩ (kept1 rfl)
  · rintro rest ⟨n, rfl, _⟩; rfl
  · rintro rest _; exact ⟨_, 0, [], rfl, by decide, by decide, by simp⟩
  · rintro rest r ⟨m, bs, rfl, _⟩; rfl
end Go.Proofs.Ytpghbdigiplbiaa

/- SegPut over what values read as. -/
namespace Go.Proofs.Ytpghbdigiplbiaa
open Go Go.RowKit
def partA3 (g l : Int) (bs : List (Fin 256)) : A := .agg [.d (.v (.int .i64 g)), .d (.v (.int .i64 l)), .d (fbytes bs)]
def putR (c m : Int) (g out : List (Fin 256)) : A := .tup [.agg [.d (.v (.int .i64 m)), .d (fbytes g)], .d (fbytes out), .d (.v (.int .i64 c))]
theorem put_den {m : Int} {bs : List (Fin 256)} {g l : Int} {fs : List (Fin 256)} {E : Nat → Option Nat} {H : Nat → Nat → Option Value} {B : Nat} {e : Ending} {w : World} (h : PutAns B m (bs.map (·.val)) g l (fs.map (·.val)) e w) :
    ∃ v, e = .returned v ∧ Den w (fun b => B ≤ b ∧ b < w.heap.size) E H (putR (putA m (bs.map (·.val)) g l (fs.map (·.val))) (putN m (bs.map (·.val)) g l (fs.map (·.val)))
      (if putA m (bs.map (·.val)) g l (fs.map (·.val)) = 1 then bs ++ fs else []) (if putA m (bs.map (·.val)) g l (fs.map (·.val)) = 2 then bs ++ fs else [])) v := by
  obtain ⟨v1, v2, rfl, o1, o2, _⟩ := h
  refine ⟨_, rfl, ?_⟩
  have d1 := own_den o1
  have d2 := own_den o2
  have e1 : putG m (bs.map (·.val)) g l (fs.map (·.val)) = (if putA m (bs.map (·.val)) g l (fs.map (·.val)) = 1 then bs ++ fs else []).map (·.val) := by
    unfold putG
    split <;> simp
  have e2 : putM m (bs.map (·.val)) g l (fs.map (·.val)) = (if putA m (bs.map (·.val)) g l (fs.map (·.val)) = 2 then bs ++ fs else []).map (·.val) := by
    unfold putM
    split <;> simp
  rw [e1] at d1
  rw [e2] at d2
  have h1 : v1.oneCell' = true := by
    rcases (show w.ownsRow B 5 1 v1 _ _ from o1).2 with h | ⟨_, _, _, h, _⟩
    · rw [h.1]; rfl
    · rw [h]; rfl
  refine .tup _ _ rfl fun i a ha => ?_
  match i with
  | 0 =>
    obtain rfl := Option.some.inj ha
    refine .agg _ _ rfl (fun i hi => ?_) (fun i a ha => ?_)
    · match i with
      | 0 => rfl
      | 1 => exact h1
      | _ + 2 => simp at hi; omega
    · match i with
      | 0 => obtain rfl := Option.some.inj ha; exact .d _ _ (.v _)
      | 1 => obtain rfl := Option.some.inj ha; exact .d _ _ d1
      | _ + 2 => simp at ha
  | 1 => obtain rfl := Option.some.inj ha; exact .d _ _ d2
  | 2 => obtain rfl := Option.some.inj ha; exact .d _ _ (.v _)
  | _ + 3 => simp at ha
theorem join_args {w : World} {F : Nat → Prop} {E : Nat → Option Nat} {H : Nat → Nat → Option Value} {m : Int} {bs : List (Fin 256)} {v : Value} (h : Den w F E H (joinA m bs) v) (hF : ∀ b, F b → b < w.heap.size) (hl : bs.length ≤ 2000000) : ∃ u, v = .agg #[.int .i64 m, u] ∧ Rd w u (bs.map (·.val)) := by
  obtain ⟨cs, rfl, hs, _, h⟩ := den_agg h
  have hs' : cs.toList.length = 2 := by simpa using hs
  match hl' : cs.toList, hs' with
  | [x0, x1], _ =>
    obtain rfl : cs = #[x0, x1] := by rw [← Array.toArray_toList (xs := cs), hl']
    obtain rfl := den_v (h 0 _ rfl)
    exact ⟨x1, rfl, den_rd (den_d (h 1 _ rfl)) hF (fin_byt bs) (by simpa using hl)⟩
theorem part_args {w : World} {F : Nat → Prop} {E : Nat → Option Nat} {H : Nat → Nat → Option Value} {g l : Int} {bs : List (Fin 256)} {v : Value} (h : Den w F E H (partA3 g l bs) v) (hF : ∀ b, F b → b < w.heap.size) (hl : bs.length ≤ 2000000) : ∃ u, v = .agg #[.int .i64 g, .int .i64 l, u] ∧ Rd w u (bs.map (·.val)) := by
  obtain ⟨cs, rfl, hs, _, h⟩ := den_agg h
  have hs' : cs.toList.length = 3 := by simpa using hs
  match hl' : cs.toList, hs' with
  | [x0, x1, x2], _ =>
    obtain rfl : cs = #[x0, x1, x2] := by rw [← Array.toArray_toList (xs := cs), hl']
    obtain rfl := den_v (h 0 _ rfl)
    obtain rfl := den_v (h 1 _ rfl)
    exact ⟨x2, rfl, den_rd (den_d (h 2 _ rfl)) hF (fin_byt bs) (by simpa using hl)⟩
/-- What comes of a piece: c, what has come then, the message. -/
def putS (m : Int) (bs : List (Fin 256)) (g l : Int) (fs : List (Fin 256)) : Int := putA m (bs.map (·.val)) g l (fs.map (·.val))
def putA4 (m : Int) (bs : List (Fin 256)) (g l : Int) (fs : List (Fin 256)) : A := putR (putS m bs g l fs) (putN m (bs.map (·.val)) g l (fs.map (·.val))) (if putS m bs g l fs = 1 then bs ++ fs else []) (if putS m bs g l fs = 2 then bs ++ fs else [])
theorem iput_ok (m : Int) (bs : List (Fin 256)) (g l : Int) (fs : List (Fin 256)) (h1 : bs.length ≤ 2000000) (h2 : fs.length ≤ 2000000) : DataOk Try.prog 13 [joinA m bs, partA3 g l fs] (putA4 m bs g l fs) := by
  refine DataOk.liftN fun w F E H args hF hs hd => ?_
  obtain ⟨v, u, rfl, hv, hu⟩ := args2 hs hd
  obtain ⟨v1, rfl, r1⟩ := join_args hv hF h1
  obtain ⟨u1, rfl, r2⟩ := part_args hu hF h2
  refine (impl_segput m v1 _ g l u1 _ w r1 r2).mono ?_
  rintro e w' ⟨hp, hb⟩
  obtain ⟨v, rfl, hden⟩ := put_den (E := E) (H := H) hp
  exact ⟨v, rfl, hb, hden⟩
theorem sl4_ok (m : Int) (bs : List (Fin 256)) (g l : Int) (fs : List (Fin 256)) (h1 : joinB m bs.length = true) (h2 : pieceB g l fs.length = true) : DataOk Try.prog 36 [joinA m bs, partA3 g l fs] (putA4 m bs g l fs) := by
  have hl1 := joinB_small h1
  have hl2 := pieceB_small h2
  refine DataOk.liftN fun w F E H args hF hs hd => ?_
  obtain ⟨v, u, rfl, hv, hu⟩ := args2 hs hd
  obtain ⟨v1, rfl, r1⟩ := join_args hv hF (by omega)
  obtain ⟨u1, rfl, r2⟩ := part_args hu hF (by omega)
  obtain ⟨a, cap, rfl⟩ := r1.form
  obtain ⟨a', cap', rfl⟩ := r2.form
  refine (spec_l4 m a cap _ g l a' cap' _ w r1 r2 (by simpa using h1) (by simpa using h2)).mono ?_
  rintro e w' ⟨hp, hb⟩
  obtain ⟨v, rfl, hden⟩ := put_den (E := E) (H := H) hp
  exact ⟨v, rfl, hb, hden⟩
/-- The answers, told apart. -/
theorem putS_ok {m : Int} {bs : List (Fin 256)} {g l : Int} {fs : List (Fin 256)} (h1 : joinB m bs.length = true) (h2 : pieceB g l fs.length = true) : putS m bs g l fs = putC m bs.length g fs.length := by
  simp [putS, putA, h1, h2]
theorem putA4_bad {m : Int} {bs : List (Fin 256)} {g l : Int} {fs : List (Fin 256)} (h1 : joinB m bs.length = true) (h2 : pieceB g l fs.length = true) (h : putC m bs.length g fs.length = 3) : putA4 m bs g l fs = putR 3 0 [] [] := by
  have e := putS_ok h1 h2
  rw [h] at e
  have e' : putA m (bs.map (·.val)) g l (fs.map (·.val)) = 3 := e
  simp [putA4, e, putN, e']
theorem putA4_all {m : Int} {bs : List (Fin 256)} {g l : Int} {fs : List (Fin 256)} (h1 : joinB m bs.length = true) (h2 : pieceB g l fs.length = true) (h : putC m bs.length g fs.length = 2) : putA4 m bs g l fs = putR 2 0 [] (bs ++ fs) := by
  have e := putS_ok h1 h2
  rw [h] at e
  have e' : putA m (bs.map (·.val)) g l (fs.map (·.val)) = 2 := e
  simp [putA4, e, putN, e']
theorem putA4_more {m : Int} {bs : List (Fin 256)} {g l : Int} {fs : List (Fin 256)} (h1 : joinB m bs.length = true) (h2 : pieceB g l fs.length = true) (h : putC m bs.length g fs.length = 1) : putA4 m bs g l fs = putR 1 (if m = 0 then l else m) (bs ++ fs) [] := by
  have e := putS_ok h1 h2
  rw [h] at e
  have e' : putA m (bs.map (·.val)) g l (fs.map (·.val)) = 1 := e
  simp [putA4, e, putN, e']
end Go.Proofs.Ytpghbdigiplbiaa

/- SegCut over what values read as: lists of pieces. -/
namespace Go.Proofs.Ytpghbdigiplbiaa
open Go Go.RowKit
def datD (d : Dat) : List D := [.v (.int .i64 d.1), .v (.int .i64 d.2.1), bytesD d.2.2]
def partsD (ds : List Dat) : D := .row (ds.map datD)
theorem ownP_den {w : World} {B : Nat} {v : Value} {qs : List Pc} (h : OwnP w B v qs) : FDen w (fun b => B ≤ b ∧ b < w.heap.size) (partsD (qs.map Pc.dat)) v := by
  let f : Pc → List A := fun q => [.d (.v (.int .i64 q.seg)), .d (.v (.int .i64 q.len)), .d (bytesD q.bs)]
  have h0 : w.ownsRow 0 34 3 v (qs.map f).length (pcells qs) := by
    have h' := h.1
    rw [List.length_map]
    refine ⟨h'.1, ?_⟩
    rcases h'.2 with h1 | ⟨g, cap, cur, h1, h2, h3⟩
    · exact .inl h1
    · exact .inr ⟨g, cap, cur, h1, Nat.zero_le _, h3⟩
  have hp : Pw (CellOk w (fun b => B ≤ b ∧ b < w.heap.size) (fun _ => none) (fun _ _ => none)) (qs.map f).flatten (pcells qs) := by
    have key : ∀ qs : List Pc, (∀ q ∈ qs, Own w B q.u q.bs) → Pw (CellOk w (fun b => B ≤ b ∧ b < w.heap.size) (fun _ => none) (fun _ _ => none)) (qs.map f).flatten (pcells qs) := by
      intro qs hq
      induction qs with
      | nil => exact Pw.nil
      | cons q qs ih =>
        rw [List.map_cons, List.flatten_cons, pcells_cons]
        refine Pw.append ⟨rfl, fun j a u ha hu => ?_⟩ (ih fun x hx => hq x (List.mem_cons_of_mem _ hx))
        have ho := hq q List.mem_cons_self
        have h1 : q.u.oneCell' = true := by
          rcases (show w.ownsRow B 5 1 q.u _ _ from ho).2 with h | ⟨_, _, _, h, _⟩
          · rw [h.1]; rfl
          · rw [h]; rfl
        match j with
        | 0 => obtain rfl := Option.some.inj ha; obtain rfl := Option.some.inj hu; exact ⟨rfl, .d _ _ (.v _)⟩
        | 1 => obtain rfl := Option.some.inj ha; obtain rfl := Option.some.inj hu; exact ⟨rfl, .d _ _ (.v _)⟩
        | 2 => obtain rfl := Option.some.inj ha; obtain rfl := Option.some.inj hu; exact ⟨h1, .d _ _ (own_den ho)⟩
        | _ + 3 => simp [f] at ha
    exact key qs h.2.1
  have := own_rowA h0 (by intro c hc; obtain ⟨q, _, rfl⟩ := List.mem_map.1 hc; rfl) hp (ds := (qs.map Pc.dat).map datD) (by
    simp only [asData, List.map_map]
    refine List.map_congr_left fun q _ => ?_
    simp [f, nrms, nrm, datD, Pc.dat, bytesD])
  refine this.mono (fun b hb => ?_) (fun _ _ => rfl)
  rcases hb with hb | hb
  · exact hb
  · exact World.ownsRow.lt h.1 b hb
theorem cut_den {B : Nat} {zs : List Nat} {m : Int} {e : Ending} {w : World} {E : Nat → Option Nat} {H : Nat → Nat → Option Value} (h : CutAns B zs m e w) : ∃ v, e = .returned v ∧ Den w (fun b => B ≤ b ∧ b < w.heap.size) E H (.d (partsD (cutD zs m))) v := by
  obtain ⟨v, qs, rfl, ho, hd⟩ := h
  exact ⟨v, rfl, .d _ _ (hd ▸ ownP_den ho)⟩
theorem icut_ok (zs : List Nat) (m : Int) (hz : Byt zs) (hl : zs.length ≤ 2000000) : DataOk Try.prog 9 [.d (bytesD zs), .d (.v (.int .i64 m))] (.d (partsD (cutD zs m))) := by
  refine DataOk.liftN fun w F E H args hF hs hd => ?_
  obtain ⟨v, u, rfl, hv, hu⟩ := args2 hs hd
  obtain rfl := den_v hu
  refine (impl_segcut _ _ m w (den_rd (den_d hv) hF hz hl)).mono ?_
  rintro e w' ⟨hp, hb⟩
  obtain ⟨v, rfl, hden⟩ := cut_den (E := E) (H := H) hp
  exact ⟨v, rfl, hb, hden⟩
theorem scut_ok (zs : List Nat) (m : Int) (hz : Byt zs) (hl : zs.length ≤ 2000000) : DataOk Try.prog 11 [.d (bytesD zs), .d (.v (.int .i64 m))] (.d (partsD (cutD zs m))) := by
  refine DataOk.liftN fun w F E H args hF hs hd => ?_
  obtain ⟨v, u, rfl, hv, hu⟩ := args2 hs hd
  obtain rfl := den_v hu
  refine (spec_segcut _ _ m w (den_rd (den_d hv) hF hz hl)).mono ?_
  rintro e w' ⟨hp, hb⟩
  obtain ⟨v, rfl, hden⟩ := cut_den (E := E) (H := H) hp
  exact ⟨v, rfl, hb, hden⟩
end Go.Proofs.Ytpghbdigiplbiaa

/- What the laws of pieces share; over what values read as. -/
namespace Go.Proofs.Ytpghbdigiplbiaa
open Go Go.RowKit
def joinN (m : Int) (zs : List Nat) : A := .agg [.d (.v (.int .i64 m)), .d (bytesD zs)]
def partN (d : Dat) : A := .agg ((datD d).map .d)
theorem bytes_of {zs : List Nat} (h : Byt zs) : ∃ bs : List (Fin 256), bs.map (·.val) = zs := byt_fin h
/-- A piece put, over lists of numbers. -/
theorem iputN_ok (m : Int) (zs : List Nat) (d : Dat) (hz : Byt zs) (hd : Byt d.2.2) (h1 : zs.length ≤ 2000000) (h2 : d.2.2.length ≤ 2000000) :
    DataOk Try.prog 13 [joinN m zs, partN d] (.tup [joinN (stN m zs d) (stG m zs d), .d (bytesD (stM m zs d)), .d (.v (.int .i64 (stA m zs d)))]) := by
  obtain ⟨bs, rfl⟩ := bytes_of hz
  obtain ⟨g, l, ys⟩ := d
  obtain ⟨fs, rfl⟩ := bytes_of hd
  have h := iput_ok m bs g l fs (by simpa using h1) (by simpa using h2)
  have e : putA4 m bs g l fs = .tup [joinN (stN m (bs.map (·.val)) (g, l, fs.map (·.val))) (stG m (bs.map (·.val)) (g, l, fs.map (·.val))), .d (bytesD (stM m (bs.map (·.val)) (g, l, fs.map (·.val)))), .d (.v (.int .i64 (stA m (bs.map (·.val)) (g, l, fs.map (·.val)))))] := by
    simp only [putA4, putR, joinN, stN, stG, stM, stA, putS, putG, putM]
    by_cases c1 : putA m (bs.map (·.val)) g l (fs.map (·.val)) = 1 <;> by_cases c2 : putA m (bs.map (·.val)) g l (fs.map (·.val)) = 2 <;> simp [c1, c2, fbytes]
  rw [e] at h
  exact h
theorem ipart_ok (d : Dat) : DataOk Try.prog 14 [partN d] (.d (.v (.bool (pieceB d.1 d.2.1 d.2.2.length)))) := by
  refine DataOk.lift fun w F E H args _ hs hd => ?_
  obtain ⟨v, rfl, hv⟩ := arg1 hs hd
  obtain ⟨g, l, ys⟩ := d
  obtain ⟨cs, rfl, hs, _, h⟩ := den_agg hv
  have hs' : cs.toList.length = 3 := by simpa [datD] using hs
  match hl : cs.toList, hs' with
  | [x0, x1, x2], _ =>
    obtain rfl : cs = #[x0, x1, x2] := by rw [← Array.toArray_toList (xs := cs), hl]
    obtain rfl := den_v (h 0 _ rfl)
    obtain rfl := den_v (h 1 _ rfl)
    obtain ⟨a, n, cap, rfl, hn⟩ := den_row (den_d (h 2 _ rfl))
    simp only [List.length_map] at hn
    subst hn
    exact impl_part _ _ _ _ _ _
theorem liBytesE (zs : List Nat) : DataOk Try.prog 15 [.d (bytesD zs), .d (bytesD zs)] (.d (.v (.bool true))) := by
  have h := liBytes_ok zs zs
  simpa using h
theorem liPartE (d : Dat) : DataOk Try.prog 28 [partN d, partN d] (.d (.v (.bool true))) := by
  obtain ⟨g, l, ys⟩ := d
  refine Spec.intro (n := 24) (rv := [.tmp 4]) Try.func28 rfl rfl rfl (by simp) fun C hN hX => ?_
  refine AW.seq ?_
  apply AW.list
  apply Wk.bx 2 rfl rfl (lt_of_ble rfl)
  apply Wk.bx 3 rfl rfl (lt_of_ble rfl)
  apply Wk.asg (by conv => lhs; whnf) (lt_of_ble rfl)
  refine Wk.nil ?_
  refine AW.seq ?_
  apply AW.list
  apply Wk.fad 0 0 false fd34_0 rfl (lt_of_ble rfl)
  apply Wk.ld (i := 2) 1 false ty3 rfl rfl (by conv => lhs; whnf) (lt_of_ble rfl)
  apply Wk.fad 0 0 false fd34_0 rfl (lt_of_ble rfl)
  apply Wk.ld (i := 3) 1 false ty3 rfl rfl (by conv => lhs; whnf) (lt_of_ble rfl)
  apply Wk.bin rfl rfl (r := .bool true) (fun w => by simp [go_sem]) (lt_of_ble rfl)
  apply Wk.mv (by conv => lhs; whnf) (lt_of_ble rfl)
  apply Wk.gon 10 rfl rfl
  apply Wk.fad 1 0 false fd34_1 rfl (lt_of_ble rfl)
  apply Wk.gon 10 rfl rfl
  apply Wk.ld (i := 2) 1 false ty3 rfl rfl (by conv => lhs; whnf) (lt_of_ble rfl)
  apply Wk.gon 10 rfl rfl
  apply Wk.fad 1 0 false fd34_1 rfl (lt_of_ble rfl)
  apply Wk.gon 10 rfl rfl
  apply Wk.ld (i := 3) 1 false ty3 rfl rfl (by conv => lhs; whnf) (lt_of_ble rfl)
  apply Wk.gon 10 rfl rfl
  apply Wk.bin rfl rfl (r := .bool true) (fun w => by simp [go_sem]) (lt_of_ble rfl)
  apply Wk.pckT rfl (by conv => lhs; whnf) (lt_of_ble rfl)
  apply Wk.mv (by conv => lhs; whnf) (lt_of_ble rfl)
  apply Wk.gon 17 rfl rfl
  apply Wk.fad 2 0 false fd34_2 rfl (lt_of_ble rfl)
  apply Wk.gon 17 rfl rfl
  apply Wk.ld (i := 2) 1 false ty22 rfl rfl (by conv => lhs; whnf) (lt_of_ble rfl)
  apply Wk.gon 17 rfl rfl
  apply Wk.fad 2 0 false fd34_2 rfl (lt_of_ble rfl)
  apply Wk.gon 17 rfl rfl
  apply Wk.ld (i := 3) 1 false ty22 rfl rfl (by conv => lhs; whnf) (lt_of_ble rfl)
  apply Wk.gon 17 rfl rfl
  apply Wk.dat (liBytesE ys) Try.func15 rfl rfl rfl rfl rfl (lt_of_ble rfl)
  apply Wk.pckT rfl (by conv => lhs; whnf) (lt_of_ble rfl)
  apply Wk.asg (by conv => lhs; whnf) (lt_of_ble rfl)
  refine Wk.nil (AW.ret ?_)
  exact RetQ.ret [] (.cons rfl .nil) ⟨rfl, rfl⟩ none_kept
theorem datD_len (ds : List Dat) : ∀ e ∈ ds.map datD, e.length = 3 := by
  intro e he
  obtain ⟨d, _, rfl⟩ := List.mem_map.1 he
  rfl
theorem liPartsE (ds : List Dat) : DataOk Try.prog 10 [.d (partsD ds), .d (partsD ds)] (.d (.v (.bool true))) := by
  refine Spec.intro (n := 27) (rv := [.tmp 4]) Try.func10 rfl rfl rfl (by simp) fun C hN hX => ?_
  refine AW.bound (x := .tmp 0) rfl fun hb => ?_
  simp only [List.length_map] at hb
  refine AW.seq ?_
  apply AW.list
  apply Wk.asg (by conv => lhs; whnf) (lt_of_ble rfl)
  refine Wk.nil ?_
  refine AW.seq (AW.seq ?_)
  apply AW.list
  apply Wk.mv (by conv => lhs; whnf) (lt_of_ble rfl)
  apply Wk.len un25 rfl (lt_of_ble rfl)
  apply Wk.mv (by conv => lhs; whnf) (lt_of_ble rfl)
  apply Wk.len un25 rfl (lt_of_ble rfl)
  apply Wk.bin rfl rfl (fun w => by simp [go_sem] <;> rfl) (lt_of_ble rfl)
  refine Wk.nil ?_
  refine AW.cond rfl (fun hc => by simp at hc) (fun _ => AW.skip (thenA_normal ?_))
  refine AW.seq (AW.seq ?_)
  apply AW.list
  apply Wk.asg (by conv => lhs; whnf) (lt_of_ble rfl)
  refine Wk.nil (AW.block ?_)
  refine AW.loop (fun q : Nat => St.of 27 [(0, .d (partsD ds)), (1, .d (partsD ds)), (5, .d (.v (.int .i64 (q : Int))))] []) (fun q => q ≤ ds.length) (fun q => ds.length - q) 0 (Nat.zero_le _) ?_ (fun q hq => ?_)
  · exact fun a w => Rel.keep ⟨rfl, .cons rfl rfl (.cons rfl rfl (.cons rfl rfl .nil)), .nil, hN⟩
  refine AW.seq (AW.seq ?_)
  apply AW.list
  apply Wk.mv (by conv => lhs; whnf) (lt_of_ble rfl)
  apply Wk.mv (by conv => lhs; whnf) (lt_of_ble rfl)
  apply Wk.len un25 rfl (lt_of_ble rfl)
  apply Wk.bin rfl rfl (fun w => by simp [go_sem] <;> rfl) (lt_of_ble rfl)
  refine Wk.nil ?_
  refine AW.cond rfl (fun hc => ?_) (fun hc => ?_)
  · have hlt : q < ds.length := by simpa using hc
    obtain ⟨d, hd⟩ : ∃ d, ds[q]? = some d := ⟨_, List.getElem?_eq_getElem hlt⟩
    have hget : (ds.map datD)[q]? = some (datD d) := by simp [hd]
    refine AW.skip ?_
    repeat (first | refine thenA_normal ?_ | refine inBlockA_normal ?_)
    refine AW.seq (AW.block (AW.seq ?_))
    apply AW.draw (hm := hmix) (cs := _)
    · apply Wk.mv (by conv => lhs; whnf) (lt_of_ble rfl)
      apply Wk.mv (by conv => lhs; whnf) (lt_of_ble rfl)
      apply Wk.iad 3 true un25 ty34 rfl rfl (by simpa using hlt) (datD_len ds) (lt_of_ble rfl)
      apply Wk.ldr 3 true ty34 rfl hget (by conv => lhs; whnf) (lt_of_ble rfl)
      apply Wk.mv (by conv => lhs; whnf) (lt_of_ble rfl)
      apply Wk.mv (by conv => lhs; whnf) (lt_of_ble rfl)
      apply Wk.iad 3 true un25 ty34 rfl rfl (by simpa using hlt) (datD_len ds) (lt_of_ble rfl)
      apply Wk.ldr 3 true ty34 rfl hget (by conv => lhs; whnf) (lt_of_ble rfl)
      apply Wk.dat (liPartE d) Try.func28 rfl rfl rfl rfl rfl (lt_of_ble rfl)
      apply Wk.un rfl (fun w => by simp [go_sem] <;> rfl) (lt_of_ble rfl)
      refine Wk.nil ?_
      refine AW.cond rfl (fun hn => by cases hn) (fun hn => ?_)
      refine AW.skip ?_
      repeat (first | refine thenA_normal ?_ | refine inBlockA_normal ?_)
      apply AW.list
      apply Wk.mv (by conv => lhs; whnf) (lt_of_ble rfl)
      apply Wk.addi rfl rfl (by omega) (lt_of_ble rfl)
      apply Wk.asg (by conv => lhs; whnf) (lt_of_ble rfl)
      refine Wk.nil ?_
      exact ⟨q + 1, by omega, by omega, fun a w => Rel.keep ⟨rfl, .cons rfl rfl (.cons rfl rfl (.cons rfl rfl .nil)), .nil, hN⟩⟩
    · rfl
    · rfl
  · refine AW.exit ?_
    repeat (first | refine inBlockA_same ?_ | refine thenA_exit ?_)
    repeat (first | refine thenA_normal ?_ | refine inBlockA_normal ?_)
    refine AW.seq ?_
    apply AW.list
    apply Wk.asg (by conv => lhs; whnf) (lt_of_ble rfl)
    refine Wk.nil (AW.ret ?_)
    repeat (first | refine thenA_ret ?_ | refine inBlockA_ret ?_)
    exact RetQ.ret [] (.cons rfl .nil) ⟨rfl, rfl⟩ none_kept
theorem liJoinN (m : Int) (zs : List Nat) : DataOk Try.prog 16 [joinN m zs, joinN m zs] (.d (.v (.bool true))) := by
  refine Spec.intro (n := 17) (rv := [.tmp 4]) Try.func16 rfl rfl rfl (by simp) fun C hN hX => ?_
  refine AW.seq ?_
  apply AW.list
  apply Wk.bx 2 rfl rfl (lt_of_ble rfl)
  apply Wk.bx 3 rfl rfl (lt_of_ble rfl)
  apply Wk.asg (by conv => lhs; whnf) (lt_of_ble rfl)
  refine Wk.nil ?_
  refine AW.seq ?_
  apply AW.list
  apply Wk.fad 0 0 false fd30_0 rfl (lt_of_ble rfl)
  apply Wk.ld (i := 2) 1 false ty3 rfl rfl (by conv => lhs; whnf) (lt_of_ble rfl)
  apply Wk.fad 0 0 false fd30_0 rfl (lt_of_ble rfl)
  apply Wk.ld (i := 3) 1 false ty3 rfl rfl (by conv => lhs; whnf) (lt_of_ble rfl)
  apply Wk.bin rfl rfl (r := .bool true) (fun w => by simp [go_sem]) (lt_of_ble rfl)
  apply Wk.mv (by conv => lhs; whnf) (lt_of_ble rfl)
  apply Wk.gon 10 rfl rfl
  apply Wk.fad 1 0 false fd30_1 rfl (lt_of_ble rfl)
  apply Wk.gon 10 rfl rfl
  apply Wk.ld (i := 2) 1 false ty22 rfl rfl (by conv => lhs; whnf) (lt_of_ble rfl)
  apply Wk.gon 10 rfl rfl
  apply Wk.fad 1 0 false fd30_1 rfl (lt_of_ble rfl)
  apply Wk.gon 10 rfl rfl
  apply Wk.ld (i := 3) 1 false ty22 rfl rfl (by conv => lhs; whnf) (lt_of_ble rfl)
  apply Wk.gon 10 rfl rfl
  apply Wk.dat (liBytesE zs) Try.func15 rfl rfl rfl rfl rfl (lt_of_ble rfl)
  apply Wk.pckT rfl (by conv => lhs; whnf) (lt_of_ble rfl)
  apply Wk.asg (by conv => lhs; whnf) (lt_of_ble rfl)
  refine Wk.nil (AW.ret ?_)
  exact RetQ.ret [] (.cons rfl .nil) ⟨rfl, rfl⟩ none_kept
theorem cutB_eq (n : Nat) (m : Int) : cutB n m = decide (n ≤ 24 ∧ 1 ≤ m ∧ m ≤ 8) := rfl
set_option maxHeartbeats 1000000 in
set_option maxRecDepth 100000 in
theorem drawCut_ok (zs : List (Fin 256)) : DataW Try.prog 8 [.d (bytesD (zs.map (·.val)))] (fun r => ∃ (bs : List (Fin 256)) (m : Int), r = .tup [.d (bytesD (bs.map (·.val))), .d (.v (.int .i64 m))] ∧ bs.length ≤ 26 ∧ 0 ≤ m ∧ m ≤ 9) := by
  refine ⟨?_, ⟨_, [], 0, rfl, by simp⟩, ?_⟩
  · refine id ?_
    refine Spec.intro (n := 20) (rv := [.tmp 2, .tmp 3]) Try.func8 rfl rfl rfl (by simp) fun C hN hX => ?_
    refine AW.seq ?_
    apply AW.list
    apply Wk.asg (by conv => lhs; whnf) (lt_of_ble rfl)
    apply Wk.asg (by conv => lhs; whnf) (lt_of_ble rfl)
    refine Wk.nil ?_
    refine AW.seq ?_
    apply AW.list
    apply Wk.mv (by conv => lhs; whnf) (lt_of_ble rfl)
    apply Wk.opn open_ok Try.func24 rfl rfl rfl rfl (lt_of_ble rfl)
    rintro zs1
    apply Wk.asg (by conv => lhs; whnf) (lt_of_ble rfl)
    refine Wk.nil ?_
    refine AW.seq ?_
    apply AW.draw (hm := hmix) (cs := _)
    · apply Wk.mv (by conv => lhs; whnf) (lt_of_ble rfl)
      apply Wk.drw 0 bytes_ok Try.func25 rfl rfl rfl rfl ⟨_, rfl, by omega⟩ (by omega) rfl (lt_of_ble rfl)
      rintro r1 zs2 p2 ⟨bs, rfl, hbs⟩ hp2
      replace hbs := hbs _ rfl
      apply Wk.mv (by conv => lhs; whnf) (lt_of_ble rfl)
      apply Wk.drw 0 pick_ok Try.func26 rfl rfl rfl rfl ⟨_, rfl, by omega⟩ (by omega) rfl (lt_of_ble rfl)
      rintro r2 zs3 p3 ⟨k1, rfl, hk1⟩ hp3
      replace hk1 := hk1 _ rfl
      apply Wk.addi rfl rfl (by omega) (lt_of_ble rfl)
      apply Wk.lst 12 1 false [.int .i64 0] un49 ty3 ze3 rfl rfl (by rfl) (by rfl) (by decide) (by decide) rfl rfl (all_len rfl) (lt_of_ble rfl)
      apply Wk.lst 13 1 false [.int .i64 0] un49 ty3 ze3 rfl rfl (by rfl) (by rfl) (by decide) (by decide) rfl rfl (all_len rfl) (lt_of_ble rfl)
      apply Wk.mv (by conv => lhs; whnf) (lt_of_ble rfl)
      apply Wk.drw 0 pick_ok Try.func26 rfl rfl rfl rfl ⟨_, rfl, by omega⟩ (by omega) rfl (lt_of_ble rfl)
      rintro r3 zs4 p4 ⟨k2, rfl, hk2⟩ hp4
      have hk2' : k2 < 6 := by have := hk2 6 rfl; omega
      obtain ⟨v, hv, hv3⟩ : ∃ v : Nat, partA (List.flatten [[A.d (.v (.int .i64 0))], [.d (.v (.int .i64 0))], [.d (.v (.int .i64 0))], [.d (.v (.int .i64 0))], [.d (.v (.int .i64 1))], [.d (.v (.int .i64 2))]]) (k2 * 1) 1 false = some (.d (.v (.int .i64 (v : Int)))) ∧ v < 3 := by
        rcases (show k2 = 0 ∨ k2 = 1 ∨ k2 = 2 ∨ k2 = 3 ∨ k2 = 4 ∨ k2 = 5 by omega) with rfl | rfl | rfl | rfl | rfl | rfl
        · exact ⟨0, rfl, by omega⟩
        · exact ⟨0, rfl, by omega⟩
        · exact ⟨0, rfl, by omega⟩
        · exact ⟨0, rfl, by omega⟩
        · exact ⟨1, rfl, by omega⟩
        · exact ⟨2, rfl, by omega⟩
      apply Wk.iado 13 1 false un49 ty3 rfl rfl rfl hk2' (lt_of_ble rfl)
      apply Wk.ldo (i := 13) 1 false ty3 rfl rfl hv (lt_of_ble rfl)
      obtain ⟨u, hu, hu1, hu2⟩ : ∃ u : Int, partA (List.flatten [[A.d (.v (.int .i64 (1 + (k1 : Int))))], [.d (.v (.int .i64 0))], [.d (.v (.int .i64 9))]]) (v * 1) 1 false = some (.d (.v (.int .i64 u))) ∧ 0 ≤ u ∧ u ≤ 9 := by
        rcases (show v = 0 ∨ v = 1 ∨ v = 2 by omega) with rfl | rfl | rfl
        · exact ⟨_, rfl, by omega, by omega⟩
        · exact ⟨_, rfl, by omega, by omega⟩
        · exact ⟨_, rfl, by omega, by omega⟩
      apply Wk.iado 12 1 false un49 ty3 rfl rfl rfl hv3 (lt_of_ble rfl)
      apply Wk.ldo (i := 12) 1 false ty3 rfl rfl hu (lt_of_ble rfl)
      apply Wk.asg (by conv => lhs; whnf) (lt_of_ble rfl)
      apply Wk.asg (by conv => lhs; whnf) (lt_of_ble rfl)
      refine Wk.nil (AW.ret ?_)
      refine RetQ.ret [] (.cons rfl (.cons rfl .nil)) ⟨⟨bs, u, rfl, ?_, hu1, hu2⟩, rfl⟩ none_kept
      rcases hbs with h | h
      · omega
      · rw [h]; simp
    · rfl
    · rfl
  · rintro r ⟨bs, m, rfl, _⟩; rfl
theorem liBytesEq {zs ys : List Nat} (h : zs = ys) : DataOk Try.prog 15 [.d (bytesD zs), .d (bytesD ys)] (.d (.v (.bool true))) := h ▸ liBytesE zs
theorem ipartb (d : Dat) {b : Bool} (h : pieceB d.1 d.2.1 d.2.2.length = b) : DataOk Try.prog 14 [partN d] (.d (.v (.bool b))) := h ▸ ipart_ok d
end Go.Proofs.Ytpghbdigiplbiaa
