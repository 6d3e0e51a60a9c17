/- Laws and contracts that the proof stands on: AbsNum, AbsPick, AbsBytes, AbsMemo, AbsFrm, AbsFrmBytes, AbsRead, AbsMk8, AbsTurn, AbsOpen, AbsPart, AbsFrame, AbsFrmLaw, AbsFrmEq, AbsIs. -/
import Derived.Test.YthnlpdjjnfkmeaaDoorMa
import Derived.Test.YthnlpdjjnfkmeaaDoorMb
import Derived.Test.YthnlpdjjnfkmeaaDoorMc
import Derived.Test.YthnlpdjjnfkmeaaDoorMd
import Derived.Laws.OwnMore
import Derived.WalkKit
import Derived.LaidEql
import Derived.Stop.Asserts
import Derived.RowKitTokens
/- Numbers, as operations of a walk. -/
namespace Go.Proofs.YthnlpdjjnfkmeaaDoor
open Go
section
variable {P : Program} {C : Ctx} {ops : Array Oper} {os : List Oper} {cs : List Cert} {σ : St} {K : St → Prop} {d : Nat} {ty : TypeId} {pos : String} {af : Array Edge} {t yt : TypeId} {x y : Operand} {a b : Nat}
theorem Wk.remn (hx : aev σ x = .d (.v (.int .i64 (a : Int)))) (hy : aev σ y = .d (.v (.int .i64 (b : Int)))) (hb : 0 < b) (hd : d < σ.n)
    (h : Wk P C ops os cs (σ.put (T d) (.a (.d (.v (.int .i64 ((a % b : Nat) : Int)))))) K) : Wk P C ops (⟨some d, .binOp .rem t x y yt, ty, pos, af, none⟩ :: os) (⟨kof x ++ kof y, [T d], beh1 (rBin P .rem t x y) d⟩ :: cs) σ K :=
  Wk.bin hx hy (fun w => by
    have : ¬ b = 0 := by omega
    simp [go_sem, this]
    exact Int.tmod_eq_emod_of_nonneg (by omega)) hd h
theorem Wk.quon (hx : aev σ x = .d (.v (.int .i64 (a : Int)))) (hy : aev σ y = .d (.v (.int .i64 (b : Int)))) (hb : 0 < b) (ha : a ≤ 9223372036854775807) (hd : d < σ.n)
    (h : Wk P C ops os cs (σ.put (T d) (.a (.d (.v (.int .i64 ((a / b : Nat) : Int)))))) K) : Wk P C ops (⟨some d, .binOp .quo t x y yt, ty, pos, af, none⟩ :: os) (⟨kof x ++ kof y, [T d], beh1 (rBin P .quo t x y) d⟩ :: cs) σ K :=
  Wk.bin hx hy (fun w => by
    have : ¬ b = 0 := by omega
    have h1 : a / b ≤ a := Nat.div_le_self a b
    have h2 : ((a : Int) / (b : Int)) = ((a / b : Nat) : Int) := by simp
    have h3 : IntKind.i64.wrap ((a : Int) / (b : Int)) = (a : Int) / (b : Int) := by
      rw [h2]
      generalize a / b = q at h1 ⊢
      exact wrap64 (by omega) (by omega)
    simp [go_sem, this, h3]) hd h
theorem Wk.muln (hx : aev σ x = .d (.v (.int .i64 (a : Int)))) (hy : aev σ y = .d (.v (.int .i64 (b : Int)))) (hb : a * b ≤ 9223372036854775807) (hd : d < σ.n)
    (h : Wk P C ops os cs (σ.put (T d) (.a (.d (.v (.int .i64 ((a * b : Nat) : Int)))))) K) : Wk P C ops (⟨some d, .binOp .mul t x y yt, ty, pos, af, none⟩ :: os) (⟨kof x ++ kof y, [T d], beh1 (rBin P .mul t x y) d⟩ :: cs) σ K :=
  Wk.bin hx hy (fun w => by
    have h2 : ((a : Int) * (b : Int)) = ((a * b : Nat) : Int) := by simp
    have h1 := wrap64 (n := ((a * b : Nat) : Int)) (by omega) (by omega)
    rw [← h2] at h1
    simp [go_sem, h1]) hd h
theorem Wk.addn (hx : aev σ x = .d (.v (.int .i64 (a : Int)))) (hy : aev σ y = .d (.v (.int .i64 (b : Int)))) (hb : a + b ≤ 9223372036854775807) (hd : d < σ.n)
    (h : Wk P C ops os cs (σ.put (T d) (.a (.d (.v (.int .i64 ((a + b : Nat) : Int)))))) K) : Wk P C ops (⟨some d, .binOp .add t x y yt, ty, pos, af, none⟩ :: os) (⟨kof x ++ kof y, [T d], beh1 (rBin P .add t x y) d⟩ :: cs) σ K :=
  Wk.addi hx hy (by omega) hd (by rw [← Int.natCast_add]; exact h)
theorem Wk.subn (hx : aev σ x = .d (.v (.int .i64 (a : Int)))) (hy : aev σ y = .d (.v (.int .i64 (b : Int)))) (hb : b ≤ a) (ha : a ≤ 9223372036854775807) (hd : d < σ.n)
    (h : Wk P C ops os cs (σ.put (T d) (.a (.d (.v (.int .i64 ((a - b : Nat) : Int)))))) K) : Wk P C ops (⟨some d, .binOp .sub t x y yt, ty, pos, af, none⟩ :: os) (⟨kof x ++ kof y, [T d], beh1 (rBin P .sub t x y) d⟩ :: cs) σ K :=
  Wk.subi hx hy (by omega) hd (by rw [← Int.ofNat_sub hb]; exact h)
theorem Wk.xorn (hx : aev σ x = .d (.v (.int .i64 (a : Int)))) (hy : aev σ y = .d (.v (.int .i64 (b : Int)))) (ha : a < 9223372036854775808) (hb : b < 9223372036854775808) (hd : d < σ.n)
    (h : Wk P C ops os cs (σ.put (T d) (.a (.d (.v (.int .i64 ((a ^^^ b : Nat) : Int)))))) K) : Wk P C ops (⟨some d, .binOp .xor t x y yt, ty, pos, af, none⟩ :: os) (⟨kof x ++ kof y, [T d], beh1 (rBin P .xor t x y) d⟩ :: cs) σ K :=
  Wk.bin hx hy (fun w => by simp [go_sem, i64_xor_nat a b ha hb]) hd h
/-- A number of one kind as one of another. -/
theorem Wk.convi {s : TypeId} {n : Int} {j k : IntKind} (hx : aev σ x = .d (.v (.int j n))) (hs : P.underlying s = some (.int j)) (ht : P.underlying t = some (.int k)) (hd : d < σ.n)
    (h : Wk P C ops os cs (σ.put (T d) (.a (.d (.v (.int k (k.wrap n)))))) K) : Wk P C ops (⟨some d, .convert s t x, ty, pos, af, none⟩ :: os) (⟨kof x, [T d], beh1 (rConv P s t x) d⟩ :: cs) σ K :=
  Wk.conv hx (fun w => by simp [convert, run_underlying hs, run_underlying ht, Conv.intToInt]) hd h
/-- A byte as a number. -/
theorem Wk.convn {s : TypeId} {j : IntKind} (hx : aev σ x = .d (.v (.int j (a : Int)))) (hs : P.underlying s = some (.int j)) (ht : P.underlying t = some (.int .i64)) (ha : a ≤ 9223372036854775807) (hd : d < σ.n)
    (h : Wk P C ops os cs (σ.put (T d) (.a (.d (.v (.int .i64 (a : Int)))))) K) : Wk P C ops (⟨some d, .convert s t x, ty, pos, af, none⟩ :: os) (⟨kof x, [T d], beh1 (rConv P s t x) d⟩ :: cs) σ K :=
  Wk.conv hx (fun w => by simp [convert, run_underlying hs, run_underlying ht, Conv.intToInt, wrap64 (n := (a : Int)) (by omega) (by omega)]) hd h
theorem wrap8 {n : Int} (h1 : 0 ≤ n) (h2 : n ≤ 255) : IntKind.u8.wrap n = n := by
  simp [IntKind.wrap, IntKind.bits, IntKind.signed]
  omega
theorem wrap8_nat (n : Int) : ∃ z : Nat, IntKind.u8.wrap n = (z : Int) ∧ z < 256 := by
  refine ⟨(n % 256).toNat, ?_, ?_⟩
  · simp [IntKind.wrap, IntKind.bits, IntKind.signed]
    omega
  · omega
/-- A number as a byte. -/
theorem Wk.convb {s : TypeId} {j : IntKind} {n : Int} (hx : aev σ x = .d (.v (.int j n))) (hs : P.underlying s = some (.int j)) (ht : P.underlying t = some (.int .u8)) (hd : d < σ.n)
    (h : ∀ z : Fin 256, Wk P C ops os cs (σ.put (T d) (.a (.d (.v (.int .u8 ((z.val : Nat) : Int)))))) K) : Wk P C ops (⟨some d, .convert s t x, ty, pos, af, none⟩ :: os) (⟨kof x, [T d], beh1 (rConv P s t x) d⟩ :: cs) σ K := by
  obtain ⟨z, hz, hlt⟩ := wrap8_nat n
  exact Wk.conv (r := .int .u8 (z : Int)) hx (fun w => by simp [convert, run_underlying hs, run_underlying ht, Conv.intToInt, hz]) hd (h ⟨z, hlt⟩)
end
end Go.Proofs.YthnlpdjjnfkmeaaDoor

/- The reader of codes, over what values read as. -/
namespace Go.Proofs.YthnlpdjjnfkmeaaDoor
open Go
set_option maxRecDepth 100000 in
theorem pick_ok : DrawOk Tryd.prog 22 (fun rest => ∃ n : Int, rest = [.d (.v (.int .i64 n))] ∧ n ≤ 1000000) (fun rest r => ∃ k : Nat, r = .d (.v (.int .i64 (k : Int))) ∧ ∀ n : Int, rest = [.d (.v (.int .i64 n))] → (k : Int) < n ∨ k = 0 ∧ n < 1) 1 := by
  refine DrawOk.zero ?_ ?_ ?_ ?_
  · rintro zs p rest ⟨n, rfl, hn⟩ hp
    refine Spec.intro (n := 99) (rv := [.tmp 4]) Tryd.func22 rfl rfl rfl (by simp) fun C hN hX => ?_
    refine AW.seq ?_
    apply AW.list
    apply Wk.asg (by conv => lhs; whnf) (lt_of_ble rfl)
    refine Wk.nil ?_
    refine AW.seq ?_
    apply AW.list
    apply Wk.mv (by conv => lhs; whnf) (lt_of_ble rfl)
    apply Wk.mv (by conv => lhs; whnf) (lt_of_ble rfl)
    apply Wk.nilc rfl (lt_of_ble rfl)
    apply Wk.fad 1 0 false fd83_1 rfl (lt_of_ble rfl)
    apply Wk.ld (i := 0) 1 false ty3 rfl rfl (by conv => lhs; whnf) (lt_of_ble rfl)
    apply Wk.addn (b := 1) rfl rfl (by omega) (lt_of_ble rfl)
    apply Wk.nilc rfl (lt_of_ble rfl)
    apply Wk.fad 1 0 false fd83_1 rfl (lt_of_ble rfl)
    apply Wk.sto (i := 0) 1 false ty3 rfl rfl rfl rfl (Nat.le_of_ble_eq_true rfl) (lt_of_ble rfl)
    refine Wk.nil ?_
    refine AW.keep (n := 99) (ts := [(0, .ptr 0 0), (1, .d (.v (.int .i64 n)))]) (bs := [(0, rdr zs (p + 1))]) ⟨rfl, .cons rfl rfl (.cons rfl rfl .nil), .cons rfl rfl .nil, hN⟩ ?_
    refine AW.seq (AW.seq ?_)
    have fin : ∀ (k : Nat) (σ : St), ((k : Int) < n ∨ k = 0 ∧ n < 1) → σ.t 4 = .d (.v (.int .i64 (k : Int))) → σ.b 0 = rdr zs (p + 1) → RetQ Tryd.prog [.tmp 4] (fun r bs => (∃ k : Nat, r = .d (.v (.int .i64 (k : Int))) ∧ ∀ m : Int, [A.d (.v (.int .i64 n))] = [.d (.v (.int .i64 m))] → (k : Int) < m ∨ k = 0 ∧ m < 1) ∧ ∃ zs' p', bs = [(0, rdr zs' p')] ∧ p' ≤ p + 1) .ret σ := by
      intro k σ hk h4 hb
      refine RetQ.ret [(0, rdr zs (p + 1))] (.cons h4 .nil) ⟨⟨k, rfl, fun m e => ?_⟩, zs, p + 1, rfl, Nat.le_refl _⟩ (fun i x hx => ?_)
      · simp only [List.cons.injEq, A.d.injEq, D.v.injEq, Value.int.injEq, true_and, and_true] at e
        rw [← e]; exact hk
      · rw [List.lookup_cons] at hx
        split at hx
        · rename_i he
          rw [eq_of_beq he, hb]
          exact Option.some.inj hx
        · cases hx
    by_cases h1 : n < 1
    · apply AW.list
      apply Wk.mv (by conv => lhs; whnf) (lt_of_ble rfl)
      apply Wk.bin (r := .bool true) rfl rfl (fun w => by simp [go_sem, h1]) (lt_of_ble rfl)
      apply Wk.mv (by conv => lhs; whnf) (lt_of_ble rfl)
      apply Wk.goff 17 (ok_move _) rfl rfl (by decide)
      apply Wk.goff 17 (ok_nil _) rfl rfl (by decide)
      apply Wk.goff 17 (ok_faddr fd83_0) rfl rfl (by decide)
      apply Wk.goff 17 (ok_load 0 ty22) rfl rfl (by decide)
      apply Wk.goff 17 (ok_len un22) rfl rfl (by decide)
      apply Wk.goff 17 (ok_bin _ _ _ _ _) rfl rfl (by decide)
      apply Wk.pckT rfl (by conv => lhs; whnf) (lt_of_ble rfl)
      refine Wk.nil ?_
      refine AW.cond rfl (fun _ => ?_) (fun h => by cases h)
      refine AW.seq ?_
      apply AW.list
      apply Wk.asg (by conv => lhs; whnf) (lt_of_ble rfl)
      refine Wk.nil (AW.ret ?_)
      exact fin 0 _ (.inr ⟨rfl, h1⟩) rfl rfl
    · apply AW.list
      apply Wk.mv (by conv => lhs; whnf) (lt_of_ble rfl)
      apply Wk.bin (r := .bool false) rfl rfl (fun w => by simp [go_sem, h1]) (lt_of_ble rfl)
      apply Wk.mv (by conv => lhs; whnf) (lt_of_ble rfl)
      apply Wk.gon 17 rfl rfl
      apply Wk.mv (by conv => lhs; whnf) (lt_of_ble rfl)
      apply Wk.gon 17 rfl rfl
      apply Wk.nilc rfl (lt_of_ble rfl)
      apply Wk.gon 17 rfl rfl
      apply Wk.fad 0 0 false fd83_0 rfl (lt_of_ble rfl)
      apply Wk.gon 17 rfl rfl
      apply Wk.ld (i := 0) 1 false ty22 rfl rfl (by conv => lhs; whnf) (lt_of_ble rfl)
      apply Wk.gon 17 rfl rfl
      apply Wk.len un22 rfl (lt_of_ble rfl)
      apply Wk.gon 17 rfl rfl
      apply Wk.bin rfl rfl (fun w => by simp [go_sem] <;> rfl) (lt_of_ble rfl)
      apply Wk.pckF rfl (by conv => lhs; whnf) (lt_of_ble rfl)
      refine Wk.nil ?_
      refine AW.cond rfl (fun h0 => ?_) (fun h0 => ?_)
      · refine AW.seq ?_
        apply AW.list
        apply Wk.asg (by conv => lhs; whnf) (lt_of_ble rfl)
        refine Wk.nil (AW.ret ?_)
        exact fin 0 _ (.inl (by omega)) rfl rfl
      · have hl : 0 < zs.length := by
          simp only [beq_eq_false_iff_ne, ne_eq] at h0
          omega
        obtain ⟨m, rfl⟩ : ∃ m : Nat, n = (m : Int) := ⟨n.toNat, by omega⟩
        refine AW.skip (thenA_normal ?_)
        refine AW.keep (n := 99) (ts := [(0, .ptr 0 0), (1, .d (.v (.int .i64 (m : Int))))]) (bs := [(0, rdr zs (p + 1))]) ⟨rfl, .cons rfl rfl (.cons rfl rfl .nil), .cons rfl rfl .nil, hN⟩ ?_
        refine AW.seq ?_
        apply AW.list
        apply Wk.mv (by conv => lhs; whnf) (lt_of_ble rfl)
        apply Wk.nilc rfl (lt_of_ble rfl)
        apply Wk.fad 1 0 false fd83_1 rfl (lt_of_ble rfl)
        apply Wk.ld (i := 0) 1 false ty3 rfl rfl (by conv => lhs; whnf) (lt_of_ble rfl)
        apply Wk.subn (b := 1) rfl rfl (by omega) (by omega) (lt_of_ble rfl)
        apply Wk.asg (by conv => lhs; whnf) (lt_of_ble rfl)
        refine Wk.nil ?_
        refine AW.seq (AW.seq ?_)
        apply AW.list
        apply Wk.mv (by conv => lhs; whnf) (lt_of_ble rfl)
        apply Wk.mv (by conv => lhs; whnf) (lt_of_ble rfl)
        apply Wk.nilc rfl (lt_of_ble rfl)
        apply Wk.fad 0 0 false fd83_0 rfl (lt_of_ble rfl)
        apply Wk.ld (i := 0) 1 false ty22 rfl rfl (by conv => lhs; whnf) (lt_of_ble rfl)
        apply Wk.len un22 rfl (lt_of_ble rfl)
        apply Wk.bin rfl rfl (fun w => by simp [go_sem] <;> rfl) (lt_of_ble rfl)
        refine Wk.nil ?_
        refine AW.cond rfl (fun hc => ?_) (fun hc => ?_)
        · have hlt : p < zs.length := by simpa using hc
          have hlt' : p < (zs.map (·.val)).length := by simpa using hlt
          have hm : 0 < m := by omega
          refine AW.keep (n := 99) (ts := [(0, .ptr 0 0), (1, .d (.v (.int .i64 (m : Int)))), (5, .d (.v (.int .i64 (p : Int))))]) (bs := [(0, rdr zs (p + 1))]) ⟨rfl, .cons rfl rfl (.cons rfl rfl (.cons rfl rfl .nil)), .cons rfl rfl .nil, hN⟩ ?_
          refine AW.seq ?_
          apply AW.list
          apply Wk.mv (by conv => lhs; whnf) (lt_of_ble rfl)
          apply Wk.nilc rfl (lt_of_ble rfl)
          apply Wk.fad 0 0 false fd83_0 rfl (lt_of_ble rfl)
          apply Wk.ld (i := 0) 1 false ty22 rfl rfl (by conv => lhs; whnf) (lt_of_ble rfl)
          apply Wk.mv (by conv => lhs; whnf) (lt_of_ble rfl)
          apply Wk.iad 1 false un22 ty5 rfl rfl (by simpa using hlt) (one_bytes _) (lt_of_ble rfl)
          apply Wk.ldr 1 false ty5 rfl (bytes_get (zs.map (·.val)) p hlt') (by conv => lhs; whnf) (lt_of_ble rfl)
          apply Wk.convn rfl ui5 ui3 (by have := fin_lt zs p; omega) (lt_of_ble rfl)
          apply Wk.mv (by conv => lhs; whnf) (lt_of_ble rfl)
          apply Wk.remn rfl rfl hm (lt_of_ble rfl)
          apply Wk.asg (by conv => lhs; whnf) (lt_of_ble rfl)
          refine Wk.nil (AW.ret ?_)
          exact fin _ _ (.inl (by have := Nat.mod_lt ((zs.map (·.val)).getD p 0) hm; omega)) rfl rfl
        · have hm : 0 < m := by omega
          refine AW.skip (thenA_normal ?_)
          refine AW.bound (x := .tmp 34) rfl fun hlen => ?_
          simp only [List.length_map] at hlen
          refine AW.keep (n := 99) (ts := [(0, .ptr 0 0), (1, .d (.v (.int .i64 (m : Int)))), (5, .d (.v (.int .i64 (p : Int))))]) (bs := [(0, rdr zs (p + 1))]) ⟨rfl, .cons rfl rfl (.cons rfl rfl (.cons rfl rfl .nil)), .cons rfl rfl .nil, hN⟩ ?_
          have hl' : 0 < ((zs.map (·.val)).map fun z : Nat => [D.v (.int .u8 (z : Int))]).length := by simpa using hl
          have hlm : ((zs.map (·.val)).map fun z : Nat => [D.v (.int .u8 (z : Int))]).length = (zs.map (·.val)).length := by simp
          have x1 := fin_lt zs (p % ((zs.map (·.val)).map fun z : Nat => [D.v (.int .u8 (z : Int))]).length)
          have x2 := fin_lt zs ((p * 7 + 3) % ((zs.map (·.val)).map fun z : Nat => [D.v (.int .u8 (z : Int))]).length)
          have q1 := Nat.mod_lt p hl'
          have q2 := Nat.mod_lt (p * 7 + 3) hl'
          have q3 := Nat.div_le_self p ((zs.map (·.val)).map fun z : Nat => [D.v (.int .u8 (z : Int))]).length
          refine AW.seq ?_
          apply AW.drawd (hm := hmix) (cs := _) (σ1 := _)
          · apply Wk.mv (by conv => lhs; whnf) (lt_of_ble rfl)
            apply Wk.nilc rfl (lt_of_ble rfl)
            apply Wk.fad 0 0 false fd83_0 rfl (lt_of_ble rfl)
            apply Wk.ld (i := 0) 1 false ty22 rfl rfl (by conv => lhs; whnf) (lt_of_ble rfl)
            apply Wk.mv (by conv => lhs; whnf) (lt_of_ble rfl)
            apply Wk.mv (by conv => lhs; whnf) (lt_of_ble rfl)
            apply Wk.nilc rfl (lt_of_ble rfl)
            apply Wk.fad 0 0 false fd83_0 rfl (lt_of_ble rfl)
            apply Wk.ld (i := 0) 1 false ty22 rfl rfl (by conv => lhs; whnf) (lt_of_ble rfl)
            apply Wk.len un22 rfl (lt_of_ble rfl)
            apply Wk.remn rfl rfl hl' (lt_of_ble rfl)
            apply Wk.iad 1 false un22 ty5 rfl rfl q1 (one_bytes _) (lt_of_ble rfl)
            apply Wk.ldr 1 false ty5 rfl (bytes_get (zs.map (·.val)) _ (hlm ▸ q1)) (by conv => lhs; whnf) (lt_of_ble rfl)
            apply Wk.convn rfl ui5 ui3 (by omega) (lt_of_ble rfl)
            apply Wk.muln (b := 131) rfl rfl (by omega) (lt_of_ble rfl)
            apply Wk.mv (by conv => lhs; whnf) (lt_of_ble rfl)
            apply Wk.nilc rfl (lt_of_ble rfl)
            apply Wk.fad 0 0 false fd83_0 rfl (lt_of_ble rfl)
            apply Wk.ld (i := 0) 1 false ty22 rfl rfl (by conv => lhs; whnf) (lt_of_ble rfl)
            apply Wk.mv (by conv => lhs; whnf) (lt_of_ble rfl)
            apply Wk.muln (b := 7) rfl rfl (by omega) (lt_of_ble rfl)
            apply Wk.addn (b := 3) rfl rfl (by omega) (lt_of_ble rfl)
            apply Wk.mv (by conv => lhs; whnf) (lt_of_ble rfl)
            apply Wk.nilc rfl (lt_of_ble rfl)
            apply Wk.fad 0 0 false fd83_0 rfl (lt_of_ble rfl)
            apply Wk.ld (i := 0) 1 false ty22 rfl rfl (by conv => lhs; whnf) (lt_of_ble rfl)
            apply Wk.len un22 rfl (lt_of_ble rfl)
            apply Wk.remn rfl rfl hl' (lt_of_ble rfl)
            apply Wk.iad 1 false un22 ty5 rfl rfl q2 (one_bytes _) (lt_of_ble rfl)
            apply Wk.ldr 1 false ty5 rfl (bytes_get (zs.map (·.val)) _ (hlm ▸ q2)) (by conv => lhs; whnf) (lt_of_ble rfl)
            apply Wk.convn rfl ui5 ui3 (by omega) (lt_of_ble rfl)
            apply Wk.muln (b := 1117) rfl rfl (by omega) (lt_of_ble rfl)
            apply Wk.addn rfl rfl (by omega) (lt_of_ble rfl)
            apply Wk.mv (by conv => lhs; whnf) (lt_of_ble rfl)
            apply Wk.muln (b := 29) rfl rfl (by omega) (lt_of_ble rfl)
            apply Wk.addn rfl rfl (by omega) (lt_of_ble rfl)
            apply Wk.mv (by conv => lhs; whnf) (lt_of_ble rfl)
            apply Wk.mv (by conv => lhs; whnf) (lt_of_ble rfl)
            apply Wk.nilc rfl (lt_of_ble rfl)
            apply Wk.fad 0 0 false fd83_0 rfl (lt_of_ble rfl)
            apply Wk.ld (i := 0) 1 false ty22 rfl rfl (by conv => lhs; whnf) (lt_of_ble rfl)
            apply Wk.len un22 rfl (lt_of_ble rfl)
            apply Wk.quon rfl rfl hl' (by omega) (lt_of_ble rfl)
            apply Wk.muln (b := 53) rfl rfl (by omega) (lt_of_ble rfl)
            apply Wk.addn rfl rfl (by omega) (lt_of_ble rfl)
            apply Wk.asg (by conv => lhs; whnf) (lt_of_ble rfl)
            exact Wk.nil rfl
          · rfl
          · rfl
          obtain ⟨X, hX1, hX2⟩ : ∃ X : Nat, X = (zs.map (·.val)).getD (p % ((zs.map (·.val)).map fun z : Nat => [D.v (.int .u8 (z : Int))]).length) 0 * 131 + (zs.map (·.val)).getD ((p * 7 + 3) % ((zs.map (·.val)).map fun z : Nat => [D.v (.int .u8 (z : Int))]).length) 0 * 1117 + p * 29 + p / ((zs.map (·.val)).map fun z : Nat => [D.v (.int .u8 (z : Int))]).length * 53 ∧ X ≤ 1000000000000000 := ⟨_, rfl, by omega⟩
          refine AW.keep (n := 99) (ts := [(1, .d (.v (.int .i64 (m : Int)))), (6, .d (.v (.int .i64 (X : Int))))]) (bs := [(0, rdr zs (p + 1))]) ⟨rfl, .cons rfl rfl (.cons (by rw [hX1]; rfl) rfl .nil), .cons rfl rfl .nil, hN⟩ ?_
          clear x1 x2 q1 q2 q3 hX1 hl' hlm
          have h64 : X / 64 ≤ X := Nat.div_le_self X 64
          refine AW.seq ?_
          apply AW.list
          apply Wk.mv (by conv => lhs; whnf) (lt_of_ble rfl)
          apply Wk.mv (by conv => lhs; whnf) (lt_of_ble rfl)
          apply Wk.quon (b := 64) rfl rfl (by omega) (by omega) (lt_of_ble rfl)
          apply Wk.xorn rfl rfl (by omega) (by omega) (lt_of_ble rfl)
          apply Wk.asg (by conv => lhs; whnf) (lt_of_ble rfl)
          refine Wk.nil ?_
          refine AW.seq ?_
          apply AW.list
          apply Wk.mv (by conv => lhs; whnf) (lt_of_ble rfl)
          apply Wk.mv (by conv => lhs; whnf) (lt_of_ble rfl)
          apply Wk.remn rfl rfl hm (lt_of_ble rfl)
          apply Wk.asg (by conv => lhs; whnf) (lt_of_ble rfl)
          refine Wk.nil (AW.ret ?_)
          exact fin _ _ (.inl (by have := Nat.mod_lt (X ^^^ X / 64) hm; omega)) rfl rfl
  · rintro rest ⟨n, rfl, _⟩
    rfl
  · rintro rest ⟨n, rfl, _⟩
    by_cases h : n < 1
    · exact ⟨_, 0, rfl, fun m e => by simp only [List.cons.injEq, A.d.injEq, D.v.injEq, Value.int.injEq, true_and, and_true] at e; omega⟩
    · exact ⟨_, 0, rfl, fun m e => by simp only [List.cons.injEq, A.d.injEq, D.v.injEq, Value.int.injEq, true_and, and_true] at e; omega⟩
  · rintro rest r ⟨k, rfl, _⟩
    rfl
end Go.Proofs.YthnlpdjjnfkmeaaDoor

/- Draws of truths and of bytes, over what values read as. -/
namespace Go.Proofs.YthnlpdjjnfkmeaaDoor
open Go
set_option maxRecDepth 100000 in
theorem odd_ok : DrawOk Tryd.prog 48 (fun rest => ∃ n : Int, rest = [.d (.v (.int .i64 n))] ∧ n ≤ 1000000 ∧ -1000000 ≤ n) (fun rest r => ∃ b : Bool, r = .d (.v (.bool b)) ∧ (rest = [.d (.v (.int .i64 0))] → b = false)) 1 := by
  refine DrawOk.zero ?_ ?_ ?_ ?_
  · rintro zs p rest ⟨n, rfl, hn, hn'⟩ hp
    refine Spec.intro (n := 15) (rv := [.tmp 4]) Tryd.func48 rfl rfl rfl (by simp) fun C hN hX => ?_
    refine AW.seq ?_
    apply AW.list
    apply Wk.asg (by conv => lhs; whnf) (lt_of_ble rfl)
    refine Wk.nil ?_
    refine AW.seq ?_
    by_cases h1 : 0 < n
    · apply AW.list
      apply Wk.mv (by conv => lhs; whnf) (lt_of_ble rfl)
      apply Wk.bin (r := .bool true) rfl rfl (fun w => by simp [go_sem, h1]) (lt_of_ble rfl)
      apply Wk.mv (by conv => lhs; whnf) (lt_of_ble rfl)
      apply Wk.gon 7 rfl rfl
      apply Wk.mv (by conv => lhs; whnf) (lt_of_ble rfl)
      apply Wk.gon 7 rfl rfl
      apply Wk.mv (by conv => lhs; whnf) (lt_of_ble rfl)
      apply Wk.gon 7 rfl rfl
      apply Wk.drw 0 pick_ok Tryd.func22 rfl rfl rfl rfl ⟨n, rfl, hn⟩ hp rfl (lt_of_ble rfl)
      rintro r zs' p' ⟨k, rfl, hk⟩ hp'
      apply Wk.gon 7 rfl rfl
      apply Wk.mv (by conv => lhs; whnf) (lt_of_ble rfl)
      apply Wk.gon 7 rfl rfl
      apply Wk.subi rfl rfl (by omega) (lt_of_ble rfl)
      apply Wk.gon 7 rfl rfl
      apply Wk.bin rfl rfl (fun w => by simp [go_sem] <;> rfl) (lt_of_ble rfl)
      apply Wk.pckT rfl (by conv => lhs; whnf) (lt_of_ble rfl)
      apply Wk.asg (by conv => lhs; whnf) (lt_of_ble rfl)
      refine Wk.nil (AW.ret ?_)
      refine RetQ.ret [(0, rdr zs' p')] (.cons rfl .nil) ⟨⟨_, rfl, fun e => ?_⟩, _, _, rfl, hp'⟩ (kept1 rfl)
      simp only [List.cons.injEq, A.d.injEq, D.v.injEq, Value.int.injEq, true_and, and_true] at e
      omega
    · apply AW.list
      apply Wk.mv (by conv => lhs; whnf) (lt_of_ble rfl)
      apply Wk.bin (r := .bool false) rfl rfl (fun w => by simp [go_sem, h1]) (lt_of_ble rfl)
      apply Wk.mv (by conv => lhs; whnf) (lt_of_ble rfl)
      apply Wk.goff 7 (ok_move _) rfl rfl (by decide)
      apply Wk.goff 7 (ok_move _) rfl rfl (by decide)
      apply Wk.goff 7 (ok_drw 0 pick_ok Tryd.func22 rfl rfl) rfl rfl (by decide)
      apply Wk.goff 7 (ok_move _) rfl rfl (by decide)
      apply Wk.goff 7 (ok_bin _ _ _ _ _) rfl rfl (by decide)
      apply Wk.goff 7 (ok_bin _ _ _ _ _) rfl rfl (by decide)
      apply Wk.pckF rfl (by conv => lhs; whnf) (lt_of_ble rfl)
      apply Wk.asg (by conv => lhs; whnf) (lt_of_ble rfl)
      refine Wk.nil (AW.ret ?_)
      exact RetQ.ret [(0, rdr zs p)] (.cons rfl .nil) ⟨⟨false, rfl, fun _ => rfl⟩, _, _, rfl, Nat.le_succ p⟩ (kept1 rfl)
  · rintro rest ⟨n, rfl, _⟩; rfl
  · rintro rest _; exact ⟨_, false, rfl, fun _ => rfl⟩
  · rintro rest r ⟨k, rfl, _⟩; rfl
def fbytes (zs : List (Fin 256)) : D := bytesD (zs.map (·.val))
def cellsB (zs : List (Fin 256)) : List (List A) := (zs.map (·.val)).map fun z : Nat => [A.d (.v (.int .u8 (z : Int)))]
def cellsD (zs : List (Fin 256)) : List (List D) := (zs.map (·.val)).map fun z : Nat => [D.v (.int .u8 (z : Int))]
theorem asData_cells (zs : List (Fin 256)) : asData (cellsB zs) (cellsD zs) := asData_bytes _
theorem one_cellsB (zs : List (Fin 256)) : ∀ c ∈ cellsB zs, c.length = 1 := by
  intro c hc
  obtain ⟨z, _, rfl⟩ := List.mem_map.1 hc
  rfl
theorem within_cellsB {K : List Nat} (zs : List (Fin 256)) : (cellsB zs).all (A.withins K) = true := by
  simp [cellsB, A.withins, A.within]
set_option maxRecDepth 100000 in
theorem bytes_ok : DrawOk Tryd.prog 57 (fun rest => ∃ n : Int, rest = [.d (.v (.int .i64 n))] ∧ n ≤ 1000 ∧ -1000 ≤ n) (fun rest r => ∃ bs : List (Fin 256), r = .d (fbytes bs) ∧ ∀ n : Int, rest = [.d (.v (.int .i64 n))] → (bs.length : Int) ≤ n ∨ bs = []) 3001 := by
  refine DrawOk.zero ?_ ?_ ?_ ?_
  · rintro zs p rest ⟨n, rfl, hn, hn'⟩ hp
    refine Spec.intro (n := 30) (rv := [.tmp 4]) Tryd.func57 rfl rfl rfl (by simp) fun C hN hX => ?_
    refine AW.seq ?_
    apply AW.list
    apply Wk.asg (by conv => lhs; whnf) (lt_of_ble rfl)
    refine Wk.nil ?_
    refine AW.seq ?_
    apply AW.list
    apply Wk.lst 7 1 false [.int .u8 0] un22 ty5 ze5 rfl rfl (by rfl) (by rfl) (by decide) (by decide) rfl rfl (all_len rfl) (lt_of_ble rfl)
    apply Wk.asg (by conv => lhs; whnf) (lt_of_ble rfl)
    refine Wk.nil ?_
    refine AW.seq (AW.seq ?_)
    apply AW.list
    apply Wk.mv (by conv => lhs; whnf) (lt_of_ble rfl)
    apply Wk.mv (by conv => lhs; whnf) (lt_of_ble rfl)
    apply Wk.addi rfl rfl (by omega) (lt_of_ble rfl)
    apply Wk.drw 0 pick_ok Tryd.func22 rfl rfl rfl rfl ⟨n + 1, rfl, by omega⟩ (by omega) rfl (lt_of_ble rfl)
    rintro r zs1 p1 ⟨k, rfl, hk⟩ hp1
    replace hk := hk _ rfl
    apply Wk.asg (by conv => lhs; whnf) (lt_of_ble rfl)
    refine Wk.nil ?_
    refine AW.block ?_
    let inv : Nat × Nat × List (Fin 256) × Nat × List (Fin 256) → St := fun x => St.of 30 [(0, .ptr 0 0), (5, .own 7 x.2.1), (6, .d (.v (.int .i64 (x.1 : Int))))] [(0, rdr x.2.2.1 x.2.2.2.1), (7, .own x.2.1 5 1 (cellsB x.2.2.2.2))]
    refine AW.loop inv (fun x => x.1 ≤ k ∧ x.2.2.2.1 + 3 * x.1 ≤ p + 1 + 3 * k ∧ x.2.2.2.2.length + x.1 ≤ k) (fun x => x.1) (k, 0, zs1, p1, []) ⟨Nat.le_refl _, by simp only; omega, by simp⟩ ?_ ?_
    · exact fun a w => Rel.keep ⟨rfl, .cons rfl rfl (.cons rfl rfl (.cons rfl rfl .nil)), .cons rfl rfl (.cons rfl rfl .nil), ⟨fun i b hb => by have := hN.1 i b hb; simp [keys] at this ⊢; exact .inl this, fun i q v hv => by have := hN.2 i q v hv; simp [keys] at this ⊢; exact .inl this⟩⟩
    · rintro ⟨m, q, zs2, p2, bs⟩ ⟨h1, h2, h3⟩
      simp only at h1 h2 h3
      show AW Tryd.prog C _ _ (St.of 30 [(0, .ptr 0 0), (5, .own 7 q), (6, .d (.v (.int .i64 (m : Int))))] [(0, rdr zs2 p2), (7, .own q 5 1 (cellsB bs))])
      refine AW.seq (AW.seq ?_)
      apply AW.list
      apply Wk.mv (by conv => lhs; whnf) (lt_of_ble rfl)
      apply Wk.bin rfl rfl (fun w => by simp [go_sem] <;> rfl) (lt_of_ble rfl)
      refine Wk.nil ?_
      refine AW.cond rfl (fun hc => ?_) (fun hc => ?_)
      · have hm : 0 < m := by simpa using hc
        refine AW.skip (thenA_normal ?_)
        refine AW.seq (AW.block ?_)
        apply AW.list
        apply Wk.mv (by conv => lhs; whnf) (lt_of_ble rfl)
        apply Wk.mv (by conv => lhs; whnf) (lt_of_ble rfl)
        apply Wk.drw 0 pick_ok Tryd.func22 rfl rfl rfl rfl ⟨_, rfl, by omega⟩ (by omega) rfl (lt_of_ble rfl)
        rintro r1 zs3 p3 ⟨k1, rfl, hk1⟩ hp3
        apply Wk.mv (by conv => lhs; whnf) (lt_of_ble rfl)
        apply Wk.drw 0 pick_ok Tryd.func22 rfl rfl rfl rfl ⟨_, rfl, by omega⟩ (by omega) rfl (lt_of_ble rfl)
        rintro r2 zs4 p4 ⟨k2, rfl, hk2⟩ hp4
        apply Wk.lst 21 1 false [.int .i64 0] un80 ty3 ze3 rfl rfl (by rfl) (by rfl) (by decide) (by decide) rfl rfl (all_len rfl) (lt_of_ble rfl)
        apply Wk.mv (by conv => lhs; whnf) (lt_of_ble rfl)
        apply Wk.drw 0 pick_ok Tryd.func22 rfl rfl rfl rfl ⟨_, rfl, by omega⟩ (by omega) rfl (lt_of_ble rfl)
        rintro r3 zs5 p5 ⟨k3, rfl, hk3⟩ hp5
        have hk3 : k3 < 3 := by have := hk3 3 rfl; omega
        obtain ⟨v, hv⟩ : ∃ v : Int, partA (List.flatten [[A.d (.v (.int .i64 (k1 : Int)))], [.d (.v (.int .i64 (k2 : Int)))], [.d (.v (.int .i64 255))]]) (k3 * 1) 1 false = some (.d (.v (.int .i64 v))) := by
          rcases (show k3 = 0 ∨ k3 = 1 ∨ k3 = 2 by omega) with rfl | rfl | rfl <;> exact ⟨_, rfl⟩
        apply Wk.iado 21 1 false un80 ty3 rfl rfl rfl hk3 (lt_of_ble rfl)
        apply Wk.ldo (i := 21) 1 false ty3 rfl rfl hv (lt_of_ble rfl)
        apply Wk.convb rfl ui3 ui5 (lt_of_ble rfl)
        intro z
        apply Wk.lst 27 1 false [.int .u8 0] un22 ty5 ze5 rfl rfl (by rfl) (by rfl) (by decide) (by decide) rfl rfl (all_len rfl) (lt_of_ble rfl)
        apply Wk.appOO 7 27 1 un22 ap5 rfl rfl rfl rfl (by decide) (all_len rfl) (one_cellsB bs) (by simp [cellsB]; omega) (lt_of_ble rfl)
        apply Wk.asg (by conv => lhs; whnf) (lt_of_ble rfl)
        refine Wk.nil (inBlockA_normal (thenA_normal ?_))
        apply AW.list
        apply Wk.mv (by conv => lhs; whnf) (lt_of_ble rfl)
        apply Wk.subn (b := 1) rfl rfl (by omega) (by omega) (lt_of_ble rfl)
        apply Wk.asg (by conv => lhs; whnf) (lt_of_ble rfl)
        refine Wk.nil ?_
        refine ⟨(m - 1, q + 1, zs5, p5, bs ++ [z]), ⟨by simp only; omega, by simp only; omega, by simp; omega⟩, by simp only; omega, ?_⟩
        refine fun a w => Rel.keep ⟨rfl, .cons rfl rfl (.cons rfl rfl (.cons rfl rfl .nil)), .cons rfl rfl (.cons ?_ ?_ .nil), ⟨fun i b hb => by have := hN.1 i b hb; simp [keys] at this ⊢; exact .inl this, fun i q v hv => by have := hN.2 i q v hv; simp [keys] at this ⊢; exact .inl this⟩⟩
        · simp only [cellsB, List.map_append]
          rfl
        · exact within_cellsB _
      · have hm : m = 0 := by simpa using hc
        refine AW.exit ?_
        repeat (first | refine inBlockA_same ?_ | refine thenA_exit ?_)
        refine thenA_normal ?_
        refine AW.thaw (t := 5) (i := 7) (cellsD bs) rfl rfl (asData_cells bs) (hX.one (by decide) rfl) ?_
        refine AW.seq ?_
        apply AW.list
        apply Wk.mv (by conv => lhs; whnf) (lt_of_ble rfl)
        apply Wk.asg (by conv => lhs; whnf) (lt_of_ble rfl)
        refine Wk.nil (AW.ret ?_)
        refine RetQ.ret [(0, rdr zs2 p2)] (.cons rfl .nil) ⟨⟨bs, rfl, fun n' e => ?_⟩, _, _, rfl, by omega⟩ (kept1 rfl)
        simp only [List.cons.injEq, A.d.injEq, D.v.injEq, Value.int.injEq, true_and, and_true] at e
        subst e
        rcases hk with hk | hk
        · exact .inl (by omega)
        · exact .inr (List.eq_nil_of_length_eq_zero (by omega))
  · rintro rest ⟨n, rfl, _⟩; rfl
  · rintro rest _; exact ⟨_, [], rfl, fun _ _ => .inr rfl⟩
  · rintro rest r ⟨k, rfl, _⟩; rfl
end Go.Proofs.YthnlpdjjnfkmeaaDoor

/- Between what values read as and the memory itself: rows of bytes; contracts over memory as contracts over data; a law at a code. -/
namespace Go.Proofs.YthnlpdjjnfkmeaaDoor
open Go Go.RowKit
theorem rd_den {w : World} {F : Nat → Prop} {v : Value} {zs : List Nat} (h : Rd w v zs) (hF : ∀ b, b < w.heap.size → F b) : FDen w F (bytesD zs) v := by
  obtain ⟨_, _, ⟨rfl, a, c, rfl, hac⟩ | ⟨b, off, cap, rfl, hl, hm, hb, hc⟩⟩ := h
  · exact .emp a c hac
  · have key : ∀ i j e d, (zs.map fun z : Nat => [D.v (.int .u8 (z : Int))])[i]? = some e → e[j]? = some d → i < zs.length ∧ j = 0 ∧ d = .v (.int .u8 ((zs.getD i 0 : Nat) : Int)) := fun i j e d he hd => by
      simp only [List.getElem?_map, Option.map_eq_some_iff] at he
      obtain ⟨z, hz, rfl⟩ := he
      have hi := (List.getElem?_eq_some_iff.1 hz).1
      cases j with
      | succ j => simp at hd
      | zero =>
        simp only [List.getElem?_cons_zero, Option.some.injEq] at hd
        exact ⟨hi, rfl, by rw [← hd, List.getD_eq_getElem?_getD, hz]; rfl⟩
    refine .row 1 b off cap zs.length _ (fun i _ => .int .u8 ((zs.getD i 0 : Nat) : Int)) (hF b hb) (by simp) hl hm (one_bytes zs) (fun i j e d he hd => ?_) (fun i j e d he hd => rfl) (fun i j e d he hd => ?_)
    · obtain ⟨hi, rfl, _⟩ := key i j e d he hd
      have := hc i hi
      rw [← this]
      simp
    · obtain ⟨_, _, rfl⟩ := key i j e d he hd
      exact .v _
theorem den_rd {w : World} {F : Nat → Prop} {v : Value} {zs : List Nat} (h : FDen w F (bytesD zs) v) (hF : ∀ b, F b → b < w.heap.size) (hz : Byt zs) (hl : zs.length ≤ 2000000) : Rd w v zs := by
  refine ⟨hz, hl, ?_⟩
  unfold bytesD at h
  generalize hes : (zs.map fun z : Nat => [D.v (.int .u8 (z : Int))]) = es at h
  cases h with
  | emp a c h0 =>
    have : zs = [] := by cases zs with | nil => rfl | cons z zs => simp at hes
    exact .inl ⟨this, a, c, rfl, h0⟩
  | row sz b o cap n _ vs hb hn hcap hmax hsz hc h1 hd =>
    subst hes
    have hn' : zs.length = n := by simpa using hn
    subst hn'
    refine .inr ⟨b, o, cap, rfl, hcap, hmax, hF b hb, fun j hj => ?_⟩
    have e := bytes_get zs j hj
    have hs : sz = 1 := (hsz _ (List.mem_of_getElem? e)).symm
    subst hs
    have h2 := hc j 0 _ _ e rfl
    have h3 := hd j 0 _ _ e rfl
    generalize vs j 0 = u at h2 h3
    cases h3
    simpa using h2

theorem DataOk.lift {P : Program} {f : FuncId} {ls : List A} {v : Value} (h : ∀ (w : World) (F : Nat → Prop) (E : Nat → Option Nat) (H : Nat → Nat → Option Value) (args : Array Value), (∀ b, F b → b < w.heap.size) → args.size = ls.length → (∀ (i : Nat) (a : A), ls[i]? = some a → Den w F E H a (args.getD i undef)) →
    Calls P f args w fun e w' => e = .returned v ∧ Below w.heap.size w w') : DataOk P f ls (.d (.v v)) := by
  intro w F E H args hpo hs hd
  refine (h w F E H args hpo.Flt hs hd).mono ?_
  rintro e w' ⟨rfl, hb⟩
  exact ⟨v, .d (.v v), [], F, E, H, rfl, ⟨rfl, rfl⟩, ⟨hb.os, hb.tape, hb.output, hb.size, fun b hlt _ => hb.block b hlt, fun b h => h, fun b h => Nat.lt_of_lt_of_le (hpo.Flt b h) hb.size, fun b h => .inl h, fun _ _ h => h, fun _ _ _ h => h,
    (fun i x hx => by cases hx), (fun i x b hx => by cases hx), (fun i j x y b _ hx => by cases hx), (fun i x b hx => by cases hx)⟩, .d _ _ (.v v)⟩

theorem DataOk.run {P : Program} {f : FuncId} {s v : Value} {w : World} {zs : List Nat} (h : DataOk P f [.d (bytesD zs)] (.d (.v v))) (hR : Rd w s zs) : Calls P f #[s] w fun e w' => e = .returned v ∧ Below w.heap.size w w' := by
  have hpo : PreOk w (· < w.heap.size) (fun _ => none) (fun _ _ => none) [] :=
    ⟨fun b hb => hb, (fun i x hx => by cases hx), (fun i x b hx => by cases hx), (fun i j x y b _ hx => by cases hx), fun i _ => ⟨rfl, fun _ => rfl⟩⟩
  refine (h w (· < w.heap.size) (fun _ => none) (fun _ _ => none) #[s] hpo rfl (fun i a ha => ?_)).mono ?_
  · cases i with
    | succ i => simp at ha
    | zero =>
      simp only [List.getElem?_cons_zero, Option.some.injEq] at ha
      subst ha
      exact .d _ _ (rd_den hR fun b hb => hb)
  · rintro e w' ⟨v', r, bs', F', E', H', rfl, ⟨rfl, rfl⟩, po, hden⟩
    rw [den_v hden]
    exact ⟨rfl, po.os, po.tape, po.output, po.size, fun b hb => po.old b hb (fun i x hx => by cases hx)⟩
theorem byt_fin {zs : List Nat} (h : Byt zs) : ∃ bs : List (Fin 256), bs.map (·.val) = zs := ⟨zs.attach.map fun z => ⟨z.1, h z.1 z.2⟩, by simp⟩
theorem fin_byt (bs : List (Fin 256)) : Byt (bs.map (·.val)) := fun z hz => by
  obtain ⟨x, _, rfl⟩ := List.mem_map.1 hz
  exact x.isLt
/-- One argument alone. -/
theorem arg1 {w : World} {F : Nat → Prop} {E : Nat → Option Nat} {H : Nat → Nat → Option Value} {a : A} {args : Array Value} (hs : args.size = [a].length) (hd : ∀ (i : Nat) (x : A), [a][i]? = some x → Den w F E H x (args.getD i undef)) : ∃ v, args = #[v] ∧ Den w F E H a v := by
  have hs' : args.toList.length = 1 := by simpa using hs
  match hl : args.toList, hs' with
  | [v], _ =>
    obtain rfl : args = #[v] := by rw [← Array.toArray_toList (xs := args), hl]
    exact ⟨v, rfl, hd 0 a rfl⟩

theorem liok_ok : DataOk Tryd.prog 15 [] (.d (.v (.bool true))) := by
  refine DataOk.lift fun w F E H args _ hs _ => ?_
  obtain rfl : args = #[] := by simpa using hs
  exact li_ok w
/-- An answer in new memory. -/
theorem DataOk.liftN {P : Program} {f : FuncId} {ls : List A} {r : A} (h : ∀ (w : World) (F : Nat → Prop) (E : Nat → Option Nat) (H : Nat → Nat → Option Value) (args : Array Value), (∀ b, F b → b < w.heap.size) → args.size = ls.length → (∀ (i : Nat) (a : A), ls[i]? = some a → Den w F E H a (args.getD i undef)) →
    Calls P f args w fun e w' => ∃ v, e = .returned v ∧ Below w.heap.size w w' ∧ Den w' (fun b => w.heap.size ≤ b ∧ b < w'.heap.size) E H r v) : DataOk P f ls r := by
  intro w F E H args hpo hs hd
  refine (h w F E H args hpo.Flt hs hd).mono ?_
  rintro e w' ⟨v, rfl, hb, hden⟩
  refine ⟨v, r, [], fun b => F b ∨ (w.heap.size ≤ b ∧ b < w'.heap.size), E, H, rfl, ⟨rfl, rfl⟩, ⟨hb.os, hb.tape, hb.output, hb.size, fun b hlt _ => hb.block b hlt, fun b h => .inl h, fun b h => ?_, fun b h => ?_, fun _ _ h => h, fun _ _ _ h => h,
    (fun i x hx => by cases hx), (fun i x b hx => by cases hx), (fun i j x y b _ hx => by cases hx), (fun i x b hx => by cases hx)⟩, hden.mono (fun b h => .inr h) (fun _ _ => rfl) (fun _ _ h => h) (fun _ _ _ h => h)⟩
  · rcases h with h | h
    · exact Nat.lt_of_lt_of_le (hpo.Flt b h) hb.size
    · exact h.2
  · rcases h with h | h
    · exact .inl h
    · exact .inr h.1
theorem own_den {w : World} {B : Nat} {v : Value} {zs : List Nat} (h : Own w B v zs) : FDen w (fun b => B ≤ b ∧ b < w.heap.size) (bytesD zs) v := by
  have h0 : w.ownsRow 0 5 1 v ((zs.map fun z : Nat => [A.d (.v (.int .u8 (z : Int)))]).length) (bcells zs) := by
    have h' : w.ownsRow B 5 1 v zs.length (bcells zs) := h
    rw [List.length_map]
    refine ⟨h'.1, ?_⟩
    rcases h'.2 with h1 | ⟨g, cap, cur, h1, h2, h3⟩
    · exact .inl h1
    · exact .inr ⟨g, cap, cur, h1, Nat.zero_le _, h3⟩
  have hp : Pw (CellOk w (fun _ => False) (fun _ => none) (fun _ _ => none)) (zs.map fun z : Nat => [A.d (.v (.int .u8 (z : Int)))]).flatten (bcells zs) := by
    have e : (zs.map fun z : Nat => [A.d (.v (.int .u8 (z : Int)))]).flatten = zs.map fun z : Nat => A.d (.v (.int .u8 (z : Int))) := by
      clear h0 h
      induction zs with
      | nil => rfl
      | cons z zs ih => simp [ih]
    rw [e]
    refine ⟨by simp [bcells], fun j a u ha hu => ?_⟩
    simp only [List.getElem?_map, Option.map_eq_some_iff, bcells] at ha hu
    obtain ⟨z, hz, rfl⟩ := ha
    obtain ⟨z', hz', rfl⟩ := hu
    rw [hz] at hz'
    obtain rfl := Option.some.inj hz'
    exact ⟨rfl, .d _ _ (.v _)⟩
  have := own_rowA h0 (by intro c hc; obtain ⟨z, _, rfl⟩ := List.mem_map.1 hc; rfl) hp (ds := zs.map fun z : Nat => [D.v (.int .u8 (z : Int))]) (by simp [asData, nrms, nrm])
  refine this.mono (fun b hb => ?_) (fun _ _ => rfl)
  rcases hb with hb | hb
  · exact hb.elim
  · exact World.ownsRow.lt h b hb
/-- The nil list of an answer reads as the empty one. -/
theorem DataOk.nrm {P : Program} {f : FuncId} {ls : List A} {r : A} (h : DataOk P f ls r) : DataOk P f ls (Go.Proofs.YthnlpdjjnfkmeaaDoor.nrm r) := by
  intro w F E H args hpo hs hd
  refine (h w F E H args hpo hs hd).mono ?_
  rintro e w' ⟨v, r', bs', F', E', H', rfl, ⟨rfl, rfl⟩, po, hden⟩
  exact ⟨v, _, [], F', E', H', rfl, ⟨rfl, rfl⟩, po, hden.nrm⟩
theorem args2 {w : World} {F : Nat → Prop} {E : Nat → Option Nat} {H : Nat → Nat → Option Value} {a b : A} {args : Array Value} (hs : args.size = [a, b].length) (hd : ∀ (i : Nat) (x : A), [a, b][i]? = some x → Den w F E H x (args.getD i undef)) : ∃ v u, args = #[v, u] ∧ Den w F E H a v ∧ Den w F E H b u := by
  have hs' : args.toList.length = 2 := by simpa using hs
  match hl : args.toList, hs' with
  | [v, u], _ =>
    obtain rfl : args = #[v, u] := by rw [← Array.toArray_toList (xs := args), hl]
    exact ⟨v, u, rfl, hd 0 a rfl, hd 1 b rfl⟩
theorem int2 {P : Program} {f : FuncId} {a b r : Int} (h : ∀ w, Calls P f #[.int .i64 a, .int .i64 b] w fun e w' => e = .returned (.int .i64 r) ∧ w' = w) : DataOk P f [.d (.v (.int .i64 a)), .d (.v (.int .i64 b))] (.d (.v (.int .i64 r))) := by
  refine DataOk.lift fun w F E H args _ hs hd => ?_
  obtain ⟨v, u, rfl, hv, hu⟩ := args2 hs hd
  obtain rfl := den_v hv
  obtain rfl := den_v hu
  refine (h w).mono ?_
  rintro e w' ⟨rfl, rfl⟩
  exact ⟨rfl, Below.refl _ _⟩
theorem int1 {P : Program} {f : FuncId} {a r : Int} (h : ∀ w, Calls P f #[.int .i64 a] w fun e w' => e = .returned (.int .i64 r) ∧ w' = w) : DataOk P f [.d (.v (.int .i64 a))] (.d (.v (.int .i64 r))) := by
  refine DataOk.lift fun w F E H args _ hs hd => ?_
  obtain ⟨v, rfl, hv⟩ := arg1 hs hd
  obtain rfl := den_v hv
  refine (h w).mono ?_
  rintro e w' ⟨rfl, rfl⟩
  exact ⟨rfl, Below.refl _ _⟩
theorem DataOk.run2 {P : Program} {f : FuncId} {s u v : Value} {w : World} {zs ys : List Nat} (h : DataOk P f [.d (bytesD zs), .d (bytesD ys)] (.d (.v v))) (hR : Rd w s zs) (hR' : Rd w u ys) : Calls P f #[s, u] w fun e w' => e = .returned v ∧ Below w.heap.size w w' := by
  have hpo : PreOk w (· < w.heap.size) (fun _ => none) (fun _ _ => none) [] :=
    ⟨fun b hb => hb, (fun i x hx => by cases hx), (fun i x b hx => by cases hx), (fun i j x y b _ hx => by cases hx), fun i _ => ⟨rfl, fun _ => rfl⟩⟩
  refine (h w (· < w.heap.size) (fun _ => none) (fun _ _ => none) #[s, u] hpo rfl (fun i a ha => ?_)).mono ?_
  · match i with
    | 0 => obtain rfl := Option.some.inj ha; exact .d _ _ (rd_den hR fun b hb => hb)
    | 1 => obtain rfl := Option.some.inj ha; exact .d _ _ (rd_den hR' fun b hb => hb)
    | _ + 2 => simp at ha
  · rintro e w' ⟨v', r, bs', F', E', H', rfl, ⟨rfl, rfl⟩, po, hden⟩
    rw [den_v hden]
    exact ⟨rfl, po.os, po.tape, po.output, po.size, fun b hb => po.old b hb (fun i x hx => by cases hx)⟩
end Go.Proofs.YthnlpdjjnfkmeaaDoor

/- FrmOk over what values read as. -/
namespace Go.Proofs.YthnlpdjjnfkmeaaDoor
open Go Go.RowKit
def frmA (k s c : Int) (p f : Bool) (y g l : Int) (bs : List (Fin 256)) : A := .agg [.d (.v (.int .i64 k)), .d (.v (.int .i64 s)), .d (.v (.int .i64 c)), .d (.v (.bool p)), .d (.v (.bool f)), .d (.v (.int .i64 y)), .d (.v (.int .i64 g)), .d (.v (.int .i64 l)), .d (fbytes bs)]
theorem ifrm_ok (k s c : Int) (p f : Bool) (y g l : Int) (bs : List (Fin 256)) (hl : bs.length ≤ 2000000) : DataOk Tryd.prog 13 [frmA k s c p f y g l bs] (.d (.v (.bool (frmB k s c p f y g l bs.length)))) := by
  refine DataOk.lift fun w F E H args hF hs hd => ?_
  obtain ⟨v, rfl, hv⟩ := arg1 hs hd
  obtain ⟨cs, rfl, hs, _, h⟩ := den_agg hv
  have hs' : cs.toList.length = 9 := by simpa using hs
  match hl' : cs.toList, hs' with
  | [x0, x1, x2, x3, x4, x5, x6, x7, x8], _ =>
    obtain rfl : cs = #[x0, x1, x2, x3, x4, x5, x6, x7, x8] := by rw [← Array.toArray_toList (xs := cs), hl']
    obtain rfl := den_v (h 0 _ rfl)
    obtain rfl := den_v (h 1 _ rfl)
    obtain rfl := den_v (h 2 _ rfl)
    obtain rfl := den_v (h 3 _ rfl)
    obtain rfl := den_v (h 4 _ rfl)
    obtain rfl := den_v (h 5 _ rfl)
    obtain rfl := den_v (h 6 _ rfl)
    obtain rfl := den_v (h 7 _ rfl)
    have h8 := den_rd (den_d (h 8 _ rfl)) hF (fin_byt bs) (by simpa using hl)
    have := impl_frm k s c p f y g l x8 _ w h8
    simpa using this
theorem sfrm_ok (k s c : Int) (p f : Bool) (y g l : Int) (bs : List (Fin 256)) : DataOk Tryd.prog 14 [frmA k s c p f y g l bs] (.d (.v (.bool (frmB k s c p f y g l bs.length)))) := by
  refine DataOk.lift fun w F E H args hF hs hd => ?_
  obtain ⟨v, rfl, hv⟩ := arg1 hs hd
  obtain ⟨cs, rfl, hs, _, h⟩ := den_agg hv
  have hs' : cs.toList.length = 9 := by simpa using hs
  match hl' : cs.toList, hs' with
  | [x0, x1, x2, x3, x4, x5, x6, x7, x8], _ =>
    obtain rfl : cs = #[x0, x1, x2, x3, x4, x5, x6, x7, x8] := by rw [← Array.toArray_toList (xs := cs), hl']
    obtain rfl := den_v (h 0 _ rfl)
    obtain rfl := den_v (h 1 _ rfl)
    obtain rfl := den_v (h 2 _ rfl)
    obtain rfl := den_v (h 3 _ rfl)
    obtain rfl := den_v (h 4 _ rfl)
    obtain rfl := den_v (h 5 _ rfl)
    obtain rfl := den_v (h 6 _ rfl)
    obtain rfl := den_v (h 7 _ rfl)
    obtain ⟨g', n', cap, rfl, hn⟩ := den_row (den_d (h 8 _ rfl))
    simp only [List.length_map] at hn
    subst hn
    exact spec_frm _ _ _ _ _ _ _ _ _ _ _ w
end Go.Proofs.YthnlpdjjnfkmeaaDoor

/- FrmBytes over what values read as; frames that are ok and have the same bytes are the same. Written by tools/mk_WFrmApart.py. -/
namespace Go.Proofs.YthnlpdjjnfkmeaaDoor
open Go Go.RowKit
theorem frm_args {w : World} {F : Nat → Prop} {E : Nat → Option Nat} {H : Nat → Nat → Option Value} {k s c : Int} {p f : Bool} {y g l : Int} {bs : List (Fin 256)} {v : Value} (hv : Den w F E H (frmA k s c p f y g l bs) v) (hF : ∀ b, F b → b < w.heap.size) (hl : bs.length ≤ 2000000) :
    ∃ u, v = .agg #[.int .i64 k, .int .i64 s, .int .i64 c, .bool p, .bool f, .int .i64 y, .int .i64 g, .int .i64 l, u] ∧ Rd w u (bs.map (·.val)) := by
  obtain ⟨cs, rfl, hs, _, h⟩ := den_agg hv
  have hs' : cs.toList.length = 9 := by simpa using hs
  match hl' : cs.toList, hs' with
  | [x0, x1, x2, x3, x4, x5, x6, x7, x8], _ =>
    obtain rfl : cs = #[x0, x1, x2, x3, x4, x5, x6, x7, x8] := by rw [← Array.toArray_toList (xs := cs), hl']
    obtain rfl := den_v (h 0 _ rfl)
    obtain rfl := den_v (h 1 _ rfl)
    obtain rfl := den_v (h 2 _ rfl)
    obtain rfl := den_v (h 3 _ rfl)
    obtain rfl := den_v (h 4 _ rfl)
    obtain rfl := den_v (h 5 _ rfl)
    obtain rfl := den_v (h 6 _ rfl)
    obtain rfl := den_v (h 7 _ rfl)
    exact ⟨x8, rfl, den_rd (den_d (h 8 _ rfl)) hF (fin_byt bs) (by simpa using hl)⟩
theorem ifbytes_ok (k s c : Int) (p f : Bool) (y g l : Int) (bs : List (Fin 256)) (hl : bs.length ≤ 2000000) {zs : List Nat} (hz : frmL k s c p f y g l (bs.map (·.val)) = zs) : DataOk Tryd.prog 7 [frmA k s c p f y g l bs] (.d (bytesD zs)) := by
  subst hz
  refine DataOk.liftN fun w F E H args hF hs hd => ?_
  obtain ⟨v, rfl, hv⟩ := arg1 hs hd
  obtain ⟨u, rfl, hR⟩ := frm_args hv hF hl
  refine (impl_bytes k s c p f y g l u _ w hR).mono ?_
  rintro e w' ⟨v, rfl, ho, hb⟩
  exact ⟨v, rfl, hb, .d _ _ (own_den ho)⟩
theorem sfbytes_ok (k s c : Int) (p f : Bool) (y g l : Int) (bs : List (Fin 256)) (hl : bs.length ≤ 2000000) {zs : List Nat} (hz : frmL k s c p f y g l (bs.map (·.val)) = zs) : DataOk Tryd.prog 11 [frmA k s c p f y g l bs] (.d (bytesD zs)) := by
  subst hz
  refine DataOk.liftN fun w F E H args hF hs hd => ?_
  obtain ⟨v, rfl, hv⟩ := arg1 hs hd
  obtain ⟨u, rfl, hR⟩ := frm_args hv hF hl
  refine (spec_bytes k s c p f y g l u _ w hR).mono ?_
  rintro e w' ⟨v, rfl, ho, hb⟩
  exact ⟨v, rfl, hb, .d _ _ (own_den ho)⟩
theorem putL_inj {xs ys : List Nat} (h : putL xs = putL ys) : xs = ys := by
  have hl : xs.length = ys.length := by
    have := congrArg List.length h
    simpa [putL] using this
  unfold putL at h
  exact (List.append_inj h hl).1
theorem frmL_no {k s c : Int} {p f : Bool} {y g l : Int} {zs : List Nat} (h : frmB k s c p f y g l zs.length = false) : frmL k s c p f y g l zs = [] := by
  unfold frmL
  rw [h]
  rfl
theorem frmL_yes {k s c : Int} {p f : Bool} {y g l : Int} {zs : List Nat} (h : frmB k s c p f y g l zs.length = true) : frmL k s c p f y g l zs = putL (headL k s c p f y g l zs.length ++ zs) := by
  unfold frmL
  rw [if_pos h]
theorem frmL_some {k s c : Int} {p f : Bool} {y g l : Int} {zs : List Nat} (h : frmB k s c p f y g l zs.length = true) : (frmL k s c p f y g l zs).length ≠ 0 := by
  rw [frmL_yes h]
  simp [putL, headL]
set_option maxHeartbeats 2000000 in
theorem frmL_inj {k s c : Int} {p f : Bool} {y g l : Int} {zs : List Nat} {k' s' c' : Int} {p' f' : Bool} {y' g' l' : Int} {zs' : List Nat} (h1 : frmB k s c p f y g l zs.length = true) (h2 : frmB k' s' c' p' f' y' g' l' zs'.length = true)
    (h : frmL k s c p f y g l zs = frmL k' s' c' p' f' y' g' l' zs') : k = k' ∧ s = s' ∧ c = c' ∧ p = p' ∧ f = f' ∧ y = y' ∧ g = g' ∧ l = l' ∧ zs = zs' := by
  rw [frmL_yes h1, frmL_yes h2] at h
  have h := putL_inj h
  obtain ⟨a1, a2, a3, a4, a5, a6, _⟩ := frmB_bounds h1
  obtain ⟨b1, b2, b3, b4, b5, b6, _⟩ := frmB_bounds h2
  simp only [headL, List.cons_append, List.nil_append, List.cons.injEq] at h
  obtain ⟨e0, e1, e2, e3, _, e5⟩ := h
  have q0 : k = k' := by omega
  have q1 : s = s' ∧ c = c' := by omega
  have q3 : l = l' := by omega
  have q2 : p = p' ∧ f = f' ∧ y = y' ∧ g = g' := by
    have t1 : 0 ≤ signs p f y g := by unfold signs; split <;> split <;> omega
    have t2 : 0 ≤ signs p' f' y' g' := by unfold signs; split <;> split <;> omega
    have e : signs p f y g = signs p' f' y' g' := by omega
    clear t1 t2 e2
    unfold signs at e
    cases p <;> cases p' <;> cases f <;> cases f' <;> simp at e ⊢ <;> omega
  exact ⟨q0, q1.1, q1.2, q2.1, q2.2.1, q2.2.2.1, q2.2.2.2, q3, e5⟩
end Go.Proofs.YthnlpdjjnfkmeaaDoor

/- FrmRead, CrcCut and CrcPut over what values read as; what is read of a frame's bytes, and of those with one turned, one more, one fewer. -/
namespace Go.Proofs.YthnlpdjjnfkmeaaDoor
open Go Go.RowKit
theorem DataV.liftN {P : Program} {V : List (Nat × Value)} {f : FuncId} {ls : List A} {r : A} (h : ∀ (w : World) (F : Nat → Prop) (E : Nat → Option Nat) (H : Nat → Nat → Option Value) (args : Array Value), VarsIn V w → (∀ b, F b → b < w.heap.size) → args.size = ls.length → (∀ (i : Nat) (a : A), ls[i]? = some a → Den w F E H a (args.getD i undef)) →
    Calls P f args w fun e w' => ∃ v, e = .returned v ∧ Below w.heap.size w w' ∧ Den w' (fun b => w.heap.size ≤ b ∧ b < w'.heap.size) E H r v) : DataV P V f ls r := by
  intro w hV F E H args hpo hs hd
  refine (h w F E H args hV hpo.Flt hs hd).mono ?_
  rintro e w' ⟨v, rfl, hb, hden⟩
  refine ⟨v, r, [], fun b => F b ∨ (w.heap.size ≤ b ∧ b < w'.heap.size), E, H, rfl, ⟨rfl, rfl⟩, ⟨hb.os, hb.tape, hb.output, hb.size, fun b hlt _ => hb.block b hlt, fun b h => .inl h, fun b h => ?_, fun b h => ?_, fun _ _ h => h, fun _ _ _ h => h,
    (fun i x hx => by cases hx), (fun i x b hx => by cases hx), (fun i j x y b _ hx => by cases hx), (fun i x b hx => by cases hx)⟩, hden.mono (fun b h => .inr h) (fun _ _ => rfl) (fun _ _ h => h) (fun _ _ _ h => h)⟩
  · rcases h with h | h
    · exact Nat.lt_of_lt_of_le (hpo.Flt b h) hb.size
    · exact h.2
  · rcases h with h | h
    · exact .inl h
    · exact .inr h.1
theorem DataV.run2 {P : Program} {V : List (Nat × Value)} {f : FuncId} {s u v : Value} {w : World} {zs ys : List Nat} (h : DataV P V f [.d (bytesD zs), .d (bytesD ys)] (.d (.v v))) (hV : VarsIn V w) (hR : Rd w s zs) (hR' : Rd w u ys) : Calls P f #[s, u] w fun e w' => e = .returned v ∧ Below w.heap.size w w' := by
  have hpo : PreOk w (· < w.heap.size) (fun _ => none) (fun _ _ => none) [] :=
    ⟨fun b hb => hb, (fun i x hx => by cases hx), (fun i x b hx => by cases hx), (fun i j x y b _ hx => by cases hx), fun i _ => ⟨rfl, fun _ => rfl⟩⟩
  refine (h w hV (· < w.heap.size) (fun _ => none) (fun _ _ => none) #[s, u] hpo rfl (fun i a ha => ?_)).mono ?_
  · match i with
    | 0 =>
      obtain rfl := Option.some.inj ha
      exact .d _ _ (rd_den hR fun b hb => hb)
    | 1 =>
      obtain rfl := Option.some.inj ha
      exact .d _ _ (rd_den hR' fun b hb => hb)
    | i + 2 => simp at ha
  · rintro e w' ⟨v', r, bs', F', E', H', rfl, ⟨rfl, rfl⟩, po, hden⟩
    rw [den_v hden]
    exact ⟨rfl, po.os, po.tape, po.output, po.size, fun b hb => po.old b hb (fun i x hx => by cases hx)⟩
/-- What FrmRead answers. -/
def rdA (zs : List Nat) (ds : List (Fin 256)) : A := .tup [frmA (rdKind zs) (rdSeq zs) (rdAck zs) (rdPoll zs) (rdFinal zs) (rdSay zs) (rdSeg zs) (rdLen zs) ds, .d (.v (.bool (rdB zs)))]
theorem rd_ans {zs : List Nat} {ds : List (Fin 256)} (hds : ds.map (·.val) = rdData zs) {w : World} {B : Nat} {v : Value} {E : Nat → Option Nat} {H : Nat → Nat → Option Value} (ho : Own w B v (rdData zs)) :
    Den w (fun b => B ≤ b ∧ b < w.heap.size) E H (rdA zs ds) (.tuple #[.agg #[.int .i64 (rdKind zs), .int .i64 (rdSeq zs), .int .i64 (rdAck zs), .bool (rdPoll zs), .bool (rdFinal zs), .int .i64 (rdSay zs), .int .i64 (rdSeg zs), .int .i64 (rdLen zs), v], .bool (rdB zs)]) := by
  rw [← hds] at ho
  have d1 := own_den ho
  have h1 : v.oneCell' = true := by
    rcases (show w.ownsRow B 5 1 v _ _ from ho).2 with h | ⟨_, _, _, h, _⟩
    · rw [h.1]; rfl
    · rw [h]; rfl
  refine .tup _ _ rfl fun i a ha => ?_
  match i with
  | 0 =>
    obtain rfl := Option.some.inj ha
    refine .agg _ _ rfl (fun i hi => ?_) (fun i a ha => ?_)
    · match i with
      | 0 => rfl
      | 1 => rfl
      | 2 => rfl
      | 3 => rfl
      | 4 => rfl
      | 5 => rfl
      | 6 => rfl
      | 7 => rfl
      | 8 => exact h1
      | _ + 9 => simp at hi; omega
    · match i with
      | 0 => obtain rfl := Option.some.inj ha; exact .d _ _ (.v _)
      | 1 => obtain rfl := Option.some.inj ha; exact .d _ _ (.v _)
      | 2 => obtain rfl := Option.some.inj ha; exact .d _ _ (.v _)
      | 3 => obtain rfl := Option.some.inj ha; exact .d _ _ (.v _)
      | 4 => obtain rfl := Option.some.inj ha; exact .d _ _ (.v _)
      | 5 => obtain rfl := Option.some.inj ha; exact .d _ _ (.v _)
      | 6 => obtain rfl := Option.some.inj ha; exact .d _ _ (.v _)
      | 7 => obtain rfl := Option.some.inj ha; exact .d _ _ (.v _)
      | 8 => obtain rfl := Option.some.inj ha; exact .d _ _ d1
      | _ + 9 => simp at ha
  | 1 => obtain rfl := Option.some.inj ha; exact .d _ _ (.v _)
  | _ + 2 => simp at ha
theorem sread_ok (zs : List Nat) (ds : List (Fin 256)) (hz : Byt zs) (hl : zs.length ≤ 2000000) (hds : ds.map (·.val) = rdData zs) : DataOk Tryd.prog 9 [.d (bytesD zs)] (rdA zs ds) := by
  refine DataOk.liftN fun w F E H args hF hs hd => ?_
  obtain ⟨v, rfl, hv⟩ := arg1 hs hd
  refine (spec_read v zs w (den_rd (den_d hv) hF hz hl)).mono ?_
  rintro e w' ⟨u, rfl, ho, hb⟩
  exact ⟨_, rfl, hb, rd_ans hds ho⟩
theorem errs_of {V : List (Nat × Value)} {w : World} {t0 t1 t2 : TypeId} {x0 x1 x2 : Value} (hV : VarsIn V w) (h0 : (1, .iface t0 x0) ∈ V) (h1 : (2, .iface t1 x1) ∈ V) (h2 : (3, .iface t2 x2) ∈ V) (hz : 4 ≤ w.heap.size) : Errs w :=
  ⟨⟨_, _, (hV _ _ h0).1.1⟩, ⟨_, _, (hV _ _ h1).1.1⟩, ⟨_, _, (hV _ _ h2).1.1⟩, hz⟩
theorem iread_ok (zs : List Nat) (ds : List (Fin 256)) (hz : Byt zs) (hl : zs.length ≤ 2000000) (hds : ds.map (·.val) = rdData zs) {V : List (Nat × Value)} {t0 t1 t2 : TypeId} {x0 x1 x2 : Value} (h0 : (1, .iface t0 x0) ∈ V) (h1 : (2, .iface t1 x1) ∈ V) (h2 : (3, .iface t2 x2) ∈ V) :
    DataV Tryd.prog V 8 [.d (bytesD zs)] (rdA zs ds) := by
  refine DataV.liftN fun w F E H args hV hF hs hd => ?_
  obtain ⟨v, rfl, hv⟩ := arg1 hs hd
  have g0 := (hV _ _ h0).1.2.1
  have g1 := (hV _ _ h1).1.2.1
  have g2 := (hV _ _ h2).1.2.1
  refine (impl_read v zs w (den_rd (den_d hv) hF hz hl) (errs_of hV h0 h1 h2 (by omega))).mono ?_
  rintro e w' ⟨u, rfl, ho, hb⟩
  exact ⟨_, rfl, hb, rd_ans hds ho⟩
/-! What is read. -/
theorem rd_no {zs : List Nat} (h : goodB (cutL zs) (cutB zs) = false) : rdB zs = false := by simp [rdB, h]
theorem rd_cut {zs : List Nat} (h : cutB zs = false) : rdB zs = false := rd_no (by simp [goodB, h])
theorem signs_of {d : Nat} (h : d < 64) : (signs ((d : Int) % 2 == 1) ((d : Int) / 2 % 2 == 1) ((d : Int) / 4 % 4) ((d : Int) / 16)).toNat = d := by
  unfold signs
  by_cases h1 : (d : Int) % 2 = 1 <;> by_cases h2 : (d : Int) / 2 % 2 = 1 <;> simp [h1, h2] <;> omega
theorem rd_of {zs : List Nat} (hz : Byt zs) (h : rdB zs = true) :
    frmB (rdKind zs) (rdSeq zs) (rdAck zs) (rdPoll zs) (rdFinal zs) (rdSay zs) (rdSeg zs) (rdLen zs) (rdData zs).length = true ∧
    frmL (rdKind zs) (rdSeq zs) (rdAck zs) (rdPoll zs) (rdFinal zs) (rdSay zs) (rdSeg zs) (rdLen zs) (rdData zs) = zs := by
  have hg : goodB (cutL zs) (cutB zs) = true := by
    cases hk : goodB (cutL zs) (cutB zs) with
    | true => rfl
    | false => rw [rd_no hk] at h; cases h
  obtain ⟨hB, a, c, d, e, r, hL⟩ := good_form _ _ hg
  have hf : frmB (a : Int) ((c : Int) / 16) ((c : Int) % 16) ((d : Int) % 2 == 1) ((d : Int) / 2 % 2 == 1) ((d : Int) / 4 % 4) ((d : Int) / 16) (e : Int) r.length = true := by
    have := h
    simp only [rdB, Bool.and_eq_true, hL] at this
    simpa using this.2
  have hput := put_cut hz hB
  simp only [rdKind, rdSeq, rdAck, rdPoll, rdFinal, rdSay, rdSeg, rdLen, rdData, h, if_true, hL]
  simp only [List.getD_cons_zero, List.getD_cons_succ, List.drop_succ_cons, List.drop_zero]
  refine ⟨hf, ?_⟩
  rw [frmL_yes hf]
  obtain ⟨b1, b2, b3, b4, b5, b6, b7⟩ := frmB_bounds hf
  have hh : headL (a : Int) ((c : Int) / 16) ((c : Int) % 16) ((d : Int) % 2 == 1) ((d : Int) / 2 % 2 == 1) ((d : Int) / 4 % 4) ((d : Int) / 16) (e : Int) r.length = [a, c, d, e, r.length] := by
    simp only [headL]
    rw [signs_of (show d < 64 by omega)]
    have e1 : ((a : Int)).toNat = a := by omega
    have e2 : ((c : Int) / 16 * 16 + (c : Int) % 16).toNat = c := by omega
    have e3 : ((e : Int)).toNat = e := by omega
    rw [e1, e2, e3]
  rw [hh]
  rw [hL] at hput
  exact hput
theorem signs_back {p f : Bool} {y g : Int} (h1 : 0 ≤ y ∧ y ≤ 3) (h2 : 0 ≤ g ∧ g ≤ 3) :
    ((((signs p f y g).toNat : Nat) : Int) % 2 == 1) = p ∧ ((((signs p f y g).toNat : Nat) : Int) / 2 % 2 == 1) = f ∧ (((signs p f y g).toNat : Nat) : Int) / 4 % 4 = y ∧ (((signs p f y g).toNat : Nat) : Int) / 16 = g := by
  unfold signs
  cases p <;> cases f <;> simp <;> omega
theorem rd_put {k s c : Int} {p f : Bool} {y g l : Int} {zs : List Nat} (hz : Byt zs) (h : frmB k s c p f y g l zs.length = true) (B : List Nat) (hB : frmL k s c p f y g l zs = B) :
    Byt B ∧ B.length = zs.length + 7 ∧ rdB B = true ∧ rdKind B = k ∧ rdSeq B = s ∧ rdAck B = c ∧ rdPoll B = p ∧ rdFinal B = f ∧ rdSay B = y ∧ rdSeg B = g ∧ rdLen B = l ∧ rdData B = zs ∧
    ∃ L, Byt L ∧ B = putL L ∧ L.length = zs.length + 5 ∧ L.getD 4 0 = zs.length := by
  rw [frmL_yes h] at hB
  obtain ⟨b1, b2, b3, b4, b5, b6, b7⟩ := frmB_bounds h
  have hby : Byt (headL k s c p f y g l zs.length ++ zs) := fun z hz' => by
    rcases List.mem_append.1 hz' with h' | h'
    · exact headL_byt b1 b2 b3 b4 b5 b6 b7 z h'
    · exact hz z h'
  have hL : cutL B = k.toNat :: (s * 16 + c).toNat :: (signs p f y g).toNat :: l.toNat :: zs.length :: zs := by
    rw [← hB, cut_put_L hby]; rfl
  have hC : cutB B = true := by rw [← hB]; exact cut_put_B hby
  obtain ⟨q1, q2, q3, q4⟩ := signs_back (p := p) (f := f) b4 b5
  have e1 : ((k.toNat : Nat) : Int) = k := by omega
  have e2 : (((s * 16 + c).toNat : Nat) : Int) / 16 = s := by omega
  have e3 : (((s * 16 + c).toNat : Nat) : Int) % 16 = c := by omega
  have e4 : ((l.toNat : Nat) : Int) = l := by omega
  have hr : rdB B = true := by
    simp only [rdB, goodB, hC, hL, List.getD_cons_zero, List.getD_cons_succ, List.length_cons, Bool.true_and, Bool.and_eq_true, decide_eq_true_eq]
    rw [q1, q2, q3, q4, e1, e2, e3, e4]
    exact ⟨⟨by omega, by omega⟩, by rw [show zs.length + 1 + 1 + 1 + 1 + 1 - 5 = zs.length by omega]; exact h⟩
  refine ⟨by rw [← hB]; exact putL_byt hby, by rw [← hB, putL_length]; simp [headL], hr, ?_, ?_, ?_, ?_, ?_, ?_, ?_, ?_, ?_, headL k s c p f y g l zs.length ++ zs, hby, hB.symm, by simp [headL], by simp [headL]⟩
  · simp only [rdKind, hr, if_true, hL, List.getD_cons_zero]; exact e1
  · simp only [rdSeq, hr, if_true, hL, List.getD_cons_zero, List.getD_cons_succ]; exact e2
  · simp only [rdAck, hr, if_true, hL, List.getD_cons_zero, List.getD_cons_succ]; exact e3
  · simp only [rdPoll, hr, if_true, hL, List.getD_cons_zero, List.getD_cons_succ]; exact q1
  · simp only [rdFinal, hr, if_true, hL, List.getD_cons_zero, List.getD_cons_succ]; exact q2
  · simp only [rdSay, hr, if_true, hL, List.getD_cons_zero, List.getD_cons_succ]; exact q3
  · simp only [rdSeg, hr, if_true, hL, List.getD_cons_zero, List.getD_cons_succ]; exact q4
  · simp only [rdLen, hr, if_true, hL, List.getD_cons_zero, List.getD_cons_succ]; exact e4
  · simp only [rdData, hr, if_true, hL, List.drop_succ_cons, List.drop_zero]
theorem rd_longer {L : List Nat} {n : Nat} (h1 : L.length = n + 5) (h2 : L.getD 4 0 = n) : rdB (putL L ++ [0]) = false := by
  cases hc : cutB (putL L ++ [0]) with
  | false => exact rd_cut hc
  | true =>
    refine rd_no ?_
    have e : cutL (putL L ++ [0]) = L ++ [CrcM.crc L % 256] := by
      unfold cutL
      rw [if_pos hc, putL]
      simp [List.take_append, List.take_of_length_le]
    rw [e]
    simp only [goodB, hc, Bool.true_and, decide_eq_false_iff_not, not_and, List.length_append, List.length_singleton]
    intro _
    rw [List.getD_eq_getElem?_getD, List.getElem?_append_left (by omega), ← List.getD_eq_getElem?_getD, h2]
    omega
theorem rd_shorter {L : List Nat} {n : Nat} (h1 : L.length = n + 5) (h2 : L.getD 4 0 = n) : rdB ((putL L).take ((putL L).length - 1)) = false := by
  have hp : (putL L).take ((putL L).length - 1) = L ++ [CrcM.crc L % 256] := by
    rw [putL_length, putL]
    simp [List.take_append, List.take_of_length_le]
  rw [hp]
  cases hc : cutB (L ++ [CrcM.crc L % 256]) with
  | false => exact rd_cut hc
  | true =>
    refine rd_no ?_
    have e : cutL (L ++ [CrcM.crc L % 256]) = L.take (L.length - 1) := by
      unfold cutL
      rw [if_pos hc]
      simp [List.take_append]
    rw [e]
    simp only [goodB, hc, Bool.true_and, decide_eq_false_iff_not, not_and, List.length_take]
    intro h5
    rw [List.getD_eq_getElem?_getD, List.getElem?_take_of_lt (by omega), ← List.getD_eq_getElem?_getD, h2]
    omega
theorem scrcut_ok (zs : List Nat) (hz : Byt zs) (hl : zs.length ≤ 2000000) : DataOk Tryd.prog 24 [.d (bytesD zs)] (.tup [.d (bytesD (cutL zs)), .d (.v (.bool (cutB zs)))]) := by
  refine DataOk.liftN fun w F E H args hF hs hd => ?_
  obtain ⟨v, rfl, hv⟩ := arg1 hs hd
  refine (spec_cut v zs w (den_rd (den_d hv) hF hz hl)).mono ?_
  rintro e w' ⟨u, rfl, ho, hb⟩
  refine ⟨_, rfl, hb, .tup _ _ rfl fun i a ha => ?_⟩
  match i with
  | 0 => obtain rfl := Option.some.inj ha; exact .d _ _ (own_den ho)
  | 1 => obtain rfl := Option.some.inj ha; exact .d _ _ (.v _)
  | _ + 2 => simp at ha
theorem scrput_ok (zs : List Nat) (hz : Byt zs) (hl : zs.length ≤ 1900000) : DataOk Tryd.prog 25 [.d (bytesD zs)] (.d (bytesD (putL zs))) := by
  refine DataOk.liftN fun w F E H args hF hs hd => ?_
  obtain ⟨v, rfl, hv⟩ := arg1 hs hd
  refine (spec_put v zs w (den_rd (den_d hv) hF hz (by omega)) hl).mono ?_
  rintro e w' ⟨u, rfl, ho, hb⟩
  exact ⟨u, rfl, hb, .d _ _ (own_den ho)⟩
end Go.Proofs.YthnlpdjjnfkmeaaDoor

/- Lists of zero bytes are made; the lesser of two numbers; over what values read as. -/
namespace Go.Proofs.YthnlpdjjnfkmeaaDoor
open Go Go.RowKit
section
variable {C : Ctx} {ops : Array Oper} {os : List Oper} {cs : List Cert} {σ : St} {K : St → Prop} {d : Nat} {ty : TypeId} {pos : String} {af : Array Edge}
def zero8 (n : Nat) : List (List A) := List.replicate n [A.d (.v (.int .u8 0))]
def rMk8 (x : Operand) (i : Nat) (e : TypeId) (σ : St) : Option (List V) :=
  match aev σ x, σ.b i with
  | .d (.v (.int .i64 n)), .fresh => if 0 ≤ n ∧ n ≤ 1000 then some [.a (.own i 0), .b (.own 0 e 1 (zero8 n.toNat))] else none
  | _, _ => none
set_option maxRecDepth 100000 in
theorem ok_mk8 {x : Operand} (i : Nat) : OpOk Tryd.prog C ops ⟨some d, .makeSlice 22 x x, ty, pos, af, none⟩ ⟨kof x ++ [B i], [T d, B i], behs (rMk8 x i 5) d⟩ :=
  OpOk.turn rfl (by simp [dstIn]) (fun σ => by unfold rMk8; rw [aev_mask fun k hk => List.mem_append_left _ hk, bx_mask (by simp)]) fun σ a w F E H K Q us hR hd h hK => by
    unfold rMk8 at h
    split at h
    · rename_i n hx hb
      split at h
      · rename_i hn
        obtain rfl := Option.some.inj h
        obtain ⟨m, rfl⟩ := Int.eq_ofNat_of_zero_le hn.1
        have hm : m ≤ 1000 := by omega
        have hv : a.eval x = .int .i64 (m : Int) := by
          have := hR.ev x
          rw [hx] at this
          exact den_v this
        obtain ⟨i0, hi, hz0, hz1, hz2⟩ := info_parts Tryd.infoB
        obtain ⟨w', hr, ho, hg⟩ := run_makeSlice_full (P := Tryd.prog) w 0 22 5 i0 _ 1 Tryd.underlying22 hi hz0 hz1 .i64 .i64 m (by omega) (by rw [hz2]; omega) (by unfold maxLen; omega) (Nat.zero_le _)
        have hfr := hR.env.box i
        rw [hb] at hfr
        have hlen : (zero8 m).length = m := by simp [zero8]
        have hflat : (zero8 m).flatten = List.replicate m (A.d (.v (.int .u8 0))) := by
          simp only [zero8]
          clear hR hK h hb hx hv hr ho hn hm hfr hlen
          induction m with
          | zero => rfl
          | succ m ih => rw [List.replicate_succ, List.flatten_cons, ih, List.replicate_succ]; rfl
        have hset := hR.setown (i := i) (k := 0) (sz := 1) (e := 5) (es := zero8 m) (v := .slice (some ⟨w.heap.size, 0, none⟩) m m) (w' := w') (fun b hbk => by rw [hb] at hbk; cases hbk) (fun q _ => hfr.2 q) (by rw [hb]; exact hg)
          (by rw [hlen]; exact ho) (by intro c hc; rw [(List.mem_replicate.1 hc).2]; rfl) (by
            rw [hflat]
            have hl1 := ho.1
            refine ⟨by rw [List.length_replicate, hl1]; omega, fun j q u hq hu => ?_⟩
            obtain rfl := (List.mem_replicate.1 (List.mem_of_getElem? hq)).2
            have hu0 : u = .int .u8 0 := by
              simp only [madeCells, Array.toList_map, Array.toList_range, List.getElem?_map, Option.map_eq_some_iff] at hu
              obtain ⟨y, _, rfl⟩ := hu
              simp [Value.cells, Nat.mod_one]
            rw [hu0]
            exact ⟨rfl, .d _ _ (.v _)⟩) (.inr (.inr rfl))
        unfold Oper.wp
        have hrun : (execOp a.eval ⟨some d, .makeSlice 22 x x, ty, pos, af, none⟩).run Tryd.prog w = .ok (.value (.slice (some ⟨w.heap.size, 0, none⟩) m m)) w' := by simp only [execOp, Sem.run_bind, hv, hr, Result.andThen_ok, Sem.run_pure]
        rw [hrun, Oper.upon_value]
        refine hK _ _ ?_
        exact (RelE.put (d := d) (r := .own i 0) hset hd (.own i 0 _ (upd2_same _ _ _ _) rfl)).r
      · cases h
    · cases h
set_option maxRecDepth 100000 in
theorem Wk.mk8 {x : Operand} (i n : Nat) (hx : aev σ x = .d (.v (.int .i64 (n : Int)))) (hb : σ.b i = .fresh) (hn : n ≤ 1000) (hd : d < σ.n) (h : Wk Tryd.prog C ops os cs ((σ.put (T d) (.a (.own i 0))).put (B i) (.b (.own 0 5 1 (zero8 n)))) K) :
    Wk Tryd.prog C ops (⟨some d, .makeSlice 22 x x, ty, pos, af, none⟩ :: os) (⟨kof x ++ [B i], [T d, B i], behs (rMk8 x i 5) d⟩ :: cs) σ K :=
  Wk.turn (ok_mk8 i) [.a (.own i 0), .b (.own 0 5 1 (zero8 n))] hd (by simp only [rMk8, hx, hb]; rw [if_pos ⟨by omega, by omega⟩]; simp) h
set_option maxRecDepth 100000 in
theorem asData_zero8 (n : Nat) : asData (zero8 n) ((List.replicate n (0 : Fin 256)).map (fun z => z.val) |>.map fun z : Nat => [D.v (.int .u8 (z : Int))]) := by
  simp [asData, zero8, nrms, nrm]
variable {P : Program}
def rMin (x y : Operand) (σ : St) : Option A := (sc (aev σ x)).bind fun u => (sc (aev σ y)).bind fun v => match u, v with | .int k a, .int _ b => some (.d (.v (.int k (if b < a then b else a)))) | _, _ => none
set_option maxRecDepth 100000 in
theorem ok_min (x y : Operand) {at_ : Array TypeId} : OpOk P C ops ⟨some d, .call { callee := .builtin .min, args := #[x, y], argTypes := at_ }, ty, pos, af, none⟩ ⟨kof x ++ kof y, [T d], beh1 (rMin x y) d⟩ :=
  OpOk.read rfl rfl (fun σ => by unfold rMin; rw [aev_mask (fun k h => List.mem_append_left _ h), aev_mask (fun k h => List.mem_append_right _ h)]) fun σ a w F E H r hR h => by
    simp only [rMin, Option.bind_eq_some_iff] at h
    obtain ⟨u, hu, v, hv, h⟩ := h
    have e1 := den_sc hu (hR.ev x)
    have e2 := den_sc hv (hR.ev y)
    split at h
    · obtain rfl := Option.some.inj h
      refine ⟨_, ?_, .d _ _ (.v _)⟩
      simp [execOp, resolve, invoke, builtin, e1, e2, Builtin.min_, Builtin.min2]
    · cases h
set_option maxRecDepth 100000 in
theorem Wk.min2 {x y : Operand} {at_ : Array TypeId} {k k' : IntKind} {u v r : Int} (hx : aev σ x = .d (.v (.int k u))) (hy : aev σ y = .d (.v (.int k' v))) (hr : (if v < u then v else u) = r) (hd : d < σ.n)
    (h : Wk P C ops os cs (σ.put (T d) (.a (.d (.v (.int k r))))) K) : Wk P C ops (⟨some d, .call { callee := .builtin .min, args := #[x, y], argTypes := at_ }, ty, pos, af, none⟩ :: os) (⟨kof x ++ kof y, [T d], beh1 (rMin x y) d⟩ :: cs) σ K :=
  Wk.read (ok_min x y) _ hd (by simp only [rMin, hx, hy, sc, Option.bind_some, hr]) h
end
end Go.Proofs.YthnlpdjjnfkmeaaDoor

/- Bytes with one put in, taken out or turned, over what values read as. -/
namespace Go.Proofs.YthnlpdjjnfkmeaaDoor
open Go Go.RowKit
theorem cellsB_length (bs : List (Fin 256)) : (cellsB bs).length = bs.length := by simp [cellsB]
theorem cellsB_append (xs ys : List (Fin 256)) : cellsB xs ++ cellsB ys = cellsB (xs ++ ys) := by simp [cellsB]
theorem cellsB_get {bs : List (Fin 256)} {k : Nat} {x : Fin 256} (h : bs[k]? = some x) : (cellsB bs)[k]? = some [.d (.v (.int .u8 ((x.val : Nat) : Int)))] := by simp [cellsB, h]
theorem cellsB_flat (bs : List (Fin 256)) : (cellsB bs).flatten = bs.map fun z => A.d (.v (.int .u8 ((z.val : Nat) : Int))) := by
  induction bs with
  | nil => rfl
  | cons b bs ih =>
    have : cellsB (b :: bs) = [A.d (.v (.int .u8 ((b.val : Nat) : Int)))] :: cellsB bs := rfl
    rw [this, List.flatten_cons, ih]
    rfl
theorem cellsB_part {bs : List (Fin 256)} {k : Nat} {x : Fin 256} (h : bs[k]? = some x) : partA (cellsB bs).flatten (k * 1) 1 false = some (.d (.v (.int .u8 ((x.val : Nat) : Int)))) := by
  simp [partA, cellsB_flat, h]
theorem cellsB_set (bs : List (Fin 256)) (k : Nat) (v : Fin 256) {c : List A} (h : c.length = 1) : (cellsB bs).set k (setA c 0 [.d (.v (.int .u8 ((v.val : Nat) : Int)))]) = cellsB (bs.set k v) := by
  have : setA c 0 [A.d (.v (.int .u8 ((v.val : Nat) : Int)))] = [A.d (.v (.int .u8 ((v.val : Nat) : Int)))] := by
    match c, h with
    | [x], _ => rfl
  rw [this]
  simp [cellsB, List.map_set]
theorem bytes_len (bs : List (Fin 256)) : ∀ e ∈ (bs.map (·.val)).map (fun z : Nat => [D.v (.int .u8 (z : Int))]), e.length = 1 := by
  intro e he
  obtain ⟨z, _, rfl⟩ := List.mem_map.1 he
  rfl
theorem cells_of (bs : List (Fin 256)) : ((bs.map (·.val)).map (fun z : Nat => [D.v (.int .u8 (z : Int))])).map (·.map A.d) = cellsB bs := by simp [cellsB]
theorem cells_of_part (bs : List (Fin 256)) (l m : Nat) : ((((bs.map (·.val)).map (fun z : Nat => [D.v (.int .u8 (z : Int))])).drop l).take m).map (·.map A.d) = cellsB ((bs.drop l).take m) := by
  rw [← cells_of]
  simp only [List.map_drop, List.map_take]
theorem xor8 (a b : Fin 256) : ∃ v : Fin 256, bits .xor .u8 ((a.val : Nat) : Int) ((b.val : Nat) : Int) = ((v.val : Nat) : Int) ∧ v.val = a.val ^^^ b.val := by
  have hx : a.val ^^^ b.val < 2 ^ 8 := Nat.xor_lt_two_pow (by have := a.isLt; omega) (by have := b.isLt; omega)
  refine ⟨⟨a.val ^^^ b.val, by omega⟩, ?_, rfl⟩
  have h1 : (BitVec.ofInt 8 ((a.val : Nat) : Int)).toNat = a.val := by
    rw [BitVec.ofInt_natCast, BitVec.toNat_ofNat]; exact Nat.mod_eq_of_lt (by have := a.isLt; omega)
  have h2 : (BitVec.ofInt 8 ((b.val : Nat) : Int)).toNat = b.val := by
    rw [BitVec.ofInt_natCast, BitVec.toNat_ofNat]; exact Nat.mod_eq_of_lt (by have := b.isLt; omega)
  show IntKind.u8.wrap ((BitVec.ofInt 8 ((a.val : Nat) : Int) ^^^ BitVec.ofInt 8 ((b.val : Nat) : Int)).toNat : Int) = _
  rw [BitVec.toNat_xor, h1, h2, IntKind.wrap_u8']
  simp only
  omega
theorem fbytes_len {xs ys : List (Fin 256)} (h : ([A.d (fbytes xs)] : List A) = [.d (fbytes ys)]) : xs.length = ys.length := by
  simp only [List.cons.injEq, A.d.injEq, fbytes, bytesD, D.row.injEq, and_true] at h
  have := congrArg List.length h
  simpa using this
set_option maxHeartbeats 2000000 in
set_option maxRecDepth 100000 in
theorem turn_ok : DrawOk Tryd.prog 23 (fun rest => ∃ bs : List (Fin 256), rest = [.d (fbytes bs)] ∧ bs.length ≤ 1000) (fun rest r => ∃ ys : List (Fin 256), r = .d (fbytes ys) ∧ ∀ bs : List (Fin 256), rest = [.d (fbytes bs)] → ys.length ≤ bs.length + 1) 3 := by
  refine DrawOk.zero ?_ ?_ ?_ ?_
  · rintro zs p rest ⟨bs, rfl, hl⟩ hp
    have e1 : (((((bs.map (·.val)).map (fun z : Nat => [D.v (.int .u8 (z : Int))])).length : Nat) : Int)) = (bs.length : Int) := by simp
    have e2 : ((bs.map (·.val)).map (fun z : Nat => [D.v (.int .u8 (z : Int))])).length = bs.length := by simp
    refine Spec.intro (n := 64) (rv := [.tmp 4]) Tryd.func23 rfl rfl rfl (by simp) fun C hN hX => ?_
    refine AW.seq ?_
    apply AW.list
    apply Wk.asg (by conv => lhs; whnf) (lt_of_ble rfl)
    refine Wk.nil ?_
    refine AW.seq (AW.seq ?_)
    by_cases h0 : bs.length = 0
    · apply AW.list
      apply Wk.mv (by conv => lhs; whnf) (lt_of_ble rfl)
      apply Wk.len un22 rfl (lt_of_ble rfl)
      apply Wk.bin rfl rfl (r := .bool true) (fun w => by rw [e1, h0]; simp [go_sem]) (lt_of_ble rfl)
      refine Wk.nil ?_
      refine AW.cond rfl (fun _ => ?_) (fun hc => by cases hc)
      refine AW.seq ?_
      apply AW.list
      apply Wk.mv (by conv => lhs; whnf) (lt_of_ble rfl)
      apply Wk.drw 0 pick_ok Tryd.func22 rfl rfl rfl rfl ⟨_, rfl, by omega⟩ (by omega) rfl (lt_of_ble rfl)
      rintro r1 zs1 p1 ⟨k1, rfl, hk1⟩ hp1
      apply Wk.convb rfl ui3 ui5 (lt_of_ble rfl)
      intro z
      apply Wk.lst 13 1 false [.int .u8 0] un22 ty5 ze5 rfl rfl (by rfl) (by rfl) (by decide) (by decide) rfl rfl (all_len rfl) (lt_of_ble rfl)
      apply Wk.asg (by conv => lhs; whnf) (lt_of_ble rfl)
      refine Wk.nil (AW.thaw (t := 4) (i := 13) (cellsD [z]) rfl rfl (asData_cells [z]) (hX.one (by decide) rfl) (AW.ret ?_))
      repeat (first | refine thenA_ret ?_ | refine inBlockA_ret ?_)
      exact RetQ.ret [(0, rdr zs1 p1)] (.cons rfl .nil) ⟨⟨[z], rfl, fun bs' e => by have := fbytes_len e; simp⟩, _, _, rfl, by omega⟩ (kept1 rfl)
    have hnil : ¬ bs = [] := fun e => h0 (by rw [e]; rfl)
    apply AW.list
    apply Wk.mv (by conv => lhs; whnf) (lt_of_ble rfl)
    apply Wk.len un22 rfl (lt_of_ble rfl)
    apply Wk.bin rfl rfl (r := .bool false) (fun w => by rw [e1]; simp [go_sem]; exact hnil) (lt_of_ble rfl)
    refine Wk.nil ?_
    refine AW.cond rfl (fun hc => by cases hc) (fun _ => AW.skip (thenA_normal ?_))
    refine AW.seq ?_
    apply AW.list
    apply Wk.mv (by conv => lhs; whnf) (lt_of_ble rfl)
    apply Wk.mv (by conv => lhs; whnf) (lt_of_ble rfl)
    apply Wk.len un22 rfl (lt_of_ble rfl)
    apply Wk.drw 0 pick_ok Tryd.func22 rfl rfl rfl rfl ⟨_, rfl, by rw [e1]; omega⟩ (by omega) rfl (lt_of_ble rfl)
    rintro r1 zs1 p1 ⟨k, rfl, hk⟩ hp1
    apply Wk.asg (by conv => lhs; whnf) (lt_of_ble rfl)
    refine Wk.nil ?_
    replace hk : k < bs.length := by have := hk _ rfl; rw [e1] at this; omega
    obtain ⟨x, hx⟩ : ∃ x, bs[k]? = some x := ⟨_, List.getElem?_eq_getElem hk⟩
    refine AW.seq (AW.seq ?_)
    apply AW.list
    apply Wk.mv (by conv => lhs; whnf) (lt_of_ble rfl)
    apply Wk.drw 0 pick_ok Tryd.func22 rfl rfl rfl rfl ⟨_, rfl, by omega⟩ (by omega) rfl (lt_of_ble rfl)
    rintro r2 zs2 p2 ⟨q, rfl, hq⟩ hp2
    refine Wk.nil (AW.block ?_)
    replace hq := hq _ rfl
    refine AW.seq ?_
    by_cases q0 : q = 0
    · apply AW.list
      apply Wk.bin rfl rfl (r := .bool true) (fun w => by rw [q0]; simp [go_sem]) (lt_of_ble rfl)
      apply Wk.asg (by conv => lhs; whnf) (lt_of_ble rfl)
      refine Wk.nil ?_
      refine AW.cond rfl (fun _ => ?_) (fun hc => by cases hc)
      refine AW.seq ?_
      apply AW.draw (hm := hmix) (cs := _)
      · apply Wk.lst 22 1 false [.int .u8 0] un22 ty5 ze5 rfl rfl (by rfl) (by rfl) (by decide) (by decide) rfl rfl (all_len rfl) (lt_of_ble rfl)
        apply Wk.mv (by conv => lhs; whnf) (lt_of_ble rfl)
        apply Wk.mv (by conv => lhs; whnf) (lt_of_ble rfl)
        apply Wk.slc (m := k) (l := 0) 1 false un22 ty5 rfl (by exact if_pos ⟨by omega, by simp; omega⟩) rfl (bytes_len _) (lt_of_ble rfl)
        apply Wk.appOR 22 1000 1 un22 ap5 rfl rfl rfl (.inr rfl) (by decide) (fun e he => bytes_len bs e (List.mem_of_mem_drop (List.mem_of_mem_take he))) (by simp) (by simp; omega) (lt_of_ble rfl)
        rw [cells_of_part]
        apply Wk.mv (by conv => lhs; whnf) (lt_of_ble rfl)
        apply Wk.mv (by conv => lhs; whnf) (lt_of_ble rfl)
        apply Wk.addi rfl rfl (by omega) (lt_of_ble rfl)
        apply Wk.slc (m := bs.length) (l := k + 1) 1 false un22 ty5 rfl (by exact congrArg some e2) (by exact if_pos ⟨by omega, by omega⟩) (bytes_len _) (lt_of_ble rfl)
        apply Wk.appOR 22 1000 1 un22 ap5 rfl rfl rfl (.inr rfl) (by decide) (fun e he => bytes_len bs e (List.mem_of_mem_drop (List.mem_of_mem_take he))) (by simpa using one_cellsB _) (by simp [cellsB_length]; omega) (lt_of_ble rfl)
        rw [cells_of_part, List.nil_append, cellsB_append]
        apply Wk.asg (by conv => lhs; whnf) (lt_of_ble rfl)
        refine Wk.nil (AW.thaw (t := 4) (i := 22) (cellsD _) rfl rfl (asData_cells _) (hX.one (by decide) rfl) (AW.ret ?_))
        repeat (first | refine thenA_ret ?_ | refine inBlockA_ret ?_)
        exact RetQ.ret [(0, rdr zs2 p2)] (.cons rfl .nil) ⟨⟨_, rfl, fun bs' e => by have := fbytes_len e; simp; omega⟩, _, _, rfl, by omega⟩ (kept1 rfl)
      · rfl
      · rfl
    apply AW.list
    apply Wk.bin rfl rfl (r := .bool false) (fun w => by simp [go_sem]; omega) (lt_of_ble rfl)
    apply Wk.asg (by conv => lhs; whnf) (lt_of_ble rfl)
    refine Wk.nil ?_
    refine AW.cond rfl (fun hc => by cases hc) (fun _ => ?_)
    refine AW.seq ?_
    by_cases q1 : q = 1
    · apply AW.list
      apply Wk.bin rfl rfl (r := .bool true) (fun w => by rw [q1]; simp [go_sem]) (lt_of_ble rfl)
      apply Wk.asg (by conv => lhs; whnf) (lt_of_ble rfl)
      refine Wk.nil ?_
      refine AW.cond rfl (fun _ => ?_) (fun hc => by cases hc)
      refine AW.seq ?_
      apply AW.draw (hm := hmix) (cs := _)
      · apply Wk.lst 34 1 false [.int .u8 0] un22 ty5 ze5 rfl rfl (by rfl) (by rfl) (by decide) (by decide) rfl rfl (all_len rfl) (lt_of_ble rfl)
        apply Wk.mv (by conv => lhs; whnf) (lt_of_ble rfl)
        apply Wk.mv (by conv => lhs; whnf) (lt_of_ble rfl)
        apply Wk.slc (m := k) (l := 0) 1 false un22 ty5 rfl (by exact if_pos ⟨by omega, by simp; omega⟩) rfl (bytes_len _) (lt_of_ble rfl)
        apply Wk.appOR 34 1000 1 un22 ap5 rfl rfl rfl (.inr rfl) (by decide) (fun e he => bytes_len bs e (List.mem_of_mem_drop (List.mem_of_mem_take he))) (by simp) (by simp; omega) (lt_of_ble rfl)
        rw [cells_of_part, List.nil_append]
        apply Wk.mv (by conv => lhs; whnf) (lt_of_ble rfl)
        apply Wk.drw 0 pick_ok Tryd.func22 rfl rfl rfl rfl ⟨_, rfl, by omega⟩ (by omega) rfl (lt_of_ble rfl)
        rintro r3 zs3 p3 ⟨k3, rfl, hk3⟩ hp3
        apply Wk.convb rfl ui3 ui5 (lt_of_ble rfl)
        intro z
        apply Wk.lst 42 1 false [.int .u8 0] un22 ty5 ze5 rfl rfl (by rfl) (by rfl) (by decide) (by decide) rfl rfl (all_len rfl) (lt_of_ble rfl)
        apply Wk.appOO 34 42 1 un22 ap5 rfl rfl rfl rfl (by decide) (all_len rfl) (one_cellsB _) (by simp [cellsB_length]; omega) (lt_of_ble rfl)
        apply Wk.mv (by conv => lhs; whnf) (lt_of_ble rfl)
        apply Wk.mv (by conv => lhs; whnf) (lt_of_ble rfl)
        apply Wk.slc (m := bs.length) (l := k) 1 false un22 ty5 rfl (by exact congrArg some e2) (by exact if_pos ⟨by omega, by omega⟩) (bytes_len _) (lt_of_ble rfl)
        apply Wk.appOR 34 1000 1 un22 ap5 rfl rfl rfl (.inr rfl) (by decide) (fun e he => bytes_len bs e (List.mem_of_mem_drop (List.mem_of_mem_take he))) (fun c hc => (List.mem_append.1 hc).elim (one_cellsB _ c) (fun h => by rw [List.mem_singleton.1 h]; rfl)) (by simp [cellsB_length]; omega) (lt_of_ble rfl)
        rw [cells_of_part, show cellsB (List.take (k - 0) (List.drop 0 bs)) ++ [[A.d (.v (.int .u8 ((z.val : Nat) : Int)))]] = cellsB ((bs.drop 0).take (k - 0) ++ [z]) by simp [cellsB], cellsB_append]
        apply Wk.asg (by conv => lhs; whnf) (lt_of_ble rfl)
        refine Wk.nil (AW.thaw (t := 4) (i := 34) (cellsD _) rfl rfl (asData_cells _) (hX.one (by decide) rfl) (AW.ret ?_))
        repeat (first | refine thenA_ret ?_ | refine inBlockA_ret ?_)
        exact RetQ.ret [(0, rdr zs3 p3)] (.cons rfl .nil) ⟨⟨_, rfl, fun bs' e => by have := fbytes_len e; simp; omega⟩, _, _, rfl, by omega⟩ (kept1 rfl)
      · rfl
      · rfl
    apply AW.list
    apply Wk.bin rfl rfl (r := .bool false) (fun w => by simp [go_sem]; omega) (lt_of_ble rfl)
    apply Wk.asg (by conv => lhs; whnf) (lt_of_ble rfl)
    refine Wk.nil ?_
    refine AW.cond rfl (fun hc => by cases hc) (fun _ => AW.skip ?_)
    repeat (first | refine thenA_normal ?_ | refine inBlockA_normal ?_)
    refine AW.seq ?_
    apply AW.list
    apply Wk.lst 48 1 false [.int .u8 0] un22 ty5 ze5 rfl rfl (by rfl) (by rfl) (by decide) (by decide) rfl rfl (all_len rfl) (lt_of_ble rfl)
    apply Wk.mv (by conv => lhs; whnf) (lt_of_ble rfl)
    apply Wk.appOR 48 1000 1 un22 ap5 rfl rfl rfl (.inr rfl) (by decide) (bytes_len bs) (by simp) (by simp; omega) (lt_of_ble rfl)
    rw [cells_of, List.nil_append]
    apply Wk.asg (by conv => lhs; whnf) (lt_of_ble rfl)
    refine Wk.nil ?_
    refine AW.seq ?_
    apply AW.draw (hm := hmix) (cs := _)
    · apply Wk.mv (by conv => lhs; whnf) (lt_of_ble rfl)
      apply Wk.mv (by conv => lhs; whnf) (lt_of_ble rfl)
      apply Wk.mv (by conv => lhs; whnf) (lt_of_ble rfl)
      apply Wk.mv (by conv => lhs; whnf) (lt_of_ble rfl)
      apply Wk.iado 48 1 false un22 ty5 rfl rfl rfl (by rw [cellsB_length]; exact hk) (lt_of_ble rfl)
      apply Wk.ldo (i := 48) 1 false ty5 rfl rfl (cellsB_part hx) (lt_of_ble rfl)
      apply Wk.mv (by conv => lhs; whnf) (lt_of_ble rfl)
      apply Wk.drw 0 pick_ok Tryd.func22 rfl rfl rfl rfl ⟨_, rfl, by omega⟩ (by omega) rfl (lt_of_ble rfl)
      rintro r3 zs3 p3 ⟨k3, rfl, hk3⟩ hp3
      apply Wk.addi rfl rfl (by have := hk3 _ rfl; omega) (lt_of_ble rfl)
      apply Wk.convb rfl ui3 ui5 (lt_of_ble rfl)
      intro z
      obtain ⟨v, hv, _⟩ := xor8 x z
      apply Wk.bin rfl rfl (r := .int .u8 ((v.val : Nat) : Int)) (fun w => by simp [go_sem, hv]) (lt_of_ble rfl)
      apply Wk.iado 48 1 false un22 ty5 rfl rfl rfl (by rw [cellsB_length]; exact hk) (lt_of_ble rfl)
      apply Wk.stoo 48 k 0 1 false ty5 rfl rfl (by omega) (cellsB_get hx) rfl rfl (by decide) (lt_of_ble rfl)
      rw [cellsB_set bs k v rfl]
      refine Wk.nil ?_
      refine AW.seq ?_
      apply AW.list
      apply Wk.mv (by conv => lhs; whnf) (lt_of_ble rfl)
      apply Wk.asg (by conv => lhs; whnf) (lt_of_ble rfl)
      refine Wk.nil (AW.thaw (t := 4) (i := 48) (cellsD (bs.set k v)) rfl rfl (asData_cells _) (hX.one (by decide) rfl) (AW.ret ?_))
      repeat (first | refine thenA_ret ?_ | refine inBlockA_ret ?_)
      exact RetQ.ret [(0, rdr zs3 p3)] (.cons rfl .nil) ⟨⟨_, rfl, fun bs' e => by have := fbytes_len e; simp; omega⟩, _, _, rfl, by omega⟩ (kept1 rfl)
    · rfl
    · rfl
  · rintro rest ⟨n, rfl, _⟩; rfl
  · rintro rest _; exact ⟨_, [], rfl, fun _ _ => by simp⟩
  · rintro rest r ⟨k, rfl, _⟩; rfl
end Go.Proofs.YthnlpdjjnfkmeaaDoor

/- Opening a reader; what has come of a message, over what values read as. -/
namespace Go.Proofs.YthnlpdjjnfkmeaaDoor
open Go
set_option maxRecDepth 100000 in
theorem open_ok : OpenOk Tryd.prog 21 := by
  intro zs
  refine Spec.intro (n := 11) (rv := [.tmp 2]) Tryd.func21 rfl rfl rfl (by simp) fun C hN hX => ?_
  refine AW.seq ?_
  apply AW.list
  apply Wk.asg (by conv => lhs; whnf) (lt_of_ble rfl)
  refine Wk.nil ?_
  refine AW.seq (AW.seq ?_)
  apply AW.list
  apply Wk.mv (by conv => lhs; whnf) (lt_of_ble rfl)
  apply Wk.len un22 rfl (lt_of_ble rfl)
  apply Wk.bin rfl rfl (fun w => by simp [go_sem] <;> rfl) (lt_of_ble rfl)
  refine Wk.nil ?_
  have fin : ∀ (ys : List (Fin 256)) (σ : St), σ.t 2 = .ptr 0 0 → σ.b 0 = rdr ys 0 → RetQ Tryd.prog [.tmp 2] (fun r bs => r = .ptr 0 0 ∧ ∃ zs', bs = [(0, rdr zs' 0)]) .ret σ := by
    intro ys σ h2 hb
    exact RetQ.ret [(0, rdr ys 0)] (.cons h2 .nil) ⟨rfl, ys, rfl⟩ (kept1 hb)
  refine AW.cond rfl (fun hc => ?_) (fun hc => ?_)
  · have hl : 2000 ≤ ((zs.map (·.val)).map fun z : Nat => [D.v (.int .u8 (z : Int))]).length := by
      simp at hc ⊢
      omega
    apply AW.list
    apply Wk.mv (by conv => lhs; whnf) (lt_of_ble rfl)
    apply Wk.slc (m := 2000) (l := 0) 1 false un22 ty5 rfl (by exact if_pos ⟨by decide, Int.ofNat_le.2 hl⟩) rfl (one_bytes _) (lt_of_ble rfl)
    apply Wk.asg (by conv => lhs; whnf) (lt_of_ble rfl)
    refine Wk.nil (thenA_normal ?_)
    refine AW.seq ?_
    apply AW.list
    apply Wk.mv (by conv => lhs; whnf) (lt_of_ble rfl)
    apply Wk.bld [.slice none 0 0, .int .i64 0] [(0, 1), (1, 1)] bl83 rfl (by conv => lhs; whnf) (lt_of_ble rfl)
    apply Wk.bx 0 rfl rfl (lt_of_ble rfl)
    apply Wk.asg (by conv => lhs; whnf) (lt_of_ble rfl)
    refine Wk.nil (AW.ret ?_)
    refine fin (zs.take 2000) _ rfl ?_
    simp [rdr, bytesD, List.map_take, St.put, upd, setA]
  · refine AW.skip (thenA_normal ?_)
    refine AW.seq ?_
    apply AW.list
    apply Wk.mv (by conv => lhs; whnf) (lt_of_ble rfl)
    apply Wk.bld [.slice none 0 0, .int .i64 0] [(0, 1), (1, 1)] bl83 rfl (by conv => lhs; whnf) (lt_of_ble rfl)
    apply Wk.bx 0 rfl rfl (lt_of_ble rfl)
    apply Wk.asg (by conv => lhs; whnf) (lt_of_ble rfl)
    refine Wk.nil (AW.ret ?_)
    exact fin zs _ rfl rfl
end Go.Proofs.YthnlpdjjnfkmeaaDoor

/- A piece, drawn, whose bytes are a list of the call's own; over what values read as. -/
namespace Go.Proofs.YthnlpdjjnfkmeaaDoor
open Go
def ownB (q : Nat) (bs : List (Fin 256)) : Bx := .own q 5 1 (cellsB bs)
theorem ownB_in {q : Nat} {bs : List (Fin 256)} {K : List Nat} : (ownB q bs).within K = true := within_cellsB bs
/-- Bytes, drawn, that are a list of the call's own. -/
def bytesOPost (rest : List A) (r : A) (ex : List (Nat × Bx)) : Prop := ∃ q bs, r = .own 7 q ∧ ex = [(7, ownB q bs)] ∧ ∀ n : Nat, rest = [.d (.v (.int .i64 (n : Int)))] → bs.length ≤ n
set_option maxRecDepth 100000 in
theorem bytesO_ok : DrawX Tryd.prog 57 (fun rest => ∃ n : Nat, rest = [.d (.v (.int .i64 (n : Int)))] ∧ n ≤ 1000) bytesOPost 3001 [7] := by
 refine ⟨?_, ?_, ?_⟩
 · rintro zs p rest ⟨n, rfl, hn⟩ hp
   refine Spec.intro (n := 30) (rv := [.tmp 4]) Tryd.func57 rfl rfl rfl (by simp) fun C hN hX => ?_
   refine AW.seq ?_
   apply AW.list
   apply Wk.asg (by conv => lhs; whnf) (lt_of_ble rfl)
   refine Wk.nil ?_
   refine AW.seq ?_
   apply AW.list
   apply Wk.lst 7 1 false [.int .u8 0] un22 ty5 ze5 rfl rfl (by rfl) (by rfl) (by decide) (by decide) rfl rfl (all_len rfl) (lt_of_ble rfl)
   apply Wk.asg (by conv => lhs; whnf) (lt_of_ble rfl)
   refine Wk.nil ?_
   refine AW.seq (AW.seq ?_)
   apply AW.list
   apply Wk.mv (by conv => lhs; whnf) (lt_of_ble rfl)
   apply Wk.mv (by conv => lhs; whnf) (lt_of_ble rfl)
   apply Wk.addi rfl rfl (by omega) (lt_of_ble rfl)
   apply Wk.drw 0 pick_ok Tryd.func22 rfl rfl rfl rfl ⟨(n : Int) + 1, rfl, by omega⟩ (by omega) rfl (lt_of_ble rfl)
   rintro r zs1 p1 ⟨k, rfl, hk⟩ hp1
   replace hk := hk _ rfl
   apply Wk.asg (by conv => lhs; whnf) (lt_of_ble rfl)
   refine Wk.nil ?_
   refine AW.block ?_
   let inv : Nat × Nat × List (Fin 256) × Nat × List (Fin 256) → St := fun x => St.of 30 [(0, .ptr 0 0), (5, .own 7 x.2.1), (6, .d (.v (.int .i64 (x.1 : Int))))] [(0, rdr x.2.2.1 x.2.2.2.1), (7, .own x.2.1 5 1 (cellsB x.2.2.2.2))]
   refine AW.loop inv (fun x => x.1 ≤ k ∧ x.2.2.2.1 + 3 * x.1 ≤ p + 1 + 3 * k ∧ x.2.2.2.2.length + x.1 ≤ k) (fun x => x.1) (k, 0, zs1, p1, []) ⟨Nat.le_refl _, by simp only; omega, by simp⟩ ?_ ?_
   · exact fun a w => Rel.keep ⟨rfl, .cons rfl rfl (.cons rfl rfl (.cons rfl rfl .nil)), .cons rfl rfl (.cons rfl rfl .nil), ⟨fun i b hb => by have := hN.1 i b hb; simp [keys] at this ⊢; exact .inl this, fun i q v hv => by have := hN.2 i q v hv; simp [keys] at this ⊢; exact .inl this⟩⟩
   · rintro ⟨m, q, zs2, p2, bs⟩ ⟨h1, h2, h3⟩
     simp only at h1 h2 h3
     show AW Tryd.prog C _ _ (St.of 30 [(0, .ptr 0 0), (5, .own 7 q), (6, .d (.v (.int .i64 (m : Int))))] [(0, rdr zs2 p2), (7, .own q 5 1 (cellsB bs))])
     refine AW.seq (AW.seq ?_)
     apply AW.list
     apply Wk.mv (by conv => lhs; whnf) (lt_of_ble rfl)
     apply Wk.bin rfl rfl (fun w => by simp [go_sem] <;> rfl) (lt_of_ble rfl)
     refine Wk.nil ?_
     refine AW.cond rfl (fun hc => ?_) (fun hc => ?_)
     · have hm : 0 < m := by simpa using hc
       refine AW.skip (thenA_normal ?_)
       refine AW.seq (AW.block ?_)
       apply AW.list
       apply Wk.mv (by conv => lhs; whnf) (lt_of_ble rfl)
       apply Wk.mv (by conv => lhs; whnf) (lt_of_ble rfl)
       apply Wk.drw 0 pick_ok Tryd.func22 rfl rfl rfl rfl ⟨_, rfl, by omega⟩ (by omega) rfl (lt_of_ble rfl)
       rintro r1 zs3 p3 ⟨k1, rfl, hk1⟩ hp3
       apply Wk.mv (by conv => lhs; whnf) (lt_of_ble rfl)
       apply Wk.drw 0 pick_ok Tryd.func22 rfl rfl rfl rfl ⟨_, rfl, by omega⟩ (by omega) rfl (lt_of_ble rfl)
       rintro r2 zs4 p4 ⟨k2, rfl, hk2⟩ hp4
       apply Wk.lst 21 1 false [.int .i64 0] un80 ty3 ze3 rfl rfl (by rfl) (by rfl) (by decide) (by decide) rfl rfl (all_len rfl) (lt_of_ble rfl)
       apply Wk.mv (by conv => lhs; whnf) (lt_of_ble rfl)
       apply Wk.drw 0 pick_ok Tryd.func22 rfl rfl rfl rfl ⟨_, rfl, by omega⟩ (by omega) rfl (lt_of_ble rfl)
       rintro r3 zs5 p5 ⟨k3, rfl, hk3⟩ hp5
       have hk3 : k3 < 3 := by have := hk3 3 rfl; omega
       obtain ⟨v, hv⟩ : ∃ v : Int, partA (List.flatten [[A.d (.v (.int .i64 (k1 : Int)))], [.d (.v (.int .i64 (k2 : Int)))], [.d (.v (.int .i64 255))]]) (k3 * 1) 1 false = some (.d (.v (.int .i64 v))) := by
         rcases (show k3 = 0 ∨ k3 = 1 ∨ k3 = 2 by omega) with rfl | rfl | rfl <;> exact ⟨_, rfl⟩
       apply Wk.iado 21 1 false un80 ty3 rfl rfl rfl hk3 (lt_of_ble rfl)
       apply Wk.ldo (i := 21) 1 false ty3 rfl rfl hv (lt_of_ble rfl)
       apply Wk.convb rfl ui3 ui5 (lt_of_ble rfl)
       intro z
       apply Wk.lst 27 1 false [.int .u8 0] un22 ty5 ze5 rfl rfl (by rfl) (by rfl) (by decide) (by decide) rfl rfl (all_len rfl) (lt_of_ble rfl)
       apply Wk.appOO 7 27 1 un22 ap5 rfl rfl rfl rfl (by decide) (all_len rfl) (one_cellsB bs) (by simp [cellsB]; omega) (lt_of_ble rfl)
       apply Wk.asg (by conv => lhs; whnf) (lt_of_ble rfl)
       refine Wk.nil (inBlockA_normal (thenA_normal ?_))
       apply AW.list
       apply Wk.mv (by conv => lhs; whnf) (lt_of_ble rfl)
       apply Wk.subn (b := 1) rfl rfl (by omega) (by omega) (lt_of_ble rfl)
       apply Wk.asg (by conv => lhs; whnf) (lt_of_ble rfl)
       refine Wk.nil ?_
       refine ⟨(m - 1, q + 1, zs5, p5, bs ++ [z]), ⟨by simp only; omega, by simp only; omega, by simp; omega⟩, by simp only; omega, ?_⟩
       refine fun a w => Rel.keep ⟨rfl, .cons rfl rfl (.cons rfl rfl (.cons rfl rfl .nil)), .cons rfl rfl (.cons ?_ ?_ .nil), ⟨fun i b hb => by have := hN.1 i b hb; simp [keys] at this ⊢; exact .inl this, fun i q v hv => by have := hN.2 i q v hv; simp [keys] at this ⊢; exact .inl this⟩⟩
       · simp only [cellsB, List.map_append]
         rfl
       · exact within_cellsB _
     · have hm : m = 0 := by simpa using hc
       refine AW.exit ?_
       repeat (first | refine inBlockA_same ?_ | refine thenA_exit ?_)
       refine thenA_normal ?_
       refine AW.seq ?_
       apply AW.list
       apply Wk.mv (by conv => lhs; whnf) (lt_of_ble rfl)
       apply Wk.asg (by conv => lhs; whnf) (lt_of_ble rfl)
       refine Wk.nil (AW.ret ?_)
       refine RetQ.ret [(0, rdr zs2 p2), (7, ownB q bs)] (.cons rfl .nil) ⟨zs2, p2, _, rfl, by omega, q, bs, rfl, rfl, fun n' e => ?_⟩ (kept2 rfl rfl)
       simp only [List.cons.injEq, A.d.injEq, D.v.injEq, Value.int.injEq, true_and, and_true] at e
       omega
 · rintro rest ⟨n, rfl, _⟩; exact ⟨_, _, 0, [], rfl, rfl, fun n e => by simp⟩
 · rintro rest r ex ⟨q, bs, rfl, rfl, _⟩; exact ⟨rfl, by simp [ownB_in]⟩

/-- A piece: its bytes the call's own, by the name 7. -/
def partOA (sg ln : Int) (q : Nat) : List A := [.d (.v (.int .i64 sg)), .d (.v (.int .i64 ln)), .own 7 q]
def partOPost (_ : List A) (r : A) (ex : List (Nat × Bx)) : Prop := ∃ sg ln q bs, r = .agg (partOA sg ln q) ∧ ex = [(7, ownB q bs)] ∧ 0 ≤ sg ∧ sg ≤ 3 ∧ 0 ≤ ln ∧ ln ≤ 40 ∧ bs.length ≤ 8
set_option maxRecDepth 100000 in
theorem partO_ok : DrawX Tryd.prog 47 (fun rest => rest = []) partOPost 3003 [7] := by
 refine ⟨?_, ?_, ?_⟩
 · rintro zs p rest rfl hp
   refine Spec.intro (n := 43) (rv := [.cell 2 77]) Tryd.func47 rfl rfl rfl (by simp) fun C hN hX => ?_
   refine AW.seq ?_
   apply AW.list
   apply Wk.alc 2 [.int .i64 0, .int .i64 0, .slice none 0 0] ze77 rfl rfl (lt_of_ble rfl)
   refine Wk.nil ?_
   refine AW.seq ?_
   apply AW.list
   apply Wk.mv (by conv => lhs; whnf) (lt_of_ble rfl)
   apply Wk.drw 0 pick_ok Tryd.func22 rfl rfl rfl rfl ⟨_, rfl, by omega⟩ (by omega) rfl (lt_of_ble rfl)
   rintro r1 zs1 p1 ⟨k1, rfl, hk1⟩ hp1
   apply Wk.mv (by conv => lhs; whnf) (lt_of_ble rfl)
   apply Wk.drx [7] bytesO_ok Tryd.func57 rfl rfl rfl rfl ⟨8, rfl, by decide⟩ (by omega) rfl (by simp; rfl) (lt_of_ble rfl)
   rintro r zs2 p2 ex ⟨q, bs, rfl, rfl, hbl⟩ hp2
   replace hbl := hbl 8 rfl
   apply Wk.bld [.int .i64 0, .int .i64 0, .slice none 0 0] [(0, 1), (1, 1), (2, 1)] bl77 rfl (by conv => lhs; whnf) (lt_of_ble rfl)
   apply Wk.alc 3 [.int .i64 0, .int .i64 0, .slice none 0 0] ze77 rfl rfl (lt_of_ble rfl)
   apply Wk.sto (i := 3) 3 true ty77 rfl rfl rfl rfl (Nat.le_of_ble_eq_true rfl) (lt_of_ble rfl)
   refine Wk.nil ?_
   have hk1' : k1 < 4 := by have := hk1 4 rfl; omega
   let inv : List (Fin 256) × Nat × Int × Nat × List (Fin 256) → St := fun x => St.of 43 [(0, .ptr 0 0), (2, .ptr 2 0), (3, .ptr 3 0)] [(0, rdr x.1 x.2.1), (2, .var [.d (.v (.int .i64 0)), .d (.v (.int .i64 0)), .d (.v (.slice none 0 0))]), (3, .var (partOA (k1 : Int) x.2.2.1 x.2.2.2.1)), (7, ownB x.2.2.2.1 x.2.2.2.2)]
   let ok : Nat → List (Fin 256) × Nat × Int × Nat × List (Fin 256) → Prop := fun m x => x.2.1 ≤ p + m ∧ 0 ≤ x.2.2.1 ∧ x.2.2.1 ≤ 40 ∧ x.2.2.2.2.length ≤ 8
   have fin : ∀ (zs : List (Fin 256)) (p : Nat) (ln : Int) (q : Nat) (bs : List (Fin 256)) (σ : St), σ.n = 43 → σ.t 0 = .ptr 0 0 → σ.t 2 = .ptr 2 0 → σ.t 3 = .ptr 3 0 → σ.b 0 = rdr zs p → σ.b 2 = .var [.d (.v (.int .i64 0)), .d (.v (.int .i64 0)), .d (.v (.slice none 0 0))] → σ.b 3 = .var (partOA (k1 : Int) ln q) → σ.b 7 = ownB q bs →
       ∀ a w, Rel C σ a w → Rel C (inv (zs, p, ln, q, bs)) a w := fun zs p ln q bs σ h0 h1 h2 h3 h4 h5 h6 h7 a w => Rel.keep ⟨h0.symm, .cons h1 rfl (.cons h2 rfl (.cons h3 rfl .nil)), .cons h4 rfl (.cons h5 rfl (.cons h6 rfl (.cons h7 ownB_in .nil))), hN.mono (by simp [keys])⟩
   refine AW.via inv (ok 3002) ?_ ?_
   · refine AW.seq ?_
     by_cases h1 : k1 = 0
     · subst h1
       apply AW.list
       apply Wk.fad 0 0 false fd77_0 rfl (lt_of_ble rfl)
       apply Wk.ld (i := 3) 1 false ty3 rfl rfl (by conv => lhs; whnf) (lt_of_ble rfl)
       apply Wk.bin rfl rfl (r := .bool false) (fun w => by simp [go_sem]) (lt_of_ble rfl)
       apply Wk.mv (by conv => lhs; whnf) (lt_of_ble rfl)
       apply Wk.goff 12 (ok_faddr fd77_2) rfl rfl (by decide)
       apply Wk.goff 12 (ok_load 3 ty22) rfl rfl (by decide)
       apply Wk.goff 12 (ok_leno 7 un22) rfl rfl (by decide)
       apply Wk.goff 12 (ok_bin _ _ _ _ _) rfl rfl (by decide)
       apply Wk.pckF rfl (by conv => lhs; whnf) (lt_of_ble rfl)
       refine Wk.nil ?_
       refine AW.cond rfl (fun hc => by cases hc) (fun _ => AW.skip (thenA_normal ?_))
       exact ⟨(zs2, p2, 0, q, bs), ⟨by simp only; omega, by simp only; omega, by simp only; omega, hbl⟩, fin _ _ _ _ _ _ rfl rfl rfl rfl rfl rfl rfl rfl⟩
     · apply AW.list
       apply Wk.fad 0 0 false fd77_0 rfl (lt_of_ble rfl)
       apply Wk.ld (i := 3) 1 false ty3 rfl rfl (by conv => lhs; whnf) (lt_of_ble rfl)
       apply Wk.bin rfl rfl (r := .bool true) (fun w => by simp [go_sem, h1]) (lt_of_ble rfl)
       apply Wk.mv (by conv => lhs; whnf) (lt_of_ble rfl)
       apply Wk.gon 12 rfl rfl
       apply Wk.fad 2 0 false fd77_2 rfl (lt_of_ble rfl)
       apply Wk.gon 12 rfl rfl
       apply Wk.ld (i := 3) 1 false ty22 rfl rfl (by conv => lhs; whnf) (lt_of_ble rfl)
       apply Wk.gon 12 rfl rfl
       apply Wk.leno (i := 7) un22 rfl rfl (lt_of_ble rfl)
       apply Wk.gon 12 rfl rfl
       apply Wk.bin rfl rfl (fun w => by simp [go_sem] <;> rfl) (lt_of_ble rfl)
       apply Wk.pckT rfl (by conv => lhs; whnf) (lt_of_ble rfl)
       refine Wk.nil ?_
       refine AW.cond rfl (fun hc => ?_) (fun hc => AW.skip (thenA_normal ?_))
       · apply AW.list
         apply Wk.lst 18 1 false [.int .u8 0] un22 ty5 ze5 rfl rfl (by rfl) (by rfl) (by decide) (by decide) rfl rfl (all_len rfl) (lt_of_ble rfl)
         apply Wk.fad 2 0 false fd77_2 rfl (lt_of_ble rfl)
         apply Wk.sto (i := 3) 1 false ty22 rfl rfl rfl rfl (Nat.le_of_ble_eq_true rfl) (lt_of_ble rfl)
         refine Wk.nil (thenA_normal ?_)
         refine ⟨(zs2, p2, 0, q + 1, [7]), ⟨by simp only; omega, by simp only; omega, by simp only; omega, by simp⟩, fun a w hR => ?_⟩
         have h := Rel.renc (j := 3) (c := 2) (i := 18) (i' := 7) (k' := q + 1) rfl rfl (by rfl) (.inr ⟨_, _, _, _, rfl, rfl⟩) (by decide) hR
         exact fin _ _ _ _ _ _ rfl rfl rfl rfl rfl rfl rfl rfl a w h
       · exact ⟨(zs2, p2, 0, q, bs), ⟨by simp only; omega, by simp only; omega, by simp only; omega, hbl⟩, fin _ _ _ _ _ _ rfl rfl rfl rfl rfl rfl rfl rfl⟩
   · rintro ⟨zs3, p3, l3, q3, bs3⟩ ⟨hp3, hl1, hl2, hb3⟩
     simp only at hp3 hl1 hl2 hb3
     show AW Tryd.prog C _ _ (St.of 43 [(0, .ptr 0 0), (2, .ptr 2 0), (3, .ptr 3 0)] [(0, rdr zs3 p3), (2, .var [.d (.v (.int .i64 0)), .d (.v (.int .i64 0)), .d (.v (.slice none 0 0))]), (3, .var (partOA (k1 : Int) l3 q3)), (7, ownB q3 bs3)])
     refine AW.via inv (ok 3002) ?_ ?_
     · refine AW.seq ?_
       apply AW.list
       apply Wk.fad 0 0 false fd77_0 rfl (lt_of_ble rfl)
       apply Wk.ld (i := 3) 1 false ty3 rfl rfl (by conv => lhs; whnf) (lt_of_ble rfl)
       apply Wk.bin rfl rfl (fun w => by simp [go_sem] <;> rfl) (lt_of_ble rfl)
       refine Wk.nil ?_
       refine AW.cond rfl (fun hc => ?_) (fun hc => AW.skip (thenA_normal ?_))
       · apply AW.list
         apply Wk.fad 2 0 false fd77_2 rfl (lt_of_ble rfl)
         apply Wk.ld (i := 3) 1 false ty22 rfl rfl (by conv => lhs; whnf) (lt_of_ble rfl)
         apply Wk.leno (i := 7) un22 rfl rfl (lt_of_ble rfl)
         apply Wk.fad 1 0 false fd77_1 rfl (lt_of_ble rfl)
         apply Wk.sto (i := 3) 1 false ty3 rfl rfl rfl rfl (Nat.le_of_ble_eq_true rfl) (lt_of_ble rfl)
         refine Wk.nil (thenA_normal ?_)
         have e5 : (cellsB bs3).length = bs3.length := by simp [cellsB]
         refine ⟨(zs3, p3, ((cellsB bs3).length : Int), q3, bs3), ⟨hp3, by simp only; omega, by simp only; omega, hb3⟩, fin _ _ _ _ _ _ rfl rfl rfl rfl rfl rfl rfl rfl⟩
       · exact ⟨(zs3, p3, l3, q3, bs3), ⟨hp3, hl1, hl2, hb3⟩, fin _ _ _ _ _ _ rfl rfl rfl rfl rfl rfl rfl rfl⟩
     · rintro ⟨zs4, p4, l4, q4, bs4⟩ ⟨hp4, hl3, hl4, hb4⟩
       simp only at hp4 hl3 hl4 hb4
       show AW Tryd.prog C _ _ (St.of 43 [(0, .ptr 0 0), (2, .ptr 2 0), (3, .ptr 3 0)] [(0, rdr zs4 p4), (2, .var [.d (.v (.int .i64 0)), .d (.v (.int .i64 0)), .d (.v (.slice none 0 0))]), (3, .var (partOA (k1 : Int) l4 q4)), (7, ownB q4 bs4)])
       have e5 : (cellsB bs4).length = bs4.length := by simp [cellsB]
       refine AW.via inv (ok 3003) ?_ ?_
       · refine AW.seq ?_
         apply AW.list
         apply Wk.fad 0 0 false fd77_0 rfl (lt_of_ble rfl)
         apply Wk.ld (i := 3) 1 false ty3 rfl rfl (by conv => lhs; whnf) (lt_of_ble rfl)
         apply Wk.bin rfl rfl (fun w => by simp [go_sem] <;> rfl) (lt_of_ble rfl)
         refine Wk.nil ?_
         refine AW.cond rfl (fun hc => ?_) (fun hc => AW.skip (thenA_normal ?_))
         · apply AW.draw (hm := hmix) (cs := _)
           · apply Wk.fad 2 0 false fd77_2 rfl (lt_of_ble rfl)
             apply Wk.ld (i := 3) 1 false ty22 rfl rfl (by conv => lhs; whnf) (lt_of_ble rfl)
             apply Wk.leno (i := 7) un22 rfl rfl (lt_of_ble rfl)
             apply Wk.addi rfl rfl (by omega) (lt_of_ble rfl)
             apply Wk.mv (by conv => lhs; whnf) (lt_of_ble rfl)
             apply Wk.fad 2 0 false fd77_2 rfl (lt_of_ble rfl)
             apply Wk.ld (i := 3) 1 false ty22 rfl rfl (by conv => lhs; whnf) (lt_of_ble rfl)
             apply Wk.leno (i := 7) un22 rfl rfl (lt_of_ble rfl)
             apply Wk.subi rfl rfl (by omega) (lt_of_ble rfl)
             apply Wk.drw 0 pick_ok Tryd.func22 rfl rfl rfl rfl ⟨_, rfl, by omega⟩ (by omega) rfl (lt_of_ble rfl)
             rintro r9 zs9 p9 ⟨k9, rfl, hk9⟩ hp9
             replace hk9 := hk9 _ rfl
             apply Wk.addi rfl rfl (by omega) (lt_of_ble rfl)
             apply Wk.fad 1 0 false fd77_1 rfl (lt_of_ble rfl)
             apply Wk.sto (i := 3) 1 false ty3 rfl rfl rfl rfl (Nat.le_of_ble_eq_true rfl) (lt_of_ble rfl)
             refine Wk.nil (thenA_normal ?_)
             refine ⟨(zs9, p9, ((cellsB bs4).length : Int) + 1 + (k9 : Int), q4, bs4), ⟨by simp only; omega, by simp only; omega, by simp only; omega, hb4⟩, fin _ _ _ _ _ _ rfl rfl rfl rfl rfl rfl rfl rfl⟩
           · rfl
           · rfl
         · exact ⟨(zs4, p4, l4, q4, bs4), ⟨by simp only; omega, hl3, hl4, hb4⟩, fin _ _ _ _ _ _ rfl rfl rfl rfl rfl rfl rfl rfl⟩
       · rintro ⟨zs5, p5, l5, q5, bs5⟩ ⟨hp5, hl5, hl6, hb5⟩
         simp only at hp5 hl5 hl6 hb5
         show AW Tryd.prog C _ _ (St.of 43 [(0, .ptr 0 0), (2, .ptr 2 0), (3, .ptr 3 0)] [(0, rdr zs5 p5), (2, .var [.d (.v (.int .i64 0)), .d (.v (.int .i64 0)), .d (.v (.slice none 0 0))]), (3, .var (partOA (k1 : Int) l5 q5)), (7, ownB q5 bs5)])
         refine AW.seq ?_
         apply AW.list
         apply Wk.ld (i := 3) 3 true ty77 rfl rfl (by conv => lhs; whnf) (lt_of_ble rfl)
         apply Wk.sto (i := 2) 3 true ty77 rfl rfl rfl rfl (Nat.le_of_ble_eq_true rfl) (lt_of_ble rfl)
         refine Wk.nil (AW.ret ?_)
         exact RetQ.ret [(0, rdr zs5 p5), (7, ownB q5 bs5)] (.cons ⟨2, 0, _, _, _, rfl, rfl, ty77, rfl⟩ .nil) ⟨_, _, _, rfl, by omega, (k1 : Int), l5, q5, bs5, rfl, rfl, by omega, by omega, hl5, hl6, hb5⟩ (kept2 rfl rfl)
 · rintro rest rfl; exact ⟨_, _, 0, 0, 0, [], rfl, rfl, by simp⟩
 · rintro rest r ex ⟨sg, ln, q, bs, rfl, rfl, _⟩; exact ⟨rfl, by simp [ownB_in]⟩
end Go.Proofs.YthnlpdjjnfkmeaaDoor

/- A frame, drawn; over what values read as. -/
namespace Go.Proofs.YthnlpdjjnfkmeaaDoor
open Go
/-- A frame, drawn: its bytes a list of the call's own, by the name 7. -/
structure FO where
  zs : List (Fin 256)
  p : Nat
  k : Int
  s : Int
  c : Int
  pl : Bool
  f : Bool
  y : Int
  g : Int
  l : Int
  q : Nat
  bs : List (Fin 256)
def Sm (x : Int) : Prop := -1000 ≤ x ∧ x ≤ 1000
def frmO (k s c : Int) (p f : Bool) (y g l : Int) (a : A) : List A := [.d (.v (.int .i64 k)), .d (.v (.int .i64 s)), .d (.v (.int .i64 c)), .d (.v (.bool p)), .d (.v (.bool f)), .d (.v (.int .i64 y)), .d (.v (.int .i64 g)), .d (.v (.int .i64 l)), a]
def frmZ0 : List A := frmO 0 0 0 false false 0 0 0 (.d (.v (.slice none 0 0)))
def frmA9 (k s c : Int) (p f : Bool) (y g l : Int) (bs : List (Fin 256)) : A := .agg (frmO k s c p f y g l (.d (fbytes bs)))
def frmPost (_ : List A) (r : A) : Prop := ∃ (k s c : Int) (p f : Bool) (y g l : Int) (bs : List (Fin 256)), r = frmA9 k s c p f y g l bs ∧ Sm k ∧ Sm s ∧ Sm c ∧ Sm y ∧ Sm g ∧ Sm l ∧ bs.length ≤ 17
def FO.ok (p m n : Nat) (x : FO) : Prop := x.p ≤ p + m ∧ Sm x.k ∧ Sm x.s ∧ Sm x.c ∧ Sm x.y ∧ Sm x.g ∧ Sm x.l ∧ x.bs.length ≤ n
def FO.inv (n : Int) (x : FO) : St := St.of 136 [(0, .ptr 0 0), (1, .d (.v (.int .i64 n))), (4, .ptr 4 0), (5, .ptr 5 0)] [(0, rdr x.zs x.p), (4, .var frmZ0), (5, .var (frmO x.k x.s x.c x.pl x.f x.y x.g x.l (.own 7 x.q))), (7, ownB x.q x.bs)]
set_option maxHeartbeats 4000000 in
set_option maxRecDepth 100000 in
theorem frame_ok : DrawOk Tryd.prog 20 (fun rest => ∃ n : Int, rest = [.d (.v (.int .i64 n))] ∧ n ≤ 1000000 ∧ -1000000 ≤ n) frmPost 3020 := by
  refine DrawOk.zero ?_ ?_ ?_ ?_
  · rintro zs p rest ⟨n, rfl, hn, hn'⟩ hp
    refine Spec.intro (n := 136) (rv := [.cell 4 24]) Tryd.func20 rfl rfl rfl (by simp) fun C hN hX => ?_
    have fin : ∀ (x : FO) (σ : St), σ.n = 136 → σ.t 0 = .ptr 0 0 → σ.t 1 = .d (.v (.int .i64 n)) → σ.t 4 = .ptr 4 0 → σ.t 5 = .ptr 5 0 → σ.b 0 = rdr x.zs x.p → σ.b 4 = .var frmZ0 → σ.b 5 = .var (frmO x.k x.s x.c x.pl x.f x.y x.g x.l (.own 7 x.q)) → σ.b 7 = ownB x.q x.bs →
        ∀ a w, Rel C σ a w → Rel C (x.inv n) a w := fun x σ h0 h1 h2 h3 h4 h5 h6 h7 h8 a w => Rel.keep ⟨h0.symm, .cons h1 rfl (.cons h2 rfl (.cons h3 rfl (.cons h4 rfl .nil))), .cons h5 rfl (.cons h6 rfl (.cons h7 rfl (.cons h8 ownB_in .nil))), hN.mono (by simp [keys])⟩
    refine AW.seq ?_
    apply AW.list
    apply Wk.alc 4 [.int .i64 0, .int .i64 0, .int .i64 0, .bool false, .bool false, .int .i64 0, .int .i64 0, .int .i64 0, .slice none 0 0] ze24 rfl rfl (lt_of_ble rfl)
    refine Wk.nil ?_
    refine AW.seq ?_
    apply AW.list
    apply Wk.mv (by conv => lhs; whnf) (lt_of_ble rfl)
    apply Wk.drw 0 pick_ok Tryd.func22 rfl rfl rfl rfl ⟨_, rfl, by omega⟩ (by omega) rfl (lt_of_ble rfl)
    rintro r1 zs1 p1 ⟨k1, rfl, hk1⟩ hp1
    replace hk1 := hk1 _ rfl
    apply Wk.addi rfl rfl (by omega) (lt_of_ble rfl)
    apply Wk.bld [.int .i64 0, .int .i64 0, .int .i64 0, .bool false, .bool false, .int .i64 0, .int .i64 0, .int .i64 0, .slice none 0 0] [(0, 1), (1, 1), (2, 1), (3, 1), (4, 1), (5, 1), (6, 1), (7, 1), (8, 1)] bl24 rfl (by conv => lhs; whnf) (lt_of_ble rfl)
    apply Wk.alc 5 [.int .i64 0, .int .i64 0, .int .i64 0, .bool false, .bool false, .int .i64 0, .int .i64 0, .int .i64 0, .slice none 0 0] ze24 rfl rfl (lt_of_ble rfl)
    apply Wk.sto (i := 5) 9 true ty24 rfl rfl rfl rfl (Nat.le_of_ble_eq_true rfl) (lt_of_ble rfl)
    refine Wk.nil ?_
    have hk1' : k1 < 4 := by omega
    refine AW.via (FO.inv n) (FO.ok p 3010 8) ?_ ?_
    · refine AW.seq ?_
      apply AW.list
      apply Wk.fad 0 0 false fd24_0 rfl (lt_of_ble rfl)
      apply Wk.ld (i := 5) 1 false ty3 rfl rfl (by conv => lhs; whnf) (lt_of_ble rfl)
      refine Wk.nil (AW.block ?_)
      refine AW.seq ?_
      apply AW.list
      apply Wk.bin rfl rfl (fun w => by simp [go_sem] <;> rfl) (lt_of_ble rfl)
      apply Wk.asg (by conv => lhs; whnf) (lt_of_ble rfl)
      refine Wk.nil ?_
      refine AW.cond rfl (fun hc => ?_) (fun hc => ?_)
      · refine AW.seq ?_
        apply AW.list
        apply Wk.mv (by conv => lhs; whnf) (lt_of_ble rfl)
        apply Wk.drx [7] partO_ok Tryd.func47 rfl rfl rfl rfl rfl (by omega) rfl (by simp; rfl) (lt_of_ble rfl)
        rintro r2 zs2 p2 ex ⟨sg, ln, q, bs, rfl, rfl, hs1, hs2, hl1, hl2, hbl⟩ hp2
        apply Wk.alc 6 [.int .i64 0, .int .i64 0, .slice none 0 0] ze77 rfl rfl (lt_of_ble rfl)
        apply Wk.sto (i := 6) 3 true ty77 rfl rfl rfl rfl (Nat.le_of_ble_eq_true rfl) (lt_of_ble rfl)
        refine Wk.nil ?_
        apply AW.draw (hm := hmix) (cs := _)
        · apply Wk.mv (by conv => lhs; whnf) (lt_of_ble rfl)
          apply Wk.drw 0 pick_ok Tryd.func22 rfl rfl rfl rfl ⟨_, rfl, by omega⟩ (by omega) rfl (lt_of_ble rfl)
          rintro r3 zs3 p3 ⟨k3, rfl, hk3⟩ hp3
          replace hk3 := hk3 _ rfl
          apply Wk.mv (by conv => lhs; whnf) (lt_of_ble rfl)
          apply Wk.drw 0 pick_ok Tryd.func22 rfl rfl rfl rfl ⟨_, rfl, by omega⟩ (by omega) rfl (lt_of_ble rfl)
          rintro r4 zs4 p4 ⟨k4, rfl, hk4⟩ hp4
          replace hk4 := hk4 _ rfl
          apply Wk.mv (by conv => lhs; whnf) (lt_of_ble rfl)
          apply Wk.drw 0 pick_ok Tryd.func22 rfl rfl rfl rfl ⟨_, rfl, by omega⟩ (by omega) rfl (lt_of_ble rfl)
          rintro r5 zs5 p5 ⟨k5, rfl, hk5⟩ hp5
          apply Wk.bin rfl rfl (fun w => by simp [go_sem] <;> rfl) (lt_of_ble rfl)
          apply Wk.fad 0 0 false fd77_0 rfl (lt_of_ble rfl)
          apply Wk.ld (i := 6) 1 false ty3 rfl rfl (by conv => lhs; whnf) (lt_of_ble rfl)
          apply Wk.fad 1 0 false fd77_1 rfl (lt_of_ble rfl)
          apply Wk.ld (i := 6) 1 false ty3 rfl rfl (by conv => lhs; whnf) (lt_of_ble rfl)
          apply Wk.fad 2 0 false fd77_2 rfl (lt_of_ble rfl)
          apply Wk.ld (i := 6) 1 false ty22 rfl rfl (by conv => lhs; whnf) (lt_of_ble rfl)
          apply Wk.bld [.int .i64 0, .int .i64 0, .int .i64 0, .bool false, .bool false, .int .i64 0, .int .i64 0, .int .i64 0, .slice none 0 0] [(0, 1), (1, 1), (2, 1), (3, 1), (4, 1), (5, 1), (6, 1), (7, 1), (8, 1)] bl24 rfl (by conv => lhs; whnf) (lt_of_ble rfl)
          apply Wk.sto (i := 5) 9 true ty24 rfl rfl rfl rfl (Nat.le_of_ble_eq_true rfl) (lt_of_ble rfl)
          refine Wk.nil (inBlockA_normal (thenA_normal ?_))
          exact ⟨⟨zs5, p5, 1, (k3 : Int), (k4 : Int), false, ((k5 : Int) == 0), 0, sg, ln, q, bs⟩, ⟨by simp only; omega, ⟨by simp only; omega, by simp only; omega⟩, ⟨by simp only; omega, by simp only; omega⟩, ⟨by simp only; omega, by simp only; omega⟩, ⟨by simp only; omega, by simp only; omega⟩, ⟨by simp only; omega, by simp only; omega⟩, ⟨by simp only; omega, by simp only; omega⟩, by simp only; omega⟩, fin _ _ rfl rfl rfl rfl rfl rfl rfl rfl rfl⟩
        · rfl
        · rfl
      · refine AW.seq ?_
        apply AW.list
        apply Wk.bin rfl rfl (fun w => by simp [go_sem] <;> rfl) (lt_of_ble rfl)
        apply Wk.asg (by conv => lhs; whnf) (lt_of_ble rfl)
        refine Wk.nil ?_
        refine AW.cond rfl (fun hc => ?_) (fun hc => ?_)
        · refine AW.seq ?_
          apply AW.list
          apply Wk.mv (by conv => lhs; whnf) (lt_of_ble rfl)
          apply Wk.drw 0 pick_ok Tryd.func22 rfl rfl rfl rfl ⟨_, rfl, by omega⟩ (by omega) rfl (lt_of_ble rfl)
          rintro r2 zs2 p2 ⟨k2, rfl, hk2⟩ hp2
          replace hk2 := hk2 _ rfl
          apply Wk.fad 2 0 false fd24_2 rfl (lt_of_ble rfl)
          apply Wk.sto (i := 5) 1 false ty3 rfl rfl rfl rfl (Nat.le_of_ble_eq_true rfl) (lt_of_ble rfl)
          refine Wk.nil ?_
          refine AW.seq ?_
          apply AW.list
          apply Wk.mv (by conv => lhs; whnf) (lt_of_ble rfl)
          apply Wk.drw 0 pick_ok Tryd.func22 rfl rfl rfl rfl ⟨_, rfl, by omega⟩ (by omega) rfl (lt_of_ble rfl)
          rintro r3 zs3 p3 ⟨k3, rfl, hk3⟩ hp3
          apply Wk.bin rfl rfl (fun w => by simp [go_sem] <;> rfl) (lt_of_ble rfl)
          apply Wk.fad 3 0 false fd24_3 rfl (lt_of_ble rfl)
          apply Wk.sto (i := 5) 1 false ty4 rfl rfl rfl rfl (Nat.le_of_ble_eq_true rfl) (lt_of_ble rfl)
          refine Wk.nil ?_
          refine AW.seq ?_
          cases hpl : ((k3 : Int) == 0)
          · apply AW.list
            apply Wk.fad 3 0 false fd24_3 rfl (lt_of_ble rfl)
            apply Wk.ld (i := 5) 1 false ty4 rfl rfl (by conv => lhs; whnf) (lt_of_ble rfl)
            apply Wk.un rfl (r := .bool true) (fun w => by simp [go_sem]) (lt_of_ble rfl)
            apply Wk.mv (by conv => lhs; whnf) (lt_of_ble rfl)
            apply Wk.gon 53 rfl rfl
            apply Wk.mv (by conv => lhs; whnf) (lt_of_ble rfl)
            apply Wk.gon 53 rfl rfl
            apply Wk.drw 0 pick_ok Tryd.func22 rfl rfl rfl rfl ⟨_, rfl, by omega⟩ (by omega) rfl (lt_of_ble rfl)
            rintro r4 zs4 p4 ⟨k4, rfl, hk4⟩ hp4
            apply Wk.gon 53 rfl rfl
            apply Wk.bin rfl rfl (fun w => by simp [go_sem] <;> rfl) (lt_of_ble rfl)
            apply Wk.pckT rfl (by conv => lhs; whnf) (lt_of_ble rfl)
            apply Wk.fad 4 0 false fd24_4 rfl (lt_of_ble rfl)
            apply Wk.sto (i := 5) 1 false ty4 rfl rfl rfl rfl (Nat.le_of_ble_eq_true rfl) (lt_of_ble rfl)
            refine Wk.nil ?_
            apply AW.list
            apply Wk.mv (by conv => lhs; whnf) (lt_of_ble rfl)
            apply Wk.drw 0 pick_ok Tryd.func22 rfl rfl rfl rfl ⟨_, rfl, by omega⟩ (by omega) rfl (lt_of_ble rfl)
            rintro r5 zs5 p5 ⟨k5, rfl, hk5⟩ hp5
            replace hk5 := hk5 _ rfl
            apply Wk.fad 5 0 false fd24_5 rfl (lt_of_ble rfl)
            apply Wk.sto (i := 5) 1 false ty3 rfl rfl rfl rfl (Nat.le_of_ble_eq_true rfl) (lt_of_ble rfl)
            refine Wk.nil (inBlockA_normal (thenA_normal ?_))
            exact ⟨⟨zs5, p5, 1 + (k1 : Int), 0, (k2 : Int), false, ((k4 : Int) == 0), (k5 : Int), 0, 0, 0, []⟩, ⟨by simp only; omega, ⟨by simp only; omega, by simp only; omega⟩, ⟨by simp only; omega, by simp only; omega⟩, ⟨by simp only; omega, by simp only; omega⟩, ⟨by simp only; omega, by simp only; omega⟩, ⟨by simp only; omega, by simp only; omega⟩, ⟨by simp only; omega, by simp only; omega⟩, by simp⟩, (fun a w hR => fin _ _ rfl rfl rfl rfl rfl rfl rfl rfl rfl a w (Rel.nilc (j := 5) (c := 8) (i' := 7) 5 1 rfl rfl rfl hR))⟩
          · apply AW.list
            apply Wk.fad 3 0 false fd24_3 rfl (lt_of_ble rfl)
            apply Wk.ld (i := 5) 1 false ty4 rfl rfl (by conv => lhs; whnf) (lt_of_ble rfl)
            apply Wk.un rfl (r := .bool false) (fun w => by simp [go_sem]) (lt_of_ble rfl)
            apply Wk.mv (by conv => lhs; whnf) (lt_of_ble rfl)
            apply Wk.goff 53 (ok_move _) rfl rfl (by decide)
            apply Wk.goff 53 (ok_drw 0 pick_ok Tryd.func22 rfl rfl) rfl rfl (by decide)
            apply Wk.goff 53 (ok_bin _ _ _ _ _) rfl rfl (by decide)
            apply Wk.pckF rfl (by conv => lhs; whnf) (lt_of_ble rfl)
            apply Wk.fad 4 0 false fd24_4 rfl (lt_of_ble rfl)
            apply Wk.sto (i := 5) 1 false ty4 rfl rfl rfl rfl (Nat.le_of_ble_eq_true rfl) (lt_of_ble rfl)
            refine Wk.nil ?_
            apply AW.list
            apply Wk.mv (by conv => lhs; whnf) (lt_of_ble rfl)
            apply Wk.drw 0 pick_ok Tryd.func22 rfl rfl rfl rfl ⟨_, rfl, by omega⟩ (by omega) rfl (lt_of_ble rfl)
            rintro r5 zs5 p5 ⟨k5, rfl, hk5⟩ hp5
            replace hk5 := hk5 _ rfl
            apply Wk.fad 5 0 false fd24_5 rfl (lt_of_ble rfl)
            apply Wk.sto (i := 5) 1 false ty3 rfl rfl rfl rfl (Nat.le_of_ble_eq_true rfl) (lt_of_ble rfl)
            refine Wk.nil (inBlockA_normal (thenA_normal ?_))
            exact ⟨⟨zs5, p5, 1 + (k1 : Int), 0, (k2 : Int), true, false, (k5 : Int), 0, 0, 0, []⟩, ⟨by simp only; omega, ⟨by simp only; omega, by simp only; omega⟩, ⟨by simp only; omega, by simp only; omega⟩, ⟨by simp only; omega, by simp only; omega⟩, ⟨by simp only; omega, by simp only; omega⟩, ⟨by simp only; omega, by simp only; omega⟩, ⟨by simp only; omega, by simp only; omega⟩, by simp⟩, (fun a w hR => fin _ _ rfl rfl rfl rfl rfl rfl rfl rfl rfl a w (Rel.nilc (j := 5) (c := 8) (i' := 7) 5 1 rfl rfl rfl hR))⟩
        · refine AW.seq ?_
          apply AW.list
          apply Wk.bin rfl rfl (fun w => by simp [go_sem] <;> rfl) (lt_of_ble rfl)
          apply Wk.asg (by conv => lhs; whnf) (lt_of_ble rfl)
          refine Wk.nil ?_
          refine AW.cond rfl (fun hc => ?_) (fun hc => ?_)
          · refine AW.seq ?_
            apply AW.list
            apply Wk.mv (by conv => lhs; whnf) (lt_of_ble rfl)
            apply Wk.drx [7] partO_ok Tryd.func47 rfl rfl rfl rfl rfl (by omega) rfl (by simp; rfl) (lt_of_ble rfl)
            rintro r2 zs2 p2 ex ⟨sg, ln, q, bs, rfl, rfl, hs1, hs2, hl1, hl2, hbl⟩ hp2
            apply Wk.alc 70 [.int .i64 0, .int .i64 0, .slice none 0 0] ze77 rfl rfl (lt_of_ble rfl)
            apply Wk.sto (i := 70) 3 true ty77 rfl rfl rfl rfl (Nat.le_of_ble_eq_true rfl) (lt_of_ble rfl)
            refine Wk.nil ?_
            apply AW.list
            apply Wk.fad 0 0 false fd77_0 rfl (lt_of_ble rfl)
            apply Wk.ld (i := 70) 1 false ty3 rfl rfl (by conv => lhs; whnf) (lt_of_ble rfl)
            apply Wk.fad 1 0 false fd77_1 rfl (lt_of_ble rfl)
            apply Wk.ld (i := 70) 1 false ty3 rfl rfl (by conv => lhs; whnf) (lt_of_ble rfl)
            apply Wk.fad 2 0 false fd77_2 rfl (lt_of_ble rfl)
            apply Wk.ld (i := 70) 1 false ty22 rfl rfl (by conv => lhs; whnf) (lt_of_ble rfl)
            apply Wk.bld [.int .i64 0, .int .i64 0, .int .i64 0, .bool false, .bool false, .int .i64 0, .int .i64 0, .int .i64 0, .slice none 0 0] [(0, 1), (1, 1), (2, 1), (3, 1), (4, 1), (5, 1), (6, 1), (7, 1), (8, 1)] bl24 rfl (by conv => lhs; whnf) (lt_of_ble rfl)
            apply Wk.sto (i := 5) 9 true ty24 rfl rfl rfl rfl (Nat.le_of_ble_eq_true rfl) (lt_of_ble rfl)
            refine Wk.nil (inBlockA_normal (thenA_normal ?_))
            exact ⟨⟨zs2, p2, 3, 0, 0, false, false, 0, sg, ln, q, bs⟩, ⟨by simp only; omega, ⟨by simp only; omega, by simp only; omega⟩, ⟨by simp only; omega, by simp only; omega⟩, ⟨by simp only; omega, by simp only; omega⟩, ⟨by simp only; omega, by simp only; omega⟩, ⟨by simp only; omega, by simp only; omega⟩, ⟨by simp only; omega, by simp only; omega⟩, by simp only; omega⟩, fin _ _ rfl rfl rfl rfl rfl rfl rfl rfl rfl⟩
          · apply AW.list
            apply Wk.mv (by conv => lhs; whnf) (lt_of_ble rfl)
            apply Wk.drw 0 pick_ok Tryd.func22 rfl rfl rfl rfl ⟨_, rfl, by omega⟩ (by omega) rfl (lt_of_ble rfl)
            rintro r2 zs2 p2 ⟨k2, rfl, hk2⟩ hp2
            replace hk2 := hk2 _ rfl
            apply Wk.addi rfl rfl (by omega) (lt_of_ble rfl)
            apply Wk.lst 17 1 false [.int .i64 0] un80 ty3 ze3 rfl rfl (by rfl) (by rfl) (by decide) (by decide) rfl rfl (all_len rfl) (lt_of_ble rfl)
            apply Wk.mv (by conv => lhs; whnf) (lt_of_ble rfl)
            apply Wk.drw 0 pick_ok Tryd.func22 rfl rfl rfl rfl ⟨_, rfl, by omega⟩ (by omega) rfl (lt_of_ble rfl)
            rintro r3 zs3 p3 ⟨k3, rfl, hk3⟩ hp3
            have hk3' : k3 < 2 := by have := hk3 2 rfl; omega
            obtain ⟨v, hv, hv1, hv2⟩ : ∃ v : Int, partA (List.flatten [[A.d (.v (.int .i64 (1 + (k2 : Int))))], [.d (.v (.int .i64 255))]]) (k3 * 1) 1 false = some (.d (.v (.int .i64 v))) ∧ -1000 ≤ v ∧ v ≤ 1000 := by
              rcases (show k3 = 0 ∨ k3 = 1 by omega) with rfl | rfl
              · exact ⟨_, rfl, by omega, by omega⟩
              · exact ⟨_, rfl, by omega, by omega⟩
            apply Wk.iado 17 1 false un80 ty3 rfl rfl rfl hk3' (lt_of_ble rfl)
            apply Wk.ldo (i := 17) 1 false ty3 rfl rfl hv (lt_of_ble rfl)
            apply Wk.fad 7 0 false fd24_7 rfl (lt_of_ble rfl)
            apply Wk.sto (i := 5) 1 false ty3 rfl rfl rfl rfl (Nat.le_of_ble_eq_true rfl) (lt_of_ble rfl)
            refine Wk.nil (inBlockA_normal (thenA_normal ?_))
            exact ⟨⟨zs3, p3, 1 + (k1 : Int), 0, 0, false, false, 0, 0, v, 0, []⟩, ⟨by simp only; omega, ⟨by simp only; omega, by simp only; omega⟩, ⟨by simp only; omega, by simp only; omega⟩, ⟨by simp only; omega, by simp only; omega⟩, ⟨by simp only; omega, by simp only; omega⟩, ⟨by simp only; omega, by simp only; omega⟩, ⟨by simp only; omega, by simp only; omega⟩, by simp⟩, (fun a w hR => fin _ _ rfl rfl rfl rfl rfl rfl rfl rfl rfl a w (Rel.nilc (j := 5) (c := 8) (i' := 7) 5 1 rfl rfl rfl hR))⟩
    · rintro ⟨zs6, p6, k, s, c, pl, f, y, g, l, q, bs⟩ ⟨hp6, ⟨a1, a2⟩, ⟨a3, a4⟩, ⟨a5, a6⟩, ⟨a7, a8⟩, ⟨a9, a10⟩, ⟨a11, a12⟩, hb6⟩
      simp only at hp6 a1 a2 a3 a4 a5 a6 a7 a8 a9 a10 a11 a12 hb6
      show AW Tryd.prog C _ _ (St.of 136 [(0, .ptr 0 0), (1, .d (.v (.int .i64 n))), (4, .ptr 4 0), (5, .ptr 5 0)] [(0, rdr zs6 p6), (4, .var frmZ0), (5, .var (frmO k s c pl f y g l (.own 7 q))), (7, ownB q bs)])
      refine AW.via (FO.inv n) (FO.ok p 3020 17) ?_ ?_
      · refine AW.seq ?_
        apply AW.list
        apply Wk.mv (by conv => lhs; whnf) (lt_of_ble rfl)
        apply Wk.mv (by conv => lhs; whnf) (lt_of_ble rfl)
        apply Wk.drw 0 odd_ok Tryd.func48 rfl rfl rfl rfl ⟨_, rfl, by omega⟩ (by omega) rfl (lt_of_ble rfl)
        rintro r7 zs7 p7 ⟨b7, rfl, _⟩ hp7
        refine Wk.nil ?_
        refine AW.cond rfl (fun hc => ?_) (fun hc => AW.skip (thenA_normal ?_))
        · refine AW.seq ?_
          apply AW.list
          apply Wk.mv (by conv => lhs; whnf) (lt_of_ble rfl)
          apply Wk.drw 0 pick_ok Tryd.func22 rfl rfl rfl rfl ⟨_, rfl, by omega⟩ (by omega) rfl (lt_of_ble rfl)
          rintro r8 zs8 p8 ⟨k8, rfl, hk8⟩ hp8
          refine Wk.nil (AW.block ?_)
          refine AW.seq ?_
          apply AW.list
          apply Wk.bin rfl rfl (fun w => by simp [go_sem] <;> rfl) (lt_of_ble rfl)
          apply Wk.asg (by conv => lhs; whnf) (lt_of_ble rfl)
          refine Wk.nil ?_
          refine AW.cond rfl (fun hc => ?_) (fun hc => ?_)
          · apply AW.list
            apply Wk.lst 86 1 false [.int .i64 0] un80 ty3 ze3 rfl rfl (by rfl) (by rfl) (by decide) (by decide) rfl rfl (all_len rfl) (lt_of_ble rfl)
            apply Wk.mv (by conv => lhs; whnf) (lt_of_ble rfl)
            apply Wk.drw 0 pick_ok Tryd.func22 rfl rfl rfl rfl ⟨_, rfl, by omega⟩ (by omega) rfl (lt_of_ble rfl)
            rintro r9 zs9 p9 ⟨k9, rfl, hk9⟩ hp9
            have hk9' : k9 < 2 := by have := hk9 2 rfl; omega
            obtain ⟨v, hv, hv1, hv2⟩ : ∃ v : Int, partA (List.flatten [[A.d (.v (.int .i64 0))], [.d (.v (.int .i64 5))]]) (k9 * 1) 1 false = some (.d (.v (.int .i64 v))) ∧ -1000 ≤ v ∧ v ≤ 1000 := by
              rcases (show k9 = 0 ∨ k9 = 1 by omega) with rfl | rfl
              · exact ⟨_, rfl, by omega, by omega⟩
              · exact ⟨_, rfl, by omega, by omega⟩
            apply Wk.iado 86 1 false un80 ty3 rfl rfl rfl hk9' (lt_of_ble rfl)
            apply Wk.ldo (i := 86) 1 false ty3 rfl rfl hv (lt_of_ble rfl)
            apply Wk.fad 0 0 false fd24_0 rfl (lt_of_ble rfl)
            apply Wk.sto (i := 5) 1 false ty3 rfl rfl rfl rfl (Nat.le_of_ble_eq_true rfl) (lt_of_ble rfl)
            refine Wk.nil (inBlockA_normal (thenA_normal ?_))
            exact ⟨⟨zs9, p9, v, s, c, pl, f, y, g, l, q, bs⟩, ⟨by simp only; omega, ⟨by simp only; omega, by simp only; omega⟩, ⟨by simp only; omega, by simp only; omega⟩, ⟨by simp only; omega, by simp only; omega⟩, ⟨by simp only; omega, by simp only; omega⟩, ⟨by simp only; omega, by simp only; omega⟩, ⟨by simp only; omega, by simp only; omega⟩, by simp only; omega⟩, fin _ _ rfl rfl rfl rfl rfl rfl rfl rfl rfl⟩
          · refine AW.seq ?_
            apply AW.list
            apply Wk.bin rfl rfl (fun w => by simp [go_sem] <;> rfl) (lt_of_ble rfl)
            apply Wk.asg (by conv => lhs; whnf) (lt_of_ble rfl)
            refine Wk.nil ?_
            refine AW.cond rfl (fun hc => ?_) (fun hc => ?_)
            · apply AW.list
              apply Wk.lst 94 1 false [.int .i64 0] un80 ty3 ze3 rfl rfl (by rfl) (by rfl) (by decide) (by decide) rfl rfl (all_len rfl) (lt_of_ble rfl)
              apply Wk.mv (by conv => lhs; whnf) (lt_of_ble rfl)
              apply Wk.drw 0 pick_ok Tryd.func22 rfl rfl rfl rfl ⟨_, rfl, by omega⟩ (by omega) rfl (lt_of_ble rfl)
              rintro r9 zs9 p9 ⟨k9, rfl, hk9⟩ hp9
              have hk9' : k9 < 3 := by have := hk9 3 rfl; omega
              obtain ⟨v, hv, hv1, hv2⟩ : ∃ v : Int, partA (List.flatten [[A.d (.v (.int .i64 (-1)))], [.d (.v (.int .i64 8))], [.d (.v (.int .i64 1))]]) (k9 * 1) 1 false = some (.d (.v (.int .i64 v))) ∧ -1000 ≤ v ∧ v ≤ 1000 := by
                rcases (show k9 = 0 ∨ k9 = 1 ∨ k9 = 2 by omega) with rfl | rfl | rfl
                · exact ⟨_, rfl, by omega, by omega⟩
                · exact ⟨_, rfl, by omega, by omega⟩
                · exact ⟨_, rfl, by omega, by omega⟩
              apply Wk.iado 94 1 false un80 ty3 rfl rfl rfl hk9' (lt_of_ble rfl)
              apply Wk.ldo (i := 94) 1 false ty3 rfl rfl hv (lt_of_ble rfl)
              apply Wk.fad 1 0 false fd24_1 rfl (lt_of_ble rfl)
              apply Wk.sto (i := 5) 1 false ty3 rfl rfl rfl rfl (Nat.le_of_ble_eq_true rfl) (lt_of_ble rfl)
              refine Wk.nil (inBlockA_normal (thenA_normal ?_))
              exact ⟨⟨zs9, p9, k, v, c, pl, f, y, g, l, q, bs⟩, ⟨by simp only; omega, ⟨by simp only; omega, by simp only; omega⟩, ⟨by simp only; omega, by simp only; omega⟩, ⟨by simp only; omega, by simp only; omega⟩, ⟨by simp only; omega, by simp only; omega⟩, ⟨by simp only; omega, by simp only; omega⟩, ⟨by simp only; omega, by simp only; omega⟩, by simp only; omega⟩, fin _ _ rfl rfl rfl rfl rfl rfl rfl rfl rfl⟩
            · refine AW.seq ?_
              apply AW.list
              apply Wk.bin rfl rfl (fun w => by simp [go_sem] <;> rfl) (lt_of_ble rfl)
              apply Wk.asg (by conv => lhs; whnf) (lt_of_ble rfl)
              refine Wk.nil ?_
              refine AW.cond rfl (fun hc => ?_) (fun hc => ?_)
              · apply AW.list
                apply Wk.lst 102 1 false [.int .i64 0] un80 ty3 ze3 rfl rfl (by rfl) (by rfl) (by decide) (by decide) rfl rfl (all_len rfl) (lt_of_ble rfl)
                apply Wk.mv (by conv => lhs; whnf) (lt_of_ble rfl)
                apply Wk.drw 0 pick_ok Tryd.func22 rfl rfl rfl rfl ⟨_, rfl, by omega⟩ (by omega) rfl (lt_of_ble rfl)
                rintro r9 zs9 p9 ⟨k9, rfl, hk9⟩ hp9
                have hk9' : k9 < 3 := by have := hk9 3 rfl; omega
                obtain ⟨v, hv, hv1, hv2⟩ : ∃ v : Int, partA (List.flatten [[A.d (.v (.int .i64 (-1)))], [.d (.v (.int .i64 8))], [.d (.v (.int .i64 1))]]) (k9 * 1) 1 false = some (.d (.v (.int .i64 v))) ∧ -1000 ≤ v ∧ v ≤ 1000 := by
                  rcases (show k9 = 0 ∨ k9 = 1 ∨ k9 = 2 by omega) with rfl | rfl | rfl
                  · exact ⟨_, rfl, by omega, by omega⟩
                  · exact ⟨_, rfl, by omega, by omega⟩
                  · exact ⟨_, rfl, by omega, by omega⟩
                apply Wk.iado 102 1 false un80 ty3 rfl rfl rfl hk9' (lt_of_ble rfl)
                apply Wk.ldo (i := 102) 1 false ty3 rfl rfl hv (lt_of_ble rfl)
                apply Wk.fad 2 0 false fd24_2 rfl (lt_of_ble rfl)
                apply Wk.sto (i := 5) 1 false ty3 rfl rfl rfl rfl (Nat.le_of_ble_eq_true rfl) (lt_of_ble rfl)
                refine Wk.nil (inBlockA_normal (thenA_normal ?_))
                exact ⟨⟨zs9, p9, k, s, v, pl, f, y, g, l, q, bs⟩, ⟨by simp only; omega, ⟨by simp only; omega, by simp only; omega⟩, ⟨by simp only; omega, by simp only; omega⟩, ⟨by simp only; omega, by simp only; omega⟩, ⟨by simp only; omega, by simp only; omega⟩, ⟨by simp only; omega, by simp only; omega⟩, ⟨by simp only; omega, by simp only; omega⟩, by simp only; omega⟩, fin _ _ rfl rfl rfl rfl rfl rfl rfl rfl rfl⟩
              · refine AW.seq ?_
                apply AW.list
                apply Wk.bin rfl rfl (fun w => by simp [go_sem] <;> rfl) (lt_of_ble rfl)
                apply Wk.asg (by conv => lhs; whnf) (lt_of_ble rfl)
                refine Wk.nil ?_
                refine AW.cond rfl (fun hc => ?_) (fun hc => ?_)
                · refine AW.seq ?_
                  apply AW.list
                  apply Wk.fad 3 0 false fd24_3 rfl (lt_of_ble rfl)
                  apply Wk.sto (i := 5) 1 false ty4 rfl rfl rfl rfl (Nat.le_of_ble_eq_true rfl) (lt_of_ble rfl)
                  refine Wk.nil ?_
                  apply AW.list
                  apply Wk.fad 4 0 false fd24_4 rfl (lt_of_ble rfl)
                  apply Wk.sto (i := 5) 1 false ty4 rfl rfl rfl rfl (Nat.le_of_ble_eq_true rfl) (lt_of_ble rfl)
                  refine Wk.nil (inBlockA_normal (thenA_normal ?_))
                  exact ⟨⟨zs8, p8, k, s, c, true, true, y, g, l, q, bs⟩, ⟨by simp only; omega, ⟨by simp only; omega, by simp only; omega⟩, ⟨by simp only; omega, by simp only; omega⟩, ⟨by simp only; omega, by simp only; omega⟩, ⟨by simp only; omega, by simp only; omega⟩, ⟨by simp only; omega, by simp only; omega⟩, ⟨by simp only; omega, by simp only; omega⟩, by simp only; omega⟩, fin _ _ rfl rfl rfl rfl rfl rfl rfl rfl rfl⟩
                · refine AW.seq ?_
                  apply AW.list
                  apply Wk.bin rfl rfl (fun w => by simp [go_sem] <;> rfl) (lt_of_ble rfl)
                  apply Wk.asg (by conv => lhs; whnf) (lt_of_ble rfl)
                  refine Wk.nil ?_
                  refine AW.cond rfl (fun hc => ?_) (fun hc => ?_)
                  · apply AW.list
                    apply Wk.lst 114 1 false [.int .i64 0] un80 ty3 ze3 rfl rfl (by rfl) (by rfl) (by decide) (by decide) rfl rfl (all_len rfl) (lt_of_ble rfl)
                    apply Wk.mv (by conv => lhs; whnf) (lt_of_ble rfl)
                    apply Wk.drw 0 pick_ok Tryd.func22 rfl rfl rfl rfl ⟨_, rfl, by omega⟩ (by omega) rfl (lt_of_ble rfl)
                    rintro r9 zs9 p9 ⟨k9, rfl, hk9⟩ hp9
                    have hk9' : k9 < 3 := by have := hk9 3 rfl; omega
                    obtain ⟨v, hv, hv1, hv2⟩ : ∃ v : Int, partA (List.flatten [[A.d (.v (.int .i64 (-1)))], [.d (.v (.int .i64 3))], [.d (.v (.int .i64 1))]]) (k9 * 1) 1 false = some (.d (.v (.int .i64 v))) ∧ -1000 ≤ v ∧ v ≤ 1000 := by
                      rcases (show k9 = 0 ∨ k9 = 1 ∨ k9 = 2 by omega) with rfl | rfl | rfl
                      · exact ⟨_, rfl, by omega, by omega⟩
                      · exact ⟨_, rfl, by omega, by omega⟩
                      · exact ⟨_, rfl, by omega, by omega⟩
                    apply Wk.iado 114 1 false un80 ty3 rfl rfl rfl hk9' (lt_of_ble rfl)
                    apply Wk.ldo (i := 114) 1 false ty3 rfl rfl hv (lt_of_ble rfl)
                    apply Wk.fad 5 0 false fd24_5 rfl (lt_of_ble rfl)
                    apply Wk.sto (i := 5) 1 false ty3 rfl rfl rfl rfl (Nat.le_of_ble_eq_true rfl) (lt_of_ble rfl)
                    refine Wk.nil (inBlockA_normal (thenA_normal ?_))
                    exact ⟨⟨zs9, p9, k, s, c, pl, f, v, g, l, q, bs⟩, ⟨by simp only; omega, ⟨by simp only; omega, by simp only; omega⟩, ⟨by simp only; omega, by simp only; omega⟩, ⟨by simp only; omega, by simp only; omega⟩, ⟨by simp only; omega, by simp only; omega⟩, ⟨by simp only; omega, by simp only; omega⟩, ⟨by simp only; omega, by simp only; omega⟩, by simp only; omega⟩, fin _ _ rfl rfl rfl rfl rfl rfl rfl rfl rfl⟩
                  · refine AW.seq ?_
                    apply AW.list
                    apply Wk.bin rfl rfl (fun w => by simp [go_sem] <;> rfl) (lt_of_ble rfl)
                    apply Wk.asg (by conv => lhs; whnf) (lt_of_ble rfl)
                    refine Wk.nil ?_
                    refine AW.cond rfl (fun hc => ?_) (fun hc => ?_)
                    · apply AW.list
                      apply Wk.lst 122 1 false [.int .i64 0] un80 ty3 ze3 rfl rfl (by rfl) (by rfl) (by decide) (by decide) rfl rfl (all_len rfl) (lt_of_ble rfl)
                      apply Wk.mv (by conv => lhs; whnf) (lt_of_ble rfl)
                      apply Wk.drw 0 pick_ok Tryd.func22 rfl rfl rfl rfl ⟨_, rfl, by omega⟩ (by omega) rfl (lt_of_ble rfl)
                      rintro r9 zs9 p9 ⟨k9, rfl, hk9⟩ hp9
                      have hk9' : k9 < 4 := by have := hk9 4 rfl; omega
                      obtain ⟨v, hv, hv1, hv2⟩ : ∃ v : Int, partA (List.flatten [[A.d (.v (.int .i64 (-1)))], [.d (.v (.int .i64 0))], [.d (.v (.int .i64 256))], [.d (.v (.int .i64 30))]]) (k9 * 1) 1 false = some (.d (.v (.int .i64 v))) ∧ -1000 ≤ v ∧ v ≤ 1000 := by
                        rcases (show k9 = 0 ∨ k9 = 1 ∨ k9 = 2 ∨ k9 = 3 by omega) with rfl | rfl | rfl | rfl
                        · exact ⟨_, rfl, by omega, by omega⟩
                        · exact ⟨_, rfl, by omega, by omega⟩
                        · exact ⟨_, rfl, by omega, by omega⟩
                        · exact ⟨_, rfl, by omega, by omega⟩
                      apply Wk.iado 122 1 false un80 ty3 rfl rfl rfl hk9' (lt_of_ble rfl)
                      apply Wk.ldo (i := 122) 1 false ty3 rfl rfl hv (lt_of_ble rfl)
                      apply Wk.fad 7 0 false fd24_7 rfl (lt_of_ble rfl)
                      apply Wk.sto (i := 5) 1 false ty3 rfl rfl rfl rfl (Nat.le_of_ble_eq_true rfl) (lt_of_ble rfl)
                      refine Wk.nil (inBlockA_normal (thenA_normal ?_))
                      exact ⟨⟨zs9, p9, k, s, c, pl, f, y, g, v, q, bs⟩, ⟨by simp only; omega, ⟨by simp only; omega, by simp only; omega⟩, ⟨by simp only; omega, by simp only; omega⟩, ⟨by simp only; omega, by simp only; omega⟩, ⟨by simp only; omega, by simp only; omega⟩, ⟨by simp only; omega, by simp only; omega⟩, ⟨by simp only; omega, by simp only; omega⟩, by simp only; omega⟩, fin _ _ rfl rfl rfl rfl rfl rfl rfl rfl rfl⟩
                    · refine AW.seq ?_
                      apply AW.list
                      apply Wk.bin rfl rfl (fun w => by simp [go_sem] <;> rfl) (lt_of_ble rfl)
                      apply Wk.asg (by conv => lhs; whnf) (lt_of_ble rfl)
                      refine Wk.nil ?_
                      refine AW.cond rfl (fun hc => ?_) (fun hc => ?_)
                      · apply AW.list
                        apply Wk.fad 8 0 false fd24_8 rfl (lt_of_ble rfl)
                        apply Wk.ld (i := 5) 1 false ty22 rfl rfl (by conv => lhs; whnf) (lt_of_ble rfl)
                        apply Wk.lst 132 1 false [.int .u8 0] un22 ty5 ze5 rfl rfl (by rfl) (by rfl) (by decide) (by decide) rfl rfl (all_len rfl) (lt_of_ble rfl)
                        apply Wk.appOO 7 132 1 un22 ap5 rfl rfl rfl rfl (by decide) (all_len rfl) (one_cellsB bs) (by simp [cellsB]; omega) (lt_of_ble rfl)
                        apply Wk.fad 8 0 false fd24_8 rfl (lt_of_ble rfl)
                        apply Wk.sto (i := 5) 1 false ty22 rfl rfl rfl rfl (Nat.le_of_ble_eq_true rfl) (lt_of_ble rfl)
                        refine Wk.nil (inBlockA_normal (thenA_normal ?_))
                        have e9 : cellsB (bs ++ [1, 2, 3, 4, 5, 6, 7, 8, 9]) = cellsB bs ++ cellsB [1, 2, 3, 4, 5, 6, 7, 8, 9] := by simp [cellsB]
                        exact ⟨⟨zs8, p8, k, s, c, pl, f, y, g, l, (q + 1), (bs ++ [1, 2, 3, 4, 5, 6, 7, 8, 9])⟩, ⟨by simp only; omega, ⟨by simp only; omega, by simp only; omega⟩, ⟨by simp only; omega, by simp only; omega⟩, ⟨by simp only; omega, by simp only; omega⟩, ⟨by simp only; omega, by simp only; omega⟩, ⟨by simp only; omega, by simp only; omega⟩, ⟨by simp only; omega, by simp only; omega⟩, by simp; omega⟩, fin _ _ rfl rfl rfl rfl rfl rfl rfl rfl (by unfold ownB; rw [e9]; rfl)⟩
                      · apply AW.list
                        apply Wk.lst 78 1 false [.int .i64 0] un80 ty3 ze3 rfl rfl (by rfl) (by rfl) (by decide) (by decide) rfl rfl (all_len rfl) (lt_of_ble rfl)
                        apply Wk.mv (by conv => lhs; whnf) (lt_of_ble rfl)
                        apply Wk.drw 0 pick_ok Tryd.func22 rfl rfl rfl rfl ⟨_, rfl, by omega⟩ (by omega) rfl (lt_of_ble rfl)
                        rintro r9 zs9 p9 ⟨k9, rfl, hk9⟩ hp9
                        have hk9' : k9 < 3 := by have := hk9 3 rfl; omega
                        obtain ⟨v, hv, hv1, hv2⟩ : ∃ v : Int, partA (List.flatten [[A.d (.v (.int .i64 (-1)))], [.d (.v (.int .i64 4))], [.d (.v (.int .i64 2))]]) (k9 * 1) 1 false = some (.d (.v (.int .i64 v))) ∧ -1000 ≤ v ∧ v ≤ 1000 := by
                          rcases (show k9 = 0 ∨ k9 = 1 ∨ k9 = 2 by omega) with rfl | rfl | rfl
                          · exact ⟨_, rfl, by omega, by omega⟩
                          · exact ⟨_, rfl, by omega, by omega⟩
                          · exact ⟨_, rfl, by omega, by omega⟩
                        apply Wk.iado 78 1 false un80 ty3 rfl rfl rfl hk9' (lt_of_ble rfl)
                        apply Wk.ldo (i := 78) 1 false ty3 rfl rfl hv (lt_of_ble rfl)
                        apply Wk.fad 6 0 false fd24_6 rfl (lt_of_ble rfl)
                        apply Wk.sto (i := 5) 1 false ty3 rfl rfl rfl rfl (Nat.le_of_ble_eq_true rfl) (lt_of_ble rfl)
                        refine Wk.nil (inBlockA_normal (thenA_normal ?_))
                        exact ⟨⟨zs9, p9, k, s, c, pl, f, y, v, l, q, bs⟩, ⟨by simp only; omega, ⟨by simp only; omega, by simp only; omega⟩, ⟨by simp only; omega, by simp only; omega⟩, ⟨by simp only; omega, by simp only; omega⟩, ⟨by simp only; omega, by simp only; omega⟩, ⟨by simp only; omega, by simp only; omega⟩, ⟨by simp only; omega, by simp only; omega⟩, by simp only; omega⟩, fin _ _ rfl rfl rfl rfl rfl rfl rfl rfl rfl⟩
        · exact ⟨⟨zs7, p7, k, s, c, pl, f, y, g, l, q, bs⟩, ⟨by simp only; omega, ⟨by simp only; omega, by simp only; omega⟩, ⟨by simp only; omega, by simp only; omega⟩, ⟨by simp only; omega, by simp only; omega⟩, ⟨by simp only; omega, by simp only; omega⟩, ⟨by simp only; omega, by simp only; omega⟩, ⟨by simp only; omega, by simp only; omega⟩, by simp only; omega⟩, fin _ _ rfl rfl rfl rfl rfl rfl rfl rfl rfl⟩
      · rintro ⟨zs6, p6, k, s, c, pl, f, y, g, l, q, bs⟩ ⟨hp6, hk, hs, hcc, hy, hg, hl, hb6⟩
        show AW Tryd.prog C _ _ (St.of 136 [(0, .ptr 0 0), (1, .d (.v (.int .i64 n))), (4, .ptr 4 0), (5, .ptr 5 0)] [(0, rdr zs6 p6), (4, .var frmZ0), (5, .var (frmO k s c pl f y g l (.own 7 q))), (7, ownB q bs)])
        refine AW.thawc (j := 5) (c := 8) (i := 7) (cellsD bs) rfl rfl (by rfl) (asData_cells bs) (hX.one (by decide) rfl) ?_
        refine AW.seq ?_
        apply AW.list
        apply Wk.ld (i := 5) 9 true ty24 rfl rfl (by conv => lhs; whnf) (lt_of_ble rfl)
        apply Wk.sto (i := 4) 9 true ty24 rfl rfl rfl rfl (Nat.le_of_ble_eq_true rfl) (lt_of_ble rfl)
        refine Wk.nil (AW.ret ?_)
        exact RetQ.ret [(0, rdr zs6 p6)] (.cons ⟨4, 0, _, _, _, rfl, rfl, ty24, rfl⟩ .nil) ⟨⟨k, s, c, pl, f, y, g, l, bs, rfl, hk, hs, hcc, hy, hg, hl, hb6⟩, _, _, rfl, hp6⟩ (kept1 rfl)
  · rintro rest ⟨n, rfl, _⟩; rfl
  · rintro rest _; exact ⟨_, 0, 0, 0, false, false, 0, 0, 0, [], rfl, by simp [Sm]⟩
  · rintro rest r ⟨k, s, c, pl, f, y, g, l, bs, rfl, _⟩; rfl
end Go.Proofs.YthnlpdjjnfkmeaaDoor

/- What the laws of frames share; over what values read as. Written by tools/mk_WFrmLaws.py. -/
namespace Go.Proofs.YthnlpdjjnfkmeaaDoor
open Go Go.RowKit
set_option maxRecDepth 100000 in
theorem drawFrmBytes_ok (zs : List (Fin 256)) : DataW Tryd.prog 5 [.d (bytesD (zs.map (·.val)))] (frmPost []) := by
  refine ⟨?_, ⟨_, 0, 0, 0, false, false, 0, 0, 0, [], rfl, by simp [Sm]⟩, ?_⟩
  · refine id ?_
    refine Spec.intro (n := 6) (rv := [.cell 2 24]) Tryd.func5 rfl rfl rfl (by simp) fun C hN hX => ?_
    refine AW.seq ?_
    apply AW.list
    apply Wk.alc 2 [.int .i64 0, .int .i64 0, .int .i64 0, .bool false, .bool false, .int .i64 0, .int .i64 0, .int .i64 0, .slice none 0 0] ze24 rfl rfl (lt_of_ble rfl)
    refine Wk.nil ?_
    refine AW.seq ?_
    apply AW.list
    apply Wk.mv (by conv => lhs; whnf) (lt_of_ble rfl)
    apply Wk.opn open_ok Tryd.func21 rfl rfl rfl rfl (lt_of_ble rfl)
    rintro zs1
    apply Wk.drw 0 frame_ok Tryd.func20 rfl rfl rfl rfl ⟨_, rfl, by omega⟩ (by omega) rfl (lt_of_ble rfl)
    rintro r2 zs2 p2 ⟨k, s, c, p, f, y, g, l, bs, rfl, hr⟩ hp2
    apply Wk.sto (i := 2) 9 true ty24 rfl rfl rfl rfl (Nat.le_of_ble_eq_true rfl) (lt_of_ble rfl)
    refine Wk.nil (AW.ret ?_)
    exact RetQ.ret [] (.cons ⟨2, 0, _, _, _, rfl, rfl, ty24, rfl⟩ .nil) ⟨⟨k, s, c, p, f, y, g, l, bs, rfl, hr⟩, rfl⟩ none_kept
  · rintro r ⟨k, s, c, p, f, y, g, l, bs, rfl, _⟩; rfl
theorem ifrmb (k s c : Int) (p f : Bool) (y g l : Int) (bs : List (Fin 256)) (hl : bs.length ≤ 2000000) {b : Bool} (h : frmB k s c p f y g l bs.length = b) : DataOk Tryd.prog 13 [frmA k s c p f y g l bs] (.d (.v (.bool b))) := h ▸ ifrm_ok k s c p f y g l bs hl
theorem sfrmb (k s c : Int) (p f : Bool) (y g l : Int) (bs : List (Fin 256)) {b : Bool} (h : frmB k s c p f y g l bs.length = b) : DataOk Tryd.prog 14 [frmA k s c p f y g l bs] (.d (.v (.bool b))) := h ▸ sfrm_ok k s c p f y g l bs
/-- The four kinds. -/
theorem frm_kinds {k s c : Int} {p f : Bool} {y g l : Int} {n : Nat} (h : frmB k s c p f y g l n = true) :
    (k = 1 ∧ (0 ≤ s ∧ s ≤ 7) ∧ (0 ≤ c ∧ c ≤ 7) ∧ p = false ∧ y = 0 ∧ pieceB g l n = true) ∨ (k = 2 ∧ s = 0 ∧ (0 ≤ c ∧ c ≤ 7) ∧ ¬ (p = true ∧ f = true) ∧ (0 ≤ y ∧ y ≤ 2) ∧ g = 0 ∧ l = 0 ∧ n = 0) ∨
    (k = 3 ∧ s = 0 ∧ c = 0 ∧ p = false ∧ f = false ∧ y = 0 ∧ pieceB g l n = true) ∨ (k = 4 ∧ s = 0 ∧ c = 0 ∧ p = false ∧ f = false ∧ y = 0 ∧ g = 0 ∧ (1 ≤ l ∧ l ≤ 255) ∧ n = 0) := by
  simp only [frmB, decide_eq_true_eq] at h
  rcases h with h | h | h | h
  · exact .inl h
  · exact .inr (.inl h)
  · exact .inr (.inr (.inl h))
  · exact .inr (.inr (.inr (by simpa [and_assoc] using h)))
theorem frm_nine (k s c : Int) (p f : Bool) (y g l : Int) : frmB k s c p f y g l 9 = false := by
  cases h : frmB k s c p f y g l 9
  · rfl
  · rcases frm_kinds h with ⟨_, _, _, _, _, h⟩ | ⟨_, _, _, _, _, _, _, h⟩ | ⟨_, _, _, _, _, _, h⟩ | ⟨_, _, _, _, _, _, _, _, h⟩
    · simp [pieceB] at h
    · cases h
    · simp [pieceB] at h
    · cases h
end Go.Proofs.YthnlpdjjnfkmeaaDoor

/- The laws' comparison of two frames, over what values read as. Written by tools/mk_WFrmApart.py. -/
namespace Go.Proofs.YthnlpdjjnfkmeaaDoor
open Go Go.RowKit
set_option maxHeartbeats 4000000 in
set_option maxRecDepth 100000 in
theorem liFrame_is (k s c : Int) (p f : Bool) (y g l : Int) (bs : List (Fin 256)) : DataOk Tryd.prog 12 [frmA k s c p f y g l bs, frmA k s c p f y g l bs] (.d (.v (.bool true))) := by
  have hB := liBytes_ok (bs.map (·.val)) (bs.map (·.val))
  rw [decide_eq_true rfl] at hB
  refine Spec.intro (n := 66) (rv := [.tmp 4]) Tryd.func12 rfl rfl rfl (by simp) fun C hN hX => ?_
  refine AW.seq ?_
  apply AW.list
  apply Wk.bx 2 rfl rfl (lt_of_ble rfl)
  apply Wk.bx 3 rfl rfl (lt_of_ble rfl)
  apply Wk.asg (by conv => lhs; whnf) (lt_of_ble rfl)
  refine Wk.nil ?_
  refine AW.seq ?_
  apply AW.list
  apply Wk.fad 0 0 false fd24_0 rfl (lt_of_ble rfl)
  apply Wk.ld (i := 2) 1 false ty3 rfl rfl (by conv => lhs; whnf) (lt_of_ble rfl)
  apply Wk.fad 0 0 false fd24_0 rfl (lt_of_ble rfl)
  apply Wk.ld (i := 3) 1 false ty3 rfl rfl (by conv => lhs; whnf) (lt_of_ble rfl)
  apply Wk.bin rfl rfl (r := .bool true) (fun w => by simp [go_sem]) (lt_of_ble rfl)
  apply Wk.mv (by conv => lhs; whnf) (lt_of_ble rfl)
  apply Wk.gon 10 rfl rfl
  apply Wk.fad 1 0 false fd24_1 rfl (lt_of_ble rfl)
  apply Wk.gon 10 rfl rfl
  apply Wk.ld (i := 2) 1 false ty3 rfl rfl (by conv => lhs; whnf) (lt_of_ble rfl)
  apply Wk.gon 10 rfl rfl
  apply Wk.fad 1 0 false fd24_1 rfl (lt_of_ble rfl)
  apply Wk.gon 10 rfl rfl
  apply Wk.ld (i := 3) 1 false ty3 rfl rfl (by conv => lhs; whnf) (lt_of_ble rfl)
  apply Wk.gon 10 rfl rfl
  apply Wk.bin rfl rfl (r := .bool true) (fun w => by simp [go_sem]) (lt_of_ble rfl)
  apply Wk.pckT rfl (by conv => lhs; whnf) (lt_of_ble rfl)
  apply Wk.mv (by conv => lhs; whnf) (lt_of_ble rfl)
  apply Wk.gon 17 rfl rfl
  apply Wk.fad 2 0 false fd24_2 rfl (lt_of_ble rfl)
  apply Wk.gon 17 rfl rfl
  apply Wk.ld (i := 2) 1 false ty3 rfl rfl (by conv => lhs; whnf) (lt_of_ble rfl)
  apply Wk.gon 17 rfl rfl
  apply Wk.fad 2 0 false fd24_2 rfl (lt_of_ble rfl)
  apply Wk.gon 17 rfl rfl
  apply Wk.ld (i := 3) 1 false ty3 rfl rfl (by conv => lhs; whnf) (lt_of_ble rfl)
  apply Wk.gon 17 rfl rfl
  apply Wk.bin rfl rfl (r := .bool true) (fun w => by simp [go_sem]) (lt_of_ble rfl)
  apply Wk.pckT rfl (by conv => lhs; whnf) (lt_of_ble rfl)
  apply Wk.mv (by conv => lhs; whnf) (lt_of_ble rfl)
  apply Wk.gon 24 rfl rfl
  apply Wk.fad 3 0 false fd24_3 rfl (lt_of_ble rfl)
  apply Wk.gon 24 rfl rfl
  apply Wk.ld (i := 2) 1 false ty4 rfl rfl (by conv => lhs; whnf) (lt_of_ble rfl)
  apply Wk.gon 24 rfl rfl
  apply Wk.fad 3 0 false fd24_3 rfl (lt_of_ble rfl)
  apply Wk.gon 24 rfl rfl
  apply Wk.ld (i := 3) 1 false ty4 rfl rfl (by conv => lhs; whnf) (lt_of_ble rfl)
  apply Wk.gon 24 rfl rfl
  apply Wk.bin rfl rfl (r := .bool true) (fun w => by simp [go_sem]) (lt_of_ble rfl)
  apply Wk.pckT rfl (by conv => lhs; whnf) (lt_of_ble rfl)
  apply Wk.mv (by conv => lhs; whnf) (lt_of_ble rfl)
  apply Wk.gon 31 rfl rfl
  apply Wk.fad 4 0 false fd24_4 rfl (lt_of_ble rfl)
  apply Wk.gon 31 rfl rfl
  apply Wk.ld (i := 2) 1 false ty4 rfl rfl (by conv => lhs; whnf) (lt_of_ble rfl)
  apply Wk.gon 31 rfl rfl
  apply Wk.fad 4 0 false fd24_4 rfl (lt_of_ble rfl)
  apply Wk.gon 31 rfl rfl
  apply Wk.ld (i := 3) 1 false ty4 rfl rfl (by conv => lhs; whnf) (lt_of_ble rfl)
  apply Wk.gon 31 rfl rfl
  apply Wk.bin rfl rfl (r := .bool true) (fun w => by simp [go_sem]) (lt_of_ble rfl)
  apply Wk.pckT rfl (by conv => lhs; whnf) (lt_of_ble rfl)
  apply Wk.mv (by conv => lhs; whnf) (lt_of_ble rfl)
  apply Wk.gon 38 rfl rfl
  apply Wk.fad 5 0 false fd24_5 rfl (lt_of_ble rfl)
  apply Wk.gon 38 rfl rfl
  apply Wk.ld (i := 2) 1 false ty3 rfl rfl (by conv => lhs; whnf) (lt_of_ble rfl)
  apply Wk.gon 38 rfl rfl
  apply Wk.fad 5 0 false fd24_5 rfl (lt_of_ble rfl)
  apply Wk.gon 38 rfl rfl
  apply Wk.ld (i := 3) 1 false ty3 rfl rfl (by conv => lhs; whnf) (lt_of_ble rfl)
  apply Wk.gon 38 rfl rfl
  apply Wk.bin rfl rfl (r := .bool true) (fun w => by simp [go_sem]) (lt_of_ble rfl)
  apply Wk.pckT rfl (by conv => lhs; whnf) (lt_of_ble rfl)
  apply Wk.mv (by conv => lhs; whnf) (lt_of_ble rfl)
  apply Wk.gon 45 rfl rfl
  apply Wk.fad 6 0 false fd24_6 rfl (lt_of_ble rfl)
  apply Wk.gon 45 rfl rfl
  apply Wk.ld (i := 2) 1 false ty3 rfl rfl (by conv => lhs; whnf) (lt_of_ble rfl)
  apply Wk.gon 45 rfl rfl
  apply Wk.fad 6 0 false fd24_6 rfl (lt_of_ble rfl)
  apply Wk.gon 45 rfl rfl
  apply Wk.ld (i := 3) 1 false ty3 rfl rfl (by conv => lhs; whnf) (lt_of_ble rfl)
  apply Wk.gon 45 rfl rfl
  apply Wk.bin rfl rfl (r := .bool true) (fun w => by simp [go_sem]) (lt_of_ble rfl)
  apply Wk.pckT rfl (by conv => lhs; whnf) (lt_of_ble rfl)
  apply Wk.mv (by conv => lhs; whnf) (lt_of_ble rfl)
  apply Wk.gon 52 rfl rfl
  apply Wk.fad 7 0 false fd24_7 rfl (lt_of_ble rfl)
  apply Wk.gon 52 rfl rfl
  apply Wk.ld (i := 2) 1 false ty3 rfl rfl (by conv => lhs; whnf) (lt_of_ble rfl)
  apply Wk.gon 52 rfl rfl
  apply Wk.fad 7 0 false fd24_7 rfl (lt_of_ble rfl)
  apply Wk.gon 52 rfl rfl
  apply Wk.ld (i := 3) 1 false ty3 rfl rfl (by conv => lhs; whnf) (lt_of_ble rfl)
  apply Wk.gon 52 rfl rfl
  apply Wk.bin rfl rfl (r := .bool true) (fun w => by simp [go_sem]) (lt_of_ble rfl)
  apply Wk.pckT rfl (by conv => lhs; whnf) (lt_of_ble rfl)
  apply Wk.mv (by conv => lhs; whnf) (lt_of_ble rfl)
  apply Wk.gon 59 rfl rfl
  apply Wk.fad 8 0 false fd24_8 rfl (lt_of_ble rfl)
  apply Wk.gon 59 rfl rfl
  apply Wk.ld (i := 2) 1 false ty22 rfl rfl (by conv => lhs; whnf) (lt_of_ble rfl)
  apply Wk.gon 59 rfl rfl
  apply Wk.fad 8 0 false fd24_8 rfl (lt_of_ble rfl)
  apply Wk.gon 59 rfl rfl
  apply Wk.ld (i := 3) 1 false ty22 rfl rfl (by conv => lhs; whnf) (lt_of_ble rfl)
  apply Wk.gon 59 rfl rfl
  apply Wk.dat (hB) Tryd.func10 rfl rfl rfl rfl rfl (lt_of_ble rfl)
  apply Wk.pckT rfl (by conv => lhs; whnf) (lt_of_ble rfl)
  apply Wk.asg (by conv => lhs; whnf) (lt_of_ble rfl)
  refine Wk.nil (AW.ret ?_)
  exact RetQ.ret [] (.cons rfl .nil) ⟨rfl, rfl⟩ none_kept
set_option maxHeartbeats 8000000 in
set_option maxRecDepth 100000 in
theorem liFrame_not (k s c : Int) (p f : Bool) (y g l : Int) (bs : List (Fin 256)) (k' s' c' : Int) (p' f' : Bool) (y' g' l' : Int) (bs' : List (Fin 256)) (h : ¬ (k = k' ∧ s = s' ∧ c = c' ∧ p = p' ∧ f = f' ∧ y = y' ∧ g = g' ∧ l = l' ∧ bs = bs')) :
    DataOk Tryd.prog 12 [frmA k s c p f y g l bs, frmA k' s' c' p' f' y' g' l' bs'] (.d (.v (.bool false))) := by
  by_cases h0 : k = k'
  case neg =>
    clear h
    refine Spec.intro (n := 66) (rv := [.tmp 4]) Tryd.func12 rfl rfl rfl (by simp) fun C hN hX => ?_
    refine AW.seq ?_
    apply AW.list
    apply Wk.bx 2 rfl rfl (lt_of_ble rfl)
    apply Wk.bx 3 rfl rfl (lt_of_ble rfl)
    apply Wk.asg (by conv => lhs; whnf) (lt_of_ble rfl)
    refine Wk.nil ?_
    refine AW.seq ?_
    apply AW.list
    apply Wk.fad 0 0 false fd24_0 rfl (lt_of_ble rfl)
    apply Wk.ld (i := 2) 1 false ty3 rfl rfl (by conv => lhs; whnf) (lt_of_ble rfl)
    apply Wk.fad 0 0 false fd24_0 rfl (lt_of_ble rfl)
    apply Wk.ld (i := 3) 1 false ty3 rfl rfl (by conv => lhs; whnf) (lt_of_ble rfl)
    apply Wk.bin rfl rfl (r := .bool false) (fun w => by simp [go_sem, h0]) (lt_of_ble rfl)
    apply Wk.mv (by conv => lhs; whnf) (lt_of_ble rfl)
    apply Wk.goff 10 (ok_faddr fd24_1) rfl rfl (by decide)
    apply Wk.goff 10 (ok_load 2 ty3) rfl rfl (by decide)
    apply Wk.goff 10 (ok_faddr fd24_1) rfl rfl (by decide)
    apply Wk.goff 10 (ok_load 3 ty3) rfl rfl (by decide)
    apply Wk.goff 10 (ok_bin _ _ _ _ _) rfl rfl (by decide)
    apply Wk.pckF rfl (by conv => lhs; whnf) (lt_of_ble rfl)
    apply Wk.mv (by conv => lhs; whnf) (lt_of_ble rfl)
    apply Wk.goff 17 (ok_faddr fd24_2) rfl rfl (by decide)
    apply Wk.goff 17 (ok_load 2 ty3) rfl rfl (by decide)
    apply Wk.goff 17 (ok_faddr fd24_2) rfl rfl (by decide)
    apply Wk.goff 17 (ok_load 3 ty3) rfl rfl (by decide)
    apply Wk.goff 17 (ok_bin _ _ _ _ _) rfl rfl (by decide)
    apply Wk.pckF rfl (by conv => lhs; whnf) (lt_of_ble rfl)
    apply Wk.mv (by conv => lhs; whnf) (lt_of_ble rfl)
    apply Wk.goff 24 (ok_faddr fd24_3) rfl rfl (by decide)
    apply Wk.goff 24 (ok_load 2 ty4) rfl rfl (by decide)
    apply Wk.goff 24 (ok_faddr fd24_3) rfl rfl (by decide)
    apply Wk.goff 24 (ok_load 3 ty4) rfl rfl (by decide)
    apply Wk.goff 24 (ok_bin _ _ _ _ _) rfl rfl (by decide)
    apply Wk.pckF rfl (by conv => lhs; whnf) (lt_of_ble rfl)
    apply Wk.mv (by conv => lhs; whnf) (lt_of_ble rfl)
    apply Wk.goff 31 (ok_faddr fd24_4) rfl rfl (by decide)
    apply Wk.goff 31 (ok_load 2 ty4) rfl rfl (by decide)
    apply Wk.goff 31 (ok_faddr fd24_4) rfl rfl (by decide)
    apply Wk.goff 31 (ok_load 3 ty4) rfl rfl (by decide)
    apply Wk.goff 31 (ok_bin _ _ _ _ _) rfl rfl (by decide)
    apply Wk.pckF rfl (by conv => lhs; whnf) (lt_of_ble rfl)
    apply Wk.mv (by conv => lhs; whnf) (lt_of_ble rfl)
    apply Wk.goff 38 (ok_faddr fd24_5) rfl rfl (by decide)
    apply Wk.goff 38 (ok_load 2 ty3) rfl rfl (by decide)
    apply Wk.goff 38 (ok_faddr fd24_5) rfl rfl (by decide)
    apply Wk.goff 38 (ok_load 3 ty3) rfl rfl (by decide)
    apply Wk.goff 38 (ok_bin _ _ _ _ _) rfl rfl (by decide)
    apply Wk.pckF rfl (by conv => lhs; whnf) (lt_of_ble rfl)
    apply Wk.mv (by conv => lhs; whnf) (lt_of_ble rfl)
    apply Wk.goff 45 (ok_faddr fd24_6) rfl rfl (by decide)
    apply Wk.goff 45 (ok_load 2 ty3) rfl rfl (by decide)
    apply Wk.goff 45 (ok_faddr fd24_6) rfl rfl (by decide)
    apply Wk.goff 45 (ok_load 3 ty3) rfl rfl (by decide)
    apply Wk.goff 45 (ok_bin _ _ _ _ _) rfl rfl (by decide)
    apply Wk.pckF rfl (by conv => lhs; whnf) (lt_of_ble rfl)
    apply Wk.mv (by conv => lhs; whnf) (lt_of_ble rfl)
    apply Wk.goff 52 (ok_faddr fd24_7) rfl rfl (by decide)
    apply Wk.goff 52 (ok_load 2 ty3) rfl rfl (by decide)
    apply Wk.goff 52 (ok_faddr fd24_7) rfl rfl (by decide)
    apply Wk.goff 52 (ok_load 3 ty3) rfl rfl (by decide)
    apply Wk.goff 52 (ok_bin _ _ _ _ _) rfl rfl (by decide)
    apply Wk.pckF rfl (by conv => lhs; whnf) (lt_of_ble rfl)
    apply Wk.mv (by conv => lhs; whnf) (lt_of_ble rfl)
    apply Wk.goff 59 (ok_faddr fd24_8) rfl rfl (by decide)
    apply Wk.goff 59 (ok_load 2 ty22) rfl rfl (by decide)
    apply Wk.goff 59 (ok_faddr fd24_8) rfl rfl (by decide)
    apply Wk.goff 59 (ok_load 3 ty22) rfl rfl (by decide)
    apply Wk.goff 59 (ok_datw ((liBytes_ok [] []).w rfl) Tryd.func10 rfl rfl) rfl rfl (by decide)
    apply Wk.pckF rfl (by conv => lhs; whnf) (lt_of_ble rfl)
    apply Wk.asg (by conv => lhs; whnf) (lt_of_ble rfl)
    refine Wk.nil (AW.ret ?_)
    exact RetQ.ret [] (.cons rfl .nil) ⟨rfl, rfl⟩ none_kept
  subst h0
  by_cases h1 : s = s'
  case neg =>
    clear h
    refine Spec.intro (n := 66) (rv := [.tmp 4]) Tryd.func12 rfl rfl rfl (by simp) fun C hN hX => ?_
    refine AW.seq ?_
    apply AW.list
    apply Wk.bx 2 rfl rfl (lt_of_ble rfl)
    apply Wk.bx 3 rfl rfl (lt_of_ble rfl)
    apply Wk.asg (by conv => lhs; whnf) (lt_of_ble rfl)
    refine Wk.nil ?_
    refine AW.seq ?_
    apply AW.list
    apply Wk.fad 0 0 false fd24_0 rfl (lt_of_ble rfl)
    apply Wk.ld (i := 2) 1 false ty3 rfl rfl (by conv => lhs; whnf) (lt_of_ble rfl)
    apply Wk.fad 0 0 false fd24_0 rfl (lt_of_ble rfl)
    apply Wk.ld (i := 3) 1 false ty3 rfl rfl (by conv => lhs; whnf) (lt_of_ble rfl)
    apply Wk.bin rfl rfl (r := .bool true) (fun w => by simp [go_sem]) (lt_of_ble rfl)
    apply Wk.mv (by conv => lhs; whnf) (lt_of_ble rfl)
    apply Wk.gon 10 rfl rfl
    apply Wk.fad 1 0 false fd24_1 rfl (lt_of_ble rfl)
    apply Wk.gon 10 rfl rfl
    apply Wk.ld (i := 2) 1 false ty3 rfl rfl (by conv => lhs; whnf) (lt_of_ble rfl)
    apply Wk.gon 10 rfl rfl
    apply Wk.fad 1 0 false fd24_1 rfl (lt_of_ble rfl)
    apply Wk.gon 10 rfl rfl
    apply Wk.ld (i := 3) 1 false ty3 rfl rfl (by conv => lhs; whnf) (lt_of_ble rfl)
    apply Wk.gon 10 rfl rfl
    apply Wk.bin rfl rfl (r := .bool false) (fun w => by simp [go_sem, h1]) (lt_of_ble rfl)
    apply Wk.pckT rfl (by conv => lhs; whnf) (lt_of_ble rfl)
    apply Wk.mv (by conv => lhs; whnf) (lt_of_ble rfl)
    apply Wk.goff 17 (ok_faddr fd24_2) rfl rfl (by decide)
    apply Wk.goff 17 (ok_load 2 ty3) rfl rfl (by decide)
    apply Wk.goff 17 (ok_faddr fd24_2) rfl rfl (by decide)
    apply Wk.goff 17 (ok_load 3 ty3) rfl rfl (by decide)
    apply Wk.goff 17 (ok_bin _ _ _ _ _) rfl rfl (by decide)
    apply Wk.pckF rfl (by conv => lhs; whnf) (lt_of_ble rfl)
    apply Wk.mv (by conv => lhs; whnf) (lt_of_ble rfl)
    apply Wk.goff 24 (ok_faddr fd24_3) rfl rfl (by decide)
    apply Wk.goff 24 (ok_load 2 ty4) rfl rfl (by decide)
    apply Wk.goff 24 (ok_faddr fd24_3) rfl rfl (by decide)
    apply Wk.goff 24 (ok_load 3 ty4) rfl rfl (by decide)
    apply Wk.goff 24 (ok_bin _ _ _ _ _) rfl rfl (by decide)
    apply Wk.pckF rfl (by conv => lhs; whnf) (lt_of_ble rfl)
    apply Wk.mv (by conv => lhs; whnf) (lt_of_ble rfl)
    apply Wk.goff 31 (ok_faddr fd24_4) rfl rfl (by decide)
    apply Wk.goff 31 (ok_load 2 ty4) rfl rfl (by decide)
    apply Wk.goff 31 (ok_faddr fd24_4) rfl rfl (by decide)
    apply Wk.goff 31 (ok_load 3 ty4) rfl rfl (by decide)
    apply Wk.goff 31 (ok_bin _ _ _ _ _) rfl rfl (by decide)
    apply Wk.pckF rfl (by conv => lhs; whnf) (lt_of_ble rfl)
    apply Wk.mv (by conv => lhs; whnf) (lt_of_ble rfl)
    apply Wk.goff 38 (ok_faddr fd24_5) rfl rfl (by decide)
    apply Wk.goff 38 (ok_load 2 ty3) rfl rfl (by decide)
    apply Wk.goff 38 (ok_faddr fd24_5) rfl rfl (by decide)
    apply Wk.goff 38 (ok_load 3 ty3) rfl rfl (by decide)
    apply Wk.goff 38 (ok_bin _ _ _ _ _) rfl rfl (by decide)
    apply Wk.pckF rfl (by conv => lhs; whnf) (lt_of_ble rfl)
    apply Wk.mv (by conv => lhs; whnf) (lt_of_ble rfl)
    apply Wk.goff 45 (ok_faddr fd24_6) rfl rfl (by decide)
    apply Wk.goff 45 (ok_load 2 ty3) rfl rfl (by decide)
    apply Wk.goff 45 (ok_faddr fd24_6) rfl rfl (by decide)
    apply Wk.goff 45 (ok_load 3 ty3) rfl rfl (by decide)
    apply Wk.goff 45 (ok_bin _ _ _ _ _) rfl rfl (by decide)
    apply Wk.pckF rfl (by conv => lhs; whnf) (lt_of_ble rfl)
    apply Wk.mv (by conv => lhs; whnf) (lt_of_ble rfl)
    apply Wk.goff 52 (ok_faddr fd24_7) rfl rfl (by decide)
    apply Wk.goff 52 (ok_load 2 ty3) rfl rfl (by decide)
    apply Wk.goff 52 (ok_faddr fd24_7) rfl rfl (by decide)
    apply Wk.goff 52 (ok_load 3 ty3) rfl rfl (by decide)
    apply Wk.goff 52 (ok_bin _ _ _ _ _) rfl rfl (by decide)
    apply Wk.pckF rfl (by conv => lhs; whnf) (lt_of_ble rfl)
    apply Wk.mv (by conv => lhs; whnf) (lt_of_ble rfl)
    apply Wk.goff 59 (ok_faddr fd24_8) rfl rfl (by decide)
    apply Wk.goff 59 (ok_load 2 ty22) rfl rfl (by decide)
    apply Wk.goff 59 (ok_faddr fd24_8) rfl rfl (by decide)
    apply Wk.goff 59 (ok_load 3 ty22) rfl rfl (by decide)
    apply Wk.goff 59 (ok_datw ((liBytes_ok [] []).w rfl) Tryd.func10 rfl rfl) rfl rfl (by decide)
    apply Wk.pckF rfl (by conv => lhs; whnf) (lt_of_ble rfl)
    apply Wk.asg (by conv => lhs; whnf) (lt_of_ble rfl)
    refine Wk.nil (AW.ret ?_)
    exact RetQ.ret [] (.cons rfl .nil) ⟨rfl, rfl⟩ none_kept
  subst h1
  by_cases h2 : c = c'
  case neg =>
    clear h
    refine Spec.intro (n := 66) (rv := [.tmp 4]) Tryd.func12 rfl rfl rfl (by simp) fun C hN hX => ?_
    refine AW.seq ?_
    apply AW.list
    apply Wk.bx 2 rfl rfl (lt_of_ble rfl)
    apply Wk.bx 3 rfl rfl (lt_of_ble rfl)
    apply Wk.asg (by conv => lhs; whnf) (lt_of_ble rfl)
    refine Wk.nil ?_
    refine AW.seq ?_
    apply AW.list
    apply Wk.fad 0 0 false fd24_0 rfl (lt_of_ble rfl)
    apply Wk.ld (i := 2) 1 false ty3 rfl rfl (by conv => lhs; whnf) (lt_of_ble rfl)
    apply Wk.fad 0 0 false fd24_0 rfl (lt_of_ble rfl)
    apply Wk.ld (i := 3) 1 false ty3 rfl rfl (by conv => lhs; whnf) (lt_of_ble rfl)
    apply Wk.bin rfl rfl (r := .bool true) (fun w => by simp [go_sem]) (lt_of_ble rfl)
    apply Wk.mv (by conv => lhs; whnf) (lt_of_ble rfl)
    apply Wk.gon 10 rfl rfl
    apply Wk.fad 1 0 false fd24_1 rfl (lt_of_ble rfl)
    apply Wk.gon 10 rfl rfl
    apply Wk.ld (i := 2) 1 false ty3 rfl rfl (by conv => lhs; whnf) (lt_of_ble rfl)
    apply Wk.gon 10 rfl rfl
    apply Wk.fad 1 0 false fd24_1 rfl (lt_of_ble rfl)
    apply Wk.gon 10 rfl rfl
    apply Wk.ld (i := 3) 1 false ty3 rfl rfl (by conv => lhs; whnf) (lt_of_ble rfl)
    apply Wk.gon 10 rfl rfl
    apply Wk.bin rfl rfl (r := .bool true) (fun w => by simp [go_sem]) (lt_of_ble rfl)
    apply Wk.pckT rfl (by conv => lhs; whnf) (lt_of_ble rfl)
    apply Wk.mv (by conv => lhs; whnf) (lt_of_ble rfl)
    apply Wk.gon 17 rfl rfl
    apply Wk.fad 2 0 false fd24_2 rfl (lt_of_ble rfl)
    apply Wk.gon 17 rfl rfl
    apply Wk.ld (i := 2) 1 false ty3 rfl rfl (by conv => lhs; whnf) (lt_of_ble rfl)
    apply Wk.gon 17 rfl rfl
    apply Wk.fad 2 0 false fd24_2 rfl (lt_of_ble rfl)
    apply Wk.gon 17 rfl rfl
    apply Wk.ld (i := 3) 1 false ty3 rfl rfl (by conv => lhs; whnf) (lt_of_ble rfl)
    apply Wk.gon 17 rfl rfl
    apply Wk.bin rfl rfl (r := .bool false) (fun w => by simp [go_sem, h2]) (lt_of_ble rfl)
    apply Wk.pckT rfl (by conv => lhs; whnf) (lt_of_ble rfl)
    apply Wk.mv (by conv => lhs; whnf) (lt_of_ble rfl)
    apply Wk.goff 24 (ok_faddr fd24_3) rfl rfl (by decide)
    apply Wk.goff 24 (ok_load 2 ty4) rfl rfl (by decide)
    apply Wk.goff 24 (ok_faddr fd24_3) rfl rfl (by decide)
    apply Wk.goff 24 (ok_load 3 ty4) rfl rfl (by decide)
    apply Wk.goff 24 (ok_bin _ _ _ _ _) rfl rfl (by decide)
    apply Wk.pckF rfl (by conv => lhs; whnf) (lt_of_ble rfl)
    apply Wk.mv (by conv => lhs; whnf) (lt_of_ble rfl)
    apply Wk.goff 31 (ok_faddr fd24_4) rfl rfl (by decide)
    apply Wk.goff 31 (ok_load 2 ty4) rfl rfl (by decide)
    apply Wk.goff 31 (ok_faddr fd24_4) rfl rfl (by decide)
    apply Wk.goff 31 (ok_load 3 ty4) rfl rfl (by decide)
    apply Wk.goff 31 (ok_bin _ _ _ _ _) rfl rfl (by decide)
    apply Wk.pckF rfl (by conv => lhs; whnf) (lt_of_ble rfl)
    apply Wk.mv (by conv => lhs; whnf) (lt_of_ble rfl)
    apply Wk.goff 38 (ok_faddr fd24_5) rfl rfl (by decide)
    apply Wk.goff 38 (ok_load 2 ty3) rfl rfl (by decide)
    apply Wk.goff 38 (ok_faddr fd24_5) rfl rfl (by decide)
    apply Wk.goff 38 (ok_load 3 ty3) rfl rfl (by decide)
    apply Wk.goff 38 (ok_bin _ _ _ _ _) rfl rfl (by decide)
    apply Wk.pckF rfl (by conv => lhs; whnf) (lt_of_ble rfl)
    apply Wk.mv (by conv => lhs; whnf) (lt_of_ble rfl)
    apply Wk.goff 45 (ok_faddr fd24_6) rfl rfl (by decide)
    apply Wk.goff 45 (ok_load 2 ty3) rfl rfl (by decide)
    apply Wk.goff 45 (ok_faddr fd24_6) rfl rfl (by decide)
    apply Wk.goff 45 (ok_load 3 ty3) rfl rfl (by decide)
    apply Wk.goff 45 (ok_bin _ _ _ _ _) rfl rfl (by decide)
    apply Wk.pckF rfl (by conv => lhs; whnf) (lt_of_ble rfl)
    apply Wk.mv (by conv => lhs; whnf) (lt_of_ble rfl)
    apply Wk.goff 52 (ok_faddr fd24_7) rfl rfl (by decide)
    apply Wk.goff 52 (ok_load 2 ty3) rfl rfl (by decide)
    apply Wk.goff 52 (ok_faddr fd24_7) rfl rfl (by decide)
    apply Wk.goff 52 (ok_load 3 ty3) rfl rfl (by decide)
    apply Wk.goff 52 (ok_bin _ _ _ _ _) rfl rfl (by decide)
    apply Wk.pckF rfl (by conv => lhs; whnf) (lt_of_ble rfl)
    apply Wk.mv (by conv => lhs; whnf) (lt_of_ble rfl)
    apply Wk.goff 59 (ok_faddr fd24_8) rfl rfl (by decide)
    apply Wk.goff 59 (ok_load 2 ty22) rfl rfl (by decide)
    apply Wk.goff 59 (ok_faddr fd24_8) rfl rfl (by decide)
    apply Wk.goff 59 (ok_load 3 ty22) rfl rfl (by decide)
    apply Wk.goff 59 (ok_datw ((liBytes_ok [] []).w rfl) Tryd.func10 rfl rfl) rfl rfl (by decide)
    apply Wk.pckF rfl (by conv => lhs; whnf) (lt_of_ble rfl)
    apply Wk.asg (by conv => lhs; whnf) (lt_of_ble rfl)
    refine Wk.nil (AW.ret ?_)
    exact RetQ.ret [] (.cons rfl .nil) ⟨rfl, rfl⟩ none_kept
  subst h2
  by_cases h3 : p = p'
  case neg =>
    clear h
    refine Spec.intro (n := 66) (rv := [.tmp 4]) Tryd.func12 rfl rfl rfl (by simp) fun C hN hX => ?_
    refine AW.seq ?_
    apply AW.list
    apply Wk.bx 2 rfl rfl (lt_of_ble rfl)
    apply Wk.bx 3 rfl rfl (lt_of_ble rfl)
    apply Wk.asg (by conv => lhs; whnf) (lt_of_ble rfl)
    refine Wk.nil ?_
    refine AW.seq ?_
    apply AW.list
    apply Wk.fad 0 0 false fd24_0 rfl (lt_of_ble rfl)
    apply Wk.ld (i := 2) 1 false ty3 rfl rfl (by conv => lhs; whnf) (lt_of_ble rfl)
    apply Wk.fad 0 0 false fd24_0 rfl (lt_of_ble rfl)
    apply Wk.ld (i := 3) 1 false ty3 rfl rfl (by conv => lhs; whnf) (lt_of_ble rfl)
    apply Wk.bin rfl rfl (r := .bool true) (fun w => by simp [go_sem]) (lt_of_ble rfl)
    apply Wk.mv (by conv => lhs; whnf) (lt_of_ble rfl)
    apply Wk.gon 10 rfl rfl
    apply Wk.fad 1 0 false fd24_1 rfl (lt_of_ble rfl)
    apply Wk.gon 10 rfl rfl
    apply Wk.ld (i := 2) 1 false ty3 rfl rfl (by conv => lhs; whnf) (lt_of_ble rfl)
    apply Wk.gon 10 rfl rfl
    apply Wk.fad 1 0 false fd24_1 rfl (lt_of_ble rfl)
    apply Wk.gon 10 rfl rfl
    apply Wk.ld (i := 3) 1 false ty3 rfl rfl (by conv => lhs; whnf) (lt_of_ble rfl)
    apply Wk.gon 10 rfl rfl
    apply Wk.bin rfl rfl (r := .bool true) (fun w => by simp [go_sem]) (lt_of_ble rfl)
    apply Wk.pckT rfl (by conv => lhs; whnf) (lt_of_ble rfl)
    apply Wk.mv (by conv => lhs; whnf) (lt_of_ble rfl)
    apply Wk.gon 17 rfl rfl
    apply Wk.fad 2 0 false fd24_2 rfl (lt_of_ble rfl)
    apply Wk.gon 17 rfl rfl
    apply Wk.ld (i := 2) 1 false ty3 rfl rfl (by conv => lhs; whnf) (lt_of_ble rfl)
    apply Wk.gon 17 rfl rfl
    apply Wk.fad 2 0 false fd24_2 rfl (lt_of_ble rfl)
    apply Wk.gon 17 rfl rfl
    apply Wk.ld (i := 3) 1 false ty3 rfl rfl (by conv => lhs; whnf) (lt_of_ble rfl)
    apply Wk.gon 17 rfl rfl
    apply Wk.bin rfl rfl (r := .bool true) (fun w => by simp [go_sem]) (lt_of_ble rfl)
    apply Wk.pckT rfl (by conv => lhs; whnf) (lt_of_ble rfl)
    apply Wk.mv (by conv => lhs; whnf) (lt_of_ble rfl)
    apply Wk.gon 24 rfl rfl
    apply Wk.fad 3 0 false fd24_3 rfl (lt_of_ble rfl)
    apply Wk.gon 24 rfl rfl
    apply Wk.ld (i := 2) 1 false ty4 rfl rfl (by conv => lhs; whnf) (lt_of_ble rfl)
    apply Wk.gon 24 rfl rfl
    apply Wk.fad 3 0 false fd24_3 rfl (lt_of_ble rfl)
    apply Wk.gon 24 rfl rfl
    apply Wk.ld (i := 3) 1 false ty4 rfl rfl (by conv => lhs; whnf) (lt_of_ble rfl)
    apply Wk.gon 24 rfl rfl
    apply Wk.bin rfl rfl (r := .bool false) (fun w => by simp [go_sem, h3]) (lt_of_ble rfl)
    apply Wk.pckT rfl (by conv => lhs; whnf) (lt_of_ble rfl)
    apply Wk.mv (by conv => lhs; whnf) (lt_of_ble rfl)
    apply Wk.goff 31 (ok_faddr fd24_4) rfl rfl (by decide)
    apply Wk.goff 31 (ok_load 2 ty4) rfl rfl (by decide)
    apply Wk.goff 31 (ok_faddr fd24_4) rfl rfl (by decide)
    apply Wk.goff 31 (ok_load 3 ty4) rfl rfl (by decide)
    apply Wk.goff 31 (ok_bin _ _ _ _ _) rfl rfl (by decide)
    apply Wk.pckF rfl (by conv => lhs; whnf) (lt_of_ble rfl)
    apply Wk.mv (by conv => lhs; whnf) (lt_of_ble rfl)
    apply Wk.goff 38 (ok_faddr fd24_5) rfl rfl (by decide)
    apply Wk.goff 38 (ok_load 2 ty3) rfl rfl (by decide)
    apply Wk.goff 38 (ok_faddr fd24_5) rfl rfl (by decide)
    apply Wk.goff 38 (ok_load 3 ty3) rfl rfl (by decide)
    apply Wk.goff 38 (ok_bin _ _ _ _ _) rfl rfl (by decide)
    apply Wk.pckF rfl (by conv => lhs; whnf) (lt_of_ble rfl)
    apply Wk.mv (by conv => lhs; whnf) (lt_of_ble rfl)
    apply Wk.goff 45 (ok_faddr fd24_6) rfl rfl (by decide)
    apply Wk.goff 45 (ok_load 2 ty3) rfl rfl (by decide)
    apply Wk.goff 45 (ok_faddr fd24_6) rfl rfl (by decide)
    apply Wk.goff 45 (ok_load 3 ty3) rfl rfl (by decide)
    apply Wk.goff 45 (ok_bin _ _ _ _ _) rfl rfl (by decide)
    apply Wk.pckF rfl (by conv => lhs; whnf) (lt_of_ble rfl)
    apply Wk.mv (by conv => lhs; whnf) (lt_of_ble rfl)
    apply Wk.goff 52 (ok_faddr fd24_7) rfl rfl (by decide)
    apply Wk.goff 52 (ok_load 2 ty3) rfl rfl (by decide)
    apply Wk.goff 52 (ok_faddr fd24_7) rfl rfl (by decide)
    apply Wk.goff 52 (ok_load 3 ty3) rfl rfl (by decide)
    apply Wk.goff 52 (ok_bin _ _ _ _ _) rfl rfl (by decide)
    apply Wk.pckF rfl (by conv => lhs; whnf) (lt_of_ble rfl)
    apply Wk.mv (by conv => lhs; whnf) (lt_of_ble rfl)
    apply Wk.goff 59 (ok_faddr fd24_8) rfl rfl (by decide)
    apply Wk.goff 59 (ok_load 2 ty22) rfl rfl (by decide)
    apply Wk.goff 59 (ok_faddr fd24_8) rfl rfl (by decide)
    apply Wk.goff 59 (ok_load 3 ty22) rfl rfl (by decide)
    apply Wk.goff 59 (ok_datw ((liBytes_ok [] []).w rfl) Tryd.func10 rfl rfl) rfl rfl (by decide)
    apply Wk.pckF rfl (by conv => lhs; whnf) (lt_of_ble rfl)
    apply Wk.asg (by conv => lhs; whnf) (lt_of_ble rfl)
    refine Wk.nil (AW.ret ?_)
    exact RetQ.ret [] (.cons rfl .nil) ⟨rfl, rfl⟩ none_kept
  subst h3
  by_cases h4 : f = f'
  case neg =>
    clear h
    refine Spec.intro (n := 66) (rv := [.tmp 4]) Tryd.func12 rfl rfl rfl (by simp) fun C hN hX => ?_
    refine AW.seq ?_
    apply AW.list
    apply Wk.bx 2 rfl rfl (lt_of_ble rfl)
    apply Wk.bx 3 rfl rfl (lt_of_ble rfl)
    apply Wk.asg (by conv => lhs; whnf) (lt_of_ble rfl)
    refine Wk.nil ?_
    refine AW.seq ?_
    apply AW.list
    apply Wk.fad 0 0 false fd24_0 rfl (lt_of_ble rfl)
    apply Wk.ld (i := 2) 1 false ty3 rfl rfl (by conv => lhs; whnf) (lt_of_ble rfl)
    apply Wk.fad 0 0 false fd24_0 rfl (lt_of_ble rfl)
    apply Wk.ld (i := 3) 1 false ty3 rfl rfl (by conv => lhs; whnf) (lt_of_ble rfl)
    apply Wk.bin rfl rfl (r := .bool true) (fun w => by simp [go_sem]) (lt_of_ble rfl)
    apply Wk.mv (by conv => lhs; whnf) (lt_of_ble rfl)
    apply Wk.gon 10 rfl rfl
    apply Wk.fad 1 0 false fd24_1 rfl (lt_of_ble rfl)
    apply Wk.gon 10 rfl rfl
    apply Wk.ld (i := 2) 1 false ty3 rfl rfl (by conv => lhs; whnf) (lt_of_ble rfl)
    apply Wk.gon 10 rfl rfl
    apply Wk.fad 1 0 false fd24_1 rfl (lt_of_ble rfl)
    apply Wk.gon 10 rfl rfl
    apply Wk.ld (i := 3) 1 false ty3 rfl rfl (by conv => lhs; whnf) (lt_of_ble rfl)
    apply Wk.gon 10 rfl rfl
    apply Wk.bin rfl rfl (r := .bool true) (fun w => by simp [go_sem]) (lt_of_ble rfl)
    apply Wk.pckT rfl (by conv => lhs; whnf) (lt_of_ble rfl)
    apply Wk.mv (by conv => lhs; whnf) (lt_of_ble rfl)
    apply Wk.gon 17 rfl rfl
    apply Wk.fad 2 0 false fd24_2 rfl (lt_of_ble rfl)
    apply Wk.gon 17 rfl rfl
    apply Wk.ld (i := 2) 1 false ty3 rfl rfl (by conv => lhs; whnf) (lt_of_ble rfl)
    apply Wk.gon 17 rfl rfl
    apply Wk.fad 2 0 false fd24_2 rfl (lt_of_ble rfl)
    apply Wk.gon 17 rfl rfl
    apply Wk.ld (i := 3) 1 false ty3 rfl rfl (by conv => lhs; whnf) (lt_of_ble rfl)
    apply Wk.gon 17 rfl rfl
    apply Wk.bin rfl rfl (r := .bool true) (fun w => by simp [go_sem]) (lt_of_ble rfl)
    apply Wk.pckT rfl (by conv => lhs; whnf) (lt_of_ble rfl)
    apply Wk.mv (by conv => lhs; whnf) (lt_of_ble rfl)
    apply Wk.gon 24 rfl rfl
    apply Wk.fad 3 0 false fd24_3 rfl (lt_of_ble rfl)
    apply Wk.gon 24 rfl rfl
    apply Wk.ld (i := 2) 1 false ty4 rfl rfl (by conv => lhs; whnf) (lt_of_ble rfl)
    apply Wk.gon 24 rfl rfl
    apply Wk.fad 3 0 false fd24_3 rfl (lt_of_ble rfl)
    apply Wk.gon 24 rfl rfl
    apply Wk.ld (i := 3) 1 false ty4 rfl rfl (by conv => lhs; whnf) (lt_of_ble rfl)
    apply Wk.gon 24 rfl rfl
    apply Wk.bin rfl rfl (r := .bool true) (fun w => by simp [go_sem]) (lt_of_ble rfl)
    apply Wk.pckT rfl (by conv => lhs; whnf) (lt_of_ble rfl)
    apply Wk.mv (by conv => lhs; whnf) (lt_of_ble rfl)
    apply Wk.gon 31 rfl rfl
    apply Wk.fad 4 0 false fd24_4 rfl (lt_of_ble rfl)
    apply Wk.gon 31 rfl rfl
    apply Wk.ld (i := 2) 1 false ty4 rfl rfl (by conv => lhs; whnf) (lt_of_ble rfl)
    apply Wk.gon 31 rfl rfl
    apply Wk.fad 4 0 false fd24_4 rfl (lt_of_ble rfl)
    apply Wk.gon 31 rfl rfl
    apply Wk.ld (i := 3) 1 false ty4 rfl rfl (by conv => lhs; whnf) (lt_of_ble rfl)
    apply Wk.gon 31 rfl rfl
    apply Wk.bin rfl rfl (r := .bool false) (fun w => by simp [go_sem, h4]) (lt_of_ble rfl)
    apply Wk.pckT rfl (by conv => lhs; whnf) (lt_of_ble rfl)
    apply Wk.mv (by conv => lhs; whnf) (lt_of_ble rfl)
    apply Wk.goff 38 (ok_faddr fd24_5) rfl rfl (by decide)
    apply Wk.goff 38 (ok_load 2 ty3) rfl rfl (by decide)
    apply Wk.goff 38 (ok_faddr fd24_5) rfl rfl (by decide)
    apply Wk.goff 38 (ok_load 3 ty3) rfl rfl (by decide)
    apply Wk.goff 38 (ok_bin _ _ _ _ _) rfl rfl (by decide)
    apply Wk.pckF rfl (by conv => lhs; whnf) (lt_of_ble rfl)
    apply Wk.mv (by conv => lhs; whnf) (lt_of_ble rfl)
    apply Wk.goff 45 (ok_faddr fd24_6) rfl rfl (by decide)
    apply Wk.goff 45 (ok_load 2 ty3) rfl rfl (by decide)
    apply Wk.goff 45 (ok_faddr fd24_6) rfl rfl (by decide)
    apply Wk.goff 45 (ok_load 3 ty3) rfl rfl (by decide)
    apply Wk.goff 45 (ok_bin _ _ _ _ _) rfl rfl (by decide)
    apply Wk.pckF rfl (by conv => lhs; whnf) (lt_of_ble rfl)
    apply Wk.mv (by conv => lhs; whnf) (lt_of_ble rfl)
    apply Wk.goff 52 (ok_faddr fd24_7) rfl rfl (by decide)
    apply Wk.goff 52 (ok_load 2 ty3) rfl rfl (by decide)
    apply Wk.goff 52 (ok_faddr fd24_7) rfl rfl (by decide)
    apply Wk.goff 52 (ok_load 3 ty3) rfl rfl (by decide)
    apply Wk.goff 52 (ok_bin _ _ _ _ _) rfl rfl (by decide)
    apply Wk.pckF rfl (by conv => lhs; whnf) (lt_of_ble rfl)
    apply Wk.mv (by conv => lhs; whnf) (lt_of_ble rfl)
    apply Wk.goff 59 (ok_faddr fd24_8) rfl rfl (by decide)
    apply Wk.goff 59 (ok_load 2 ty22) rfl rfl (by decide)
    apply Wk.goff 59 (ok_faddr fd24_8) rfl rfl (by decide)
    apply Wk.goff 59 (ok_load 3 ty22) rfl rfl (by decide)
    apply Wk.goff 59 (ok_datw ((liBytes_ok [] []).w rfl) Tryd.func10 rfl rfl) rfl rfl (by decide)
    apply Wk.pckF rfl (by conv => lhs; whnf) (lt_of_ble rfl)
    apply Wk.asg (by conv => lhs; whnf) (lt_of_ble rfl)
    refine Wk.nil (AW.ret ?_)
    exact RetQ.ret [] (.cons rfl .nil) ⟨rfl, rfl⟩ none_kept
  subst h4
  by_cases h5 : y = y'
  case neg =>
    clear h
    refine Spec.intro (n := 66) (rv := [.tmp 4]) Tryd.func12 rfl rfl rfl (by simp) fun C hN hX => ?_
    refine AW.seq ?_
    apply AW.list
    apply Wk.bx 2 rfl rfl (lt_of_ble rfl)
    apply Wk.bx 3 rfl rfl (lt_of_ble rfl)
    apply Wk.asg (by conv => lhs; whnf) (lt_of_ble rfl)
    refine Wk.nil ?_
    refine AW.seq ?_
    apply AW.list
    apply Wk.fad 0 0 false fd24_0 rfl (lt_of_ble rfl)
    apply Wk.ld (i := 2) 1 false ty3 rfl rfl (by conv => lhs; whnf) (lt_of_ble rfl)
    apply Wk.fad 0 0 false fd24_0 rfl (lt_of_ble rfl)
    apply Wk.ld (i := 3) 1 false ty3 rfl rfl (by conv => lhs; whnf) (lt_of_ble rfl)
    apply Wk.bin rfl rfl (r := .bool true) (fun w => by simp [go_sem]) (lt_of_ble rfl)
    apply Wk.mv (by conv => lhs; whnf) (lt_of_ble rfl)
    apply Wk.gon 10 rfl rfl
    apply Wk.fad 1 0 false fd24_1 rfl (lt_of_ble rfl)
    apply Wk.gon 10 rfl rfl
    apply Wk.ld (i := 2) 1 false ty3 rfl rfl (by conv => lhs; whnf) (lt_of_ble rfl)
    apply Wk.gon 10 rfl rfl
    apply Wk.fad 1 0 false fd24_1 rfl (lt_of_ble rfl)
    apply Wk.gon 10 rfl rfl
    apply Wk.ld (i := 3) 1 false ty3 rfl rfl (by conv => lhs; whnf) (lt_of_ble rfl)
    apply Wk.gon 10 rfl rfl
    apply Wk.bin rfl rfl (r := .bool true) (fun w => by simp [go_sem]) (lt_of_ble rfl)
    apply Wk.pckT rfl (by conv => lhs; whnf) (lt_of_ble rfl)
    apply Wk.mv (by conv => lhs; whnf) (lt_of_ble rfl)
    apply Wk.gon 17 rfl rfl
    apply Wk.fad 2 0 false fd24_2 rfl (lt_of_ble rfl)
    apply Wk.gon 17 rfl rfl
    apply Wk.ld (i := 2) 1 false ty3 rfl rfl (by conv => lhs; whnf) (lt_of_ble rfl)
    apply Wk.gon 17 rfl rfl
    apply Wk.fad 2 0 false fd24_2 rfl (lt_of_ble rfl)
    apply Wk.gon 17 rfl rfl
    apply Wk.ld (i := 3) 1 false ty3 rfl rfl (by conv => lhs; whnf) (lt_of_ble rfl)
    apply Wk.gon 17 rfl rfl
    apply Wk.bin rfl rfl (r := .bool true) (fun w => by simp [go_sem]) (lt_of_ble rfl)
    apply Wk.pckT rfl (by conv => lhs; whnf) (lt_of_ble rfl)
    apply Wk.mv (by conv => lhs; whnf) (lt_of_ble rfl)
    apply Wk.gon 24 rfl rfl
    apply Wk.fad 3 0 false fd24_3 rfl (lt_of_ble rfl)
    apply Wk.gon 24 rfl rfl
    apply Wk.ld (i := 2) 1 false ty4 rfl rfl (by conv => lhs; whnf) (lt_of_ble rfl)
    apply Wk.gon 24 rfl rfl
    apply Wk.fad 3 0 false fd24_3 rfl (lt_of_ble rfl)
    apply Wk.gon 24 rfl rfl
    apply Wk.ld (i := 3) 1 false ty4 rfl rfl (by conv => lhs; whnf) (lt_of_ble rfl)
    apply Wk.gon 24 rfl rfl
    apply Wk.bin rfl rfl (r := .bool true) (fun w => by simp [go_sem]) (lt_of_ble rfl)
    apply Wk.pckT rfl (by conv => lhs; whnf) (lt_of_ble rfl)
    apply Wk.mv (by conv => lhs; whnf) (lt_of_ble rfl)
    apply Wk.gon 31 rfl rfl
    apply Wk.fad 4 0 false fd24_4 rfl (lt_of_ble rfl)
    apply Wk.gon 31 rfl rfl
    apply Wk.ld (i := 2) 1 false ty4 rfl rfl (by conv => lhs; whnf) (lt_of_ble rfl)
    apply Wk.gon 31 rfl rfl
    apply Wk.fad 4 0 false fd24_4 rfl (lt_of_ble rfl)
    apply Wk.gon 31 rfl rfl
    apply Wk.ld (i := 3) 1 false ty4 rfl rfl (by conv => lhs; whnf) (lt_of_ble rfl)
    apply Wk.gon 31 rfl rfl
    apply Wk.bin rfl rfl (r := .bool true) (fun w => by simp [go_sem]) (lt_of_ble rfl)
    apply Wk.pckT rfl (by conv => lhs; whnf) (lt_of_ble rfl)
    apply Wk.mv (by conv => lhs; whnf) (lt_of_ble rfl)
    apply Wk.gon 38 rfl rfl
    apply Wk.fad 5 0 false fd24_5 rfl (lt_of_ble rfl)
    apply Wk.gon 38 rfl rfl
    apply Wk.ld (i := 2) 1 false ty3 rfl rfl (by conv => lhs; whnf) (lt_of_ble rfl)
    apply Wk.gon 38 rfl rfl
    apply Wk.fad 5 0 false fd24_5 rfl (lt_of_ble rfl)
    apply Wk.gon 38 rfl rfl
    apply Wk.ld (i := 3) 1 false ty3 rfl rfl (by conv => lhs; whnf) (lt_of_ble rfl)
    apply Wk.gon 38 rfl rfl
    apply Wk.bin rfl rfl (r := .bool false) (fun w => by simp [go_sem, h5]) (lt_of_ble rfl)
    apply Wk.pckT rfl (by conv => lhs; whnf) (lt_of_ble rfl)
    apply Wk.mv (by conv => lhs; whnf) (lt_of_ble rfl)
    apply Wk.goff 45 (ok_faddr fd24_6) rfl rfl (by decide)
    apply Wk.goff 45 (ok_load 2 ty3) rfl rfl (by decide)
    apply Wk.goff 45 (ok_faddr fd24_6) rfl rfl (by decide)
    apply Wk.goff 45 (ok_load 3 ty3) rfl rfl (by decide)
    apply Wk.goff 45 (ok_bin _ _ _ _ _) rfl rfl (by decide)
    apply Wk.pckF rfl (by conv => lhs; whnf) (lt_of_ble rfl)
    apply Wk.mv (by conv => lhs; whnf) (lt_of_ble rfl)
    apply Wk.goff 52 (ok_faddr fd24_7) rfl rfl (by decide)
    apply Wk.goff 52 (ok_load 2 ty3) rfl rfl (by decide)
    apply Wk.goff 52 (ok_faddr fd24_7) rfl rfl (by decide)
    apply Wk.goff 52 (ok_load 3 ty3) rfl rfl (by decide)
    apply Wk.goff 52 (ok_bin _ _ _ _ _) rfl rfl (by decide)
    apply Wk.pckF rfl (by conv => lhs; whnf) (lt_of_ble rfl)
    apply Wk.mv (by conv => lhs; whnf) (lt_of_ble rfl)
    apply Wk.goff 59 (ok_faddr fd24_8) rfl rfl (by decide)
    apply Wk.goff 59 (ok_load 2 ty22) rfl rfl (by decide)
    apply Wk.goff 59 (ok_faddr fd24_8) rfl rfl (by decide)
    apply Wk.goff 59 (ok_load 3 ty22) rfl rfl (by decide)
    apply Wk.goff 59 (ok_datw ((liBytes_ok [] []).w rfl) Tryd.func10 rfl rfl) rfl rfl (by decide)
    apply Wk.pckF rfl (by conv => lhs; whnf) (lt_of_ble rfl)
    apply Wk.asg (by conv => lhs; whnf) (lt_of_ble rfl)
    refine Wk.nil (AW.ret ?_)
    exact RetQ.ret [] (.cons rfl .nil) ⟨rfl, rfl⟩ none_kept
  subst h5
  by_cases h6 : g = g'
  case neg =>
    clear h
    refine Spec.intro (n := 66) (rv := [.tmp 4]) Tryd.func12 rfl rfl rfl (by simp) fun C hN hX => ?_
    refine AW.seq ?_
    apply AW.list
    apply Wk.bx 2 rfl rfl (lt_of_ble rfl)
    apply Wk.bx 3 rfl rfl (lt_of_ble rfl)
    apply Wk.asg (by conv => lhs; whnf) (lt_of_ble rfl)
    refine Wk.nil ?_
    refine AW.seq ?_
    apply AW.list
    apply Wk.fad 0 0 false fd24_0 rfl (lt_of_ble rfl)
    apply Wk.ld (i := 2) 1 false ty3 rfl rfl (by conv => lhs; whnf) (lt_of_ble rfl)
    apply Wk.fad 0 0 false fd24_0 rfl (lt_of_ble rfl)
    apply Wk.ld (i := 3) 1 false ty3 rfl rfl (by conv => lhs; whnf) (lt_of_ble rfl)
    apply Wk.bin rfl rfl (r := .bool true) (fun w => by simp [go_sem]) (lt_of_ble rfl)
    apply Wk.mv (by conv => lhs; whnf) (lt_of_ble rfl)
    apply Wk.gon 10 rfl rfl
    apply Wk.fad 1 0 false fd24_1 rfl (lt_of_ble rfl)
    apply Wk.gon 10 rfl rfl
    apply Wk.ld (i := 2) 1 false ty3 rfl rfl (by conv => lhs; whnf) (lt_of_ble rfl)
    apply Wk.gon 10 rfl rfl
    apply Wk.fad 1 0 false fd24_1 rfl (lt_of_ble rfl)
    apply Wk.gon 10 rfl rfl
    apply Wk.ld (i := 3) 1 false ty3 rfl rfl (by conv => lhs; whnf) (lt_of_ble rfl)
    apply Wk.gon 10 rfl rfl
    apply Wk.bin rfl rfl (r := .bool true) (fun w => by simp [go_sem]) (lt_of_ble rfl)
    apply Wk.pckT rfl (by conv => lhs; whnf) (lt_of_ble rfl)
    apply Wk.mv (by conv => lhs; whnf) (lt_of_ble rfl)
    apply Wk.gon 17 rfl rfl
    apply Wk.fad 2 0 false fd24_2 rfl (lt_of_ble rfl)
    apply Wk.gon 17 rfl rfl
    apply Wk.ld (i := 2) 1 false ty3 rfl rfl (by conv => lhs; whnf) (lt_of_ble rfl)
    apply Wk.gon 17 rfl rfl
    apply Wk.fad 2 0 false fd24_2 rfl (lt_of_ble rfl)
    apply Wk.gon 17 rfl rfl
    apply Wk.ld (i := 3) 1 false ty3 rfl rfl (by conv => lhs; whnf) (lt_of_ble rfl)
    apply Wk.gon 17 rfl rfl
    apply Wk.bin rfl rfl (r := .bool true) (fun w => by simp [go_sem]) (lt_of_ble rfl)
    apply Wk.pckT rfl (by conv => lhs; whnf) (lt_of_ble rfl)
    apply Wk.mv (by conv => lhs; whnf) (lt_of_ble rfl)
    apply Wk.gon 24 rfl rfl
    apply Wk.fad 3 0 false fd24_3 rfl (lt_of_ble rfl)
    apply Wk.gon 24 rfl rfl
    apply Wk.ld (i := 2) 1 false ty4 rfl rfl (by conv => lhs; whnf) (lt_of_ble rfl)
    apply Wk.gon 24 rfl rfl
    apply Wk.fad 3 0 false fd24_3 rfl (lt_of_ble rfl)
    apply Wk.gon 24 rfl rfl
    apply Wk.ld (i := 3) 1 false ty4 rfl rfl (by conv => lhs; whnf) (lt_of_ble rfl)
    apply Wk.gon 24 rfl rfl
    apply Wk.bin rfl rfl (r := .bool true) (fun w => by simp [go_sem]) (lt_of_ble rfl)
    apply Wk.pckT rfl (by conv => lhs; whnf) (lt_of_ble rfl)
    apply Wk.mv (by conv => lhs; whnf) (lt_of_ble rfl)
    apply Wk.gon 31 rfl rfl
    apply Wk.fad 4 0 false fd24_4 rfl (lt_of_ble rfl)
    apply Wk.gon 31 rfl rfl
    apply Wk.ld (i := 2) 1 false ty4 rfl rfl (by conv => lhs; whnf) (lt_of_ble rfl)
    apply Wk.gon 31 rfl rfl
    apply Wk.fad 4 0 false fd24_4 rfl (lt_of_ble rfl)
    apply Wk.gon 31 rfl rfl
    apply Wk.ld (i := 3) 1 false ty4 rfl rfl (by conv => lhs; whnf) (lt_of_ble rfl)
    apply Wk.gon 31 rfl rfl
    apply Wk.bin rfl rfl (r := .bool true) (fun w => by simp [go_sem]) (lt_of_ble rfl)
    apply Wk.pckT rfl (by conv => lhs; whnf) (lt_of_ble rfl)
    apply Wk.mv (by conv => lhs; whnf) (lt_of_ble rfl)
    apply Wk.gon 38 rfl rfl
    apply Wk.fad 5 0 false fd24_5 rfl (lt_of_ble rfl)
    apply Wk.gon 38 rfl rfl
    apply Wk.ld (i := 2) 1 false ty3 rfl rfl (by conv => lhs; whnf) (lt_of_ble rfl)
    apply Wk.gon 38 rfl rfl
    apply Wk.fad 5 0 false fd24_5 rfl (lt_of_ble rfl)
    apply Wk.gon 38 rfl rfl
    apply Wk.ld (i := 3) 1 false ty3 rfl rfl (by conv => lhs; whnf) (lt_of_ble rfl)
    apply Wk.gon 38 rfl rfl
    apply Wk.bin rfl rfl (r := .bool true) (fun w => by simp [go_sem]) (lt_of_ble rfl)
    apply Wk.pckT rfl (by conv => lhs; whnf) (lt_of_ble rfl)
    apply Wk.mv (by conv => lhs; whnf) (lt_of_ble rfl)
    apply Wk.gon 45 rfl rfl
    apply Wk.fad 6 0 false fd24_6 rfl (lt_of_ble rfl)
    apply Wk.gon 45 rfl rfl
    apply Wk.ld (i := 2) 1 false ty3 rfl rfl (by conv => lhs; whnf) (lt_of_ble rfl)
    apply Wk.gon 45 rfl rfl
    apply Wk.fad 6 0 false fd24_6 rfl (lt_of_ble rfl)
    apply Wk.gon 45 rfl rfl
    apply Wk.ld (i := 3) 1 false ty3 rfl rfl (by conv => lhs; whnf) (lt_of_ble rfl)
    apply Wk.gon 45 rfl rfl
    apply Wk.bin rfl rfl (r := .bool false) (fun w => by simp [go_sem, h6]) (lt_of_ble rfl)
    apply Wk.pckT rfl (by conv => lhs; whnf) (lt_of_ble rfl)
    apply Wk.mv (by conv => lhs; whnf) (lt_of_ble rfl)
    apply Wk.goff 52 (ok_faddr fd24_7) rfl rfl (by decide)
    apply Wk.goff 52 (ok_load 2 ty3) rfl rfl (by decide)
    apply Wk.goff 52 (ok_faddr fd24_7) rfl rfl (by decide)
    apply Wk.goff 52 (ok_load 3 ty3) rfl rfl (by decide)
    apply Wk.goff 52 (ok_bin _ _ _ _ _) rfl rfl (by decide)
    apply Wk.pckF rfl (by conv => lhs; whnf) (lt_of_ble rfl)
    apply Wk.mv (by conv => lhs; whnf) (lt_of_ble rfl)
    apply Wk.goff 59 (ok_faddr fd24_8) rfl rfl (by decide)
    apply Wk.goff 59 (ok_load 2 ty22) rfl rfl (by decide)
    apply Wk.goff 59 (ok_faddr fd24_8) rfl rfl (by decide)
    apply Wk.goff 59 (ok_load 3 ty22) rfl rfl (by decide)
    apply Wk.goff 59 (ok_datw ((liBytes_ok [] []).w rfl) Tryd.func10 rfl rfl) rfl rfl (by decide)
    apply Wk.pckF rfl (by conv => lhs; whnf) (lt_of_ble rfl)
    apply Wk.asg (by conv => lhs; whnf) (lt_of_ble rfl)
    refine Wk.nil (AW.ret ?_)
    exact RetQ.ret [] (.cons rfl .nil) ⟨rfl, rfl⟩ none_kept
  subst h6
  by_cases h7 : l = l'
  case neg =>
    clear h
    refine Spec.intro (n := 66) (rv := [.tmp 4]) Tryd.func12 rfl rfl rfl (by simp) fun C hN hX => ?_
    refine AW.seq ?_
    apply AW.list
    apply Wk.bx 2 rfl rfl (lt_of_ble rfl)
    apply Wk.bx 3 rfl rfl (lt_of_ble rfl)
    apply Wk.asg (by conv => lhs; whnf) (lt_of_ble rfl)
    refine Wk.nil ?_
    refine AW.seq ?_
    apply AW.list
    apply Wk.fad 0 0 false fd24_0 rfl (lt_of_ble rfl)
    apply Wk.ld (i := 2) 1 false ty3 rfl rfl (by conv => lhs; whnf) (lt_of_ble rfl)
    apply Wk.fad 0 0 false fd24_0 rfl (lt_of_ble rfl)
    apply Wk.ld (i := 3) 1 false ty3 rfl rfl (by conv => lhs; whnf) (lt_of_ble rfl)
    apply Wk.bin rfl rfl (r := .bool true) (fun w => by simp [go_sem]) (lt_of_ble rfl)
    apply Wk.mv (by conv => lhs; whnf) (lt_of_ble rfl)
    apply Wk.gon 10 rfl rfl
    apply Wk.fad 1 0 false fd24_1 rfl (lt_of_ble rfl)
    apply Wk.gon 10 rfl rfl
    apply Wk.ld (i := 2) 1 false ty3 rfl rfl (by conv => lhs; whnf) (lt_of_ble rfl)
    apply Wk.gon 10 rfl rfl
    apply Wk.fad 1 0 false fd24_1 rfl (lt_of_ble rfl)
    apply Wk.gon 10 rfl rfl
    apply Wk.ld (i := 3) 1 false ty3 rfl rfl (by conv => lhs; whnf) (lt_of_ble rfl)
    apply Wk.gon 10 rfl rfl
    apply Wk.bin rfl rfl (r := .bool true) (fun w => by simp [go_sem]) (lt_of_ble rfl)
    apply Wk.pckT rfl (by conv => lhs; whnf) (lt_of_ble rfl)
    apply Wk.mv (by conv => lhs; whnf) (lt_of_ble rfl)
    apply Wk.gon 17 rfl rfl
    apply Wk.fad 2 0 false fd24_2 rfl (lt_of_ble rfl)
    apply Wk.gon 17 rfl rfl
    apply Wk.ld (i := 2) 1 false ty3 rfl rfl (by conv => lhs; whnf) (lt_of_ble rfl)
    apply Wk.gon 17 rfl rfl
    apply Wk.fad 2 0 false fd24_2 rfl (lt_of_ble rfl)
    apply Wk.gon 17 rfl rfl
    apply Wk.ld (i := 3) 1 false ty3 rfl rfl (by conv => lhs; whnf) (lt_of_ble rfl)
    apply Wk.gon 17 rfl rfl
    apply Wk.bin rfl rfl (r := .bool true) (fun w => by simp [go_sem]) (lt_of_ble rfl)
    apply Wk.pckT rfl (by conv => lhs; whnf) (lt_of_ble rfl)
    apply Wk.mv (by conv => lhs; whnf) (lt_of_ble rfl)
    apply Wk.gon 24 rfl rfl
    apply Wk.fad 3 0 false fd24_3 rfl (lt_of_ble rfl)
    apply Wk.gon 24 rfl rfl
    apply Wk.ld (i := 2) 1 false ty4 rfl rfl (by conv => lhs; whnf) (lt_of_ble rfl)
    apply Wk.gon 24 rfl rfl
    apply Wk.fad 3 0 false fd24_3 rfl (lt_of_ble rfl)
    apply Wk.gon 24 rfl rfl
    apply Wk.ld (i := 3) 1 false ty4 rfl rfl (by conv => lhs; whnf) (lt_of_ble rfl)
    apply Wk.gon 24 rfl rfl
    apply Wk.bin rfl rfl (r := .bool true) (fun w => by simp [go_sem]) (lt_of_ble rfl)
    apply Wk.pckT rfl (by conv => lhs; whnf) (lt_of_ble rfl)
    apply Wk.mv (by conv => lhs; whnf) (lt_of_ble rfl)
    apply Wk.gon 31 rfl rfl
    apply Wk.fad 4 0 false fd24_4 rfl (lt_of_ble rfl)
    apply Wk.gon 31 rfl rfl
    apply Wk.ld (i := 2) 1 false ty4 rfl rfl (by conv => lhs; whnf) (lt_of_ble rfl)
    apply Wk.gon 31 rfl rfl
    apply Wk.fad 4 0 false fd24_4 rfl (lt_of_ble rfl)
    apply Wk.gon 31 rfl rfl
    apply Wk.ld (i := 3) 1 false ty4 rfl rfl (by conv => lhs; whnf) (lt_of_ble rfl)
    apply Wk.gon 31 rfl rfl
    apply Wk.bin rfl rfl (r := .bool true) (fun w => by simp [go_sem]) (lt_of_ble rfl)
    apply Wk.pckT rfl (by conv => lhs; whnf) (lt_of_ble rfl)
    apply Wk.mv (by conv => lhs; whnf) (lt_of_ble rfl)
    apply Wk.gon 38 rfl rfl
    apply Wk.fad 5 0 false fd24_5 rfl (lt_of_ble rfl)
    apply Wk.gon 38 rfl rfl
    apply Wk.ld (i := 2) 1 false ty3 rfl rfl (by conv => lhs; whnf) (lt_of_ble rfl)
    apply Wk.gon 38 rfl rfl
    apply Wk.fad 5 0 false fd24_5 rfl (lt_of_ble rfl)
    apply Wk.gon 38 rfl rfl
    apply Wk.ld (i := 3) 1 false ty3 rfl rfl (by conv => lhs; whnf) (lt_of_ble rfl)
    apply Wk.gon 38 rfl rfl
    apply Wk.bin rfl rfl (r := .bool true) (fun w => by simp [go_sem]) (lt_of_ble rfl)
    apply Wk.pckT rfl (by conv => lhs; whnf) (lt_of_ble rfl)
    apply Wk.mv (by conv => lhs; whnf) (lt_of_ble rfl)
    apply Wk.gon 45 rfl rfl
    apply Wk.fad 6 0 false fd24_6 rfl (lt_of_ble rfl)
    apply Wk.gon 45 rfl rfl
    apply Wk.ld (i := 2) 1 false ty3 rfl rfl (by conv => lhs; whnf) (lt_of_ble rfl)
    apply Wk.gon 45 rfl rfl
    apply Wk.fad 6 0 false fd24_6 rfl (lt_of_ble rfl)
    apply Wk.gon 45 rfl rfl
    apply Wk.ld (i := 3) 1 false ty3 rfl rfl (by conv => lhs; whnf) (lt_of_ble rfl)
    apply Wk.gon 45 rfl rfl
    apply Wk.bin rfl rfl (r := .bool true) (fun w => by simp [go_sem]) (lt_of_ble rfl)
    apply Wk.pckT rfl (by conv => lhs; whnf) (lt_of_ble rfl)
    apply Wk.mv (by conv => lhs; whnf) (lt_of_ble rfl)
    apply Wk.gon 52 rfl rfl
    apply Wk.fad 7 0 false fd24_7 rfl (lt_of_ble rfl)
    apply Wk.gon 52 rfl rfl
    apply Wk.ld (i := 2) 1 false ty3 rfl rfl (by conv => lhs; whnf) (lt_of_ble rfl)
    apply Wk.gon 52 rfl rfl
    apply Wk.fad 7 0 false fd24_7 rfl (lt_of_ble rfl)
    apply Wk.gon 52 rfl rfl
    apply Wk.ld (i := 3) 1 false ty3 rfl rfl (by conv => lhs; whnf) (lt_of_ble rfl)
    apply Wk.gon 52 rfl rfl
    apply Wk.bin rfl rfl (r := .bool false) (fun w => by simp [go_sem, h7]) (lt_of_ble rfl)
    apply Wk.pckT rfl (by conv => lhs; whnf) (lt_of_ble rfl)
    apply Wk.mv (by conv => lhs; whnf) (lt_of_ble rfl)
    apply Wk.goff 59 (ok_faddr fd24_8) rfl rfl (by decide)
    apply Wk.goff 59 (ok_load 2 ty22) rfl rfl (by decide)
    apply Wk.goff 59 (ok_faddr fd24_8) rfl rfl (by decide)
    apply Wk.goff 59 (ok_load 3 ty22) rfl rfl (by decide)
    apply Wk.goff 59 (ok_datw ((liBytes_ok [] []).w rfl) Tryd.func10 rfl rfl) rfl rfl (by decide)
    apply Wk.pckF rfl (by conv => lhs; whnf) (lt_of_ble rfl)
    apply Wk.asg (by conv => lhs; whnf) (lt_of_ble rfl)
    refine Wk.nil (AW.ret ?_)
    exact RetQ.ret [] (.cons rfl .nil) ⟨rfl, rfl⟩ none_kept
  subst h7
  have hb : bs.map (·.val) ≠ bs'.map (·.val) := fun e => h ⟨rfl, rfl, rfl, rfl, rfl, rfl, rfl, rfl, (List.map_inj_right (fun a b => Fin.eq_of_val_eq)).1 e⟩
  clear h
  have hB := liBytes_ok (bs.map (·.val)) (bs'.map (·.val))
  rw [decide_eq_false hb] at hB
  refine Spec.intro (n := 66) (rv := [.tmp 4]) Tryd.func12 rfl rfl rfl (by simp) fun C hN hX => ?_
  refine AW.seq ?_
  apply AW.list
  apply Wk.bx 2 rfl rfl (lt_of_ble rfl)
  apply Wk.bx 3 rfl rfl (lt_of_ble rfl)
  apply Wk.asg (by conv => lhs; whnf) (lt_of_ble rfl)
  refine Wk.nil ?_
  refine AW.seq ?_
  apply AW.list
  apply Wk.fad 0 0 false fd24_0 rfl (lt_of_ble rfl)
  apply Wk.ld (i := 2) 1 false ty3 rfl rfl (by conv => lhs; whnf) (lt_of_ble rfl)
  apply Wk.fad 0 0 false fd24_0 rfl (lt_of_ble rfl)
  apply Wk.ld (i := 3) 1 false ty3 rfl rfl (by conv => lhs; whnf) (lt_of_ble rfl)
  apply Wk.bin rfl rfl (r := .bool true) (fun w => by simp [go_sem]) (lt_of_ble rfl)
  apply Wk.mv (by conv => lhs; whnf) (lt_of_ble rfl)
  apply Wk.gon 10 rfl rfl
  apply Wk.fad 1 0 false fd24_1 rfl (lt_of_ble rfl)
  apply Wk.gon 10 rfl rfl
  apply Wk.ld (i := 2) 1 false ty3 rfl rfl (by conv => lhs; whnf) (lt_of_ble rfl)
  apply Wk.gon 10 rfl rfl
  apply Wk.fad 1 0 false fd24_1 rfl (lt_of_ble rfl)
  apply Wk.gon 10 rfl rfl
  apply Wk.ld (i := 3) 1 false ty3 rfl rfl (by conv => lhs; whnf) (lt_of_ble rfl)
  apply Wk.gon 10 rfl rfl
  apply Wk.bin rfl rfl (r := .bool true) (fun w => by simp [go_sem]) (lt_of_ble rfl)
  apply Wk.pckT rfl (by conv => lhs; whnf) (lt_of_ble rfl)
  apply Wk.mv (by conv => lhs; whnf) (lt_of_ble rfl)
  apply Wk.gon 17 rfl rfl
  apply Wk.fad 2 0 false fd24_2 rfl (lt_of_ble rfl)
  apply Wk.gon 17 rfl rfl
  apply Wk.ld (i := 2) 1 false ty3 rfl rfl (by conv => lhs; whnf) (lt_of_ble rfl)
  apply Wk.gon 17 rfl rfl
  apply Wk.fad 2 0 false fd24_2 rfl (lt_of_ble rfl)
  apply Wk.gon 17 rfl rfl
  apply Wk.ld (i := 3) 1 false ty3 rfl rfl (by conv => lhs; whnf) (lt_of_ble rfl)
  apply Wk.gon 17 rfl rfl
  apply Wk.bin rfl rfl (r := .bool true) (fun w => by simp [go_sem]) (lt_of_ble rfl)
  apply Wk.pckT rfl (by conv => lhs; whnf) (lt_of_ble rfl)
  apply Wk.mv (by conv => lhs; whnf) (lt_of_ble rfl)
  apply Wk.gon 24 rfl rfl
  apply Wk.fad 3 0 false fd24_3 rfl (lt_of_ble rfl)
  apply Wk.gon 24 rfl rfl
  apply Wk.ld (i := 2) 1 false ty4 rfl rfl (by conv => lhs; whnf) (lt_of_ble rfl)
  apply Wk.gon 24 rfl rfl
  apply Wk.fad 3 0 false fd24_3 rfl (lt_of_ble rfl)
  apply Wk.gon 24 rfl rfl
  apply Wk.ld (i := 3) 1 false ty4 rfl rfl (by conv => lhs; whnf) (lt_of_ble rfl)
  apply Wk.gon 24 rfl rfl
  apply Wk.bin rfl rfl (r := .bool true) (fun w => by simp [go_sem]) (lt_of_ble rfl)
  apply Wk.pckT rfl (by conv => lhs; whnf) (lt_of_ble rfl)
  apply Wk.mv (by conv => lhs; whnf) (lt_of_ble rfl)
  apply Wk.gon 31 rfl rfl
  apply Wk.fad 4 0 false fd24_4 rfl (lt_of_ble rfl)
  apply Wk.gon 31 rfl rfl
  apply Wk.ld (i := 2) 1 false ty4 rfl rfl (by conv => lhs; whnf) (lt_of_ble rfl)
  apply Wk.gon 31 rfl rfl
  apply Wk.fad 4 0 false fd24_4 rfl (lt_of_ble rfl)
  apply Wk.gon 31 rfl rfl
  apply Wk.ld (i := 3) 1 false ty4 rfl rfl (by conv => lhs; whnf) (lt_of_ble rfl)
  apply Wk.gon 31 rfl rfl
  apply Wk.bin rfl rfl (r := .bool true) (fun w => by simp [go_sem]) (lt_of_ble rfl)
  apply Wk.pckT rfl (by conv => lhs; whnf) (lt_of_ble rfl)
  apply Wk.mv (by conv => lhs; whnf) (lt_of_ble rfl)
  apply Wk.gon 38 rfl rfl
  apply Wk.fad 5 0 false fd24_5 rfl (lt_of_ble rfl)
  apply Wk.gon 38 rfl rfl
  apply Wk.ld (i := 2) 1 false ty3 rfl rfl (by conv => lhs; whnf) (lt_of_ble rfl)
  apply Wk.gon 38 rfl rfl
  apply Wk.fad 5 0 false fd24_5 rfl (lt_of_ble rfl)
  apply Wk.gon 38 rfl rfl
  apply Wk.ld (i := 3) 1 false ty3 rfl rfl (by conv => lhs; whnf) (lt_of_ble rfl)
  apply Wk.gon 38 rfl rfl
  apply Wk.bin rfl rfl (r := .bool true) (fun w => by simp [go_sem]) (lt_of_ble rfl)
  apply Wk.pckT rfl (by conv => lhs; whnf) (lt_of_ble rfl)
  apply Wk.mv (by conv => lhs; whnf) (lt_of_ble rfl)
  apply Wk.gon 45 rfl rfl
  apply Wk.fad 6 0 false fd24_6 rfl (lt_of_ble rfl)
  apply Wk.gon 45 rfl rfl
  apply Wk.ld (i := 2) 1 false ty3 rfl rfl (by conv => lhs; whnf) (lt_of_ble rfl)
  apply Wk.gon 45 rfl rfl
  apply Wk.fad 6 0 false fd24_6 rfl (lt_of_ble rfl)
  apply Wk.gon 45 rfl rfl
  apply Wk.ld (i := 3) 1 false ty3 rfl rfl (by conv => lhs; whnf) (lt_of_ble rfl)
  apply Wk.gon 45 rfl rfl
  apply Wk.bin rfl rfl (r := .bool true) (fun w => by simp [go_sem]) (lt_of_ble rfl)
  apply Wk.pckT rfl (by conv => lhs; whnf) (lt_of_ble rfl)
  apply Wk.mv (by conv => lhs; whnf) (lt_of_ble rfl)
  apply Wk.gon 52 rfl rfl
  apply Wk.fad 7 0 false fd24_7 rfl (lt_of_ble rfl)
  apply Wk.gon 52 rfl rfl
  apply Wk.ld (i := 2) 1 false ty3 rfl rfl (by conv => lhs; whnf) (lt_of_ble rfl)
  apply Wk.gon 52 rfl rfl
  apply Wk.fad 7 0 false fd24_7 rfl (lt_of_ble rfl)
  apply Wk.gon 52 rfl rfl
  apply Wk.ld (i := 3) 1 false ty3 rfl rfl (by conv => lhs; whnf) (lt_of_ble rfl)
  apply Wk.gon 52 rfl rfl
  apply Wk.bin rfl rfl (r := .bool true) (fun w => by simp [go_sem]) (lt_of_ble rfl)
  apply Wk.pckT rfl (by conv => lhs; whnf) (lt_of_ble rfl)
  apply Wk.mv (by conv => lhs; whnf) (lt_of_ble rfl)
  apply Wk.gon 59 rfl rfl
  apply Wk.fad 8 0 false fd24_8 rfl (lt_of_ble rfl)
  apply Wk.gon 59 rfl rfl
  apply Wk.ld (i := 2) 1 false ty22 rfl rfl (by conv => lhs; whnf) (lt_of_ble rfl)
  apply Wk.gon 59 rfl rfl
  apply Wk.fad 8 0 false fd24_8 rfl (lt_of_ble rfl)
  apply Wk.gon 59 rfl rfl
  apply Wk.ld (i := 3) 1 false ty22 rfl rfl (by conv => lhs; whnf) (lt_of_ble rfl)
  apply Wk.gon 59 rfl rfl
  apply Wk.dat (hB) Tryd.func10 rfl rfl rfl rfl rfl (lt_of_ble rfl)
  apply Wk.pckT rfl (by conv => lhs; whnf) (lt_of_ble rfl)
  apply Wk.asg (by conv => lhs; whnf) (lt_of_ble rfl)
  refine Wk.nil (AW.ret ?_)
  exact RetQ.ret [] (.cons rfl .nil) ⟨rfl, rfl⟩ none_kept
end Go.Proofs.YthnlpdjjnfkmeaaDoor

/- errors.Is of errors of errors.New's make: true just of one and the same. Go's own text of it is walked. -/
namespace Go.Proofs.YthnlpdjjnfkmeaaDoor
open Go Go.RowKit Go.Extern.Stop Go.Stop Go.Extern
/-- A law at a code, where the variables hold what they hold. -/
theorem DataV.run {P : Program} {V : List (Nat × Value)} {f : FuncId} {s v : Value} {w : World} {zs : List Nat} (h : DataV P V f [.d (bytesD zs)] (.d (.v v))) (hV : VarsIn V w) (hR : Rd w s zs) : Calls P f #[s] w fun e w' => e = .returned v ∧ Below w.heap.size w w' := by
  have hpo : PreOk w (· < w.heap.size) (fun _ => none) (fun _ _ => none) [] :=
    ⟨fun b hb => hb, (fun i x hx => by cases hx), (fun i x b hx => by cases hx), (fun i j x y b _ hx => by cases hx), fun i _ => ⟨rfl, fun _ => rfl⟩⟩
  refine (h w hV (· < w.heap.size) (fun _ => none) (fun _ _ => none) #[s] hpo rfl (fun i a ha => ?_)).mono ?_
  · cases i with
    | succ i => simp at ha
    | zero =>
      simp only [List.getElem?_cons_zero, Option.some.injEq] at ha
      subst ha
      exact .d _ _ (rd_den hR fun b hb => hb)
  · rintro e w' ⟨v', r, bs', F', E', H', rfl, ⟨rfl, rfl⟩, po, hden⟩
    rw [den_v hden]
    exact ⟨rfl, po.os, po.tape, po.output, po.size, fun b hb => po.old b hb (fun i x hx => by cases hx)⟩
theorem tyErr : tyOf Tryd.prog 57 = some (1, false) := by kernel_rfl
theorem is_typeOf (v : Value) (w : World) : (Extern.ReflectliteType.typeOf #[.iface 127 v]).run Tryd.prog w = .ok (.iface 115 (.agg #[.pointer (some ⟨4, 127, none⟩)])) w := by kernel_rfl
theorem is_comparable (w : World) : (callFunc 103 #[.agg #[.pointer (some ⟨4, 127, none⟩)]]).run Tryd.prog w = .ok (.value (.bool true)) w := by
  rw [@run_callFunc_extern Tryd.prog 103 _ (Extern.ReflectliteType.method fun t => do Extern.Rtype.noPackHeld "Comparable" t; pure (.bool (← typeInfo t).comparable)) Tryd.func103 (by kernel_rfl) (by kernel_rfl) (by kernel_rfl) (by kernel_rfl)]
  kernel_rfl
theorem is_method (v : Value) (w : World) : (Go.method 264 115 v "Comparable").run Tryd.prog w = .ok (103, v) w := by kernel_rfl
theorem is_comp : (Tryd.prog.info? 127).map (·.comparable) = some true := by kernel_rfl
theorem is_size : (Tryd.prog.info? 153).map (·.size) = some 1 := by kernel_rfl
theorem is_noIs (v : Value) (xT : TypeId) (w : World) : (Instr.typeAssert (.iface 127 v) xT 117 true).run Tryd.prog w = .ok (.tuple #[.nilIface, .bool false]) w := run_typeAssert_lacksB Tryd.underlying117 (by kernel_rfl) (by kernel_rfl) v xT w
theorem is_noUnwrap (v : Value) (xT : TypeId) (w : World) : (Instr.typeAssert (.iface 127 v) xT 120 true).run Tryd.prog w = .ok (.tuple #[.nilIface, .bool false]) w := run_typeAssert_lacksB Tryd.underlying120 (by kernel_rfl) (by kernel_rfl) v xT w
theorem is_noUnwraps (v : Value) (xT : TypeId) (w : World) : (Instr.typeAssert (.iface 127 v) xT 122 true).run Tryd.prog w = .ok (.tuple #[.nilIface, .bool false]) w := run_typeAssert_lacksB Tryd.underlying122 (by kernel_rfl) (by kernel_rfl) v xT w
/-- An error of errors.New's make, by where its text lies. -/
def errV (a : Addr) : Value := .iface 127 (.pointer (some a))
theorem is_same (a : Addr) (w : World) : Calls Tryd.prog 44 #[errV a, errV a] w fun e w' => e = .returned (.bool true) ∧ w' = w := by
  unfold errV
  obtain ⟨i, hi, hcmp⟩ := Option.map_eq_some_iff.1 is_comp
  obtain ⟨j, hj, hjs⟩ := Option.map_eq_some_iff.1 is_size
  have h8 := @run_callFunc_extern Tryd.prog 63 _ Extern.ReflectliteType.typeOf Tryd.func63 (by kernel_rfl) (by kernel_rfl) (by kernel_rfl) (by kernel_rfl)
  have tT := is_typeOf
  have cT := is_comparable
  have mR := is_method
  have heq := run_eql_iface_ptr_same (P := Tryd.prog) w a Tryd.underlying57 Tryd.underlying127 hi hcmp hj
  go_enter Tryd.func44, Tryd.ntmps44
  go_wp2
  refine wp_loop_rounds 1 ?_
  rw [rounds_succ]
  go_wp2
  go_ret
  exact ⟨rfl, rfl⟩
theorem is_nil (b : Addr) (w : World) : Calls Tryd.prog 44 #[.nilIface, errV b] w fun e w' => e = .returned (.bool false) ∧ w' = w := by
  unfold errV
  have hn := run_eql_iface_nil_left (P := Tryd.prog) w 127 (.pointer (some b)) Tryd.underlying57
  go_enter Tryd.func44, Tryd.ntmps44
  go_wp2
  go_ret
  exact ⟨rfl, rfl⟩
theorem is_other (a b : Addr) (ca cb : Array Value) (ta tb : TypeId) (w : World) (hne : a ≠ b) (ha : w.heap[a.block]? = some (.cells ca ta (0, 0))) (hb : w.heap[b.block]? = some (.cells cb tb (0, 0))) :
    Calls Tryd.prog 44 #[errV a, errV b] w fun e w' => e = .returned (.bool false) ∧ w' = w := by
  unfold errV
  obtain ⟨i, hi, hcmp⟩ := Option.map_eq_some_iff.1 is_comp
  obtain ⟨j, hj, hjs⟩ := Option.map_eq_some_iff.1 is_size
  have h8 := @run_callFunc_extern Tryd.prog 63 _ Extern.ReflectliteType.typeOf Tryd.func63 (by kernel_rfl) (by kernel_rfl) (by kernel_rfl) (by kernel_rfl)
  have tT := is_typeOf
  have cT := is_comparable
  have mR := is_method
  have nE := is_noIs
  have uE := is_noUnwrap
  have vE := is_noUnwraps
  have heq := run_eql_iface_ptr_other (P := Tryd.prog) w Tryd.underlying57 Tryd.underlying127 hi hcmp hj (by rw [hjs]; decide) hne ha hb
  go_enter Tryd.func44, Tryd.ntmps44
  go_wp2
  refine wp_loop_rounds 1 ?_
  rw [rounds_succ]
  go_wp2
  go_ret
  exact ⟨rfl, rfl⟩
/-- Over what values read as. -/
theorem isSame_ok (a : Addr) : DataOk Tryd.prog 44 [.d (.v (errV a)), .d (.v (errV a))] (.d (.v (.bool true))) := by
  refine DataOk.lift fun w F E H args _ hs hd => ?_
  obtain ⟨v, u, rfl, hv, hu⟩ := args2 hs hd
  obtain rfl := den_v hv
  obtain rfl := den_v hu
  refine (is_same a w).mono ?_
  rintro e w' ⟨rfl, rfl⟩
  exact ⟨rfl, Below.refl _ _⟩
theorem isNil_ok (a : Addr) : DataOk Tryd.prog 44 [.d (.v .nilIface), .d (.v (errV a))] (.d (.v (.bool false))) := by
  refine DataOk.lift fun w F E H args _ hs hd => ?_
  obtain ⟨v, u, rfl, hv, hu⟩ := args2 hs hd
  obtain rfl := den_v hv
  obtain rfl := den_v hu
  refine (is_nil a w).mono ?_
  rintro e w' ⟨rfl, rfl⟩
  exact ⟨rfl, Below.refl _ _⟩
theorem isOther_ok {V : List (Nat × Value)} {g g' : Nat} {a b : Addr} (hne : a ≠ b) (ha : (g, errV a) ∈ V) (hb : (g', errV b) ∈ V) : DataV Tryd.prog V 44 [.d (.v (errV a)), .d (.v (errV b))] (.d (.v (.bool false))) := by
  intro w hV F E H args hpo hs hd
  obtain ⟨v, u, rfl, hv, hu⟩ := args2 hs hd
  obtain rfl := den_v hv
  obtain rfl := den_v hu
  obtain ⟨ca, ta, h1⟩ := (hV g _ ha).2 _ _ rfl
  obtain ⟨cb, tb, h2⟩ := (hV g' _ hb).2 _ _ rfl
  refine (is_other a b ca cb ta tb w hne h1 h2).mono ?_
  rintro e w' ⟨rfl, rfl⟩
  exact ⟨_, .d (.v (.bool false)), [], F, E, H, rfl, ⟨rfl, rfl⟩, ⟨rfl, rfl, rfl, Nat.le_refl _, fun _ _ _ => rfl, fun b h => h, hpo.Flt, fun b h => .inl h, fun _ _ h => h, fun _ _ _ h => h,
    (fun i x hx => by cases hx), (fun i x b hx => by cases hx), (fun i j x y b _ hx => by cases hx), (fun i x b hx => by cases hx)⟩, .d _ _ (.v _)⟩
end Go.Proofs.YthnlpdjjnfkmeaaDoor
