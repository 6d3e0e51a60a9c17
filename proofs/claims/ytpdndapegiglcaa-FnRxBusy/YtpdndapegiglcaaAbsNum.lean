/- Numbers, as operations of a walk. -/
import Derived.Test.YtpdndapegiglcaaAbsDraw
import Derived.Test.YtpdndapegiglcaaIn
namespace Go.Proofs.Ytpdndapegiglcaa
open Go
section
variable {P : Program} {C : Ctx} {ops : Array Oper} {os : List Oper} {cs : List Cert} {σ : St} {K : St → Prop} {d : Nat} {ty : TypeId} {pos : String} {af : Array Edge} {t yt : TypeId} {x y : Operand} {a b : Nat}
theorem Wk.remn (hx : aev σ x = .d (.v (.int .i64 (a : Int)))) (hy : aev σ y = .d (.v (.int .i64 (b : Int)))) (hb : 0 < b) (hd : d < σ.n)
    (h : Wk P C ops os cs (σ.put (T d) (.a (.d (.v (.int .i64 ((a % b : Nat) : Int)))))) K) : Wk P C ops (⟨some d, .binOp .rem t x y yt, ty, pos, af, none⟩ :: os) (⟨kof x ++ kof y, [T d], beh1 (rBin P .rem t x y) d⟩ :: cs) σ K :=
  Wk.bin hx hy (fun w => by
    have : ¬ b = 0 := by omega
    simp [go_sem, this]
    exact Int.tmod_eq_emod_of_nonneg (by omega)) hd h
theorem Wk.quon (hx : aev σ x = .d (.v (.int .i64 (a : Int)))) (hy : aev σ y = .d (.v (.int .i64 (b : Int)))) (hb : 0 < b) (ha : a ≤ 9223372036854775807) (hd : d < σ.n)
    (h : Wk P C ops os cs (σ.put (T d) (.a (.d (.v (.int .i64 ((a / b : Nat) : Int)))))) K) : Wk P C ops (⟨some d, .binOp .quo t x y yt, ty, pos, af, none⟩ :: os) (⟨kof x ++ kof y, [T d], beh1 (rBin P .quo t x y) d⟩ :: cs) σ K :=
  Wk.bin hx hy (fun w => by
    have : ¬ b = 0 := by omega
    have h1 : a / b ≤ a := Nat.div_le_self a b
    have h2 : ((a : Int) / (b : Int)) = ((a / b : Nat) : Int) := by simp
    have h3 : IntKind.i64.wrap ((a : Int) / (b : Int)) = (a : Int) / (b : Int) := by
      rw [h2]
      generalize a / b = q at h1 ⊢
      exact wrap64 (by omega) (by omega)
    simp [go_sem, this, h3]) hd h
theorem Wk.muln (hx : aev σ x = .d (.v (.int .i64 (a : Int)))) (hy : aev σ y = .d (.v (.int .i64 (b : Int)))) (hb : a * b ≤ 9223372036854775807) (hd : d < σ.n)
    (h : Wk P C ops os cs (σ.put (T d) (.a (.d (.v (.int .i64 ((a * b : Nat) : Int)))))) K) : Wk P C ops (⟨some d, .binOp .mul t x y yt, ty, pos, af, none⟩ :: os) (⟨kof x ++ kof y, [T d], beh1 (rBin P .mul t x y) d⟩ :: cs) σ K :=
  Wk.bin hx hy (fun w => by
    have h2 : ((a : Int) * (b : Int)) = ((a * b : Nat) : Int) := by simp
    have h1 := wrap64 (n := ((a * b : Nat) : Int)) (by omega) (by omega)
    rw [← h2] at h1
    simp [go_sem, h1]) hd h
theorem Wk.addn (hx : aev σ x = .d (.v (.int .i64 (a : Int)))) (hy : aev σ y = .d (.v (.int .i64 (b : Int)))) (hb : a + b ≤ 9223372036854775807) (hd : d < σ.n)
    (h : Wk P C ops os cs (σ.put (T d) (.a (.d (.v (.int .i64 ((a + b : Nat) : Int)))))) K) : Wk P C ops (⟨some d, .binOp .add t x y yt, ty, pos, af, none⟩ :: os) (⟨kof x ++ kof y, [T d], beh1 (rBin P .add t x y) d⟩ :: cs) σ K :=
  Wk.addi hx hy (by omega) hd (by rw [← Int.natCast_add]; exact h)
theorem Wk.subn (hx : aev σ x = .d (.v (.int .i64 (a : Int)))) (hy : aev σ y = .d (.v (.int .i64 (b : Int)))) (hb : b ≤ a) (ha : a ≤ 9223372036854775807) (hd : d < σ.n)
    (h : Wk P C ops os cs (σ.put (T d) (.a (.d (.v (.int .i64 ((a - b : Nat) : Int)))))) K) : Wk P C ops (⟨some d, .binOp .sub t x y yt, ty, pos, af, none⟩ :: os) (⟨kof x ++ kof y, [T d], beh1 (rBin P .sub t x y) d⟩ :: cs) σ K :=
  Wk.subi hx hy (by omega) hd (by rw [← Int.ofNat_sub hb]; exact h)
theorem Wk.xorn (hx : aev σ x = .d (.v (.int .i64 (a : Int)))) (hy : aev σ y = .d (.v (.int .i64 (b : Int)))) (ha : a < 9223372036854775808) (hb : b < 9223372036854775808) (hd : d < σ.n)
    (h : Wk P C ops os cs (σ.put (T d) (.a (.d (.v (.int .i64 ((a ^^^ b : Nat) : Int)))))) K) : Wk P C ops (⟨some d, .binOp .xor t x y yt, ty, pos, af, none⟩ :: os) (⟨kof x ++ kof y, [T d], beh1 (rBin P .xor t x y) d⟩ :: cs) σ K :=
  Wk.bin hx hy (fun w => by simp [go_sem, i64_xor_nat a b ha hb]) hd h
/-- A number of one kind as one of another. -/
theorem Wk.convi {s : TypeId} {n : Int} {j k : IntKind} (hx : aev σ x = .d (.v (.int j n))) (hs : P.underlying s = some (.int j)) (ht : P.underlying t = some (.int k)) (hd : d < σ.n)
    (h : Wk P C ops os cs (σ.put (T d) (.a (.d (.v (.int k (k.wrap n)))))) K) : Wk P C ops (⟨some d, .convert s t x, ty, pos, af, none⟩ :: os) (⟨kof x, [T d], beh1 (rConv P s t x) d⟩ :: cs) σ K :=
  Wk.conv hx (fun w => by simp [convert, run_underlying hs, run_underlying ht, Conv.intToInt]) hd h
/-- A byte as a number. -/
theorem Wk.convn {s : TypeId} {j : IntKind} (hx : aev σ x = .d (.v (.int j (a : Int)))) (hs : P.underlying s = some (.int j)) (ht : P.underlying t = some (.int .i64)) (ha : a ≤ 9223372036854775807) (hd : d < σ.n)
    (h : Wk P C ops os cs (σ.put (T d) (.a (.d (.v (.int .i64 (a : Int)))))) K) : Wk P C ops (⟨some d, .convert s t x, ty, pos, af, none⟩ :: os) (⟨kof x, [T d], beh1 (rConv P s t x) d⟩ :: cs) σ K :=
  Wk.conv hx (fun w => by simp [convert, run_underlying hs, run_underlying ht, Conv.intToInt, wrap64 (n := (a : Int)) (by omega) (by omega)]) hd h
theorem wrap8 {n : Int} (h1 : 0 ≤ n) (h2 : n ≤ 255) : IntKind.u8.wrap n = n := by
  simp [IntKind.wrap, IntKind.bits, IntKind.signed]
  omega
theorem wrap8_nat (n : Int) : ∃ z : Nat, IntKind.u8.wrap n = (z : Int) ∧ z < 256 := by
  refine ⟨(n % 256).toNat, ?_, ?_⟩
  · simp [IntKind.wrap, IntKind.bits, IntKind.signed]
    omega
  · omega
/-- A number as a byte. -/
theorem Wk.convb {s : TypeId} {j : IntKind} {n : Int} (hx : aev σ x = .d (.v (.int j n))) (hs : P.underlying s = some (.int j)) (ht : P.underlying t = some (.int .u8)) (hd : d < σ.n)
    (h : ∀ z : Fin 256, Wk P C ops os cs (σ.put (T d) (.a (.d (.v (.int .u8 ((z.val : Nat) : Int)))))) K) : Wk P C ops (⟨some d, .convert s t x, ty, pos, af, none⟩ :: os) (⟨kof x, [T d], beh1 (rConv P s t x) d⟩ :: cs) σ K := by
  obtain ⟨z, hz, hlt⟩ := wrap8_nat n
  exact Wk.conv (r := .int .u8 (z : Int)) hx (fun w => by simp [convert, run_underlying hs, run_underlying ht, Conv.intToInt, hz]) hd (h ⟨z, hlt⟩)
end
end Go.Proofs.Ytpdndapegiglcaa
