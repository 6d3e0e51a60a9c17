/- What two agree on, of the program and of the specification: where they agree, and where not. -/
import Derived.Test.YtaoafikkamnjlaaMeet
namespace Go.Proofs.Ytaoafikkamnjlaa
open Go.RowKit
theorem min_three (x y v : Int) : min x (min y v) = min (min x y) v := by omega
theorem min_swap (x y : Int) : min y x = min x y := by omega
theorem min_back (x y : Int) : min y (min x y) = min x y := by omega
theorem min_same (x : Int) : min x x = x := by omega
theorem meets_mode {a b : Opt} (h : meets a b = true) : a.mode = b.mode := by
  simp only [meets, Bool.and_eq_true, beq_iff_eq] at h
  exact h.2
theorem meets_ok {a b : Opt} (h : meets a b = true) : a.ok = true ∧ b.ok = true := by
  simp only [meets, Bool.and_eq_true] at h
  exact h.1
theorem meets_mk {a b : Opt} (h1 : a.ok = true) (h2 : b.ok = true) (h : a.mode = b.mode) : meets a b = true := by
  simp [meets, h1, h2, h]
theorem meets_comm (a b : Opt) : meets a b = meets b a := by
  rw [Bool.eq_iff_iff]
  simp only [meets, Bool.and_eq_true, beq_iff_eq]
  constructor
  · rintro ⟨⟨h1, h2⟩, h3⟩
    exact ⟨⟨h2, h1⟩, h3.symm⟩
  · rintro ⟨⟨h1, h2⟩, h3⟩
    exact ⟨⟨h2, h1⟩, h3.symm⟩
theorem least_ok {a b : Opt} (h1 : a.ok = true) (h2 : b.ok = true) : (a.least b).ok = true := by
  simp only [Opt.ok, Opt.least, Bool.and_eq_true, inB_iff] at *
  omega
theorem impl_meet_yes (a1 a2 a3 a4 a5 b1 b2 b3 b4 b5 c2 c3 c4 c5 : Int) (h : meets ⟨a1, a2, a3, a4, a5⟩ ⟨b1, b2, b3, b4, b5⟩ = true) (h2 : min a2 b2 = c2) (h3 : min a3 b3 = c3) (h4 : min a4 b4 = c4) (h5 : min a5 b5 = c5) (w : World) :
    Calls Try.prog 21 #[.agg #[.int .i64 a1, .int .i64 a2, .int .i64 a3, .int .i64 a4, .int .i64 a5], .agg #[.int .i64 b1, .int .i64 b2, .int .i64 b3, .int .i64 b4, .int .i64 b5]] w fun e w' => e = .returned (.tuple #[.agg #[.int .i64 a1, .int .i64 c2, .int .i64 c3, .int .i64 c4, .int .i64 c5], .bool true]) ∧ Below w.heap.size w w' := by
  refine (impl_meet ⟨a1, a2, a3, a4, a5⟩ ⟨b1, b2, b3, b4, b5⟩ w).mono ?_
  rintro e w' ⟨rfl, hb⟩
  have hm : meet ⟨a1, a2, a3, a4, a5⟩ ⟨b1, b2, b3, b4, b5⟩ = ⟨a1, c2, c3, c4, c5⟩ := by simp [meet, h, Opt.least, h2, h3, h4, h5]
  rw [hm, h]
  exact ⟨rfl, hb⟩
theorem impl_meet_no (a1 a2 a3 a4 a5 b1 b2 b3 b4 b5 : Int) (h : meets ⟨a1, a2, a3, a4, a5⟩ ⟨b1, b2, b3, b4, b5⟩ = false) (w : World) :
    Calls Try.prog 21 #[.agg #[.int .i64 a1, .int .i64 a2, .int .i64 a3, .int .i64 a4, .int .i64 a5], .agg #[.int .i64 b1, .int .i64 b2, .int .i64 b3, .int .i64 b4, .int .i64 b5]] w fun e w' => e = .returned (.tuple #[.agg #[.int .i64 0, .int .i64 0, .int .i64 0, .int .i64 0, .int .i64 0], .bool false]) ∧ Below w.heap.size w w' := by
  refine (impl_meet ⟨a1, a2, a3, a4, a5⟩ ⟨b1, b2, b3, b4, b5⟩ w).mono ?_
  rintro e w' ⟨rfl, hb⟩
  have hm : meet ⟨a1, a2, a3, a4, a5⟩ ⟨b1, b2, b3, b4, b5⟩ = ⟨0, 0, 0, 0, 0⟩ := by simp [meet, h, Opt.zero]
  rw [hm, h]
  exact ⟨rfl, hb⟩
end Go.Proofs.Ytaoafikkamnjlaa
