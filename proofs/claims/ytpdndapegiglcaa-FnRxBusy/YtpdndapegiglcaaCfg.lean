/- What one wants: when it may be wanted, when it is nothing, the lesser of two; of the program and of the specification. -/
import Derived.Test.YtpdndapegiglcaaIn
import Derived.Test.YtpdndapegiglcaaBoxes
import Derived.Deep.Light
import Derived.Laws.StructEq
import Derived.Handy
namespace Go.Proofs.Ytpdndapegiglcaa
open Go.RowKit

/-- What one wants. -/
structure Opt where
  mode : Int
  win : Int
  mps : Int
  mtu : Int
  tri : Int
deriving DecidableEq
def Opt.zero : Opt := ⟨0, 0, 0, 0, 0⟩
def Opt.ok (o : Opt) : Bool := inB o.mode 1 2 && inB o.win 1 4 && inB o.mps 1 8 && inB o.mtu 1 24 && inB o.tri 1 5
def Opt.same (a b : Opt) : Bool := a.mode == b.mode && a.win == b.win && a.mps == b.mps && a.mtu == b.mtu && a.tri == b.tri
theorem Opt.same_iff (a b : Opt) : a.same b = true ↔ a = b := by
  obtain ⟨a1, a2, a3, a4, a5⟩ := a
  obtain ⟨b1, b2, b3, b4, b5⟩ := b
  simp [Opt.same, and_assoc]
def Opt.least (a b : Opt) : Opt := ⟨a.mode, min a.win b.win, min a.mps b.mps, min a.mtu b.mtu, min a.tri b.tri⟩
def meets (a b : Opt) : Bool := a.ok && b.ok && a.mode == b.mode
def meet (a b : Opt) : Opt := if meets a b then a.least b else Opt.zero

theorem opt_eq {a b : Opt} (h : a = b) : (.agg #[.int .i64 a.mode, .int .i64 a.win, .int .i64 a.mps, .int .i64 a.mtu, .int .i64 a.tri] : Value) = .agg #[.int .i64 b.mode, .int .i64 b.win, .int .i64 b.mps, .int .i64 b.mtu, .int .i64 b.tri] := by rw [h]
theorem ret_opt {a1 a2 a3 a4 a5 : Int} {b : Opt} (h1 : a1 = b.mode) (h2 : a2 = b.win) (h3 : a3 = b.mps) (h4 : a4 = b.mtu) (h5 : a5 = b.tri) : Ending.returned (.agg #[.int .i64 a1, .int .i64 a2, .int .i64 a3, .int .i64 a4, .int .i64 a5]) = .returned (.agg #[.int .i64 b.mode, .int .i64 b.win, .int .i64 b.mps, .int .i64 b.mtu, .int .i64 b.tri]) := by
  rw [h1, h2, h3, h4, h5]
theorem ret_meet {a1 a2 a3 a4 a5 : Int} {b : Opt} {x y : Bool} (h1 : a1 = b.mode) (h2 : a2 = b.win) (h3 : a3 = b.mps) (h4 : a4 = b.mtu) (h5 : a5 = b.tri) (h : x = y) : Ending.returned (.tuple #[.agg #[.int .i64 a1, .int .i64 a2, .int .i64 a3, .int .i64 a4, .int .i64 a5], .bool x]) = .returned (.tuple #[.agg #[.int .i64 b.mode, .int .i64 b.win, .int .i64 b.mps, .int .i64 b.mtu, .int .i64 b.tri], .bool y]) := by
  rw [h1, h2, h3, h4, h5, h]

theorem upto_any (n k : Int) (w : World) :
    Calls Try.prog 35 #[.int .i64 n, .int .i64 k] w fun e w' => e = .returned (.bool (inB n 1 k)) ∧ w' = w := by
  go_enter Try.func35, Try.ntmps35
  go_wp2
  all_goals
    go_ret
    refine ⟨ret_bool ?_, rfl⟩
    go_light
    rw [Bool.eq_iff_iff]
    simp only [inB_iff]
    grind
set_option maxHeartbeats 1000000 in
theorem impl_cfg (a : Opt) (w : World) :
    Calls Try.prog 25 #[.agg #[.int .i64 a.mode, .int .i64 a.win, .int .i64 a.mps, .int .i64 a.mtu, .int .i64 a.tri]] w fun e w' => e = .returned (.bool a.ok) ∧ Below w.heap.size w w' := by
  go_enter Try.func25, Try.ntmps25
  go_wp2_with (go_at_call 35; refine (upto_any _ _ _).mono ?_; rintro e w' ⟨rfl, rfl⟩)
  all_goals
    go_ret
    refine ⟨ret_bool ?_, (Below.refl _ _).alloc (Nat.le_refl _) _⟩
    go_light
    rw [Bool.eq_iff_iff]
    simp only [Opt.ok, Bool.and_eq_true, inB_iff, Bool.false_eq_true, false_iff] at *
    grind
theorem impl_cfg_v (m n p u t : Int) (w : World) :
    Calls Try.prog 25 #[.agg #[.int .i64 m, .int .i64 n, .int .i64 p, .int .i64 u, .int .i64 t]] w fun e w' => e = .returned (.bool (Opt.ok ⟨m, n, p, u, t⟩)) ∧ Below w.heap.size w w' := impl_cfg ⟨m, n, p, u, t⟩ w
end Go.Proofs.Ytpdndapegiglcaa
