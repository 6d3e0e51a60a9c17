/- Structs that came in as arguments: what their cells are. -/
import Derived.Test.YtmciofamcdekaaaBytes
import Derived.ProofKit
import Derived.OpenShut
namespace Go.Proofs.Ytmciofamcdekaaa
open Go.ChangeShapes Go.WideShapes Go.ChangeAt Go.RowKit

/-- An int of 64 bits. -/
def I64 (n : Int) : Prop := -9223372036854775808 ≤ n ∧ n < 9223372036854775808
theorem i64_of {n : Int} (h : (Lit.int .i64 n).wf = true) : I64 n := by
  simp [Lit.wf, IntKind.min, IntKind.max, IntKind.bits, IntKind.signed] at h
  unfold I64
  omega
theorem field_of {H : Type} {enc : TypeId × Value → H} {P : Program} {w : World} {base : Nat} {spare : Nat → Bool} {held : Bool} {fuel : Nat} {t : TypeId} {cs : List Value} {x : DataW H × List MemPlace} {fs : Array Field}
    (ht : P.underlying t = some (.struct fs)) (h : DataW.trod enc P w base spare held fuel t cs = some x) (i : Nat) (f : Field) (hf : fs[i]? = some f) (k : Nat) (hk : P.cellsOf f.type = k) :
    ∃ y n, DataW.trod enc P w base spare held n f.type ((cs.drop f.offset).take k) = some y := by
  obtain ⟨xs, n, _, _, _, hlen, hx⟩ := DataW.trod_struct ht h
  have hi : i < fs.size := by
    rcases Nat.lt_or_ge i fs.size with h | h
    · exact h
    · rw [Array.getElem?_eq_none h] at hf; cases hf
  refine ⟨xs[i]'(by omega), n, ?_⟩
  rw [← hk, hx i f hf, List.getElem?_eq_getElem (by omega)]
theorem opn_int {H : Type} {enc : TypeId × Value → H} {w : World} {base : Nat} {spare : Nat → Bool} {held : Bool} {fuel : Nat} {cs : List Value} {x : DataW H × List MemPlace}
    (h : DataW.trod enc Try.prog w base spare held fuel 3 cs = some x) : ∃ n, cs = [.int .i64 n] ∧ I64 n := by
  obtain ⟨n, h1, _, h2⟩ := DataW.trod_int Try.underlying3 h
  exact ⟨n, h1, i64_of h2⟩
theorem opn_bool {H : Type} {enc : TypeId × Value → H} {w : World} {base : Nat} {spare : Nat → Bool} {held : Bool} {fuel : Nat} {cs : List Value} {x : DataW H × List MemPlace}
    (h : DataW.trod enc Try.prog w base spare held fuel 4 cs = some x) : ∃ b, cs = [.bool b] := by
  obtain ⟨n, h1, _⟩ := DataW.trod_bool Try.underlying4 h
  exact ⟨n, h1⟩
theorem opn_CfgOpts {H : Type} {enc : TypeId × Value → H} {W : World} {fuel : Nat} {cs : List Value} {x : DataW H × List MemPlace}
    (h : DataW.trod enc Try.prog W 0 (fun _ => true) true fuel 23 cs = some x) : ∃ (x_mode : Int) (x_win : Int) (x_mps : Int) (x_mtu : Int) (x_try : Int), cs = [.int .i64 x_mode, .int .i64 x_win, .int .i64 x_mps, .int .i64 x_mtu, .int .i64 x_try] ∧ I64 x_mode ∧ I64 x_win ∧ I64 x_mps ∧ I64 x_mtu ∧ I64 x_try := by
  obtain ⟨_, _, _, _, hcs, _⟩ := DataW.trod_struct Try.underlying23 h
  rw [show Try.prog.cellsOf 23 = 5 from by kernel_rfl] at hcs
  match cs, hcs with
  | [q0, q1, q2, q3, q4], _ =>
    obtain ⟨_, _, g0⟩ := field_of Try.underlying23 h 0 _ rfl 1 (by kernel_rfl)
    obtain ⟨x_mode, e0, f0_0⟩ := opn_int g0
    replace e0 : [q0] = [.int .i64 x_mode] := e0
    simp only [List.cons.injEq, and_true] at e0
    obtain ⟨_, _, g1⟩ := field_of Try.underlying23 h 1 _ rfl 1 (by kernel_rfl)
    obtain ⟨x_win, e1, f1_0⟩ := opn_int g1
    replace e1 : [q1] = [.int .i64 x_win] := e1
    simp only [List.cons.injEq, and_true] at e1
    obtain ⟨_, _, g2⟩ := field_of Try.underlying23 h 2 _ rfl 1 (by kernel_rfl)
    obtain ⟨x_mps, e2, f2_0⟩ := opn_int g2
    replace e2 : [q2] = [.int .i64 x_mps] := e2
    simp only [List.cons.injEq, and_true] at e2
    obtain ⟨_, _, g3⟩ := field_of Try.underlying23 h 3 _ rfl 1 (by kernel_rfl)
    obtain ⟨x_mtu, e3, f3_0⟩ := opn_int g3
    replace e3 : [q3] = [.int .i64 x_mtu] := e3
    simp only [List.cons.injEq, and_true] at e3
    obtain ⟨_, _, g4⟩ := field_of Try.underlying23 h 4 _ rfl 1 (by kernel_rfl)
    obtain ⟨x_try, e4, f4_0⟩ := opn_int g4
    replace e4 : [q4] = [.int .i64 x_try] := e4
    simp only [List.cons.injEq, and_true] at e4
    subst e0
    subst e1
    subst e2
    subst e3
    subst e4
    exact ⟨x_mode, x_win, x_mps, x_mtu, x_try, rfl, f0_0, f1_0, f2_0, f3_0, f4_0⟩

theorem opn_NegState {H : Type} {enc : TypeId × Value → H} {W : World} {fuel : Nat} {cs : List Value} {x : DataW H × List MemPlace}
    (h : DataW.trod enc Try.prog W 0 (fun _ => true) true fuel 32 cs = some x) : ∃ (x_own_mode : Int) (x_own_win : Int) (x_own_mps : Int) (x_own_mtu : Int) (x_own_try : Int) (x_asks_mode : Int) (x_asks_win : Int) (x_asks_mps : Int) (x_asks_mtu : Int) (x_asks_try : Int) (x_mine_mode : Int) (x_mine_win : Int) (x_mine_mps : Int) (x_mine_mtu : Int) (x_mine_try : Int) (x_yours_mode : Int) (x_yours_win : Int) (x_yours_mps : Int) (x_yours_mtu : Int) (x_yours_try : Int) (x_fails : Bool), cs = [.int .i64 x_own_mode, .int .i64 x_own_win, .int .i64 x_own_mps, .int .i64 x_own_mtu, .int .i64 x_own_try, .int .i64 x_asks_mode, .int .i64 x_asks_win, .int .i64 x_asks_mps, .int .i64 x_asks_mtu, .int .i64 x_asks_try, .int .i64 x_mine_mode, .int .i64 x_mine_win, .int .i64 x_mine_mps, .int .i64 x_mine_mtu, .int .i64 x_mine_try, .int .i64 x_yours_mode, .int .i64 x_yours_win, .int .i64 x_yours_mps, .int .i64 x_yours_mtu, .int .i64 x_yours_try, .bool x_fails] ∧ I64 x_own_mode ∧ I64 x_own_win ∧ I64 x_own_mps ∧ I64 x_own_mtu ∧ I64 x_own_try ∧ I64 x_asks_mode ∧ I64 x_asks_win ∧ I64 x_asks_mps ∧ I64 x_asks_mtu ∧ I64 x_asks_try ∧ I64 x_mine_mode ∧ I64 x_mine_win ∧ I64 x_mine_mps ∧ I64 x_mine_mtu ∧ I64 x_mine_try ∧ I64 x_yours_mode ∧ I64 x_yours_win ∧ I64 x_yours_mps ∧ I64 x_yours_mtu ∧ I64 x_yours_try := by
  obtain ⟨_, _, _, _, hcs, _⟩ := DataW.trod_struct Try.underlying32 h
  rw [show Try.prog.cellsOf 32 = 21 from by kernel_rfl] at hcs
  match cs, hcs with
  | [q0, q1, q2, q3, q4, q5, q6, q7, q8, q9, q10, q11, q12, q13, q14, q15, q16, q17, q18, q19, q20], _ =>
    obtain ⟨_, _, g0⟩ := field_of Try.underlying32 h 0 _ rfl 5 (by kernel_rfl)
    obtain ⟨x_own_mode, x_own_win, x_own_mps, x_own_mtu, x_own_try, e0, f0_0, f0_1, f0_2, f0_3, f0_4⟩ := opn_CfgOpts g0
    replace e0 : [q0, q1, q2, q3, q4] = [.int .i64 x_own_mode, .int .i64 x_own_win, .int .i64 x_own_mps, .int .i64 x_own_mtu, .int .i64 x_own_try] := e0
    simp only [List.cons.injEq, and_true] at e0
    obtain ⟨_, _, g1⟩ := field_of Try.underlying32 h 1 _ rfl 5 (by kernel_rfl)
    obtain ⟨x_asks_mode, x_asks_win, x_asks_mps, x_asks_mtu, x_asks_try, e1, f1_0, f1_1, f1_2, f1_3, f1_4⟩ := opn_CfgOpts g1
    replace e1 : [q5, q6, q7, q8, q9] = [.int .i64 x_asks_mode, .int .i64 x_asks_win, .int .i64 x_asks_mps, .int .i64 x_asks_mtu, .int .i64 x_asks_try] := e1
    simp only [List.cons.injEq, and_true] at e1
    obtain ⟨_, _, g2⟩ := field_of Try.underlying32 h 2 _ rfl 5 (by kernel_rfl)
    obtain ⟨x_mine_mode, x_mine_win, x_mine_mps, x_mine_mtu, x_mine_try, e2, f2_0, f2_1, f2_2, f2_3, f2_4⟩ := opn_CfgOpts g2
    replace e2 : [q10, q11, q12, q13, q14] = [.int .i64 x_mine_mode, .int .i64 x_mine_win, .int .i64 x_mine_mps, .int .i64 x_mine_mtu, .int .i64 x_mine_try] := e2
    simp only [List.cons.injEq, and_true] at e2
    obtain ⟨_, _, g3⟩ := field_of Try.underlying32 h 3 _ rfl 5 (by kernel_rfl)
    obtain ⟨x_yours_mode, x_yours_win, x_yours_mps, x_yours_mtu, x_yours_try, e3, f3_0, f3_1, f3_2, f3_3, f3_4⟩ := opn_CfgOpts g3
    replace e3 : [q15, q16, q17, q18, q19] = [.int .i64 x_yours_mode, .int .i64 x_yours_win, .int .i64 x_yours_mps, .int .i64 x_yours_mtu, .int .i64 x_yours_try] := e3
    simp only [List.cons.injEq, and_true] at e3
    obtain ⟨_, _, g4⟩ := field_of Try.underlying32 h 4 _ rfl 1 (by kernel_rfl)
    obtain ⟨x_fails, e4⟩ := opn_bool g4
    replace e4 : [q20] = [.bool x_fails] := e4
    simp only [List.cons.injEq, and_true] at e4
    obtain ⟨rfl, rfl, rfl, rfl, rfl⟩ := e0
    obtain ⟨rfl, rfl, rfl, rfl, rfl⟩ := e1
    obtain ⟨rfl, rfl, rfl, rfl, rfl⟩ := e2
    obtain ⟨rfl, rfl, rfl, rfl, rfl⟩ := e3
    subst e4
    exact ⟨x_own_mode, x_own_win, x_own_mps, x_own_mtu, x_own_try, x_asks_mode, x_asks_win, x_asks_mps, x_asks_mtu, x_asks_try, x_mine_mode, x_mine_win, x_mine_mps, x_mine_mtu, x_mine_try, x_yours_mode, x_yours_win, x_yours_mps, x_yours_mtu, x_yours_try, x_fails, rfl, f0_0, f0_1, f0_2, f0_3, f0_4, f1_0, f1_1, f1_2, f1_3, f1_4, f2_0, f2_1, f2_2, f2_3, f2_4, f3_0, f3_1, f3_2, f3_3, f3_4⟩
end Go.Proofs.Ytmciofamcdekaaa
