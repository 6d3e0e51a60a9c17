/- Structs that came in as arguments: what their cells are. -/
import Derived.Test.YtenpapohimhdbaaMa
import Derived.Test.YtenpapohimhdbaaMb
import Derived.Test.YtenpapohimhdbaaMc
import Derived.Test.YtenpapohimhdbaaMd
import Derived.ProofKit
import Derived.OpenShut
namespace Go.Proofs.Ytenpapohimhdbaa
open Go.ChangeShapes Go.WideShapes Go.ChangeAt Go.RowKit

/-- An int of 64 bits. -/
def I64 (n : Int) : Prop := -9223372036854775808 ≤ n ∧ n < 9223372036854775808
theorem i64_of {n : Int} (h : (Lit.int .i64 n).wf = true) : I64 n := by
  simp [Lit.wf, IntKind.min, IntKind.max, IntKind.bits, IntKind.signed] at h
  unfold I64
  omega
theorem field_of {H : Type} {enc : TypeId × Value → H} {P : Program} {w : World} {base : Nat} {spare : Nat → Bool} {held : Bool} {fuel : Nat} {t : TypeId} {cs : List Value} {x : DataW H × List MemPlace} {fs : Array Field}
    (ht : P.underlying t = some (.struct fs)) (h : DataW.trod enc P w base spare held fuel t cs = some x) (i : Nat) (f : Field) (hf : fs[i]? = some f) (k : Nat) (hk : P.cellsOf f.type = k) :
    ∃ y n, DataW.trod enc P w base spare held n f.type ((cs.drop f.offset).take k) = some y := by
  obtain ⟨xs, n, _, _, _, hlen, hx⟩ := DataW.trod_struct ht h
  have hi : i < fs.size := by
    rcases Nat.lt_or_ge i fs.size with h | h
    · exact h
    · rw [Array.getElem?_eq_none h] at hf; cases hf
  refine ⟨xs[i]'(by omega), n, ?_⟩
  rw [← hk, hx i f hf, List.getElem?_eq_getElem (by omega)]
set_option maxRecDepth 100000 in
theorem opn_int {H : Type} {enc : TypeId × Value → H} {w : World} {base : Nat} {spare : Nat → Bool} {held : Bool} {fuel : Nat} {cs : List Value} {x : DataW H × List MemPlace}
    (h : DataW.trod enc Try.prog w base spare held fuel 3 cs = some x) : ∃ n, cs = [.int .i64 n] ∧ I64 n := by
  obtain ⟨n, h1, _, h2⟩ := DataW.trod_int Try.underlying3 h
  exact ⟨n, h1, i64_of h2⟩
set_option maxRecDepth 100000 in
theorem opn_bool {H : Type} {enc : TypeId × Value → H} {w : World} {base : Nat} {spare : Nat → Bool} {held : Bool} {fuel : Nat} {cs : List Value} {x : DataW H × List MemPlace}
    (h : DataW.trod enc Try.prog w base spare held fuel 4 cs = some x) : ∃ b, cs = [.bool b] := by
  obtain ⟨n, h1, _⟩ := DataW.trod_bool Try.underlying4 h
  exact ⟨n, h1⟩
set_option maxRecDepth 100000 in
theorem opn_bytes {H : Type} {enc : TypeId × Value → H} {W : World} {fuel : Nat} {cs : List Value} {x : DataW H × List MemPlace}
    (h : DataW.trod enc Try.prog W 0 (fun _ => true) true fuel 22 cs = some x) : ∃ a l c zs, cs = [.slice a l c] ∧ IsRow .u8 W a l c zs := by
  rcases open_ints Try.underlying22 Try.underlying5 (by kernel_rfl) h with ⟨hcs, _⟩ | ⟨x, l, c, zs, hcs, _, hl, hm, hz, _, hcell, hwz⟩
  · exact ⟨_, _, _, [], hcs, .inl ⟨rfl, rfl, rfl, rfl⟩⟩
  · exact ⟨_, _, _, zs, hcs, .inr ⟨_, rfl, hl, hm, by simpa using hz, hcell, hwz⟩⟩
set_option maxRecDepth 100000 in
theorem opn_SegJoin {H : Type} {enc : TypeId × Value → H} {W : World} {fuel : Nat} {cs : List Value} {x : DataW H × List MemPlace}
    (h : DataW.trod enc Try.prog W 0 (fun _ => true) true fuel 24 cs = some x) : ∃ (x_len : Int) (a_got : Option Addr) (l_got c_got : Nat) (z_got : List Int), cs = [.int .i64 x_len, .slice a_got l_got c_got] ∧ I64 x_len ∧ IsRow .u8 W a_got l_got c_got z_got := by
  obtain ⟨_, _, _, _, hcs, _⟩ := DataW.trod_struct Try.underlying24 h
  rw [show Try.prog.cellsOf 24 = 2 from by kernel_rfl] at hcs
  match cs, hcs with
  | [q0, q1], _ =>
    obtain ⟨_, _, g0⟩ := field_of Try.underlying24 h 0 _ rfl 1 (by kernel_rfl)
    obtain ⟨x_len, e0, f0_0⟩ := opn_int g0
    replace e0 : [q0] = [.int .i64 x_len] := e0
    simp only [List.cons.injEq, and_true] at e0
    obtain ⟨_, _, g1⟩ := field_of Try.underlying24 h 1 _ rfl 1 (by kernel_rfl)
    obtain ⟨a_got, l_got, c_got, z_got, e1, f1_0⟩ := opn_bytes g1
    replace e1 : [q1] = [.slice a_got l_got c_got] := e1
    simp only [List.cons.injEq, and_true] at e1
    subst e0
    subst e1
    exact ⟨x_len, a_got, l_got, c_got, z_got, rfl, f0_0, f1_0⟩

set_option maxRecDepth 100000 in
theorem opn_RxState {H : Type} {enc : TypeId × Value → H} {W : World} {fuel : Nat} {cs : List Value} {x : DataW H × List MemPlace}
    (h : DataW.trod enc Try.prog W 0 (fun _ => true) true fuel 26 cs = some x) : ∃ (x_expect : Int) (x_count : Int) (x_join_len : Int) (a_join_got : Option Addr) (l_join_got c_join_got : Nat) (z_join_got : List Int) (x_again : Bool) (x_busy : Bool) (x_dead : Bool), cs = [.int .i64 x_expect, .int .i64 x_count, .int .i64 x_join_len, .slice a_join_got l_join_got c_join_got, .bool x_again, .bool x_busy, .bool x_dead] ∧ I64 x_expect ∧ I64 x_count ∧ I64 x_join_len ∧ IsRow .u8 W a_join_got l_join_got c_join_got z_join_got := by
  obtain ⟨_, _, _, _, hcs, _⟩ := DataW.trod_struct Try.underlying26 h
  rw [show Try.prog.cellsOf 26 = 7 from by kernel_rfl] at hcs
  match cs, hcs with
  | [q0, q1, q2, q3, q4, q5, q6], _ =>
    obtain ⟨_, _, g0⟩ := field_of Try.underlying26 h 0 _ rfl 1 (by kernel_rfl)
    obtain ⟨x_expect, e0, f0_0⟩ := opn_int g0
    replace e0 : [q0] = [.int .i64 x_expect] := e0
    simp only [List.cons.injEq, and_true] at e0
    obtain ⟨_, _, g1⟩ := field_of Try.underlying26 h 1 _ rfl 1 (by kernel_rfl)
    obtain ⟨x_count, e1, f1_0⟩ := opn_int g1
    replace e1 : [q1] = [.int .i64 x_count] := e1
    simp only [List.cons.injEq, and_true] at e1
    obtain ⟨_, _, g2⟩ := field_of Try.underlying26 h 2 _ rfl 2 (by kernel_rfl)
    obtain ⟨x_join_len, a_join_got, l_join_got, c_join_got, z_join_got, e2, f2_0, f2_1⟩ := opn_SegJoin g2
    replace e2 : [q2, q3] = [.int .i64 x_join_len, .slice a_join_got l_join_got c_join_got] := e2
    simp only [List.cons.injEq, and_true] at e2
    obtain ⟨_, _, g3⟩ := field_of Try.underlying26 h 3 _ rfl 1 (by kernel_rfl)
    obtain ⟨x_again, e3⟩ := opn_bool g3
    replace e3 : [q4] = [.bool x_again] := e3
    simp only [List.cons.injEq, and_true] at e3
    obtain ⟨_, _, g4⟩ := field_of Try.underlying26 h 4 _ rfl 1 (by kernel_rfl)
    obtain ⟨x_busy, e4⟩ := opn_bool g4
    replace e4 : [q5] = [.bool x_busy] := e4
    simp only [List.cons.injEq, and_true] at e4
    obtain ⟨_, _, g5⟩ := field_of Try.underlying26 h 5 _ rfl 1 (by kernel_rfl)
    obtain ⟨x_dead, e5⟩ := opn_bool g5
    replace e5 : [q6] = [.bool x_dead] := e5
    simp only [List.cons.injEq, and_true] at e5
    subst e0
    subst e1
    obtain ⟨rfl, rfl⟩ := e2
    subst e3
    subst e4
    subst e5
    exact ⟨x_expect, x_count, x_join_len, a_join_got, l_join_got, c_join_got, z_join_got, x_again, x_busy, x_dead, rfl, f0_0, f1_0, f2_0, f2_1⟩
end Go.Proofs.Ytenpapohimhdbaa
