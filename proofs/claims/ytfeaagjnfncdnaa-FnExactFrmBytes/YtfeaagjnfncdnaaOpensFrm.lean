/- Structs that came in as arguments: what their cells are. -/
import Derived.Test.YtfeaagjnfncdnaaBytes
import Derived.ProofKit
import Derived.OpenShut
namespace Go.Proofs.Ytfeaagjnfncdnaa
open Go.ChangeShapes Go.WideShapes Go.ChangeAt Go.RowKit

/-- An int of 64 bits. -/
def I64 (n : Int) : Prop := -9223372036854775808 ≤ n ∧ n < 9223372036854775808
theorem i64_of {n : Int} (h : (Lit.int .i64 n).wf = true) : I64 n := by
  simp [Lit.wf, IntKind.min, IntKind.max, IntKind.bits, IntKind.signed] at h
  unfold I64
  omega
theorem field_of {H : Type} {enc : TypeId × Value → H} {P : Program} {w : World} {base : Nat} {spare : Nat → Bool} {held : Bool} {fuel : Nat} {t : TypeId} {cs : List Value} {x : DataW H × List MemPlace} {fs : Array Field}
    (ht : P.underlying t = some (.struct fs)) (h : DataW.trod enc P w base spare held fuel t cs = some x) (i : Nat) (f : Field) (hf : fs[i]? = some f) (k : Nat) (hk : P.cellsOf f.type = k) :
    ∃ y n, DataW.trod enc P w base spare held n f.type ((cs.drop f.offset).take k) = some y := by
  obtain ⟨xs, n, _, _, _, hlen, hx⟩ := DataW.trod_struct ht h
  have hi : i < fs.size := by
    rcases Nat.lt_or_ge i fs.size with h | h
    · exact h
    · rw [Array.getElem?_eq_none h] at hf; cases hf
  refine ⟨xs[i]'(by omega), n, ?_⟩
  rw [← hk, hx i f hf, List.getElem?_eq_getElem (by omega)]
theorem opn_int {H : Type} {enc : TypeId × Value → H} {w : World} {base : Nat} {spare : Nat → Bool} {held : Bool} {fuel : Nat} {cs : List Value} {x : DataW H × List MemPlace}
    (h : DataW.trod enc Try.prog w base spare held fuel 3 cs = some x) : ∃ n, cs = [.int .i64 n] ∧ I64 n := by
  obtain ⟨n, h1, _, h2⟩ := DataW.trod_int Try.underlying3 h
  exact ⟨n, h1, i64_of h2⟩
theorem opn_bool {H : Type} {enc : TypeId × Value → H} {w : World} {base : Nat} {spare : Nat → Bool} {held : Bool} {fuel : Nat} {cs : List Value} {x : DataW H × List MemPlace}
    (h : DataW.trod enc Try.prog w base spare held fuel 4 cs = some x) : ∃ b, cs = [.bool b] := by
  obtain ⟨n, h1, _⟩ := DataW.trod_bool Try.underlying4 h
  exact ⟨n, h1⟩
theorem opn_bytes {H : Type} {enc : TypeId × Value → H} {W : World} {fuel : Nat} {cs : List Value} {x : DataW H × List MemPlace}
    (h : DataW.trod enc Try.prog W 0 (fun _ => true) true fuel 22 cs = some x) : ∃ a l c zs, cs = [.slice a l c] ∧ IsRow .u8 W a l c zs := by
  rcases open_ints Try.underlying22 Try.underlying5 (by kernel_rfl) h with ⟨hcs, _⟩ | ⟨x, l, c, zs, hcs, _, hl, hm, hz, _, hcell, hwz⟩
  · exact ⟨_, _, _, [], hcs, .inl ⟨rfl, rfl, rfl, rfl⟩⟩
  · exact ⟨_, _, _, zs, hcs, .inr ⟨_, rfl, hl, hm, by simpa using hz, hcell, hwz⟩⟩
theorem opn_FrmFrame {H : Type} {enc : TypeId × Value → H} {W : World} {fuel : Nat} {cs : List Value} {x : DataW H × List MemPlace}
    (h : DataW.trod enc Try.prog W 0 (fun _ => true) true fuel 24 cs = some x) : ∃ (x_kind : Int) (x_seq : Int) (x_ack : Int) (x_poll : Bool) (x_final : Bool) (x_say : Int) (x_seg : Int) (x_len : Int) (a_data : Option Addr) (l_data c_data : Nat) (z_data : List Int), cs = [.int .i64 x_kind, .int .i64 x_seq, .int .i64 x_ack, .bool x_poll, .bool x_final, .int .i64 x_say, .int .i64 x_seg, .int .i64 x_len, .slice a_data l_data c_data] ∧ I64 x_kind ∧ I64 x_seq ∧ I64 x_ack ∧ I64 x_say ∧ I64 x_seg ∧ I64 x_len ∧ IsRow .u8 W a_data l_data c_data z_data := by
  obtain ⟨_, _, _, _, hcs, _⟩ := DataW.trod_struct Try.underlying24 h
  rw [show Try.prog.cellsOf 24 = 9 from by kernel_rfl] at hcs
  match cs, hcs with
  | [q0, q1, q2, q3, q4, q5, q6, q7, q8], _ =>
    obtain ⟨_, _, g0⟩ := field_of Try.underlying24 h 0 _ rfl 1 (by kernel_rfl)
    obtain ⟨x_kind, e0, f0_0⟩ := opn_int g0
    replace e0 : [q0] = [.int .i64 x_kind] := e0
    simp only [List.cons.injEq, and_true] at e0
    obtain ⟨_, _, g1⟩ := field_of Try.underlying24 h 1 _ rfl 1 (by kernel_rfl)
    obtain ⟨x_seq, e1, f1_0⟩ := opn_int g1
    replace e1 : [q1] = [.int .i64 x_seq] := e1
    simp only [List.cons.injEq, and_true] at e1
    obtain ⟨_, _, g2⟩ := field_of Try.underlying24 h 2 _ rfl 1 (by kernel_rfl)
    obtain ⟨x_ack, e2, f2_0⟩ := opn_int g2
    replace e2 : [q2] = [.int .i64 x_ack] := e2
    simp only [List.cons.injEq, and_true] at e2
    obtain ⟨_, _, g3⟩ := field_of Try.underlying24 h 3 _ rfl 1 (by kernel_rfl)
    obtain ⟨x_poll, e3⟩ := opn_bool g3
    replace e3 : [q3] = [.bool x_poll] := e3
    simp only [List.cons.injEq, and_true] at e3
    obtain ⟨_, _, g4⟩ := field_of Try.underlying24 h 4 _ rfl 1 (by kernel_rfl)
    obtain ⟨x_final, e4⟩ := opn_bool g4
    replace e4 : [q4] = [.bool x_final] := e4
    simp only [List.cons.injEq, and_true] at e4
    obtain ⟨_, _, g5⟩ := field_of Try.underlying24 h 5 _ rfl 1 (by kernel_rfl)
    obtain ⟨x_say, e5, f5_0⟩ := opn_int g5
    replace e5 : [q5] = [.int .i64 x_say] := e5
    simp only [List.cons.injEq, and_true] at e5
    obtain ⟨_, _, g6⟩ := field_of Try.underlying24 h 6 _ rfl 1 (by kernel_rfl)
    obtain ⟨x_seg, e6, f6_0⟩ := opn_int g6
    replace e6 : [q6] = [.int .i64 x_seg] := e6
    simp only [List.cons.injEq, and_true] at e6
    obtain ⟨_, _, g7⟩ := field_of Try.underlying24 h 7 _ rfl 1 (by kernel_rfl)
    obtain ⟨x_len, e7, f7_0⟩ := opn_int g7
    replace e7 : [q7] = [.int .i64 x_len] := e7
    simp only [List.cons.injEq, and_true] at e7
    obtain ⟨_, _, g8⟩ := field_of Try.underlying24 h 8 _ rfl 1 (by kernel_rfl)
    obtain ⟨a_data, l_data, c_data, z_data, e8, f8_0⟩ := opn_bytes g8
    replace e8 : [q8] = [.slice a_data l_data c_data] := e8
    simp only [List.cons.injEq, and_true] at e8
    subst e0
    subst e1
    subst e2
    subst e3
    subst e4
    subst e5
    subst e6
    subst e7
    subst e8
    exact ⟨x_kind, x_seq, x_ack, x_poll, x_final, x_say, x_seg, x_len, a_data, l_data, c_data, z_data, rfl, f0_0, f1_0, f2_0, f5_0, f6_0, f7_0, f8_0⟩
end Go.Proofs.Ytfeaagjnfncdnaa
