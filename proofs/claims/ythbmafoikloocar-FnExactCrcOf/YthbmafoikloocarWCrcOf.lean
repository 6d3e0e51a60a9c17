/- The law of CrcOf returns true at every list of bytes. -/
import Derived.Test.YthbmafoikloocarCrcOf
namespace Go.Proofs.Ythbmafoikloocar.fnExactCrcOf
open Go.RowKit
set_option maxHeartbeats 1000000 in
theorem small (v : Value) (a : Option Addr) (len cap : Nat) (bs : List Nat) (w : World) (he : v = .slice a len cap) (hs : ¬ (1048576 : Int) < (len : Int)) (hR : Rd w v bs) :
    Calls Try.prog 6 #[v] w fun e w' => e = .returned (.bool true) ∧ Below w.heap.size w w' := by
  subst he
  go_enter Try.func6, Try.ntmps6
  go_wp2_with fail
  refine (toBytes_any _ bs _ hR).mono ?_
  rintro e w1 ⟨v1, rfl, o1, b1⟩
  have r1 := o1.rd hR.1 hR.2.1
  go_wp2_with fail
  refine (spec_of v1 bs _ r1).mono ?_
  rintro e _ ⟨rfl, rfl⟩
  have hR1 := hR.kept b1
  go_wp2_with fail
  refine (toBytes_any _ bs _ hR1).mono ?_
  rintro e w2 ⟨v2, rfl, o2, b2⟩
  have r2 := o2.rd hR.1 hR.2.1
  go_wp2_with fail
  refine (impl_of v2 bs _ r2).mono ?_
  rintro e w3 ⟨rfl, b3⟩
  have hR3 := (hR1.kept b2).kept b3
  have r3 := r2.kept b3
  go_wp2_with fail
  refine (toBytes_any _ bs _ hR3).mono ?_
  rintro e w4 ⟨v4, rfl, o4, b4⟩
  have r4 := o4.rd hR.1 hR.2.1
  have r34 := r3.kept b4
  go_wp2_with fail
  refine (eqBytes_same v2 v4 bs _ r34 r4).mono ?_
  rintro e w5 ⟨rfl, n, rfl⟩
  have HB := bchain (bchain (bchain (bchain b1 b2) b3) b4) (below_drew n)
  go_wp2
  go_ret
  exact ⟨rfl, HB⟩
theorem walk (a0 : Option Addr) (len0 cap0 : Nat) (z0 : List Int) (w : World) (w0 : IsRow .u8 w a0 len0 cap0 z0) :
    Calls Try.prog 6 #[.slice a0 len0 cap0] w fun e w' => e = .returned (.bool true) ∧ Below w.heap.size w w' := by
  by_cases hs : (1048576 : Int) < (len0 : Int)
  · go_enter Try.func6, Try.ntmps6
    go_wp2
    go_ret
    exact ⟨rfl, Below.refl _ _⟩
  · obtain ⟨bs, hR, _⟩ := w0.rd (by omega)
    exact small _ a0 len0 cap0 bs w rfl hs hR
end Go.Proofs.Ythbmafoikloocar.fnExactCrcOf
