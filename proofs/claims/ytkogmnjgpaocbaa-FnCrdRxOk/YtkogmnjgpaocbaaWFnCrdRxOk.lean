/- The law of CrdRxOk, promise 44, returns true at every code. -/
import Derived.Test.YtkogmnjgpaocbaaDrawCrx
import Derived.Test.YtkogmnjgpaocbaaRxLaw
import Derived.Test.YtkogmnjgpaocbaaLiOk
import Derived.RowKit3
namespace Go.Proofs.Ytkogmnjgpaocbaa.fnCrdRxOk
open Go.RowKit
set_option maxRecDepth 100000 in
set_option maxHeartbeats 4000000 in
theorem small (a0 : Option Addr) (len0 cap0 : Nat) (cz : List Nat) (w : World) (hs0 : ¬ (1048576 : Int) < (len0 : Int)) (hR0 : Rd w (.slice a0 len0 cap0) cz) :
    Calls Try.prog 4 #[.slice a0 len0 cap0] w fun e w' => e = .returned (.bool true) ∧ Below w.heap.size w w' := by
  have b0 : Below w.heap.size w w := Below.refl _ _
  go_enter Try.func4, Try.ntmps4
  go_wp2_with fail
  refine (drawCrx_any _ cz _ hR0).mono ?_
  rintro e w1 ⟨out, len, a, k, cap, de, rfl, bb⟩
  replace b0 := bchain b0 bb
  clear bb hR0
  cases hj : (inB out 0 255 && joinB len k)
  · go_wp2_with (first
      | ((with_reducible refine at_new 3 32 ?_); refine box_new (d := 3) rfl rfl 32 rfl _ zero_crx ?_; intro w' B3 bb; have n3 := b0.size;   (try clear k3); replace b0 := bchain b0 bb;  clear bb; (try have k3 := B3.k))
      | ((with_reducible refine at_load 32 ?_); refine box_load rfl 32 _ rfl _ rfl (by with_reducible assumption) Try.underlying32 rfl (by kernel_rfl) ?_)
      | ((with_reducible refine at_store 32 ?_); refine box_store rfl 32 _ _ rfl _ _ rfl rfl (by with_reducible exact B3) (by kernel_rfl) (by rfl) (by simp [Value.oneCell']) ?_; clear B3; intro w' B3 gg; (try clear k3); replace b0 := below_at b0 gg b0.size n3;  clear gg; (try have k3 := B3.k))
      | (go_at_call 18; refine (impl_crx _ _ _ _ _ _ _).mono ?_; rintro e w' ⟨rfl, bb⟩; (first | rw [hj]); (try clear k3); replace b0 := bchain b0 bb; (try replace B3 := B3.kept bb); clear bb; (try have k3 := B3.k))
      | (go_at_call 19; refine (spec_crx _ _ _ _ _ _ _).mono ?_; rintro e w' ⟨rfl, bb⟩; rw [hj]; (try clear k3); replace b0 := bchain b0 bb; (try replace B3 := B3.kept bb); clear bb; (try have k3 := B3.k))
      | (go_at_call 16; refine (li_ok _).mono ?_; rintro e w' ⟨rfl, bb⟩; (try clear k3); replace b0 := bchain b0 bb; (try replace B3 := B3.kept bb); clear bb; (try have k3 := B3.k)))
    go_ret
    exact ⟨rfl, b0⟩
  · have hj0 : (inB out 0 255 && joinB 0 0) = true := by
      rw [Bool.and_eq_true] at hj ⊢
      exact ⟨hj.1, by decide⟩
    have hj1 : (inB 256 0 255 && joinB len k) = false := by simp [inB]
    go_wp2_with (first
      | ((with_reducible refine at_new 3 32 ?_); refine box_new (d := 3) rfl rfl 32 rfl _ zero_crx ?_; intro w' B3 bb; have n3 := b0.size;   (try clear k3); replace b0 := bchain b0 bb;  clear bb; (try have k3 := B3.k))
      | ((with_reducible refine at_load 32 ?_); refine box_load rfl 32 _ rfl _ rfl (by with_reducible assumption) Try.underlying32 rfl (by kernel_rfl) ?_)
      | ((with_reducible refine at_store 32 ?_); refine box_store rfl 32 _ _ rfl _ _ rfl rfl (by with_reducible exact B3) (by kernel_rfl) (by rfl) (by simp [Value.oneCell']) ?_; clear B3; intro w' B3 gg; (try clear k3); replace b0 := below_at b0 gg b0.size n3;  clear gg; (try have k3 := B3.k))
      | (go_at_call 18; refine (impl_crx _ _ _ _ _ _ _).mono ?_; rintro e w' ⟨rfl, bb⟩; (first | rw [hj] | rw [hj0] | rw [hj1]); (try clear k3); replace b0 := bchain b0 bb; (try replace B3 := B3.kept bb); clear bb; (try have k3 := B3.k))
      | (go_at_call 19; refine (spec_crx _ _ _ _ _ _ _).mono ?_; rintro e w' ⟨rfl, bb⟩; rw [hj]; (try clear k3); replace b0 := bchain b0 bb; (try replace B3 := B3.kept bb); clear bb; (try have k3 := B3.k))
      | (go_at_call 16; refine (li_ok _).mono ?_; rintro e w' ⟨rfl, bb⟩; (try clear k3); replace b0 := bchain b0 bb; (try replace B3 := B3.kept bb); clear bb; (try have k3 := B3.k)))
    go_ret
    exact ⟨rfl, b0⟩
set_option maxRecDepth 100000 in
theorem walk (a0 : Option Addr) (len0 cap0 : Nat) (z0 : List Int) (w : World) (w0 : IsRow .u8 w a0 len0 cap0 z0) :
    Calls Try.prog 4 #[.slice a0 len0 cap0] w fun e w' => e = .returned (.bool true) ∧ Below w.heap.size w w' := by
  by_cases hs0 : (1048576 : Int) < (len0 : Int)
  · go_enter Try.func4, Try.ntmps4
    go_wp2
    go_ret
    exact ⟨rfl, Below.refl _ _⟩
  obtain ⟨cz, hR0, _⟩ := w0.rd (by omega)
  exact small a0 len0 cap0 cz w hs0 hR0
end Go.Proofs.Ytkogmnjgpaocbaa.fnCrdRxOk
