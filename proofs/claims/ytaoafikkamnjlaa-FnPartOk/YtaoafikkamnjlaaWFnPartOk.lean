/- The law of PartOk, promise 20, returns true at every code. -/
import Derived.Test.YtaoafikkamnjlaaDrawParts
import Derived.Test.YtaoafikkamnjlaaPiece
import Derived.Test.YtaoafikkamnjlaaOpenGuard
import Derived.Test.YtaoafikkamnjlaaLiOk
import Derived.RowKit3
namespace Go.Proofs.Ytaoafikkamnjlaa.fnPartOk
open Go.RowKit
set_option maxRecDepth 100000 in
set_option maxHeartbeats 4000000 in
theorem small (a0 : Option Addr) (len0 cap0 : Nat) (cz : List Nat) (w : World) (hs0 : ¬ (1048576 : Int) < (len0 : Int)) (hR0 : Rd w (.slice a0 len0 cap0) cz) :
    Calls Try.prog 12 #[.slice a0 len0 cap0] w fun e w' => e = .returned (.bool true) ∧ Below w.heap.size w w' := by
  have b0 : Below w.heap.size w w := Below.refl _ _
  go_enter Try.func12, Try.ntmps12
  go_wp2_with fail
  refine (drawPart_any _ cz _ hR0).mono ?_
  rintro e w1 ⟨seg, len, a, k, cap, rfl, h1, bb⟩
  replace b0 := bchain b0 bb
  clear bb hR0
  cases hj : pieceB seg len k
  · go_wp2_with (first
      | ((with_reducible refine at_new 3 60 ?_); refine box_new (d := 3) rfl rfl 60 rfl _ zero_part ?_; intro w' B3 bb; have n3 := b0.size;   (try clear k3); replace b0 := bchain b0 bb;  clear bb; (try have k3 := B3.k))
      | ((with_reducible refine at_load 60 ?_); refine box_load rfl 60 _ rfl _ rfl (by with_reducible assumption) Try.underlying60 rfl (by kernel_rfl) ?_)
      | ((with_reducible refine at_store 60 ?_); refine box_store rfl 60 _ _ rfl _ _ rfl rfl (by with_reducible exact B3) (by kernel_rfl) (by rfl) (by simp [Value.oneCell']) ?_; clear B3; intro w' B3 gg; (try clear k3); replace b0 := below_at b0 gg b0.size n3;  clear gg; (try have k3 := B3.k))
      | (go_at_call 31; refine (impl_part _ _ _ _ _ _).mono ?_; rintro e w' ⟨rfl, bb⟩; rw [hj]; (try clear k3); replace b0 := bchain b0 bb; (try replace B3 := B3.kept bb); clear bb; (try have k3 := B3.k))
      | (go_at_call 37; refine (spec_part _ _ _ _ _ _).mono ?_; rintro e w' ⟨rfl, bb⟩; rw [hj]; (try clear k3); replace b0 := bchain b0 bb; (try replace B3 := B3.kept bb); clear bb; (try have k3 := B3.k))
      | (go_at_call 20; refine (li_ok _).mono ?_; rintro e w' ⟨rfl, bb⟩; (try clear k3); replace b0 := bchain b0 bb; (try replace B3 := B3.kept bb); clear bb; (try have k3 := B3.k)))
    go_ret
    exact ⟨rfl, b0⟩
  · go_wp2_with (first
      | ((with_reducible refine at_new 3 60 ?_); refine box_new (d := 3) rfl rfl 60 rfl _ zero_part ?_; intro w' B3 bb; have n3 := b0.size;   (try clear k3); replace b0 := bchain b0 bb;  clear bb; (try have k3 := B3.k))
      | ((with_reducible refine at_load 60 ?_); refine box_load rfl 60 _ rfl _ rfl (by with_reducible assumption) Try.underlying60 rfl (by kernel_rfl) ?_)
      | ((with_reducible refine at_store 60 ?_); refine box_store rfl 60 _ _ rfl _ _ rfl rfl (by with_reducible exact B3) (by kernel_rfl) (by rfl) (by simp [Value.oneCell']) ?_; clear B3; intro w' B3 gg; (try clear k3); replace b0 := below_at b0 gg b0.size n3;  clear gg; (try have k3 := B3.k))
      | (go_at_call 31; refine (impl_part _ _ _ _ _ _).mono ?_; rintro e w' ⟨rfl, bb⟩; rw [hj]; (try clear k3); replace b0 := bchain b0 bb; (try replace B3 := B3.kept bb); clear bb; (try have k3 := B3.k))
      | (go_at_call 37; refine (spec_part _ _ _ _ _ _).mono ?_; rintro e w' ⟨rfl, bb⟩; rw [hj]; (try clear k3); replace b0 := bchain b0 bb; (try replace B3 := B3.kept bb); clear bb; (try have k3 := B3.k))
      | (go_at_call 20; refine (li_ok _).mono ?_; rintro e w' ⟨rfl, bb⟩; (try clear k3); replace b0 := bchain b0 bb; (try replace B3 := B3.kept bb); clear bb; (try have k3 := B3.k)))
    all_goals
      go_ret
      refine ⟨ret_bool ?_, b0⟩
      go_light
      simp only [pieceB, decide_eq_true_eq] at hj
      grind
set_option maxRecDepth 100000 in
theorem walk (a0 : Option Addr) (len0 cap0 : Nat) (z0 : List Int) (w : World) (w0 : IsRow .u8 w a0 len0 cap0 z0) :
    Calls Try.prog 12 #[.slice a0 len0 cap0] w fun e w' => e = .returned (.bool true) ∧ Below w.heap.size w w' := by
  by_cases hs0 : (1048576 : Int) < (len0 : Int)
  · go_enter Try.func12, Try.ntmps12
    go_wp2
    go_ret
    exact ⟨rfl, Below.refl _ _⟩
  obtain ⟨cz, hR0, _⟩ := w0.rd (by omega)
  exact small a0 len0 cap0 cz w hs0 hR0
end Go.Proofs.Ytaoafikkamnjlaa.fnPartOk
