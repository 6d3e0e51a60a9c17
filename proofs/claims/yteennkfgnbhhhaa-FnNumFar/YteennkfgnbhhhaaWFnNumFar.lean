/- The law of NumFar, promise 16, returns true at every code. -/
import Derived.Test.YteennkfgnbhhhaaDrawNum
import Derived.Test.YteennkfgnbhhhaaNumNext
import Derived.Test.YteennkfgnbhhhaaLiOk
import Derived.RowKit3
namespace Go.Proofs.Yteennkfgnbhhhaa.fnNumFar
open Go.RowKit

set_option maxRecDepth 100000 in
set_option maxHeartbeats 8000000 in
theorem small (a0 : Option Addr) (len0 cap0 : Nat) (cz : List Nat) (w : World) (hs0 : ¬ (1048576 : Int) < (len0 : Int)) (hR0 : Rd w (.slice a0 len0 cap0) cz) :
    Calls Try.prog 3 #[.slice a0 len0 cap0] w fun e w' => e = .returned (.bool true) ∧ Below w.heap.size w w' := by
  go_enter Try.func3, Try.ntmps3
  go_wp2_with fail
  refine (drawFar_any _ cz _ hR0).mono ?_
  rintro e w1 ⟨a, b, rfl, ra, rb, bl⟩
  rcases far_cases a b with ⟨ha, hb, hf⟩ | ⟨_, hf, hno⟩
  · have h1 : ¬ a < 0 := by omega
    have h2 : ¬ 8 ≤ a := by omega
    have h3 : ¬ b < 0 := by omega
    have h4 : ¬ 8 ≤ b := by omega
    go_wp2_with fail
    refine (impl_far_any a b _).mono ?_
    rintro e w' ⟨rfl, rfl⟩
    go_wp2_with fail
    refine (spec_far_any a b _).mono ?_
    rintro e w' ⟨rfl, rfl⟩
    generalize hF : farF a b = n at *
    have hn : 0 ≤ n ∧ n < 8 := by omega
    go_wp2_with fail
    go_loopw [6, 7] (fun v t wr => ∃ (k : Int), t = .int .i64 k ∧ v = .int .i64 ((a + k) % 8) ∧ 0 ≤ k ∧ k ≤ n ∧ Below w.heap.size w wr) (fun _ t _ => (n - intOf t).toNat)
    case atStart => exact ⟨0, rfl, by go_num, by omega, by omega, bl⟩
    case round =>
      clear bl
      obtain ⟨k, rfl, rfl, hk0, hkn, bl⟩ := hrel
      by_cases hk : k < n
      · go_wp2_with (go_at_call 13; refine (impl_next _ _).mono ?_; rintro e w' ⟨rfl, rfl⟩)
        go_roundw
        case rel => exact ⟨k + 1, rfl, by go_num, by omega, by omega, bl⟩
        case measure => simp [intOf]; omega
      · have : k = n := by omega
        subst this
        have e1 : (a + k) % 8 = b := by omega
        have hf2 : farF b a = (a - b) % 8 := farF_in hb ha
        have hf3 : farF a ((a + 1) % 8) = 1 := by rw [farF_in ha (by omega)]; omega
        have hf4 : farF a a = 0 := by rw [farF_in ha ha]; omega
        rw [e1]
        by_cases hab : a = b
        · subst hab
          go_wp2_with (first
            | (go_at_call 13; refine (impl_next _ _).mono ?_; rintro e w' ⟨rfl, rfl⟩)
            | (go_at_call 10; refine (impl_far_any _ _ _).mono ?_; rintro e w' ⟨rfl, rfl⟩))
          all_goals (go_ret; exact ⟨by first | rfl | simp_all, bl⟩)
        · go_wp2_with (first
            | (go_at_call 13; refine (impl_next _ _).mono ?_; rintro e w' ⟨rfl, rfl⟩)
            | (go_at_call 10; refine (impl_far_any _ _ _).mono ?_; rintro e w' ⟨rfl, rfl⟩))
          all_goals (go_ret; exact ⟨by first | rfl | simp_all, bl⟩)
  · go_wp2_with (first
      | (go_at_call 10; refine (impl_far_any a b _).mono ?_; rintro e w' ⟨rfl, rfl⟩; rw [hf])
      | (go_at_call 11; refine (spec_far_any a b _).mono ?_; rintro e w' ⟨rfl, rfl⟩; rw [hf])
      | (go_at_call 12; refine (li_ok _).mono ?_; rintro e w2 ⟨rfl, b2⟩))
    all_goals first
      | (go_ret; exact ⟨rfl, bchain bl b2⟩)
      | (exfalso; omega)
theorem walk (a0 : Option Addr) (len0 cap0 : Nat) (z0 : List Int) (w : World) (w0 : IsRow .u8 w a0 len0 cap0 z0) :
    Calls Try.prog 3 #[.slice a0 len0 cap0] w fun e w' => e = .returned (.bool true) ∧ Below w.heap.size w w' := by
  by_cases hs0 : (1048576 : Int) < (len0 : Int)
  · go_enter Try.func3, Try.ntmps3
    go_wp2
    go_ret
    exact ⟨rfl, Below.refl _ _⟩
  · obtain ⟨cz, hR0, _⟩ := w0.rd (by omega)
    exact small a0 len0 cap0 cz w hs0 hR0
end Go.Proofs.Yteennkfgnbhhhaa.fnNumFar
