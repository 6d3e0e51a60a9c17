/- The laws' comparison of two lists of bytes that read alike. -/
import Derived.Test.YthbmafoikloocaaAppend
namespace Go.Proofs.Ythbmafoikloocaa
open Go.RowKit

set_option maxHeartbeats 800000 in
theorem li_same (v u : Value) (zs : List Nat) (w : World) (hv : Rd w v zs) (hu : Rd w u zs) :
    Calls Try.prog 9 #[v, u] w fun e w' => e = .returned (.bool true) ∧ ∃ n, w' = w.drewN n := by
  obtain ⟨hby, hlen, hv⟩ := hv
  obtain ⟨_, _, hu⟩ := hu
  by_cases hn : zs.length = 0
  · obtain rfl := List.length_eq_zero_iff.1 hn
    obtain ⟨a, c, rfl⟩ : ∃ a c, v = .slice a 0 c := by
      rcases hv with ⟨_, a, c, rfl, _⟩ | ⟨b, off, cap, rfl, _⟩
      · exact ⟨_, _, rfl⟩
      · exact ⟨_, _, rfl⟩
    obtain ⟨a', c', rfl⟩ : ∃ a c, u = .slice a 0 c := by
      rcases hu with ⟨_, a, c, rfl, _⟩ | ⟨b, off, cap, rfl, _⟩
      · exact ⟨_, _, rfl⟩
      · exact ⟨_, _, rfl⟩
    clear hv hu hn
    go_enter Try.func9, Try.ntmps9
    go_wp2
    go_loop [5] (fun i => i = .int .i64 0) (fun _ => 0)
    case atStart => exact rfl
    case round =>
      obtain rfl := hrel
      go_wp2
      go_ret
      exact ⟨rfl, 0, rfl⟩
  · rcases hv with ⟨rfl, _⟩ | ⟨b, off, cap, rfl, _, _, hb, hc⟩
    · simp at hn
    rcases hu with ⟨rfl, _⟩ | ⟨b', off', cap', rfl, _, _, hb', hc'⟩
    · simp at hn
    go_enter Try.func9, Try.ntmps9
    go_wp2
    go_loopw [5] (fun i wr => ∃ k n : Nat, k ≤ zs.length ∧ i = .int .i64 k ∧ wr = w.drewN n) (fun i _ => zs.length - (intOf i).toNat)
    case atStart => exact ⟨0, 0, Nat.zero_le _, rfl, rfl⟩
    case round =>
      obtain ⟨k, n, hk, rfl, rfl⟩ := hrel
      by_cases hlt : k < zs.length
      · have c1 := hc k hlt
        have c2 := hc' k hlt
        clear hc hc'
        generalize zs.getD k 0 = x at *
        go_wp2
        go_quiet (fail)
        go_wp2
        go_roundw
        case rel => exact ⟨k + 1, _, by omega, by go_num, rfl⟩
        case measure => simp [intOf]; omega
      · have : k = zs.length := by omega
        subst this
        go_wp2
        go_ret
        exact ⟨rfl, _, rfl⟩

theorem li_b (v u : Value) (zs : List Nat) (w : World) (hv : Rd w v zs) (hu : Rd w u zs) :
    Calls Try.prog 9 #[v, u] w fun e w' => e = .returned (.bool true) ∧ Below w.heap.size w w' := by
  refine (li_same v u zs w hv hu).mono ?_
  rintro e w1 ⟨rfl, n, rfl⟩
  exact ⟨rfl, below_drew n⟩
end Go.Proofs.Ythbmafoikloocaa
