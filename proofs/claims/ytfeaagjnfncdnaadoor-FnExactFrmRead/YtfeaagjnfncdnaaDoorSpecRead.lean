/- FrmRead of the specification, at every list of bytes. -/
import Derived.Test.YtfeaagjnfncdnaaDoorSpecFrmRead
namespace Go.Proofs.YtfeaagjnfncdnaaDoor
open Go.RowKit
theorem long_bad (a c d e : Nat) (r : List Nat) (h : 8 < r.length) : frmB (a : Int) ((c : Int) / 16) ((c : Int) % 16) ((d : Int) % 2 == 1) ((d : Int) / 2 % 2 == 1) ((d : Int) / 4 % 4) ((d : Int) / 16) (e : Int) r.length = false := by
  cases hh : frmB (a : Int) ((c : Int) / 16) ((c : Int) % 16) ((d : Int) % 2 == 1) ((d : Int) / 2 % 2 == 1) ((d : Int) / 4 % 4) ((d : Int) / 16) (e : Int) r.length with
  | false => rfl
  | true =>
    exfalso
    simp only [frmB, pieceB, decide_eq_true_eq] at hh
    omega
theorem spec_read (v : Value) (bs : List Nat) (w : World) (hv : Rd w v bs) :
    Calls Tryd.prog 4 #[v] w fun e w' => ∃ v', e = .returned (.tuple #[.agg #[.int .i64 (rdKind bs), .int .i64 (rdSeq bs), .int .i64 (rdAck bs), .bool (rdPoll bs), .bool (rdFinal bs), .int .i64 (rdSay bs), .int .i64 (rdSeg bs), .int .i64 (rdLen bs), v'], .bool (rdB bs)]) ∧ Own w' w.heap.size v' (rdData bs) ∧ Below w.heap.size w w' := by
  have none_ : rdB bs = false → Calls Tryd.prog 4 #[v] w (fun e w' => e = .returned (.tuple #[.agg #[.int .i64 0, .int .i64 0, .int .i64 0, .bool false, .bool false, .int .i64 0, .int .i64 0, .int .i64 0, .slice none 0 0], .bool false]) ∧ Below w.heap.size w w') → Calls Tryd.prog 4 #[v] w fun e w' => ∃ v', e = .returned (.tuple #[.agg #[.int .i64 (rdKind bs), .int .i64 (rdSeq bs), .int .i64 (rdAck bs), .bool (rdPoll bs), .bool (rdFinal bs), .int .i64 (rdSay bs), .int .i64 (rdSeg bs), .int .i64 (rdLen bs), v'], .bool (rdB bs)]) ∧ Own w' w.heap.size v' (rdData bs) ∧ Below w.heap.size w w' := by
    intro hrd h
    simp only [rdKind, rdSeq, rdAck, rdPoll, rdFinal, rdSay, rdSeg, rdLen, rdData, hrd, Bool.false_eq_true, if_false]
    refine h.mono ?_
    rintro e w1 ⟨rfl, b1⟩
    exact ⟨_, rfl, own_none _ _, b1⟩
  cases hB : cutB bs with
  | false => exact none_ (by simp [rdB, goodB, hB]) (spec_read_cut v bs w hv hB)
  | true =>
    by_cases h5 : (cutL bs).length < 5
    · exact none_ (by simp [rdB, goodB]; omega) (spec_read_short v bs w hv hB h5)
    · obtain ⟨a, c, d, e, n, r, hL⟩ : ∃ a c d e n r, cutL bs = a :: c :: d :: e :: n :: r := by
        match cutL bs, h5 with
        | a :: c :: d :: e :: n :: r, _ => exact ⟨a, c, d, e, n, r, rfl⟩
        | [], h | [_], h | [_, _], h | [_, _, _], h | [_, _, _, _], h => simp at h
      by_cases hn : n = r.length
      · subst hn
        by_cases h8 : r.length ≤ 8
        · cases hfb : frmB (a : Int) ((c : Int) / 16) ((c : Int) % 16) ((d : Int) % 2 == 1) ((d : Int) / 2 % 2 == 1) ((d : Int) / 4 % 4) ((d : Int) / 16) (e : Int) r.length with
          | false => exact none_ (by simp [rdB, hL, hfb]) (spec_read_no v bs a c d e r w hv hB hL h8 hfb)
          | true =>
            have hrd : rdB bs = true := by simp [rdB, goodB, hB, hL, hfb]
            simp only [rdKind, rdSeq, rdAck, rdPoll, rdFinal, rdSay, rdSeg, rdLen, rdData, hrd, if_true, hL]
            exact spec_read_yes v bs a c d e r w hv hB hL h8 hfb
        · exact none_ (by simp [rdB, hL, long_bad a c d e r (by omega)]) (spec_read_len v bs a c d e _ r w hv hB hL (.inr (by omega)))
      · exact none_ (by simp [rdB, goodB, hL]; omega) (spec_read_len v bs a c d e n r w hv hB hL (.inl hn))
end Go.Proofs.YtfeaagjnfncdnaaDoor
