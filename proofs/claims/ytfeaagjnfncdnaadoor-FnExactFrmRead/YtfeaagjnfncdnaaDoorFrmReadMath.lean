/- What is read of bytes: whether they are a frame's, and its parts. -/
import Derived.Test.YtfeaagjnfncdnaaDoorFrmReadF
namespace Go.Proofs.YtfeaagjnfncdnaaDoor

/-- Bytes (their sum cut off) that are as long as they say. -/
def goodB (b : List Nat) (ok : Bool) : Bool := ok && decide (5 ≤ b.length ∧ b.getD 4 0 = b.length - 5)
def endE (s : List Nat × Bool) : Bool := tkE (num (stp (stp (stp (stp s))))) (stp (stp (stp (stp (stp s))))).1 (stp (stp (stp (stp (stp s))))).2 || decide (0 < (tkZ (num (stp (stp (stp (stp s))))) (stp (stp (stp (stp (stp s))))).1 (stp (stp (stp (stp (stp s))))).2).length)
theorem tkE_true (n : Nat) (zs : List Nat) : tkE n zs true = true := rfl
theorem stp_err (zs : List Nat) : stp (zs, true) = (zs, true) := rfl
theorem stp_cons (z : Nat) (zs : List Nat) : stp (z :: zs, false) = (zs, false) := by simp [stp, tkZ, tkE]
theorem stp_nil : stp ([], false) = ([], true) := rfl
theorem num_cons (z : Nat) (zs : List Nat) : num (z :: zs, false) = z := by simp [num, tkR]
theorem bad_end (b : List Nat) (ok : Bool) (h : goodB b ok = false) : endE (b, !ok) = true := by
  cases ok with
  | false => simp [endE, stp_err, tkE_true]
  | true =>
    match b, h with
    | [], _ => simp [endE, stp_nil, stp_err, tkE_true]
    | [a], _ => simp [endE, stp_cons, stp_nil, stp_err, tkE_true]
    | [a, c], _ => simp [endE, stp_cons, stp_nil, stp_err, tkE_true]
    | [a, c, d], _ => simp [endE, stp_cons, stp_nil, stp_err, tkE_true]
    | [a, c, d, e], _ => simp [endE, stp_cons, stp_nil, tkE_true]
    | a :: c :: d :: e :: n :: r, h =>
      simp [goodB] at h
      simp [endE, stp_cons, num_cons, tkE, tkZ]
      by_cases hl : r.length < n
      · exact .inl hl
      · right
        rw [if_neg hl, List.length_drop]
        omega
theorem good_form (b : List Nat) (ok : Bool) (h : goodB b ok = true) : ok = true ∧ ∃ a c d e r, b = a :: c :: d :: e :: r.length :: r := by
  simp only [goodB, Bool.and_eq_true, decide_eq_true_eq] at h
  obtain ⟨h0, h1, h2⟩ := h
  match b, h1, h2 with
  | a :: c :: d :: e :: n :: r, _, h2 =>
    simp at h2
    exact ⟨h0, a, c, d, e, r, by rw [h2]⟩
theorem good_end (a c d e : Nat) (r : List Nat) : endE (a :: c :: d :: e :: r.length :: r, false) = false := by
  simp [endE, stp_cons, num_cons, tkE, tkZ]

/-- Bytes that are a frame's. -/
def rdB (bs : List Nat) : Bool := goodB (cutL bs) (cutB bs) && frmB ((cutL bs).getD 0 0 : Nat) (((cutL bs).getD 1 0 : Nat) / 16) (((cutL bs).getD 1 0 : Nat) % 16) ((((cutL bs).getD 2 0 : Nat) : Int) % 2 == 1) ((((cutL bs).getD 2 0 : Nat) : Int) / 2 % 2 == 1) (((cutL bs).getD 2 0 : Nat) / 4 % 4) (((cutL bs).getD 2 0 : Nat) / 16) ((cutL bs).getD 3 0 : Nat) ((cutL bs).length - 5)
def rdKind (bs : List Nat) : Int := if rdB bs = true then ((cutL bs).getD 0 0 : Nat) else 0
def rdSeq (bs : List Nat) : Int := if rdB bs = true then ((cutL bs).getD 1 0 : Nat) / 16 else 0
def rdAck (bs : List Nat) : Int := if rdB bs = true then ((cutL bs).getD 1 0 : Nat) % 16 else 0
def rdPoll (bs : List Nat) : Bool := if rdB bs = true then (((cutL bs).getD 2 0 : Nat) : Int) % 2 == 1 else false
def rdFinal (bs : List Nat) : Bool := if rdB bs = true then (((cutL bs).getD 2 0 : Nat) : Int) / 2 % 2 == 1 else false
def rdSay (bs : List Nat) : Int := if rdB bs = true then ((cutL bs).getD 2 0 : Nat) / 4 % 4 else 0
def rdSeg (bs : List Nat) : Int := if rdB bs = true then ((cutL bs).getD 2 0 : Nat) / 16 else 0
def rdLen (bs : List Nat) : Int := if rdB bs = true then ((cutL bs).getD 3 0 : Nat) else 0
def rdData (bs : List Nat) : List Nat := if rdB bs = true then (cutL bs).drop 5 else []
theorem rdData_byt {bs : List Nat} (h : Byt bs) : Byt (rdData bs) := by
  unfold rdData
  split
  · exact fun z hz => cutL_byt h z (List.mem_of_mem_drop hz)
  · intro z hz; simp at hz
theorem rdData_length (bs : List Nat) : (rdData bs).length ≤ bs.length := by
  unfold rdData
  split
  · have := cutL_length bs; rw [List.length_drop]; omega
  · simp
end Go.Proofs.YtfeaagjnfncdnaaDoor
