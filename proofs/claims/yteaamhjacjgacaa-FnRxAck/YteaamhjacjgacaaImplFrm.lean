/- What the program's FrmOk is made of: pieces, kinds, their bounds, their frames, and whether two frames are the same. -/
import Derived.Test.YteaamhjacjgacaaFrmMath
import Derived.Test.YteaamhjacjgacaaPiece
import Derived.Test.YteaamhjacjgacaaIsNum
import Derived.Laws.BytesArg
import Derived.Lib.Bytes
import Derived.Deep.Light
namespace Go.Proofs.Yteaamhjacjgacaa
open Go.RowKit

set_option maxHeartbeats 1000000 in
theorem data_in (seq ack : Int) (final : Bool) (seg len : Int) (a : Option Addr) (n cap : Nat) (w : World) :
    Calls Try.prog 52 #[.agg #[.int .i64 seq, .int .i64 ack, .bool final, .int .i64 seg, .int .i64 len, .slice a n cap]] w fun e w' => e = .returned (.bool (inB seq 0 7 && inB ack 0 7 && pieceB seg len n)) ∧ Below w.heap.size w w' := by
  go_enter Try.func52, Try.ntmps52
  go_wp2_with (first | (go_at_call 53; refine (number_any _ _).mono ?_; rintro e w' ⟨rfl, rfl⟩) | (go_at_call 50; refine (piece_any _ _ _ _ _ _).mono ?_; rintro e w' ⟨rfl, hb⟩))
  all_goals
    go_ret
    refine ⟨ret_bool ?_, ?_⟩
    · go_light
      simp [*]
    · first | exact (Below.refl _ _).alloc (Nat.le_refl _) _ | exact ((Below.refl _ _).alloc (Nat.le_refl _) _).trans (Below.mono hb (by simp))

set_option maxHeartbeats 1000000 in
theorem say_in (ack : Int) (poll final : Bool) (say : Int) (w : World) :
    Calls Try.prog 55 #[.agg #[.int .i64 ack, .bool poll, .bool final, .int .i64 say]] w fun e w' => e = .returned (.bool (inB say 0 2 && inB ack 0 7 && !(poll && final))) ∧ Below w.heap.size w w' := by
  go_enter Try.func55, Try.ntmps55
  go_wp2_with (go_at_call 53; refine (number_any _ _).mono ?_; rintro e w' ⟨rfl, rfl⟩)
  all_goals
    go_ret
    refine ⟨ret_bool ?_, (Below.refl _ _).alloc (Nat.le_refl _) _⟩
    go_light
    simp only [inB] at *
    grind

set_option maxHeartbeats 1000000 in
theorem piece_in (seg len : Int) (a : Option Addr) (n cap : Nat) (w : World) :
    Calls Try.prog 57 #[.agg #[.int .i64 seg, .int .i64 len, .slice a n cap]] w fun e w' => e = .returned (.bool (pieceB seg len n)) ∧ Below w.heap.size w w' := by
  go_enter Try.func57, Try.ntmps57
  go_wp2_with (go_at_call 50; refine (piece_any _ _ _ _ _ _).mono ?_; rintro e w' ⟨rfl, hb⟩)
  go_ret
  exact ⟨rfl, ((Below.refl _ _).alloc (Nat.le_refl _) _).trans (Below.mono hb (by simp))⟩

set_option maxHeartbeats 1000000 in
theorem grant_in (len : Int) (w : World) :
    Calls Try.prog 59 #[.agg #[.int .i64 len]] w fun e w' => e = .returned (.bool (inB len 1 255)) ∧ Below w.heap.size w w' := by
  go_enter Try.func59, Try.ntmps59
  go_wp2
  all_goals
    go_ret
    refine ⟨ret_bool ?_, (Below.refl _ _).alloc (Nat.le_refl _) _⟩
    go_light
    simp only [inB] at *
    grind

set_option maxHeartbeats 1000000 in
theorem data_frame (seq ack : Int) (final : Bool) (seg len : Int) (a : Option Addr) (n cap : Nat) (w : World) :
    Calls Try.prog 51 #[.agg #[.int .i64 seq, .int .i64 ack, .bool final, .int .i64 seg, .int .i64 len, .slice a n cap]] w fun e w' => e = .returned (.agg #[.int .i64 1, .int .i64 seq, .int .i64 ack, .bool false, .bool final, .int .i64 0, .int .i64 seg, .int .i64 len, .slice a n cap]) ∧ Below w.heap.size w w' := by
  go_enter Try.func51, Try.ntmps51
  go_wp2
  exact bodyPost_ret (v := .agg #[.int .i64 1, .int .i64 seq, .int .i64 ack, .bool false, .bool final, .int .i64 0, .int .i64 seg, .int .i64 len, .slice a n cap]) (by simp [results, Try.results51, go_sem]) rfl ⟨rfl, (((Below.refl _ _).alloc (Nat.le_refl _) _).alloc (by simp; try omega) _).alloc (by simp; try omega) _⟩
set_option maxHeartbeats 1000000 in
theorem say_frame (ack : Int) (poll final : Bool) (say : Int) (w : World) :
    Calls Try.prog 54 #[.agg #[.int .i64 ack, .bool poll, .bool final, .int .i64 say]] w fun e w' => e = .returned (.agg #[.int .i64 2, .int .i64 0, .int .i64 ack, .bool poll, .bool final, .int .i64 say, .int .i64 0, .int .i64 0, .slice none 0 0]) ∧ Below w.heap.size w w' := by
  go_enter Try.func54, Try.ntmps54
  go_wp2
  exact bodyPost_ret (v := .agg #[.int .i64 2, .int .i64 0, .int .i64 ack, .bool poll, .bool final, .int .i64 say, .int .i64 0, .int .i64 0, .slice none 0 0]) (by simp [results, Try.results54, go_sem]) rfl ⟨rfl, ((Below.refl _ _).alloc (Nat.le_refl _) _).alloc (by simp; try omega) _⟩
set_option maxHeartbeats 1000000 in
theorem piece_frame (seg len : Int) (a : Option Addr) (n cap : Nat) (w : World) :
    Calls Try.prog 56 #[.agg #[.int .i64 seg, .int .i64 len, .slice a n cap]] w fun e w' => e = .returned (.agg #[.int .i64 3, .int .i64 0, .int .i64 0, .bool false, .bool false, .int .i64 0, .int .i64 seg, .int .i64 len, .slice a n cap]) ∧ Below w.heap.size w w' := by
  go_enter Try.func56, Try.ntmps56
  go_wp2
  exact bodyPost_ret (v := .agg #[.int .i64 3, .int .i64 0, .int .i64 0, .bool false, .bool false, .int .i64 0, .int .i64 seg, .int .i64 len, .slice a n cap]) (by simp [results, Try.results56, go_sem]) rfl ⟨rfl, (((Below.refl _ _).alloc (Nat.le_refl _) _).alloc (by simp; try omega) _).alloc (by simp; try omega) _⟩
set_option maxHeartbeats 1000000 in
theorem grant_frame (len : Int) (w : World) :
    Calls Try.prog 58 #[.agg #[.int .i64 len]] w fun e w' => e = .returned (.agg #[.int .i64 4, .int .i64 0, .int .i64 0, .bool false, .bool false, .int .i64 0, .int .i64 0, .int .i64 len, .slice none 0 0]) ∧ Below w.heap.size w w' := by
  go_enter Try.func58, Try.ntmps58
  go_wp2
  exact bodyPost_ret (v := .agg #[.int .i64 4, .int .i64 0, .int .i64 0, .bool false, .bool false, .int .i64 0, .int .i64 0, .int .i64 len, .slice none 0 0]) (by simp [results, Try.results58, go_sem]) rfl ⟨rfl, ((Below.refl _ _).alloc (Nat.le_refl _) _).alloc (by simp; try omega) _⟩

theorem Rd.text {w : World} {v : Value} {zs : List Nat} (h : Rd w v zs) : (convert 22 9 v).run Try.prog w = .ok (.string (strOfNums (zs.map fun z : Nat => (z : Int)))) w := by
  rcases h.2.2 with ⟨rfl, a, c, rfl, _⟩ | ⟨b, off, cap, rfl, _, _, _, hc⟩
  · rw [run_convert_bytes_string w 22 9 5 _ 0 c Try.underlying22 Try.underlying5 Try.underlying9]
    cases a <;> simp [Conv.bytesToString, loadCells, strOfNums] <;> rfl
  · exact run_convert_bytes_arg (P := Try.prog) w 22 5 Try.underlying22 Try.underlying5 b off zs.length cap (zs.map fun z : Nat => (z : Int)) (by simp) (fun i hi => by rw [hc i hi]; simp [hi]) 9 Try.underlying9

theorem equal_same (v : Value) (zs : List Nat) (w : World) (h : Rd w v zs) :
    Calls Try.prog 32 #[v, v] w fun e w' => e = .returned (.bool true) ∧ w' = w := by
  have h1 := h.text
  go_enter Try.func32, Try.ntmps32
  go_wp2
  go_ret
  exact ⟨rfl, rfl⟩
theorem equal_nil (v : Value) (zs : List Nat) (w : World) (h : Rd w v zs) :
    Calls Try.prog 32 #[.slice none 0 0, v] w fun e w' => e = .returned (.bool (decide (zs.length = 0))) ∧ w' = w := by
  have h1 := h.text
  have h0 : (convert 22 9 (.slice none 0 0)).run Try.prog w = .ok (.string ByteArray.empty) w := run_convert_bytes_nil (P := Try.prog) w 22 5 Try.underlying22 Try.underlying5 0 0 9 Try.underlying9
  go_enter Try.func32, Try.ntmps32
  go_wp2
  go_ret
  refine ⟨ret_bool ?_, rfl⟩
  rw [Lib.strOfNums_toList]
  cases zs <;> simp [Lib.bytesOf]

set_option maxHeartbeats 1000000 in
theorem kind_of1 (seq ack : Int) (poll final : Bool) (say seg len : Int) (a : Option Addr) (n cap : Nat) (w : World) :
    Calls Try.prog 21 #[.agg #[.int .i64 1, .int .i64 seq, .int .i64 ack, .bool poll, .bool final, .int .i64 say, .int .i64 seg, .int .i64 len, .slice a n cap]] w fun e w' => e = .returned (.tuple #[.iface 62 (.agg #[.int .i64 seq, .int .i64 ack, .bool final, .int .i64 seg, .int .i64 len, .slice a n cap]), .bool true]) ∧ Below w.heap.size w w' := by
  go_enter Try.func21, Try.ntmps21
  go_wp2
  go_ret2
  exact ⟨rfl, ((Below.refl _ _).alloc (Nat.le_refl _) _).alloc (by simp) _⟩
set_option maxHeartbeats 1000000 in
theorem kind_of2 (seq ack : Int) (poll final : Bool) (say seg len : Int) (a : Option Addr) (n cap : Nat) (w : World) :
    Calls Try.prog 21 #[.agg #[.int .i64 2, .int .i64 seq, .int .i64 ack, .bool poll, .bool final, .int .i64 say, .int .i64 seg, .int .i64 len, .slice a n cap]] w fun e w' => e = .returned (.tuple #[.iface 64 (.agg #[.int .i64 ack, .bool poll, .bool final, .int .i64 say]), .bool true]) ∧ Below w.heap.size w w' := by
  go_enter Try.func21, Try.ntmps21
  go_wp2
  go_ret2
  exact ⟨rfl, ((Below.refl _ _).alloc (Nat.le_refl _) _).alloc (by simp) _⟩
set_option maxHeartbeats 1000000 in
theorem kind_of3 (seq ack : Int) (poll final : Bool) (say seg len : Int) (a : Option Addr) (n cap : Nat) (w : World) :
    Calls Try.prog 21 #[.agg #[.int .i64 3, .int .i64 seq, .int .i64 ack, .bool poll, .bool final, .int .i64 say, .int .i64 seg, .int .i64 len, .slice a n cap]] w fun e w' => e = .returned (.tuple #[.iface 66 (.agg #[.int .i64 seg, .int .i64 len, .slice a n cap]), .bool true]) ∧ Below w.heap.size w w' := by
  go_enter Try.func21, Try.ntmps21
  go_wp2
  go_ret2
  exact ⟨rfl, ((Below.refl _ _).alloc (Nat.le_refl _) _).alloc (by simp) _⟩
set_option maxHeartbeats 1000000 in
theorem kind_of4 (seq ack : Int) (poll final : Bool) (say seg len : Int) (a : Option Addr) (n cap : Nat) (w : World) :
    Calls Try.prog 21 #[.agg #[.int .i64 4, .int .i64 seq, .int .i64 ack, .bool poll, .bool final, .int .i64 say, .int .i64 seg, .int .i64 len, .slice a n cap]] w fun e w' => e = .returned (.tuple #[.iface 68 (.agg #[.int .i64 len]), .bool true]) ∧ Below w.heap.size w w' := by
  go_enter Try.func21, Try.ntmps21
  go_wp2
  go_ret2
  exact ⟨rfl, ((Below.refl _ _).alloc (Nat.le_refl _) _).alloc (by simp) _⟩
set_option maxHeartbeats 1000000 in
theorem kind_of0 (kind seq ack : Int) (poll final : Bool) (say seg len : Int) (a : Option Addr) (n cap : Nat) (w : World) (h1 : (kind == 1) = false) (h2 : (kind == 2) = false) (h3 : (kind == 3) = false) (h4 : (kind == 4) = false) :
    Calls Try.prog 21 #[.agg #[.int .i64 kind, .int .i64 seq, .int .i64 ack, .bool poll, .bool final, .int .i64 say, .int .i64 seg, .int .i64 len, .slice a n cap]] w fun e w' => e = .returned (.tuple #[.nilIface, .bool false]) ∧ Below w.heap.size w w' := by
  go_enter Try.func21, Try.ntmps21
  go_wp2
  go_ret2
  exact ⟨rfl, ((Below.refl _ _).alloc (Nat.le_refl _) _).alloc (by simp) _⟩

set_option maxHeartbeats 4000000 in
theorem same_any (k1 q1 a1 : Int) (p1 f1 : Bool) (s1 g1 l1 : Int) (v1 : Value) (b : Bool) (k2 q2 a2 : Int) (p2 f2 : Bool) (s2 g2 l2 : Int) (v2 : Value) (w : World)
    (hE : ∀ W, Below w.heap.size w W → Calls Try.prog 32 #[v1, v2] W fun e w' => e = .returned (.bool b) ∧ w' = W) (ha : ∃ x m c, v1 = .slice x m c) (hb : ∃ x m c, v2 = .slice x m c) :
    Calls Try.prog 22 #[.agg #[.int .i64 k1, .int .i64 q1, .int .i64 a1, .bool p1, .bool f1, .int .i64 s1, .int .i64 g1, .int .i64 l1, v1], .agg #[.int .i64 k2, .int .i64 q2, .int .i64 a2, .bool p2, .bool f2, .int .i64 s2, .int .i64 g2, .int .i64 l2, v2]] w fun e w' =>
      e = .returned (.bool (decide (k1 = k2) && decide (q1 = q2) && decide (a1 = a2) && (p1 == p2) && (f1 == f2) && decide (s1 = s2) && decide (g1 = g2) && decide (l1 = l2) && b)) ∧ Below w.heap.size w w' := by
  obtain ⟨x1, m1, c1, rfl⟩ := ha
  obtain ⟨x2, m2, c2, rfl⟩ := hb
  have HE := hide hE
  clear hE
  have B0 := fun (o1 o2 : Obj) => ((Below.refl w.heap.size w).alloc (Nat.le_refl _) o1).alloc (by simp) o2
  go_enter Try.func22, Try.ntmps22
  go_wp2_with (go_at_call 32; refine (unhide HE _ (B0 _ _)).mono ?_; rintro e w' ⟨rfl, rfl⟩)
  all_goals
    go_ret
    refine ⟨ret_bool ?_, B0 _ _⟩
    go_light
    grind

end Go.Proofs.Yteaamhjacjgacaa
