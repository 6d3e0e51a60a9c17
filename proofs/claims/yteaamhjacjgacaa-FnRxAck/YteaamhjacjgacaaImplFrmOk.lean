/- The program's FrmOk answers whether a frame is ok. -/
import Derived.Test.YteaamhjacjgacaaImplFrm
import Derived.Test.YteaamhjacjgacaaOwnMore
import Derived.Deep.RegionLaw
namespace Go.Proofs.Yteaamhjacjgacaa
open Go.RowKit

theorem meth_data_in (v : Value) (w : World) : (method 190 62 v "loop.example/linkboy/impl.inBounds").run Try.prog w = .ok (52, v) w := by kernel_rfl
theorem meth_data_fr (v : Value) (w : World) : (method 190 62 v "loop.example/linkboy/impl.frame").run Try.prog w = .ok (51, v) w := by kernel_rfl
set_option maxHeartbeats 1000000 in
theorem impl_frm1 (seq ack : Int) (poll final : Bool) (say seg len : Int) (a : Option Addr) (n cap : Nat) (w : World) (zs : List Nat) (_hz : zs.length = n) (hR : Rd w (.slice a n cap) zs) :
    Calls Try.prog 10 #[.agg #[.int .i64 1, .int .i64 seq, .int .i64 ack, .bool poll, .bool final, .int .i64 say, .int .i64 seg, .int .i64 len, .slice a n cap]] w fun e w' => e = .returned (.bool (frmB 1 seq ack poll final say seg len n)) ∧ Below w.heap.size w w' := by
  have m1 := meth_data_in
  have m2 := meth_data_fr
  go_enter Try.func10, Try.ntmps10
  go_wp2_with (first | (go_at_call 21; refine (kind_of1 _ _ _ _ _ _ _ _ _ _ _).mono ?_; rintro e w1 ⟨rfl, b1⟩) | (go_at_call 52; refine (data_in _ _ _ _ _ _ _ _ _).mono ?_; rintro e w2 ⟨rfl, b2⟩))
  · go_ret
    refine ⟨ret_bool ?_, box_below (bchain b1 b2)⟩
    go_light
    grind [inB, frmB]
  · have b12 := bchain b1 b2
    have k2 := box_kept b12
    go_region_with (first | (go_at_call 51; refine (data_frame _ _ _ _ _ _ _ _ _).mono ?_; rintro e w3 ⟨rfl, b3⟩; have b13 := bchain b12.drew b3; have k3 := box_kept b13; have B3 := box_below b13) | (go_at_call 22; refine (same_any _ _ _ _ _ _ _ _ _ true _ _ _ _ _ _ _ _ _ w3 (fun W hW => equal_same _ zs W ((hR.kept B3).kept hW)) ⟨_, _, _, rfl⟩ ⟨_, _, _, rfl⟩).mono ?_; rintro e w4 ⟨rfl, b4⟩))
    all_goals
      go_wp2
      go_ret
      refine ⟨ret_bool ?_, bchain B3 b4⟩
      go_light
      grind [inB, frmB]
theorem meth_say_in (v : Value) (w : World) : (method 190 64 v "loop.example/linkboy/impl.inBounds").run Try.prog w = .ok (55, v) w := by kernel_rfl
theorem meth_say_fr (v : Value) (w : World) : (method 190 64 v "loop.example/linkboy/impl.frame").run Try.prog w = .ok (54, v) w := by kernel_rfl
set_option maxHeartbeats 1000000 in
theorem impl_frm2 (seq ack : Int) (poll final : Bool) (say seg len : Int) (a : Option Addr) (n cap : Nat) (w : World) (zs : List Nat) (_hz : zs.length = n) (hR : Rd w (.slice a n cap) zs) :
    Calls Try.prog 10 #[.agg #[.int .i64 2, .int .i64 seq, .int .i64 ack, .bool poll, .bool final, .int .i64 say, .int .i64 seg, .int .i64 len, .slice a n cap]] w fun e w' => e = .returned (.bool (frmB 2 seq ack poll final say seg len n)) ∧ Below w.heap.size w w' := by
  have m1 := meth_say_in
  have m2 := meth_say_fr
  go_enter Try.func10, Try.ntmps10
  go_wp2_with (first | (go_at_call 21; refine (kind_of2 _ _ _ _ _ _ _ _ _ _ _).mono ?_; rintro e w1 ⟨rfl, b1⟩) | (go_at_call 55; refine (say_in _ _ _ _ _).mono ?_; rintro e w2 ⟨rfl, b2⟩))
  · go_ret
    refine ⟨ret_bool ?_, box_below (bchain b1 b2)⟩
    go_light
    grind [inB, frmB]
  · have b12 := bchain b1 b2
    have k2 := box_kept b12
    go_region_with (first | (go_at_call 54; refine (say_frame _ _ _ _ _).mono ?_; rintro e w3 ⟨rfl, b3⟩; have b13 := bchain b12.drew b3; have k3 := box_kept b13; have B3 := box_below b13) | (go_at_call 22; refine (same_any _ _ _ _ _ _ _ _ _ (decide (zs.length = 0)) _ _ _ _ _ _ _ _ _ w3 (fun W hW => equal_nil _ zs W ((hR.kept B3).kept hW)) ⟨_, _, _, rfl⟩ ⟨_, _, _, rfl⟩).mono ?_; rintro e w4 ⟨rfl, b4⟩))
    all_goals
      go_wp2
      go_ret
      refine ⟨ret_bool ?_, bchain B3 b4⟩
      go_light
      grind [inB, frmB]
theorem meth_piece_in (v : Value) (w : World) : (method 190 66 v "loop.example/linkboy/impl.inBounds").run Try.prog w = .ok (57, v) w := by kernel_rfl
theorem meth_piece_fr (v : Value) (w : World) : (method 190 66 v "loop.example/linkboy/impl.frame").run Try.prog w = .ok (56, v) w := by kernel_rfl
set_option maxHeartbeats 1000000 in
theorem impl_frm3 (seq ack : Int) (poll final : Bool) (say seg len : Int) (a : Option Addr) (n cap : Nat) (w : World) (zs : List Nat) (_hz : zs.length = n) (hR : Rd w (.slice a n cap) zs) :
    Calls Try.prog 10 #[.agg #[.int .i64 3, .int .i64 seq, .int .i64 ack, .bool poll, .bool final, .int .i64 say, .int .i64 seg, .int .i64 len, .slice a n cap]] w fun e w' => e = .returned (.bool (frmB 3 seq ack poll final say seg len n)) ∧ Below w.heap.size w w' := by
  have m1 := meth_piece_in
  have m2 := meth_piece_fr
  go_enter Try.func10, Try.ntmps10
  go_wp2_with (first | (go_at_call 21; refine (kind_of3 _ _ _ _ _ _ _ _ _ _ _).mono ?_; rintro e w1 ⟨rfl, b1⟩) | (go_at_call 57; refine (piece_in _ _ _ _ _ _).mono ?_; rintro e w2 ⟨rfl, b2⟩))
  · go_ret
    refine ⟨ret_bool ?_, box_below (bchain b1 b2)⟩
    go_light
    grind [inB, frmB]
  · have b12 := bchain b1 b2
    have k2 := box_kept b12
    go_region_with (first | (go_at_call 56; refine (piece_frame _ _ _ _ _ _).mono ?_; rintro e w3 ⟨rfl, b3⟩; have b13 := bchain b12.drew b3; have k3 := box_kept b13; have B3 := box_below b13) | (go_at_call 22; refine (same_any _ _ _ _ _ _ _ _ _ true _ _ _ _ _ _ _ _ _ w3 (fun W hW => equal_same _ zs W ((hR.kept B3).kept hW)) ⟨_, _, _, rfl⟩ ⟨_, _, _, rfl⟩).mono ?_; rintro e w4 ⟨rfl, b4⟩))
    all_goals
      go_wp2
      go_ret
      refine ⟨ret_bool ?_, bchain B3 b4⟩
      go_light
      grind [inB, frmB]
theorem meth_grant_in (v : Value) (w : World) : (method 190 68 v "loop.example/linkboy/impl.inBounds").run Try.prog w = .ok (59, v) w := by kernel_rfl
theorem meth_grant_fr (v : Value) (w : World) : (method 190 68 v "loop.example/linkboy/impl.frame").run Try.prog w = .ok (58, v) w := by kernel_rfl
set_option maxHeartbeats 1000000 in
theorem impl_frm4 (seq ack : Int) (poll final : Bool) (say seg len : Int) (a : Option Addr) (n cap : Nat) (w : World) (zs : List Nat) (_hz : zs.length = n) (hR : Rd w (.slice a n cap) zs) :
    Calls Try.prog 10 #[.agg #[.int .i64 4, .int .i64 seq, .int .i64 ack, .bool poll, .bool final, .int .i64 say, .int .i64 seg, .int .i64 len, .slice a n cap]] w fun e w' => e = .returned (.bool (frmB 4 seq ack poll final say seg len n)) ∧ Below w.heap.size w w' := by
  have m1 := meth_grant_in
  have m2 := meth_grant_fr
  go_enter Try.func10, Try.ntmps10
  go_wp2_with (first | (go_at_call 21; refine (kind_of4 _ _ _ _ _ _ _ _ _ _ _).mono ?_; rintro e w1 ⟨rfl, b1⟩) | (go_at_call 59; refine (grant_in _ _).mono ?_; rintro e w2 ⟨rfl, b2⟩))
  · go_ret
    refine ⟨ret_bool ?_, box_below (bchain b1 b2)⟩
    go_light
    grind [inB, frmB]
  · have b12 := bchain b1 b2
    have k2 := box_kept b12
    go_region_with (first | (go_at_call 58; refine (grant_frame _ _).mono ?_; rintro e w3 ⟨rfl, b3⟩; have b13 := bchain b12.drew b3; have k3 := box_kept b13; have B3 := box_below b13) | (go_at_call 22; refine (same_any _ _ _ _ _ _ _ _ _ (decide (zs.length = 0)) _ _ _ _ _ _ _ _ _ w3 (fun W hW => equal_nil _ zs W ((hR.kept B3).kept hW)) ⟨_, _, _, rfl⟩ ⟨_, _, _, rfl⟩).mono ?_; rintro e w4 ⟨rfl, b4⟩))
    all_goals
      go_wp2
      go_ret
      refine ⟨ret_bool ?_, bchain B3 b4⟩
      go_light
      grind [inB, frmB]
set_option maxHeartbeats 1000000 in
theorem impl_frm0 (kind seq ack : Int) (poll final : Bool) (say seg len : Int) (a : Option Addr) (n cap : Nat) (w : World) (h1 : kind ≠ 1) (h2 : kind ≠ 2) (h3 : kind ≠ 3) (h4 : kind ≠ 4) :
    Calls Try.prog 10 #[.agg #[.int .i64 kind, .int .i64 seq, .int .i64 ack, .bool poll, .bool final, .int .i64 say, .int .i64 seg, .int .i64 len, .slice a n cap]] w fun e w' => e = .returned (.bool (frmB kind seq ack poll final say seg len n)) ∧ Below w.heap.size w w' := by
  have g1 : (kind == 1) = false := by simpa using h1
  have g2 : (kind == 2) = false := by simpa using h2
  have g3 : (kind == 3) = false := by simpa using h3
  have g4 : (kind == 4) = false := by simpa using h4
  go_enter Try.func10, Try.ntmps10
  go_wp2_with (go_at_call 21; refine (kind_of0 _ _ _ _ _ _ _ _ _ _ _ _ g1 g2 g3 g4).mono ?_; rintro e w1 ⟨rfl, b1⟩)
  go_ret
  refine ⟨ret_bool ?_, box_below b1⟩
  go_light
  grind [frmB]
theorem impl_frm (kind seq ack : Int) (poll final : Bool) (say seg len : Int) (s : Value) (zs : List Nat) (w : World) (hR : Rd w s zs) :
    Calls Try.prog 10 #[.agg #[.int .i64 kind, .int .i64 seq, .int .i64 ack, .bool poll, .bool final, .int .i64 say, .int .i64 seg, .int .i64 len, s]] w fun e w' => e = .returned (.bool (frmB kind seq ack poll final say seg len zs.length)) ∧ Below w.heap.size w w' := by
  obtain ⟨a, cap, rfl⟩ := hR.form
  by_cases h1 : kind = 1
  · subst h1; exact impl_frm1 _ _ _ _ _ _ _ _ _ _ _ zs rfl hR
  by_cases h2 : kind = 2
  · subst h2; exact impl_frm2 _ _ _ _ _ _ _ _ _ _ _ zs rfl hR
  by_cases h3 : kind = 3
  · subst h3; exact impl_frm3 _ _ _ _ _ _ _ _ _ _ _ zs rfl hR
  by_cases h4 : kind = 4
  · subst h4; exact impl_frm4 _ _ _ _ _ _ _ _ _ _ _ zs rfl hR
  exact impl_frm0 _ _ _ _ _ _ _ _ _ _ _ _ h1 h2 h3 h4
end Go.Proofs.Yteaamhjacjgacaa
