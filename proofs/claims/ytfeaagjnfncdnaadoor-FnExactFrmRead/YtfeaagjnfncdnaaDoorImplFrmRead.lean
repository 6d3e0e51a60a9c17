/- The program's FrmRead. -/
import Derived.Test.YtfeaagjnfncdnaaDoorFrmReadMath
import Derived.Test.YtfeaagjnfncdnaaDoorImplFrmOk
namespace Go.Proofs.YtfeaagjnfncdnaaDoor
open Go.RowKit

set_option maxHeartbeats 4000000 in
theorem impl_read_bad (v : Value) (bs : List Nat) (w : World) (hv : Rd w v bs) (hE : Errs w) (hk : goodB (cutL bs) (cutB bs) = false) :
    Calls Tryd.prog 6 #[v] w fun e w' => e = .returned (.tuple #[.agg #[.int .i64 0, .int .i64 0, .int .i64 0, .bool false, .bool false, .int .i64 0, .int .i64 0, .int .i64 0, .slice none 0 0], .bool false]) ∧ Below w.heap.size w w' := by
  have hz3 := hE.2.2.2
  have bx : Below w.heap.size w (w.alloc (.cells #[.int .i64 0, .int .i64 0, .int .i64 0, .bool false, .bool false, .int .i64 0, .int .i64 0, .int .i64 0, .slice none 0 0] 24)) := (Below.refl _ _).alloc (Nat.le_refl _) _
  have cR := celF_box w #[.int .i64 0, .int .i64 0, .int .i64 0, .bool false, .bool false, .int .i64 0, .int .i64 0, .int .i64 0, .slice none 0 0] 24
  go_enter Tryd.func6, Tryd.ntmps6
  go_wp2_with fail
  refine (reader_new _ bs _ (hv.kept bx) (hE.kept bx)).mono ?_
  rintro e w1 ⟨g, rfl, hg, F1, b1⟩
  have bl := bchain bx b1
  replace cR := cR.kept b1
  have hg' : w.heap.size + 1 ≤ g := by simpa using hg
  have E1 := hE.kept bl
  have hgl := F1.lt
  have hbad := bad_end _ _ hk
  unfold endE at hbad
  go_wp2_with fail
  refine (read_any g (cutL bs, !cutB bs) _ F1 E1 (by omega)).mono ?_
  rintro e w2 ⟨v2, rfl, o2, F2, g2⟩
  replace bl := bl.grown g2 bl.size (fun k e => by cases e; omega)
  replace cR := cR.other g2 (fun e => by cases e; omega)
  have E2 := E1.grown g2 (by omega)
  obtain ⟨xa, xn, xc, hv2⟩ := own_form o2
  rw [hv2]
  generalize tkZ _ _ _ = z2 at F2 hbad
  generalize tkE _ _ _ = e2 at F2 hbad
  generalize num (cutL bs, !cutB bs) = n0
  generalize num (stp (cutL bs, !cutB bs)) = n1
  generalize num (stp (stp (cutL bs, !cutB bs))) = n2
  generalize num (stp (stp (stp (cutL bs, !cutB bs)))) = n3
  have by2 := fun o : Obj => (Below.refl w2.heap.size w2).alloc (Nat.le_refl _) o
  go_wp2_with fail
  refine (end_any g z2 e2 _ (F2.kept (by2 _)) (E2.kept (by2 _))).mono ?_
  rw [hbad]
  rintro e w3 ⟨rfl, F3, g3⟩
  replace bl := (bchain bl (by2 _)).grown g3 (bchain bl (by2 _)).size (fun k e => by cases e; omega)
  replace cR := (cR.kept (by2 _)).other g3 (fun e => by cases e; omega)
  obtain ⟨s3, ev, hs3, hg3, c0, c1, fz, hne, t, x, rfl⟩ := F3
  have kc := cR.2.1
  have kf := cR.2.2
  go_wp2
  refine bodyPost_ret (v := .tuple #[.agg #[.int .i64 0, .int .i64 0, .int .i64 0, .bool false, .bool false, .int .i64 0, .int .i64 0, .int .i64 0, .slice none 0 0], .bool false]) (by simp [results, Tryd.results6, go_sem, kc]) rfl ⟨rfl, ?_⟩
  iterate 9 refine Below.setCell ?_ (by dsimp only; omega) _
  exact bl
set_option maxHeartbeats 4000000 in
theorem impl_read_no (v : Value) (bs : List Nat) (a c d e : Nat) (r : List Nat) (w : World) (hv : Rd w v bs) (hE : Errs w) (hL : cutL bs = a :: c :: d :: e :: r.length :: r) (hB : cutB bs = true) (hfb : frmB (a : Int) ((c : Int) / 16) ((c : Int) % 16) ((d : Int) % 2 == 1) ((d : Int) / 2 % 2 == 1) ((d : Int) / 4 % 4) ((d : Int) / 16) (e : Int) r.length = false) :
    Calls Tryd.prog 6 #[v] w fun x w' => x = .returned (.tuple #[.agg #[.int .i64 0, .int .i64 0, .int .i64 0, .bool false, .bool false, .int .i64 0, .int .i64 0, .int .i64 0, .slice none 0 0], .bool false]) ∧ Below w.heap.size w w' := by
  have hz3 := hE.2.2.2
  have bx : Below w.heap.size w (w.alloc (.cells #[.int .i64 0, .int .i64 0, .int .i64 0, .bool false, .bool false, .int .i64 0, .int .i64 0, .int .i64 0, .slice none 0 0] 24)) := (Below.refl _ _).alloc (Nat.le_refl _) _
  have cR := celF_box w #[.int .i64 0, .int .i64 0, .int .i64 0, .bool false, .bool false, .int .i64 0, .int .i64 0, .int .i64 0, .slice none 0 0] 24
  go_enter Tryd.func6, Tryd.ntmps6
  go_wp2_with fail
  refine (reader_new _ bs _ (hv.kept bx) (hE.kept bx)).mono ?_
  rintro e w1 ⟨g, rfl, hg, F1, b1⟩
  have bl := bchain bx b1
  replace cR := cR.kept b1
  have hg' : w.heap.size + 1 ≤ g := by simpa using hg
  have E1 := hE.kept bl
  have hgl := F1.lt
  rw [hL, hB] at F1
  go_wp2_with fail
  refine (read_any g (a :: c :: d :: e :: r.length :: r, false) _ F1 E1 (by omega)).mono ?_
  have hend := good_end a c d e r
  unfold endE at hend
  simp only [stp_cons, num_cons] at hend ⊢
  rintro x w2 ⟨v2, rfl, o2, F2, g2⟩
  have hr : tkR r.length r false = r := by simp [tkR]
  rw [hr] at o2
  replace bl := bl.grown g2 bl.size (fun k e => by cases e; omega)
  replace cR := cR.other g2 (fun e => by cases e; omega)
  have E2 := E1.grown g2 (by omega)
  have hby : Byt r := fun z hz => cutL_byt hv.1 z (by rw [hL]; simp [hz])
  have hln : r.length ≤ 2000000 := by have := cutL_length bs; have := hv.2.1; rw [hL] at *; simp at *; omega
  have r2 := o2.rd hby hln
  have sz2 := World.ownsRow.lt o2
  obtain ⟨xa, xc, hv2⟩ := r2.form
  rw [hv2] at o2 r2 sz2 ⊢
  have by2 := fun o : Obj => (Below.refl w2.heap.size w2).alloc (Nat.le_refl _) o
  have cF := celF_box w2 #[.int .i64 (a : Int), .int .i64 ((c : Int) / 16), .int .i64 ((c : Int) % 16), .bool ((d : Int) % 2 == 1), .bool ((d : Int) / 2 % 2 == 1), .int .i64 ((d : Int) / 4 % 4), .int .i64 ((d : Int) / 16), .int .i64 (e : Int), .slice xa r.length xc] 24
  go_wp2_with fail
  refine (end_any g _ _ _ (F2.kept (by2 _)) (E2.kept (by2 _))).mono ?_
  rw [hend]
  rintro x w3 ⟨rfl, F3, g3⟩
  replace bl := (bchain bl (by2 _)).grown g3 (bchain bl (by2 _)).size (fun k e => by cases e; omega)
  replace cR := (cR.kept (by2 _)).other g3 (fun e => by cases e; omega)
  have z12 := g2.size
  replace cF := cF.other g3 (fun e => by cases e; omega)
  replace o2 := (o2.kept (by2 _)).other (u := .slice (some ⟨g, 0, none⟩) 0 0) g3 (fun k e e' => by have := sz2 k e; obtain rfl : g = k := Option.some.inj e'; omega)
  have r3 := o2.rd hby hln
  obtain ⟨s3, ev, hs3, hg3, c0, c1, fz, hne, rfl⟩ := F3
  have kF := cF.2.1
  go_wp2_with fail
  refine (impl_frm _ _ _ _ _ _ _ _ _ r _ r3).mono ?_
  rw [hfb]
  rintro x w4 ⟨rfl, b4⟩
  replace bl := bchain bl b4
  replace cR := cR.kept b4
  replace cF := cF.kept b4
  replace o2 := o2.kept b4
  clear kF
  have kF := cF.2.1
  have kc := cR.2.1
  have kf := cR.2.2
  have zz : w.heap.size + 1 ≤ w1.heap.size := by omega
  go_wp2
  refine bodyPost_ret (v := .tuple #[.agg #[.int .i64 0, .int .i64 0, .int .i64 0, .bool false, .bool false, .int .i64 0, .int .i64 0, .int .i64 0, .slice none 0 0], .bool false]) (by simp [results, Tryd.results6, go_sem, kc]) rfl ⟨rfl, ?_⟩
  iterate 9 refine Below.setCell ?_ (by dsimp only; omega) _
  exact bl
set_option maxHeartbeats 4000000 in
theorem impl_read_yes (v : Value) (bs : List Nat) (a c d e : Nat) (r : List Nat) (w : World) (hv : Rd w v bs) (hE : Errs w) (hL : cutL bs = a :: c :: d :: e :: r.length :: r) (hB : cutB bs = true) (hfb : frmB (a : Int) ((c : Int) / 16) ((c : Int) % 16) ((d : Int) % 2 == 1) ((d : Int) / 2 % 2 == 1) ((d : Int) / 4 % 4) ((d : Int) / 16) (e : Int) r.length = true) :
    Calls Tryd.prog 6 #[v] w fun x w' => ∃ v', x = .returned (.tuple #[.agg #[.int .i64 (a : Int), .int .i64 ((c : Int) / 16), .int .i64 ((c : Int) % 16), .bool ((d : Int) % 2 == 1), .bool ((d : Int) / 2 % 2 == 1), .int .i64 ((d : Int) / 4 % 4), .int .i64 ((d : Int) / 16), .int .i64 (e : Int), v'], .bool true]) ∧ Own w' w.heap.size v' r ∧ Below w.heap.size w w' := by
  have hz3 := hE.2.2.2
  have bx : Below w.heap.size w (w.alloc (.cells #[.int .i64 0, .int .i64 0, .int .i64 0, .bool false, .bool false, .int .i64 0, .int .i64 0, .int .i64 0, .slice none 0 0] 24)) := (Below.refl _ _).alloc (Nat.le_refl _) _
  have cR := celF_box w #[.int .i64 0, .int .i64 0, .int .i64 0, .bool false, .bool false, .int .i64 0, .int .i64 0, .int .i64 0, .slice none 0 0] 24
  go_enter Tryd.func6, Tryd.ntmps6
  go_wp2_with fail
  refine (reader_new _ bs _ (hv.kept bx) (hE.kept bx)).mono ?_
  rintro e w1 ⟨g, rfl, hg, F1, b1⟩
  have bl := bchain bx b1
  replace cR := cR.kept b1
  have hg' : w.heap.size + 1 ≤ g := by simpa using hg
  have E1 := hE.kept bl
  have hgl := F1.lt
  rw [hL, hB] at F1
  go_wp2_with fail
  refine (read_any g (a :: c :: d :: e :: r.length :: r, false) _ F1 E1 (by omega)).mono ?_
  have hend := good_end a c d e r
  unfold endE at hend
  simp only [stp_cons, num_cons] at hend ⊢
  rintro x w2 ⟨v2, rfl, o2, F2, g2⟩
  have hr : tkR r.length r false = r := by simp [tkR]
  rw [hr] at o2
  replace bl := bl.grown g2 bl.size (fun k e => by cases e; omega)
  replace cR := cR.other g2 (fun e => by cases e; omega)
  have E2 := E1.grown g2 (by omega)
  have hby : Byt r := fun z hz => cutL_byt hv.1 z (by rw [hL]; simp [hz])
  have hln : r.length ≤ 2000000 := by have := cutL_length bs; have := hv.2.1; rw [hL] at *; simp at *; omega
  have r2 := o2.rd hby hln
  have sz2 := World.ownsRow.lt o2
  obtain ⟨xa, xc, hv2⟩ := r2.form
  rw [hv2] at o2 r2 sz2 ⊢
  have by2 := fun o : Obj => (Below.refl w2.heap.size w2).alloc (Nat.le_refl _) o
  have cF := celF_box w2 #[.int .i64 (a : Int), .int .i64 ((c : Int) / 16), .int .i64 ((c : Int) % 16), .bool ((d : Int) % 2 == 1), .bool ((d : Int) / 2 % 2 == 1), .int .i64 ((d : Int) / 4 % 4), .int .i64 ((d : Int) / 16), .int .i64 (e : Int), .slice xa r.length xc] 24
  go_wp2_with fail
  refine (end_any g _ _ _ (F2.kept (by2 _)) (E2.kept (by2 _))).mono ?_
  rw [hend]
  rintro x w3 ⟨rfl, F3, g3⟩
  replace bl := (bchain bl (by2 _)).grown g3 (bchain bl (by2 _)).size (fun k e => by cases e; omega)
  replace cR := (cR.kept (by2 _)).other g3 (fun e => by cases e; omega)
  have z12 := g2.size
  replace cF := cF.other g3 (fun e => by cases e; omega)
  replace o2 := (o2.kept (by2 _)).other (u := .slice (some ⟨g, 0, none⟩) 0 0) g3 (fun k e e' => by have := sz2 k e; obtain rfl : g = k := Option.some.inj e'; omega)
  have r3 := o2.rd hby hln
  obtain ⟨s3, ev, hs3, hg3, c0, c1, fz, hne, rfl⟩ := F3
  have kF := cF.2.1
  go_wp2_with fail
  refine (impl_frm _ _ _ _ _ _ _ _ _ r _ r3).mono ?_
  rw [hfb]
  rintro x w4 ⟨rfl, b4⟩
  replace bl := bchain bl b4
  replace cR := cR.kept b4
  replace cF := cF.kept b4
  replace o2 := o2.kept b4
  clear kF
  have kF := cF.2.1
  have kc := cR.2.1
  have kf := cR.2.2
  have zz : w.heap.size + 1 ≤ w1.heap.size := by omega
  go_wp2
  refine bodyPost_ret (v := .tuple #[.agg #[.int .i64 (a : Int), .int .i64 ((c : Int) / 16), .int .i64 ((c : Int) % 16), .bool ((d : Int) % 2 == 1), .bool ((d : Int) / 2 % 2 == 1), .int .i64 ((d : Int) / 4 % 4), .int .i64 ((d : Int) / 16), .int .i64 (e : Int), .slice xa r.length xc], .bool true]) (by simp [results, Tryd.results6, go_sem, kc]) rfl ⟨_, rfl, ?_, ?_⟩
  · refine Own.base ?_ (show w.heap.size ≤ w1.heap.size by omega)
    iterate 9 refine Own.set ?_ _ _ _ (by omega)
    exact o2
  · iterate 9 refine Below.setCell ?_ (by dsimp only; omega) _
    exact bl
theorem impl_read (v : Value) (bs : List Nat) (w : World) (hv : Rd w v bs) (hE : Errs w) :
    Calls Tryd.prog 6 #[v] w fun e w' => ∃ v', e = .returned (.tuple #[.agg #[.int .i64 (rdKind bs), .int .i64 (rdSeq bs), .int .i64 (rdAck bs), .bool (rdPoll bs), .bool (rdFinal bs), .int .i64 (rdSay bs), .int .i64 (rdSeg bs), .int .i64 (rdLen bs), v'], .bool (rdB bs)]) ∧ Own w' w.heap.size v' (rdData bs) ∧ Below w.heap.size w w' := by
  cases hk : goodB (cutL bs) (cutB bs) with
  | false =>
    have hrd : rdB bs = false := by simp [rdB, hk]
    simp only [rdKind, rdSeq, rdAck, rdPoll, rdFinal, rdSay, rdSeg, rdLen, rdData, hrd, Bool.false_eq_true, if_false]
    refine (impl_read_bad v bs w hv hE hk).mono ?_
    rintro e w1 ⟨rfl, b1⟩
    exact ⟨_, rfl, own_none _ _, b1⟩
  | true =>
    obtain ⟨hB, a, c, d, e, r, hL⟩ := good_form _ _ hk
    cases hfb : frmB (a : Int) ((c : Int) / 16) ((c : Int) % 16) ((d : Int) % 2 == 1) ((d : Int) / 2 % 2 == 1) ((d : Int) / 4 % 4) ((d : Int) / 16) (e : Int) r.length with
    | false =>
      have hrd : rdB bs = false := by simp [rdB, hL, hfb]
      simp only [rdKind, rdSeq, rdAck, rdPoll, rdFinal, rdSay, rdSeg, rdLen, rdData, hrd, Bool.false_eq_true, if_false]
      refine (impl_read_no v bs a c d e r w hv hE hL hB hfb).mono ?_
      rintro e w1 ⟨rfl, b1⟩
      exact ⟨_, rfl, own_none _ _, b1⟩
    | true =>
      have hrd : rdB bs = true := by simp [rdB, hL, hfb] at hk ⊢; exact hk
      simp only [rdKind, rdSeq, rdAck, rdPoll, rdFinal, rdSay, rdSeg, rdLen, rdData, hrd, if_true, hL]
      exact impl_read_yes v bs a c d e r w hv hE hL hB hfb
end Go.Proofs.YtfeaagjnfncdnaaDoor
