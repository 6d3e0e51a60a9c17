/- Laws and contracts that the proof stands on: SpecFrmRead, SpecRead, CutPut, OpensBytes. -/
import Derived.Test.YthnlpdjjnfkmeaaDoorMa
import Derived.ProofKit
import Derived.OpenShut
/- FrmRead of the specification. -/
namespace Go.Proofs.YthnlpdjjnfkmeaaDoor
open Go.RowKit

set_option maxHeartbeats 4000000 in
theorem spec_read_cut (v : Value) (bs : List Nat) (w : World) (hv : Rd w v bs) (hk : cutB bs = false) :
    Calls Tryd.prog 9 #[v] w fun e w' => e = .returned (.tuple #[.agg #[.int .i64 0, .int .i64 0, .int .i64 0, .bool false, .bool false, .int .i64 0, .int .i64 0, .int .i64 0, .slice none 0 0], .bool false]) ∧ Below w.heap.size w w' := by
  have bx : Below w.heap.size w (w.alloc (.cells #[.int .i64 0, .int .i64 0, .int .i64 0, .bool false, .bool false, .int .i64 0, .int .i64 0, .int .i64 0, .slice none 0 0] 24)) := (Below.refl _ _).alloc (Nat.le_refl _) _
  have cR := celF_box w #[.int .i64 0, .int .i64 0, .int .i64 0, .bool false, .bool false, .int .i64 0, .int .i64 0, .int .i64 0, .slice none 0 0] 24
  go_enter Tryd.func9, Tryd.ntmps9
  go_wp2_with fail
  refine (spec_cut _ bs _ (hv.kept bx)).mono ?_
  rw [hk]
  rintro e w1 ⟨v1, rfl, o1, b1⟩
  have bl := bchain bx b1
  replace cR := cR.kept b1
  have kc := cR.2.1
  have kf := cR.2.2
  go_wp2
  refine bodyPost_ret (v := .tuple #[.agg #[.int .i64 0, .int .i64 0, .int .i64 0, .bool false, .bool false, .int .i64 0, .int .i64 0, .int .i64 0, .slice none 0 0], .bool false]) (by simp [results, Tryd.results9, go_sem, kc]) rfl ⟨rfl, ?_⟩
  iterate 9 refine Below.setCell ?_ (by dsimp only; omega) _
  exact bl
set_option maxHeartbeats 4000000 in
theorem spec_read_short (v : Value) (bs : List Nat) (w : World) (hv : Rd w v bs) (hk : cutB bs = true) (h5 : (cutL bs).length < 5) :
    Calls Tryd.prog 9 #[v] w fun e w' => e = .returned (.tuple #[.agg #[.int .i64 0, .int .i64 0, .int .i64 0, .bool false, .bool false, .int .i64 0, .int .i64 0, .int .i64 0, .slice none 0 0], .bool false]) ∧ Below w.heap.size w w' := by
  have bx : Below w.heap.size w (w.alloc (.cells #[.int .i64 0, .int .i64 0, .int .i64 0, .bool false, .bool false, .int .i64 0, .int .i64 0, .int .i64 0, .slice none 0 0] 24)) := (Below.refl _ _).alloc (Nat.le_refl _) _
  have cR := celF_box w #[.int .i64 0, .int .i64 0, .int .i64 0, .bool false, .bool false, .int .i64 0, .int .i64 0, .int .i64 0, .slice none 0 0] 24
  have h5' : ((cutL bs).length : Int) < 5 := by omega
  have pl := cutL_length bs
  have hl := hv.2.1
  go_enter Tryd.func9, Tryd.ntmps9
  go_wp2_with fail
  refine (spec_cut _ bs _ (hv.kept bx)).mono ?_
  rw [hk]
  rintro e w1 ⟨v1, rfl, o1, b1⟩
  have bl := bchain bx b1
  replace cR := cR.kept b1
  have kc := cR.2.1
  have kf := cR.2.2
  obtain ⟨xa, xc, hv1⟩ := (o1.rd (cutL_byt hv.1) (by omega)).form
  rw [hv1]
  go_wp2
  refine bodyPost_ret (v := .tuple #[.agg #[.int .i64 0, .int .i64 0, .int .i64 0, .bool false, .bool false, .int .i64 0, .int .i64 0, .int .i64 0, .slice none 0 0], .bool false]) (by simp [results, Tryd.results9, go_sem, kc]) rfl ⟨rfl, ?_⟩
  iterate 9 refine Below.setCell ?_ (by dsimp only; omega) _
  exact bl
theorem own_at {w : World} {B : Nat} {v : Value} {zs : List Nat} (h : Own w B v zs) (h0 : 0 < zs.length) : ∃ g cap, v = .slice (some ⟨g, 0, none⟩) zs.length cap ∧ zs.length ≤ cap ∧ B ≤ g ∧ g < w.heap.size ∧ ∀ j, j < zs.length → w.cell? ⟨g, j, none⟩ = some (.int .u8 ((zs.getD j 0 : Nat) : Int)) := by
  have h1 := h
  rcases h.2 with ⟨_, h⟩ | ⟨g, cap, cur, e, hb, _, h3, _⟩
  · omega
  · refine ⟨g, cap, e, h3, hb, (World.ownsRow.lt h1 g (by rw [e]; rfl)).2, fun j hj => ?_⟩
    unfold Own at h1
    rw [e] at h1
    rw [h1.cellAt j (by omega), bcells_get zs j hj]
set_option maxHeartbeats 4000000 in
theorem spec_read_len (v : Value) (bs : List Nat) (a c d e n : Nat) (r : List Nat) (w : World) (hv : Rd w v bs) (hk : cutB bs = true) (hL : cutL bs = a :: c :: d :: e :: n :: r) (h5 : n ≠ r.length ∨ 8 < r.length) :
    Calls Tryd.prog 9 #[v] w fun e w' => e = .returned (.tuple #[.agg #[.int .i64 0, .int .i64 0, .int .i64 0, .bool false, .bool false, .int .i64 0, .int .i64 0, .int .i64 0, .slice none 0 0], .bool false]) ∧ Below w.heap.size w w' := by
  have bx : Below w.heap.size w (w.alloc (.cells #[.int .i64 0, .int .i64 0, .int .i64 0, .bool false, .bool false, .int .i64 0, .int .i64 0, .int .i64 0, .slice none 0 0] 24)) := (Below.refl _ _).alloc (Nat.le_refl _) _
  have cR := celF_box w #[.int .i64 0, .int .i64 0, .int .i64 0, .bool false, .bool false, .int .i64 0, .int .i64 0, .int .i64 0, .slice none 0 0] 24
  have hll : (cutL bs).length = r.length + 5 := by rw [hL]; rfl
  have h5' : ¬ ((r.length : Int) + 5 < 5) := by omega
  have pl := cutL_length bs
  have hl := hv.2.1
  have hn : n < 256 := cutL_byt hv.1 n (by rw [hL]; simp)
  go_enter Tryd.func9, Tryd.ntmps9
  go_wp2_with fail
  refine (spec_cut _ bs _ (hv.kept bx)).mono ?_
  rw [hk]
  rintro x w1 ⟨v1, rfl, o1, b1⟩
  have bl := bchain bx b1
  replace cR := cR.kept b1
  have kc := cR.2.1
  have kf := cR.2.2
  obtain ⟨g, cap, hv1, hcap, hg1, hg2, hc⟩ := own_at o1 (by omega)
  have c4 := hc 4 (by omega)
  rw [hL] at c4
  simp at c4
  rw [hv1, hll]
  have i4 : (4 : Int) < (r.length : Int) + 5 := by omega
  by_cases hne : n = r.length
  · subst hne
    have h8 : (13 : Int) < (r.length : Int) + 5 := by omega
    go_wp2
    refine bodyPost_ret (v := .tuple #[.agg #[.int .i64 0, .int .i64 0, .int .i64 0, .bool false, .bool false, .int .i64 0, .int .i64 0, .int .i64 0, .slice none 0 0], .bool false]) (by simp [results, Tryd.results9, go_sem, kc]) rfl ⟨rfl, ?_⟩
    iterate 9 refine Below.setCell ?_ (by dsimp only; omega) _
    exact bl
  · have hne' : ((n : Int) != (r.length : Int)) = true := by simp; omega
    go_wp2
    refine bodyPost_ret (v := .tuple #[.agg #[.int .i64 0, .int .i64 0, .int .i64 0, .bool false, .bool false, .int .i64 0, .int .i64 0, .int .i64 0, .slice none 0 0], .bool false]) (by simp [results, Tryd.results9, go_sem, kc]) rfl ⟨rfl, ?_⟩
    iterate 9 refine Below.setCell ?_ (by dsimp only; omega) _
    exact bl
theorem own_len {w : World} {B : Nat} {x : Option Addr} {n c : Nat} {zs : List Nat} (h : Own w B (.slice x n c) zs) : n = zs.length := by
  rcases h.2 with ⟨e, h0⟩ | ⟨g, cap, cur, e, _⟩
  · simp only [Value.slice.injEq] at e; omega
  · simp only [Value.slice.injEq] at e; exact e.2.1
set_option maxRecDepth 100000 in
set_option maxHeartbeats 3000000 in
theorem spec_read_yes (v : Value) (bs : List Nat) (a c d e : Nat) (r : List Nat) (w : World) (hv : Rd w v bs) (hk : cutB bs = true) (hL : cutL bs = a :: c :: d :: e :: r.length :: r) (h8 : r.length ≤ 8) (hfb : frmB (a : Int) ((c : Int) / 16) ((c : Int) % 16) ((d : Int) % 2 == 1) ((d : Int) / 2 % 2 == 1) ((d : Int) / 4 % 4) ((d : Int) / 16) (e : Int) r.length = true) :
    Calls Tryd.prog 9 #[v] w fun x w' => ∃ v', x = .returned (.tuple #[.agg #[.int .i64 (a : Int), .int .i64 ((c : Int) / 16), .int .i64 ((c : Int) % 16), .bool ((d : Int) % 2 == 1), .bool ((d : Int) / 2 % 2 == 1), .int .i64 ((d : Int) / 4 % 4), .int .i64 ((d : Int) / 16), .int .i64 (e : Int), v'], .bool true]) ∧ Own w' w.heap.size v' r ∧ Below w.heap.size w w' := by
  have bx : Below w.heap.size w (w.alloc (.cells #[.int .i64 0, .int .i64 0, .int .i64 0, .bool false, .bool false, .int .i64 0, .int .i64 0, .int .i64 0, .slice none 0 0] 24)) := (Below.refl _ _).alloc (Nat.le_refl _) _
  have cR := celF_box w #[.int .i64 0, .int .i64 0, .int .i64 0, .bool false, .bool false, .int .i64 0, .int .i64 0, .int .i64 0, .slice none 0 0] 24
  have hll : (cutL bs).length = r.length + 5 := by rw [hL]; rfl
  have h5' : ¬ ((r.length : Int) + 5 < 5) := by omega
  have h13 : ¬ (13 : Int) < (r.length : Int) + 5 := by omega
  have hby := cutL_byt hv.1
  rw [hL] at hby
  have ha : a < 256 := hby a (by simp)
  have hc' : c < 256 := hby c (by simp)
  have hd : d < 256 := hby d (by simp)
  have he : e < 256 := hby e (by simp)
  have hbr : Byt r := fun z hz => hby z (by simp [hz])
  have i0 : (0 : Int) < (r.length : Int) + 5 := by omega
  have i1 : (1 : Int) < (r.length : Int) + 5 := by omega
  have i2 : (2 : Int) < (r.length : Int) + 5 := by omega
  have i3 : (3 : Int) < (r.length : Int) + 5 := by omega
  have i4 : (4 : Int) < (r.length : Int) + 5 := by omega
  go_enter Tryd.func9, Tryd.ntmps9
  go_wp2_with fail
  refine (spec_cut _ bs _ (hv.kept bx)).mono ?_
  rw [hk]
  rintro x w1 ⟨v1, rfl, o1, b1⟩
  have bl := bchain bx b1
  replace cR := cR.kept b1
  have zR := cR.1
  obtain ⟨g, cap, hv1, hcap, hg1, hg2, hc⟩ := own_at o1 (by omega)
  rw [hll] at hv1 hcap
  rw [hL] at hc
  have c0 := hc 0 (by simp)
  have c1 := hc 1 (by simp)
  have c2 := hc 2 (by simp)
  have c3 := hc 3 (by simp)
  have c4 := hc 4 (by simp)
  simp at c0 c1 c2 c3 c4
  have rb := o1.rd (cutL_byt hv.1) (by have := cutL_length bs; have := hv.2.1; omega)
  rw [hL, hv1] at rb
  have rT := Rd.rest (n := 5) (zs := a :: c :: d :: e :: r.length :: r) rb (by simp)
  simp only [List.length_cons, List.drop_succ_cons, List.drop_zero, Option.map_some, add_at, Nat.zero_add] at rT
  obtain ⟨A5, hA5⟩ : ∃ A5, (if cap = 5 then some (⟨g, 0, none⟩ : Addr) else some ⟨g, 5, none⟩) = A5 := ⟨_, rfl⟩
  rw [hA5] at rT
  rw [hv1]
  go_wp2
  have f0 : IntKind.i64.wrap ((a : Int)) = (a : Int) := by rw [IntKind.wrap_i64]; omega
  have f1 : IntKind.i64.wrap ((c : Int) / 16) = (c : Int) / 16 := by rw [IntKind.wrap_i64]; omega
  have f2 : IntKind.i64.wrap ((c : Int) % 16) = (c : Int) % 16 := by rw [IntKind.wrap_i64]; omega
  have f3 : IntKind.i64.wrap ((d : Int) / 4 % 4) = (d : Int) / 4 % 4 := by rw [IntKind.wrap_i64]; omega
  have f4 : IntKind.i64.wrap ((d : Int) / 16) = (d : Int) / 16 := by rw [IntKind.wrap_i64]; omega
  have f5 : IntKind.i64.wrap ((e : Int)) = (e : Int) := by rw [IntKind.wrap_i64]; omega
  have f6 : IntKind.u8.wrap ((c : Int) / 16) = (c : Int) / 16 := by rw [IntKind.wrap_u8']; omega
  have f7 : IntKind.u8.wrap ((c : Int) % 16) = (c : Int) % 16 := by rw [IntKind.wrap_u8']; omega
  have f8 : IntKind.u8.wrap ((d : Int) % 2) = (d : Int) % 2 := by rw [IntKind.wrap_u8']; omega
  have f9 : IntKind.u8.wrap ((d : Int) / 2) = (d : Int) / 2 := by rw [IntKind.wrap_u8']; omega
  have f10 : IntKind.u8.wrap ((d : Int) / 2 % 2) = (d : Int) / 2 % 2 := by rw [IntKind.wrap_u8']; omega
  have f11 : IntKind.u8.wrap ((d : Int) / 4) = (d : Int) / 4 := by rw [IntKind.wrap_u8']; omega
  have f12 : IntKind.u8.wrap ((d : Int) / 4 % 4) = (d : Int) / 4 % 4 := by rw [IntKind.wrap_u8']; omega
  have f13 : IntKind.u8.wrap ((d : Int) / 16) = (d : Int) / 16 := by rw [IntKind.wrap_u8']; omega
  have t0 : (c : Int).tmod 16 = (c : Int) % 16 := Int.tmod_eq_emod_of_nonneg (by omega)
  have t1 : (d : Int).tmod 2 = (d : Int) % 2 := Int.tmod_eq_emod_of_nonneg (by omega)
  have t2 : ((d : Int) / 2).tmod 2 = (d : Int) / 2 % 2 := Int.tmod_eq_emod_of_nonneg (by omega)
  have t3 : ((d : Int) / 4).tmod 4 = (d : Int) / 4 % 4 := Int.tmod_eq_emod_of_nonneg (by omega)
  obtain ⟨ι, W, inW, ofW⟩ := cls (fun w' => Below w1.heap.size w1.drew w')
  have ne : Nonempty ι := ⟨(inW _ (Below.refl _ _)).choose⟩
  have q0 : ∀ x, (W x).cell? ⟨g, 0, none⟩ = some (.int .u8 (a : Int)) := fun x => ((ofW x).cell (p := ⟨g, 0, none⟩) hg2).trans c0
  have q1 : ∀ x, (W x).cell? ⟨g, 1, none⟩ = some (.int .u8 (c : Int)) := fun x => ((ofW x).cell (p := ⟨g, 1, none⟩) hg2).trans c1
  have q2 : ∀ x, (W x).cell? ⟨g, 2, none⟩ = some (.int .u8 (d : Int)) := fun x => ((ofW x).cell (p := ⟨g, 2, none⟩) hg2).trans c2
  have q3 : ∀ x, (W x).cell? ⟨g, 3, none⟩ = some (.int .u8 (e : Int)) := fun x => ((ofW x).cell (p := ⟨g, 3, none⟩) hg2).trans c3
  refine region_part (fun w' => ∃ x, w' = W x) 46 [(0, true), (1, true), (2, true), (3, true), (4, true), (5, true), (6, true), (7, true), (8, true), (9, true), (10, true), (11, true), (12, true), (13, true), (14, true), (15, true), (16, true), (17, true), (18, true), (19, true), (20, true), (21, true), (22, true), (23, true), (24, true), (25, true), (26, true), (27, true), (28, true), (29, true), (30, true), (31, true), (32, true), (33, true), (34, true), (35, true), (36, true), (37, true), (38, true), (39, true), (41, true), (42, true)] 5 ⟨none, .assign (.tmp 0), 0, "", #[], none⟩ (by kernel_rfl) (by kernel_rfl) (inW _ (Below.refl _ _)) (fun x _ _ _ _ h => by cases x <;> exact h) ?_
  simp only [arrange, List.map_cons, List.map_nil, List.getD_cons_zero, List.getD_cons_succ]
  iterate 42 (refine by_read rfl (fun K hK => ?_); go_simp; refine hK _ ?_; clear hK K)
  refine by_nil ?_
  have hz1 : w.heap.size < w1.heap.size := zR
  refine rest_two 40 45 ⟨none, .assign (.tmp 0), 0, "", #[], none⟩ (by kernel_rfl) ?_ ?_
  · simp only [arrange, List.map_cons, List.map_nil, List.getD_cons_zero, List.getD_cons_succ]
    refine by_move rfl (fun K hK => ?_)
    go_simp
    have y1 : Below w1.heap.size w1.drew (w1.alloc (.cells #[] 5)).drew := (Below.refl w1.heap.size w1.drew).alloc (Nat.le_refl _) _
    refine hK _ _ (fun _ => inW _ y1) ?_
    clear hK K
    refine by_nil ?_
    have oE : Own (w1.alloc (.cells #[] 5)).drew w1.heap.size (.slice (some ⟨w1.heap.size, 0, none⟩) 0 0) [] := World.ownsRow.drew (own_empty w1 w1.heap.size (Nat.le_refl _))
    have rE := rT.kept ((Below.refl w1.heap.size w1).drew.trans y1)
    have cR6 := cR.kept ((Below.refl w1.heap.size w1).drew.trans y1)
    have bl6 := bchain bl ((Below.refl w1.heap.size w1).drew.trans y1)
    have z4 : w1.heap.size + 1 ≤ (w1.alloc (.cells #[] 5)).drew.heap.size := by simp
    generalize (w1.alloc (.cells #[] 5)).drew = w4 at y1 oE rE cR6 bl6 z4 ⊢
    refine rest_two 43 45 ⟨none, .assign (.tmp 0), 0, "", #[], none⟩ (by kernel_rfl) ?_ ?_
    · simp only [arrange, List.map_cons, List.map_nil, List.getD_cons_zero, List.getD_cons_succ]
      refine by_move rfl (fun K hK => ?_)
      refine step_app rfl (.tmp 75) (.tmp 77) rfl (w1.heap.size) _ [] rfl oE _ r rfl rE (by simp; omega) (by omega) ?_
      intro v5 w5 o5 g5
      obtain ⟨xa, xn, xc, hv5⟩ := own_form o5
      rw [hv5] at o5 ⊢
      have y3 : Below w1.heap.size w1.drew w5 := y1.grown g5 y1.size (fun k h => by obtain rfl : w1.heap.size = k := Option.some.inj h; omega)
      replace cR6 := cR6.other g5 (fun h => absurd (Option.some.inj (show some w.heap.size = some w1.heap.size from h)) (by omega))
      replace bl6 := bl6.grown g5 bl6.size (fun k h => by obtain rfl : w1.heap.size = k := Option.some.inj h; omega)
      have z5 := g5.size
      refine hK _ _ (fun _ => inW _ y3) ?_
      clear hK K
      refine by_nil ?_
      refine rest_by [(44, true), (45, false), (46, false)] ⟨none, .assign (.tmp 0), 0, "", #[], none⟩ (by kernel_rfl) (inW _ y3) (fun x _ _ _ _ h => by cases x <;> exact h) ?_
      simp only [arrange, List.map_cons, List.map_nil, List.getD_cons_zero, List.getD_cons_succ]
      refine by_read rfl (fun K hK => ?_)
      go_simp
      refine hK _ ?_
      clear hK K
      refine by_move rfl (fun K hK => ?_)
      go_simp
      have y4 : Below w1.heap.size w1.drew (w5.alloc (.cells #[.int .i64 0, .int .i64 0, .int .i64 0, .bool false, .bool false, .int .i64 0, .int .i64 0, .int .i64 0, .slice none 0 0] 24)) := y3.alloc (by omega) _
      have cF := celF_box w5 #[.int .i64 0, .int .i64 0, .int .i64 0, .bool false, .bool false, .int .i64 0, .int .i64 0, .int .i64 0, .slice none 0 0] 24
      have nF : some w5.heap.size ≠ (Value.slice xa xn xc).ownBlock := own_box_apart o5 (.inr (Nat.le_refl _))
      have o6 := o5.alloc (.cells #[.int .i64 0, .int .i64 0, .int .i64 0, .bool false, .bool false, .int .i64 0, .int .i64 0, .int .i64 0, .slice none 0 0] 24)
      replace cR6 := cR6.kept ((Below.refl _ _).alloc (Nat.le_refl _) (.cells #[.int .i64 0, .int .i64 0, .int .i64 0, .bool false, .bool false, .int .i64 0, .int .i64 0, .int .i64 0, .slice none 0 0] 24))
      replace bl6 := bl6.alloc bl6.size (.cells #[.int .i64 0, .int .i64 0, .int .i64 0, .bool false, .bool false, .int .i64 0, .int .i64 0, .int .i64 0, .slice none 0 0] 24)
      have hFR : w.heap.size ≠ w5.heap.size := by omega
      have hFw : w.heap.size ≤ w5.heap.size := by omega
      generalize w5.alloc (.cells #[.int .i64 0, .int .i64 0, .int .i64 0, .bool false, .bool false, .int .i64 0, .int .i64 0, .int .i64 0, .slice none 0 0] 24) = w6 at y4 cF o6 cR6 bl6 ⊢
      refine hK _ _ (fun _ => inW _ y4) ?_
      clear hK K
      have kc := cF.2.1
      have kf := cF.2.2
      refine by_move rfl (fun K hK => ?_)
      go_simp
      refine hK _ _ (fun h => absurd h (by decide)) ?_
      clear hK K kc kf
      refine by_nil ?_
      have cF7 : CelF (((((((((w6.setCell ⟨w5.heap.size, 0, none⟩ (.int .i64 (a : Int))).setCell ⟨w5.heap.size, 1, none⟩ (.int .i64 ((c : Int) / 16))).setCell ⟨w5.heap.size, 2, none⟩ (.int .i64 ((c : Int) % 16))).setCell ⟨w5.heap.size, 3, none⟩ (.bool ((d : Int) % 2 == 1))).setCell ⟨w5.heap.size, 4, none⟩ (.bool ((d : Int) / 2 % 2 == 1))).setCell ⟨w5.heap.size, 5, none⟩ (.int .i64 ((d : Int) / 4 % 4))).setCell ⟨w5.heap.size, 6, none⟩ (.int .i64 ((d : Int) / 16))).setCell ⟨w5.heap.size, 7, none⟩ (.int .i64 (e : Int))).setCell ⟨w5.heap.size, 8, none⟩ (.slice xa xn xc)) w5.heap.size #[.int .i64 (a : Int), .int .i64 ((c : Int) / 16), .int .i64 ((c : Int) % 16), .bool ((d : Int) % 2 == 1), .bool ((d : Int) / 2 % 2 == 1), .int .i64 ((d : Int) / 4 % 4), .int .i64 ((d : Int) / 16), .int .i64 (e : Int), .slice xa xn xc] := by
        have := (((((((((cF.put 0 (by simp) (.int .i64 (a : Int))).put 1 (by simp) (.int .i64 ((c : Int) / 16))).put 2 (by simp) (.int .i64 ((c : Int) % 16))).put 3 (by simp) (.bool ((d : Int) % 2 == 1))).put 4 (by simp) (.bool ((d : Int) / 2 % 2 == 1))).put 5 (by simp) (.int .i64 ((d : Int) / 4 % 4))).put 6 (by simp) (.int .i64 ((d : Int) / 16))).put 7 (by simp) (.int .i64 (e : Int))).put 8 (by simp) (.slice xa xn xc))
        simpa using this
      have o7 : Own (((((((((w6.setCell ⟨w5.heap.size, 0, none⟩ (.int .i64 (a : Int))).setCell ⟨w5.heap.size, 1, none⟩ (.int .i64 ((c : Int) / 16))).setCell ⟨w5.heap.size, 2, none⟩ (.int .i64 ((c : Int) % 16))).setCell ⟨w5.heap.size, 3, none⟩ (.bool ((d : Int) % 2 == 1))).setCell ⟨w5.heap.size, 4, none⟩ (.bool ((d : Int) / 2 % 2 == 1))).setCell ⟨w5.heap.size, 5, none⟩ (.int .i64 ((d : Int) / 4 % 4))).setCell ⟨w5.heap.size, 6, none⟩ (.int .i64 ((d : Int) / 16))).setCell ⟨w5.heap.size, 7, none⟩ (.int .i64 (e : Int))).setCell ⟨w5.heap.size, 8, none⟩ (.slice xa xn xc)) w1.heap.size (.slice xa xn xc) r := by
        iterate 9 refine Own.far ?_ _ _ _ nF
        exact o6
      have cR7 : CelF (((((((((w6.setCell ⟨w5.heap.size, 0, none⟩ (.int .i64 (a : Int))).setCell ⟨w5.heap.size, 1, none⟩ (.int .i64 ((c : Int) / 16))).setCell ⟨w5.heap.size, 2, none⟩ (.int .i64 ((c : Int) % 16))).setCell ⟨w5.heap.size, 3, none⟩ (.bool ((d : Int) % 2 == 1))).setCell ⟨w5.heap.size, 4, none⟩ (.bool ((d : Int) / 2 % 2 == 1))).setCell ⟨w5.heap.size, 5, none⟩ (.int .i64 ((d : Int) / 4 % 4))).setCell ⟨w5.heap.size, 6, none⟩ (.int .i64 ((d : Int) / 16))).setCell ⟨w5.heap.size, 7, none⟩ (.int .i64 (e : Int))).setCell ⟨w5.heap.size, 8, none⟩ (.slice xa xn xc)) w.heap.size #[.int .i64 0, .int .i64 0, .int .i64 0, .bool false, .bool false, .int .i64 0, .int .i64 0, .int .i64 0, .slice none 0 0] := by
        iterate 9 refine CelF.far ?_ _ _ _ hFR
        exact cR6
      have bl7 : Below w.heap.size w (((((((((w6.setCell ⟨w5.heap.size, 0, none⟩ (.int .i64 (a : Int))).setCell ⟨w5.heap.size, 1, none⟩ (.int .i64 ((c : Int) / 16))).setCell ⟨w5.heap.size, 2, none⟩ (.int .i64 ((c : Int) % 16))).setCell ⟨w5.heap.size, 3, none⟩ (.bool ((d : Int) % 2 == 1))).setCell ⟨w5.heap.size, 4, none⟩ (.bool ((d : Int) / 2 % 2 == 1))).setCell ⟨w5.heap.size, 5, none⟩ (.int .i64 ((d : Int) / 4 % 4))).setCell ⟨w5.heap.size, 6, none⟩ (.int .i64 ((d : Int) / 16))).setCell ⟨w5.heap.size, 7, none⟩ (.int .i64 (e : Int))).setCell ⟨w5.heap.size, 8, none⟩ (.slice xa xn xc)) := by
        iterate 9 refine Below.setCell ?_ hFw _
        exact bl6
      generalize (((((((((w6.setCell ⟨w5.heap.size, 0, none⟩ (.int .i64 (a : Int))).setCell ⟨w5.heap.size, 1, none⟩ (.int .i64 ((c : Int) / 16))).setCell ⟨w5.heap.size, 2, none⟩ (.int .i64 ((c : Int) % 16))).setCell ⟨w5.heap.size, 3, none⟩ (.bool ((d : Int) % 2 == 1))).setCell ⟨w5.heap.size, 4, none⟩ (.bool ((d : Int) / 2 % 2 == 1))).setCell ⟨w5.heap.size, 5, none⟩ (.int .i64 ((d : Int) / 4 % 4))).setCell ⟨w5.heap.size, 6, none⟩ (.int .i64 ((d : Int) / 16))).setCell ⟨w5.heap.size, 7, none⟩ (.int .i64 (e : Int))).setCell ⟨w5.heap.size, 8, none⟩ (.slice xa xn xc)) = w7 at cF7 o7 cR7 bl7 ⊢
      clear q0 q1 q2 q3 ofW inW ne W ι
      have kF := cF7.2.1
      go_wp2_with fail
      refine (spec_frm _ _ _ _ _ _ _ _ _ _ _ _).mono ?_
      obtain rfl := own_len o7
      rw [hfb]
      rintro x w8 ⟨rfl, b8⟩
      replace cR7 := cR7.kept b8
      replace cF7 := cF7.kept b8
      replace o7 := o7.kept b8
      replace bl7 := bchain bl7 b8
      clear kF
      have kF := cF7.2.1
      have kc := cR7.2.1
      have kf := cR7.2.2
      clear f0 f1 f2 f3 f4 f5 f6 f7 f8 f9 f10 f11 f12 f13 t0 t1 t2 t3 i0 i1 i2 i3 i4 c0 c1 c2 c3 c4 hc h5' h13 hby ha hc' hd he hbr rb rT
      go_wp2
      refine bodyPost_ret (v := .tuple #[.agg #[.int .i64 (a : Int), .int .i64 ((c : Int) / 16), .int .i64 ((c : Int) % 16), .bool ((d : Int) % 2 == 1), .bool ((d : Int) / 2 % 2 == 1), .int .i64 ((d : Int) / 4 % 4), .int .i64 ((d : Int) / 16), .int .i64 (e : Int), .slice xa r.length xc], .bool true]) (by simp [results, Tryd.results9, go_sem, kc]) rfl ⟨_, rfl, ?_, ?_⟩
      · refine Own.base ?_ (show w.heap.size ≤ w1.heap.size by omega)
        iterate 9 refine Own.set ?_ _ _ _ hz1
        exact o7
      · iterate 9 refine Below.setCell ?_ (show w.heap.size ≤ w.heap.size from Nat.le_refl _) _
        exact bl7
    · simp only [arrange, List.map_cons, List.map_nil, List.getD_cons_zero, List.getD_cons_succ]
      refine by_move rfl (fun K hK => ?_)
      go_simp
      have y2 : Below w1.heap.size w1.drew (w4.alloc (.cells #[.int .i64 0, .int .i64 0, .int .i64 0, .bool false, .bool false, .int .i64 0, .int .i64 0, .int .i64 0, .slice none 0 0] 24)) := y1.alloc (by omega) _
      have cF := celF_box w4 #[.int .i64 0, .int .i64 0, .int .i64 0, .bool false, .bool false, .int .i64 0, .int .i64 0, .int .i64 0, .slice none 0 0] 24
      have hF0 := heap_new w4 #[.int .i64 0, .int .i64 0, .int .i64 0, .bool false, .bool false, .int .i64 0, .int .i64 0, .int .i64 0, .slice none 0 0] 24
      replace oE := oE.alloc (.cells #[.int .i64 0, .int .i64 0, .int .i64 0, .bool false, .bool false, .int .i64 0, .int .i64 0, .int .i64 0, .slice none 0 0] 24)
      replace rE := rE.alloc (.cells #[.int .i64 0, .int .i64 0, .int .i64 0, .bool false, .bool false, .int .i64 0, .int .i64 0, .int .i64 0, .slice none 0 0] 24)
      replace cR6 := cR6.kept ((Below.refl _ _).alloc (Nat.le_refl _) (.cells #[.int .i64 0, .int .i64 0, .int .i64 0, .bool false, .bool false, .int .i64 0, .int .i64 0, .int .i64 0, .slice none 0 0] 24))
      replace bl6 := bl6.alloc bl6.size (.cells #[.int .i64 0, .int .i64 0, .int .i64 0, .bool false, .bool false, .int .i64 0, .int .i64 0, .int .i64 0, .slice none 0 0] 24)
      generalize w4.alloc (.cells #[.int .i64 0, .int .i64 0, .int .i64 0, .bool false, .bool false, .int .i64 0, .int .i64 0, .int .i64 0, .slice none 0 0] 24) = w6 at y2 cF oE rE cR6 bl6 hF0 ⊢
      refine hK _ _ (fun _ => inW _ y2) ?_
      clear hK K
      refine by_nil ?_
      refine rest_by [(43, false), (44, true), (46, false)] ⟨none, .assign (.tmp 0), 0, "", #[], none⟩ (by kernel_rfl) (inW _ y2) (fun x _ _ _ _ h => by cases x <;> exact h) ?_
      simp only [arrange, List.map_cons, List.map_nil, List.getD_cons_zero, List.getD_cons_succ]
      refine by_move rfl (fun K hK => ?_)
      refine step_app rfl (.tmp 75) (.tmp 77) rfl (w1.heap.size) _ [] rfl oE _ r rfl rE (by simp; omega) (by have := cF.1; omega) ?_
      intro v5 w5 o5 g5
      obtain ⟨xa, xn, xc, hv5⟩ := own_form o5
      rw [hv5] at o5 ⊢
      have y3 : Below w1.heap.size w1.drew w5 := y2.grown g5 y2.size (fun k h => by obtain rfl : w1.heap.size = k := Option.some.inj h; omega)
      have hF5 : w5.heap[w4.heap.size]? = some (.cells #[.int .i64 0, .int .i64 0, .int .i64 0, .bool false, .bool false, .int .i64 0, .int .i64 0, .int .i64 0, .slice none 0 0] 24 (0, 0)) := (g5.block _ cF.1 (fun h => absurd (Option.some.inj (show some w4.heap.size = some w1.heap.size from h)) (by omega))).trans hF0
      have nF : some w4.heap.size ≠ (Value.slice xa xn xc).ownBlock := own_type o5 hF5 (by decide)
      replace cF := cF.other g5 (fun h => absurd (Option.some.inj (show some w4.heap.size = some w1.heap.size from h)) (by omega))
      replace cR6 := cR6.other g5 (fun h => absurd (Option.some.inj (show some w.heap.size = some w1.heap.size from h)) (by omega))
      replace bl6 := bl6.grown g5 bl6.size (fun k h => by obtain rfl : w1.heap.size = k := Option.some.inj h; omega)
      have o6 := o5
      have hFR : w.heap.size ≠ w4.heap.size := by omega
      have hFw : w.heap.size ≤ w4.heap.size := by omega
      refine hK _ _ (fun _ => inW _ y3) ?_
      clear hK K
      refine by_read rfl (fun K hK => ?_)
      go_simp
      refine hK _ ?_
      clear hK K
      have kc := cF.2.1
      have kf := cF.2.2
      refine by_move rfl (fun K hK => ?_)
      go_simp
      refine hK _ _ (fun h => absurd h (by decide)) ?_
      clear hK K kc kf
      refine by_nil ?_
      have cF7 : CelF (((((((((w5.setCell ⟨w4.heap.size, 0, none⟩ (.int .i64 (a : Int))).setCell ⟨w4.heap.size, 1, none⟩ (.int .i64 ((c : Int) / 16))).setCell ⟨w4.heap.size, 2, none⟩ (.int .i64 ((c : Int) % 16))).setCell ⟨w4.heap.size, 3, none⟩ (.bool ((d : Int) % 2 == 1))).setCell ⟨w4.heap.size, 4, none⟩ (.bool ((d : Int) / 2 % 2 == 1))).setCell ⟨w4.heap.size, 5, none⟩ (.int .i64 ((d : Int) / 4 % 4))).setCell ⟨w4.heap.size, 6, none⟩ (.int .i64 ((d : Int) / 16))).setCell ⟨w4.heap.size, 7, none⟩ (.int .i64 (e : Int))).setCell ⟨w4.heap.size, 8, none⟩ (.slice xa xn xc)) w4.heap.size #[.int .i64 (a : Int), .int .i64 ((c : Int) / 16), .int .i64 ((c : Int) % 16), .bool ((d : Int) % 2 == 1), .bool ((d : Int) / 2 % 2 == 1), .int .i64 ((d : Int) / 4 % 4), .int .i64 ((d : Int) / 16), .int .i64 (e : Int), .slice xa xn xc] := by
        have := (((((((((cF.put 0 (by simp) (.int .i64 (a : Int))).put 1 (by simp) (.int .i64 ((c : Int) / 16))).put 2 (by simp) (.int .i64 ((c : Int) % 16))).put 3 (by simp) (.bool ((d : Int) % 2 == 1))).put 4 (by simp) (.bool ((d : Int) / 2 % 2 == 1))).put 5 (by simp) (.int .i64 ((d : Int) / 4 % 4))).put 6 (by simp) (.int .i64 ((d : Int) / 16))).put 7 (by simp) (.int .i64 (e : Int))).put 8 (by simp) (.slice xa xn xc))
        simpa using this
      have o7 : Own (((((((((w5.setCell ⟨w4.heap.size, 0, none⟩ (.int .i64 (a : Int))).setCell ⟨w4.heap.size, 1, none⟩ (.int .i64 ((c : Int) / 16))).setCell ⟨w4.heap.size, 2, none⟩ (.int .i64 ((c : Int) % 16))).setCell ⟨w4.heap.size, 3, none⟩ (.bool ((d : Int) % 2 == 1))).setCell ⟨w4.heap.size, 4, none⟩ (.bool ((d : Int) / 2 % 2 == 1))).setCell ⟨w4.heap.size, 5, none⟩ (.int .i64 ((d : Int) / 4 % 4))).setCell ⟨w4.heap.size, 6, none⟩ (.int .i64 ((d : Int) / 16))).setCell ⟨w4.heap.size, 7, none⟩ (.int .i64 (e : Int))).setCell ⟨w4.heap.size, 8, none⟩ (.slice xa xn xc)) w1.heap.size (.slice xa xn xc) r := by
        iterate 9 refine Own.far ?_ _ _ _ nF
        exact o6
      have cR7 : CelF (((((((((w5.setCell ⟨w4.heap.size, 0, none⟩ (.int .i64 (a : Int))).setCell ⟨w4.heap.size, 1, none⟩ (.int .i64 ((c : Int) / 16))).setCell ⟨w4.heap.size, 2, none⟩ (.int .i64 ((c : Int) % 16))).setCell ⟨w4.heap.size, 3, none⟩ (.bool ((d : Int) % 2 == 1))).setCell ⟨w4.heap.size, 4, none⟩ (.bool ((d : Int) / 2 % 2 == 1))).setCell ⟨w4.heap.size, 5, none⟩ (.int .i64 ((d : Int) / 4 % 4))).setCell ⟨w4.heap.size, 6, none⟩ (.int .i64 ((d : Int) / 16))).setCell ⟨w4.heap.size, 7, none⟩ (.int .i64 (e : Int))).setCell ⟨w4.heap.size, 8, none⟩ (.slice xa xn xc)) w.heap.size #[.int .i64 0, .int .i64 0, .int .i64 0, .bool false, .bool false, .int .i64 0, .int .i64 0, .int .i64 0, .slice none 0 0] := by
        iterate 9 refine CelF.far ?_ _ _ _ hFR
        exact cR6
      have bl7 : Below w.heap.size w (((((((((w5.setCell ⟨w4.heap.size, 0, none⟩ (.int .i64 (a : Int))).setCell ⟨w4.heap.size, 1, none⟩ (.int .i64 ((c : Int) / 16))).setCell ⟨w4.heap.size, 2, none⟩ (.int .i64 ((c : Int) % 16))).setCell ⟨w4.heap.size, 3, none⟩ (.bool ((d : Int) % 2 == 1))).setCell ⟨w4.heap.size, 4, none⟩ (.bool ((d : Int) / 2 % 2 == 1))).setCell ⟨w4.heap.size, 5, none⟩ (.int .i64 ((d : Int) / 4 % 4))).setCell ⟨w4.heap.size, 6, none⟩ (.int .i64 ((d : Int) / 16))).setCell ⟨w4.heap.size, 7, none⟩ (.int .i64 (e : Int))).setCell ⟨w4.heap.size, 8, none⟩ (.slice xa xn xc)) := by
        iterate 9 refine Below.setCell ?_ hFw _
        exact bl6
      generalize (((((((((w5.setCell ⟨w4.heap.size, 0, none⟩ (.int .i64 (a : Int))).setCell ⟨w4.heap.size, 1, none⟩ (.int .i64 ((c : Int) / 16))).setCell ⟨w4.heap.size, 2, none⟩ (.int .i64 ((c : Int) % 16))).setCell ⟨w4.heap.size, 3, none⟩ (.bool ((d : Int) % 2 == 1))).setCell ⟨w4.heap.size, 4, none⟩ (.bool ((d : Int) / 2 % 2 == 1))).setCell ⟨w4.heap.size, 5, none⟩ (.int .i64 ((d : Int) / 4 % 4))).setCell ⟨w4.heap.size, 6, none⟩ (.int .i64 ((d : Int) / 16))).setCell ⟨w4.heap.size, 7, none⟩ (.int .i64 (e : Int))).setCell ⟨w4.heap.size, 8, none⟩ (.slice xa xn xc)) = w7 at cF7 o7 cR7 bl7 ⊢
      clear q0 q1 q2 q3 ofW inW ne W ι
      have kF := cF7.2.1
      go_wp2_with fail
      refine (spec_frm _ _ _ _ _ _ _ _ _ _ _ _).mono ?_
      obtain rfl := own_len o7
      rw [hfb]
      rintro x w8 ⟨rfl, b8⟩
      replace cR7 := cR7.kept b8
      replace cF7 := cF7.kept b8
      replace o7 := o7.kept b8
      replace bl7 := bchain bl7 b8
      clear kF
      have kF := cF7.2.1
      have kc := cR7.2.1
      have kf := cR7.2.2
      clear f0 f1 f2 f3 f4 f5 f6 f7 f8 f9 f10 f11 f12 f13 t0 t1 t2 t3 i0 i1 i2 i3 i4 c0 c1 c2 c3 c4 hc h5' h13 hby ha hc' hd he hbr rb rT
      go_wp2
      refine bodyPost_ret (v := .tuple #[.agg #[.int .i64 (a : Int), .int .i64 ((c : Int) / 16), .int .i64 ((c : Int) % 16), .bool ((d : Int) % 2 == 1), .bool ((d : Int) / 2 % 2 == 1), .int .i64 ((d : Int) / 4 % 4), .int .i64 ((d : Int) / 16), .int .i64 (e : Int), .slice xa r.length xc], .bool true]) (by simp [results, Tryd.results9, go_sem, kc]) rfl ⟨_, rfl, ?_, ?_⟩
      · refine Own.base ?_ (show w.heap.size ≤ w1.heap.size by omega)
        iterate 9 refine Own.set ?_ _ _ _ hz1
        exact o7
      · iterate 9 refine Below.setCell ?_ (show w.heap.size ≤ w.heap.size from Nat.le_refl _) _
        exact bl7
  · simp only [arrange, List.map_cons, List.map_nil, List.getD_cons_zero, List.getD_cons_succ]
    refine by_move rfl (fun K hK => ?_)
    go_simp
    have y1 : Below w1.heap.size w1.drew (w1.alloc (.cells #[.int .i64 0, .int .i64 0, .int .i64 0, .bool false, .bool false, .int .i64 0, .int .i64 0, .int .i64 0, .slice none 0 0] 24)).drew := (Below.refl w1.heap.size w1.drew).alloc (Nat.le_refl _) _
    have cF := (celF_box w1 #[.int .i64 0, .int .i64 0, .int .i64 0, .bool false, .bool false, .int .i64 0, .int .i64 0, .int .i64 0, .slice none 0 0] 24).kept ((Below.refl _ _).alloc (Nat.le_refl _) (.cells #[] 5)).drew
    refine hK _ _ (fun _ => inW _ y1) ?_
    clear hK K
    refine by_nil ?_
    refine rest_by [(40, false), (43, false), (44, true), (46, false)] ⟨none, .assign (.tmp 0), 0, "", #[], none⟩ (by kernel_rfl) (inW _ y1) (fun x _ _ _ _ h => by cases x <;> exact h) ?_
    simp only [arrange, List.map_cons, List.map_nil, List.getD_cons_zero, List.getD_cons_succ]
    refine by_move rfl (fun K hK => ?_)
    go_simp
    have y2 : Below w1.heap.size w1.drew ((w1.alloc (.cells #[.int .i64 0, .int .i64 0, .int .i64 0, .bool false, .bool false, .int .i64 0, .int .i64 0, .int .i64 0, .slice none 0 0] 24)).alloc (.cells #[] 5)).drew := y1.alloc (by simp) _
    refine hK _ _ (fun _ => inW _ y2) ?_
    clear hK K
    have oE : Own ((w1.alloc (.cells #[.int .i64 0, .int .i64 0, .int .i64 0, .bool false, .bool false, .int .i64 0, .int .i64 0, .int .i64 0, .slice none 0 0] 24)).alloc (.cells #[] 5)).drew (w1.heap.size + 1) (.slice (some ⟨w1.heap.size + 1, 0, none⟩) 0 0) [] := by
      have := own_empty (w1.alloc (.cells #[.int .i64 0, .int .i64 0, .int .i64 0, .bool false, .bool false, .int .i64 0, .int .i64 0, .int .i64 0, .slice none 0 0] 24)) (w1.heap.size + 1) (by simp)
      simp only [World.size_alloc] at this
      exact World.ownsRow.drew this
    have rE := rT.kept ((Below.refl w1.heap.size w1).drew.trans y2)
    have cR6 := cR.kept ((Below.refl w1.heap.size w1).drew.trans y2)
    have bl6 := bchain bl ((Below.refl w1.heap.size w1).drew.trans y2)
    generalize ((w1.alloc (.cells #[.int .i64 0, .int .i64 0, .int .i64 0, .bool false, .bool false, .int .i64 0, .int .i64 0, .int .i64 0, .slice none 0 0] 24)).alloc (.cells #[] 5)).drew = w4 at y2 oE rE cF cR6 bl6 ⊢
    refine by_move rfl (fun K hK => ?_)
    refine step_app rfl (.tmp 75) (.tmp 77) rfl (w1.heap.size + 1) _ [] rfl oE _ r rfl rE (by simp; omega) (by have := cF.1; omega) ?_
    intro v5 w5 o5 g5
    obtain ⟨xa, xn, xc, hv5⟩ := own_form o5
    rw [hv5] at o5 ⊢
    have y3 : Below w1.heap.size w1.drew w5 := y2.grown g5 y2.size (fun k h => by obtain rfl : w1.heap.size + 1 = k := Option.some.inj h; omega)
    replace cF := cF.other g5 (fun h => absurd (Option.some.inj (show some w1.heap.size = some (w1.heap.size + 1) from h)) (by omega))
    replace cR6 := cR6.other g5 (fun h => absurd (Option.some.inj (show some w.heap.size = some (w1.heap.size + 1) from h)) (by omega))
    replace bl6 := bl6.grown g5 bl6.size (fun k h => by obtain rfl : w1.heap.size + 1 = k := Option.some.inj h; omega)
    have nF : some w1.heap.size ≠ (Value.slice xa xn xc).ownBlock := own_box_apart o5 (.inl (by omega))
    have o6 := o5.base (C := w1.heap.size) (by omega)
    have hFR : w.heap.size ≠ w1.heap.size := by omega
    have hFw : w.heap.size ≤ w1.heap.size := by omega
    refine hK _ _ (fun _ => inW _ y3) ?_
    clear hK K
    refine by_read rfl (fun K hK => ?_)
    go_simp
    refine hK _ ?_
    clear hK K
    have kc := cF.2.1
    have kf := cF.2.2
    refine by_move rfl (fun K hK => ?_)
    go_simp
    refine hK _ _ (fun h => absurd h (by decide)) ?_
    clear hK K kc kf
    refine by_nil ?_
    have cF7 : CelF (((((((((w5.setCell ⟨w1.heap.size, 0, none⟩ (.int .i64 (a : Int))).setCell ⟨w1.heap.size, 1, none⟩ (.int .i64 ((c : Int) / 16))).setCell ⟨w1.heap.size, 2, none⟩ (.int .i64 ((c : Int) % 16))).setCell ⟨w1.heap.size, 3, none⟩ (.bool ((d : Int) % 2 == 1))).setCell ⟨w1.heap.size, 4, none⟩ (.bool ((d : Int) / 2 % 2 == 1))).setCell ⟨w1.heap.size, 5, none⟩ (.int .i64 ((d : Int) / 4 % 4))).setCell ⟨w1.heap.size, 6, none⟩ (.int .i64 ((d : Int) / 16))).setCell ⟨w1.heap.size, 7, none⟩ (.int .i64 (e : Int))).setCell ⟨w1.heap.size, 8, none⟩ (.slice xa xn xc)) w1.heap.size #[.int .i64 (a : Int), .int .i64 ((c : Int) / 16), .int .i64 ((c : Int) % 16), .bool ((d : Int) % 2 == 1), .bool ((d : Int) / 2 % 2 == 1), .int .i64 ((d : Int) / 4 % 4), .int .i64 ((d : Int) / 16), .int .i64 (e : Int), .slice xa xn xc] := by
      have := (((((((((cF.put 0 (by simp) (.int .i64 (a : Int))).put 1 (by simp) (.int .i64 ((c : Int) / 16))).put 2 (by simp) (.int .i64 ((c : Int) % 16))).put 3 (by simp) (.bool ((d : Int) % 2 == 1))).put 4 (by simp) (.bool ((d : Int) / 2 % 2 == 1))).put 5 (by simp) (.int .i64 ((d : Int) / 4 % 4))).put 6 (by simp) (.int .i64 ((d : Int) / 16))).put 7 (by simp) (.int .i64 (e : Int))).put 8 (by simp) (.slice xa xn xc))
      simpa using this
    have o7 : Own (((((((((w5.setCell ⟨w1.heap.size, 0, none⟩ (.int .i64 (a : Int))).setCell ⟨w1.heap.size, 1, none⟩ (.int .i64 ((c : Int) / 16))).setCell ⟨w1.heap.size, 2, none⟩ (.int .i64 ((c : Int) % 16))).setCell ⟨w1.heap.size, 3, none⟩ (.bool ((d : Int) % 2 == 1))).setCell ⟨w1.heap.size, 4, none⟩ (.bool ((d : Int) / 2 % 2 == 1))).setCell ⟨w1.heap.size, 5, none⟩ (.int .i64 ((d : Int) / 4 % 4))).setCell ⟨w1.heap.size, 6, none⟩ (.int .i64 ((d : Int) / 16))).setCell ⟨w1.heap.size, 7, none⟩ (.int .i64 (e : Int))).setCell ⟨w1.heap.size, 8, none⟩ (.slice xa xn xc)) w1.heap.size (.slice xa xn xc) r := by
      iterate 9 refine Own.far ?_ _ _ _ nF
      exact o6
    have cR7 : CelF (((((((((w5.setCell ⟨w1.heap.size, 0, none⟩ (.int .i64 (a : Int))).setCell ⟨w1.heap.size, 1, none⟩ (.int .i64 ((c : Int) / 16))).setCell ⟨w1.heap.size, 2, none⟩ (.int .i64 ((c : Int) % 16))).setCell ⟨w1.heap.size, 3, none⟩ (.bool ((d : Int) % 2 == 1))).setCell ⟨w1.heap.size, 4, none⟩ (.bool ((d : Int) / 2 % 2 == 1))).setCell ⟨w1.heap.size, 5, none⟩ (.int .i64 ((d : Int) / 4 % 4))).setCell ⟨w1.heap.size, 6, none⟩ (.int .i64 ((d : Int) / 16))).setCell ⟨w1.heap.size, 7, none⟩ (.int .i64 (e : Int))).setCell ⟨w1.heap.size, 8, none⟩ (.slice xa xn xc)) w.heap.size #[.int .i64 0, .int .i64 0, .int .i64 0, .bool false, .bool false, .int .i64 0, .int .i64 0, .int .i64 0, .slice none 0 0] := by
      iterate 9 refine CelF.far ?_ _ _ _ hFR
      exact cR6
    have bl7 : Below w.heap.size w (((((((((w5.setCell ⟨w1.heap.size, 0, none⟩ (.int .i64 (a : Int))).setCell ⟨w1.heap.size, 1, none⟩ (.int .i64 ((c : Int) / 16))).setCell ⟨w1.heap.size, 2, none⟩ (.int .i64 ((c : Int) % 16))).setCell ⟨w1.heap.size, 3, none⟩ (.bool ((d : Int) % 2 == 1))).setCell ⟨w1.heap.size, 4, none⟩ (.bool ((d : Int) / 2 % 2 == 1))).setCell ⟨w1.heap.size, 5, none⟩ (.int .i64 ((d : Int) / 4 % 4))).setCell ⟨w1.heap.size, 6, none⟩ (.int .i64 ((d : Int) / 16))).setCell ⟨w1.heap.size, 7, none⟩ (.int .i64 (e : Int))).setCell ⟨w1.heap.size, 8, none⟩ (.slice xa xn xc)) := by
      iterate 9 refine Below.setCell ?_ hFw _
      exact bl6
    generalize (((((((((w5.setCell ⟨w1.heap.size, 0, none⟩ (.int .i64 (a : Int))).setCell ⟨w1.heap.size, 1, none⟩ (.int .i64 ((c : Int) / 16))).setCell ⟨w1.heap.size, 2, none⟩ (.int .i64 ((c : Int) % 16))).setCell ⟨w1.heap.size, 3, none⟩ (.bool ((d : Int) % 2 == 1))).setCell ⟨w1.heap.size, 4, none⟩ (.bool ((d : Int) / 2 % 2 == 1))).setCell ⟨w1.heap.size, 5, none⟩ (.int .i64 ((d : Int) / 4 % 4))).setCell ⟨w1.heap.size, 6, none⟩ (.int .i64 ((d : Int) / 16))).setCell ⟨w1.heap.size, 7, none⟩ (.int .i64 (e : Int))).setCell ⟨w1.heap.size, 8, none⟩ (.slice xa xn xc)) = w7 at cF7 o7 cR7 bl7 ⊢
    clear q0 q1 q2 q3 ofW inW ne W ι
    have kF := cF7.2.1
    go_wp2_with fail
    refine (spec_frm _ _ _ _ _ _ _ _ _ _ _ _).mono ?_
    obtain rfl := own_len o7
    rw [hfb]
    rintro x w8 ⟨rfl, b8⟩
    replace cR7 := cR7.kept b8
    replace cF7 := cF7.kept b8
    replace o7 := o7.kept b8
    replace bl7 := bchain bl7 b8
    clear kF
    have kF := cF7.2.1
    have kc := cR7.2.1
    have kf := cR7.2.2
    clear f0 f1 f2 f3 f4 f5 f6 f7 f8 f9 f10 f11 f12 f13 t0 t1 t2 t3 i0 i1 i2 i3 i4 c0 c1 c2 c3 c4 hc h5' h13 hby ha hc' hd he hbr rb rT
    go_wp2
    refine bodyPost_ret (v := .tuple #[.agg #[.int .i64 (a : Int), .int .i64 ((c : Int) / 16), .int .i64 ((c : Int) % 16), .bool ((d : Int) % 2 == 1), .bool ((d : Int) / 2 % 2 == 1), .int .i64 ((d : Int) / 4 % 4), .int .i64 ((d : Int) / 16), .int .i64 (e : Int), .slice xa r.length xc], .bool true]) (by simp [results, Tryd.results9, go_sem, kc]) rfl ⟨_, rfl, ?_, ?_⟩
    · refine Own.base ?_ (show w.heap.size ≤ w1.heap.size by omega)
      iterate 9 refine Own.set ?_ _ _ _ hz1
      exact o7
    · iterate 9 refine Below.setCell ?_ (show w.heap.size ≤ w.heap.size from Nat.le_refl _) _
      exact bl7
set_option maxRecDepth 100000 in
set_option maxHeartbeats 3000000 in
theorem spec_read_no (v : Value) (bs : List Nat) (a c d e : Nat) (r : List Nat) (w : World) (hv : Rd w v bs) (hk : cutB bs = true) (hL : cutL bs = a :: c :: d :: e :: r.length :: r) (h8 : r.length ≤ 8) (hfb : frmB (a : Int) ((c : Int) / 16) ((c : Int) % 16) ((d : Int) % 2 == 1) ((d : Int) / 2 % 2 == 1) ((d : Int) / 4 % 4) ((d : Int) / 16) (e : Int) r.length = false) :
    Calls Tryd.prog 9 #[v] w fun x w' => x = .returned (.tuple #[.agg #[.int .i64 0, .int .i64 0, .int .i64 0, .bool false, .bool false, .int .i64 0, .int .i64 0, .int .i64 0, .slice none 0 0], .bool false]) ∧ Below w.heap.size w w' := by
  have bx : Below w.heap.size w (w.alloc (.cells #[.int .i64 0, .int .i64 0, .int .i64 0, .bool false, .bool false, .int .i64 0, .int .i64 0, .int .i64 0, .slice none 0 0] 24)) := (Below.refl _ _).alloc (Nat.le_refl _) _
  have cR := celF_box w #[.int .i64 0, .int .i64 0, .int .i64 0, .bool false, .bool false, .int .i64 0, .int .i64 0, .int .i64 0, .slice none 0 0] 24
  have hll : (cutL bs).length = r.length + 5 := by rw [hL]; rfl
  have h5' : ¬ ((r.length : Int) + 5 < 5) := by omega
  have h13 : ¬ (13 : Int) < (r.length : Int) + 5 := by omega
  have hby := cutL_byt hv.1
  rw [hL] at hby
  have ha : a < 256 := hby a (by simp)
  have hc' : c < 256 := hby c (by simp)
  have hd : d < 256 := hby d (by simp)
  have he : e < 256 := hby e (by simp)
  have hbr : Byt r := fun z hz => hby z (by simp [hz])
  have i0 : (0 : Int) < (r.length : Int) + 5 := by omega
  have i1 : (1 : Int) < (r.length : Int) + 5 := by omega
  have i2 : (2 : Int) < (r.length : Int) + 5 := by omega
  have i3 : (3 : Int) < (r.length : Int) + 5 := by omega
  have i4 : (4 : Int) < (r.length : Int) + 5 := by omega
  go_enter Tryd.func9, Tryd.ntmps9
  go_wp2_with fail
  refine (spec_cut _ bs _ (hv.kept bx)).mono ?_
  rw [hk]
  rintro x w1 ⟨v1, rfl, o1, b1⟩
  have bl := bchain bx b1
  replace cR := cR.kept b1
  have zR := cR.1
  obtain ⟨g, cap, hv1, hcap, hg1, hg2, hc⟩ := own_at o1 (by omega)
  rw [hll] at hv1 hcap
  rw [hL] at hc
  have c0 := hc 0 (by simp)
  have c1 := hc 1 (by simp)
  have c2 := hc 2 (by simp)
  have c3 := hc 3 (by simp)
  have c4 := hc 4 (by simp)
  simp at c0 c1 c2 c3 c4
  have rb := o1.rd (cutL_byt hv.1) (by have := cutL_length bs; have := hv.2.1; omega)
  rw [hL, hv1] at rb
  have rT := Rd.rest (n := 5) (zs := a :: c :: d :: e :: r.length :: r) rb (by simp)
  simp only [List.length_cons, List.drop_succ_cons, List.drop_zero, Option.map_some, add_at, Nat.zero_add] at rT
  obtain ⟨A5, hA5⟩ : ∃ A5, (if cap = 5 then some (⟨g, 0, none⟩ : Addr) else some ⟨g, 5, none⟩) = A5 := ⟨_, rfl⟩
  rw [hA5] at rT
  rw [hv1]
  go_wp2
  have f0 : IntKind.i64.wrap ((a : Int)) = (a : Int) := by rw [IntKind.wrap_i64]; omega
  have f1 : IntKind.i64.wrap ((c : Int) / 16) = (c : Int) / 16 := by rw [IntKind.wrap_i64]; omega
  have f2 : IntKind.i64.wrap ((c : Int) % 16) = (c : Int) % 16 := by rw [IntKind.wrap_i64]; omega
  have f3 : IntKind.i64.wrap ((d : Int) / 4 % 4) = (d : Int) / 4 % 4 := by rw [IntKind.wrap_i64]; omega
  have f4 : IntKind.i64.wrap ((d : Int) / 16) = (d : Int) / 16 := by rw [IntKind.wrap_i64]; omega
  have f5 : IntKind.i64.wrap ((e : Int)) = (e : Int) := by rw [IntKind.wrap_i64]; omega
  have f6 : IntKind.u8.wrap ((c : Int) / 16) = (c : Int) / 16 := by rw [IntKind.wrap_u8']; omega
  have f7 : IntKind.u8.wrap ((c : Int) % 16) = (c : Int) % 16 := by rw [IntKind.wrap_u8']; omega
  have f8 : IntKind.u8.wrap ((d : Int) % 2) = (d : Int) % 2 := by rw [IntKind.wrap_u8']; omega
  have f9 : IntKind.u8.wrap ((d : Int) / 2) = (d : Int) / 2 := by rw [IntKind.wrap_u8']; omega
  have f10 : IntKind.u8.wrap ((d : Int) / 2 % 2) = (d : Int) / 2 % 2 := by rw [IntKind.wrap_u8']; omega
  have f11 : IntKind.u8.wrap ((d : Int) / 4) = (d : Int) / 4 := by rw [IntKind.wrap_u8']; omega
  have f12 : IntKind.u8.wrap ((d : Int) / 4 % 4) = (d : Int) / 4 % 4 := by rw [IntKind.wrap_u8']; omega
  have f13 : IntKind.u8.wrap ((d : Int) / 16) = (d : Int) / 16 := by rw [IntKind.wrap_u8']; omega
  have t0 : (c : Int).tmod 16 = (c : Int) % 16 := Int.tmod_eq_emod_of_nonneg (by omega)
  have t1 : (d : Int).tmod 2 = (d : Int) % 2 := Int.tmod_eq_emod_of_nonneg (by omega)
  have t2 : ((d : Int) / 2).tmod 2 = (d : Int) / 2 % 2 := Int.tmod_eq_emod_of_nonneg (by omega)
  have t3 : ((d : Int) / 4).tmod 4 = (d : Int) / 4 % 4 := Int.tmod_eq_emod_of_nonneg (by omega)
  obtain ⟨ι, W, inW, ofW⟩ := cls (fun w' => Below w1.heap.size w1.drew w')
  have ne : Nonempty ι := ⟨(inW _ (Below.refl _ _)).choose⟩
  have q0 : ∀ x, (W x).cell? ⟨g, 0, none⟩ = some (.int .u8 (a : Int)) := fun x => ((ofW x).cell (p := ⟨g, 0, none⟩) hg2).trans c0
  have q1 : ∀ x, (W x).cell? ⟨g, 1, none⟩ = some (.int .u8 (c : Int)) := fun x => ((ofW x).cell (p := ⟨g, 1, none⟩) hg2).trans c1
  have q2 : ∀ x, (W x).cell? ⟨g, 2, none⟩ = some (.int .u8 (d : Int)) := fun x => ((ofW x).cell (p := ⟨g, 2, none⟩) hg2).trans c2
  have q3 : ∀ x, (W x).cell? ⟨g, 3, none⟩ = some (.int .u8 (e : Int)) := fun x => ((ofW x).cell (p := ⟨g, 3, none⟩) hg2).trans c3
  refine region_part (fun w' => ∃ x, w' = W x) 46 [(0, true), (1, true), (2, true), (3, true), (4, true), (5, true), (6, true), (7, true), (8, true), (9, true), (10, true), (11, true), (12, true), (13, true), (14, true), (15, true), (16, true), (17, true), (18, true), (19, true), (20, true), (21, true), (22, true), (23, true), (24, true), (25, true), (26, true), (27, true), (28, true), (29, true), (30, true), (31, true), (32, true), (33, true), (34, true), (35, true), (36, true), (37, true), (38, true), (39, true), (41, true), (42, true)] 5 ⟨none, .assign (.tmp 0), 0, "", #[], none⟩ (by kernel_rfl) (by kernel_rfl) (inW _ (Below.refl _ _)) (fun x _ _ _ _ h => by cases x <;> exact h) ?_
  simp only [arrange, List.map_cons, List.map_nil, List.getD_cons_zero, List.getD_cons_succ]
  iterate 42 (refine by_read rfl (fun K hK => ?_); go_simp; refine hK _ ?_; clear hK K)
  refine by_nil ?_
  have hz1 : w.heap.size < w1.heap.size := zR
  refine rest_two 40 45 ⟨none, .assign (.tmp 0), 0, "", #[], none⟩ (by kernel_rfl) ?_ ?_
  · simp only [arrange, List.map_cons, List.map_nil, List.getD_cons_zero, List.getD_cons_succ]
    refine by_move rfl (fun K hK => ?_)
    go_simp
    have y1 : Below w1.heap.size w1.drew (w1.alloc (.cells #[] 5)).drew := (Below.refl w1.heap.size w1.drew).alloc (Nat.le_refl _) _
    refine hK _ _ (fun _ => inW _ y1) ?_
    clear hK K
    refine by_nil ?_
    have oE : Own (w1.alloc (.cells #[] 5)).drew w1.heap.size (.slice (some ⟨w1.heap.size, 0, none⟩) 0 0) [] := World.ownsRow.drew (own_empty w1 w1.heap.size (Nat.le_refl _))
    have rE := rT.kept ((Below.refl w1.heap.size w1).drew.trans y1)
    have cR6 := cR.kept ((Below.refl w1.heap.size w1).drew.trans y1)
    have bl6 := bchain bl ((Below.refl w1.heap.size w1).drew.trans y1)
    have z4 : w1.heap.size + 1 ≤ (w1.alloc (.cells #[] 5)).drew.heap.size := by simp
    generalize (w1.alloc (.cells #[] 5)).drew = w4 at y1 oE rE cR6 bl6 z4 ⊢
    refine rest_two 43 45 ⟨none, .assign (.tmp 0), 0, "", #[], none⟩ (by kernel_rfl) ?_ ?_
    · simp only [arrange, List.map_cons, List.map_nil, List.getD_cons_zero, List.getD_cons_succ]
      refine by_move rfl (fun K hK => ?_)
      refine step_app rfl (.tmp 75) (.tmp 77) rfl (w1.heap.size) _ [] rfl oE _ r rfl rE (by simp; omega) (by omega) ?_
      intro v5 w5 o5 g5
      obtain ⟨xa, xn, xc, hv5⟩ := own_form o5
      rw [hv5] at o5 ⊢
      have y3 : Below w1.heap.size w1.drew w5 := y1.grown g5 y1.size (fun k h => by obtain rfl : w1.heap.size = k := Option.some.inj h; omega)
      replace cR6 := cR6.other g5 (fun h => absurd (Option.some.inj (show some w.heap.size = some w1.heap.size from h)) (by omega))
      replace bl6 := bl6.grown g5 bl6.size (fun k h => by obtain rfl : w1.heap.size = k := Option.some.inj h; omega)
      have z5 := g5.size
      refine hK _ _ (fun _ => inW _ y3) ?_
      clear hK K
      refine by_nil ?_
      refine rest_by [(44, true), (45, false), (46, false)] ⟨none, .assign (.tmp 0), 0, "", #[], none⟩ (by kernel_rfl) (inW _ y3) (fun x _ _ _ _ h => by cases x <;> exact h) ?_
      simp only [arrange, List.map_cons, List.map_nil, List.getD_cons_zero, List.getD_cons_succ]
      refine by_read rfl (fun K hK => ?_)
      go_simp
      refine hK _ ?_
      clear hK K
      refine by_move rfl (fun K hK => ?_)
      go_simp
      have y4 : Below w1.heap.size w1.drew (w5.alloc (.cells #[.int .i64 0, .int .i64 0, .int .i64 0, .bool false, .bool false, .int .i64 0, .int .i64 0, .int .i64 0, .slice none 0 0] 24)) := y3.alloc (by omega) _
      have cF := celF_box w5 #[.int .i64 0, .int .i64 0, .int .i64 0, .bool false, .bool false, .int .i64 0, .int .i64 0, .int .i64 0, .slice none 0 0] 24
      have nF : some w5.heap.size ≠ (Value.slice xa xn xc).ownBlock := own_box_apart o5 (.inr (Nat.le_refl _))
      have o6 := o5.alloc (.cells #[.int .i64 0, .int .i64 0, .int .i64 0, .bool false, .bool false, .int .i64 0, .int .i64 0, .int .i64 0, .slice none 0 0] 24)
      replace cR6 := cR6.kept ((Below.refl _ _).alloc (Nat.le_refl _) (.cells #[.int .i64 0, .int .i64 0, .int .i64 0, .bool false, .bool false, .int .i64 0, .int .i64 0, .int .i64 0, .slice none 0 0] 24))
      replace bl6 := bl6.alloc bl6.size (.cells #[.int .i64 0, .int .i64 0, .int .i64 0, .bool false, .bool false, .int .i64 0, .int .i64 0, .int .i64 0, .slice none 0 0] 24)
      have hFR : w.heap.size ≠ w5.heap.size := by omega
      have hFw : w.heap.size ≤ w5.heap.size := by omega
      generalize w5.alloc (.cells #[.int .i64 0, .int .i64 0, .int .i64 0, .bool false, .bool false, .int .i64 0, .int .i64 0, .int .i64 0, .slice none 0 0] 24) = w6 at y4 cF o6 cR6 bl6 ⊢
      refine hK _ _ (fun _ => inW _ y4) ?_
      clear hK K
      have kc := cF.2.1
      have kf := cF.2.2
      refine by_move rfl (fun K hK => ?_)
      go_simp
      refine hK _ _ (fun h => absurd h (by decide)) ?_
      clear hK K kc kf
      refine by_nil ?_
      have cF7 : CelF (((((((((w6.setCell ⟨w5.heap.size, 0, none⟩ (.int .i64 (a : Int))).setCell ⟨w5.heap.size, 1, none⟩ (.int .i64 ((c : Int) / 16))).setCell ⟨w5.heap.size, 2, none⟩ (.int .i64 ((c : Int) % 16))).setCell ⟨w5.heap.size, 3, none⟩ (.bool ((d : Int) % 2 == 1))).setCell ⟨w5.heap.size, 4, none⟩ (.bool ((d : Int) / 2 % 2 == 1))).setCell ⟨w5.heap.size, 5, none⟩ (.int .i64 ((d : Int) / 4 % 4))).setCell ⟨w5.heap.size, 6, none⟩ (.int .i64 ((d : Int) / 16))).setCell ⟨w5.heap.size, 7, none⟩ (.int .i64 (e : Int))).setCell ⟨w5.heap.size, 8, none⟩ (.slice xa xn xc)) w5.heap.size #[.int .i64 (a : Int), .int .i64 ((c : Int) / 16), .int .i64 ((c : Int) % 16), .bool ((d : Int) % 2 == 1), .bool ((d : Int) / 2 % 2 == 1), .int .i64 ((d : Int) / 4 % 4), .int .i64 ((d : Int) / 16), .int .i64 (e : Int), .slice xa xn xc] := by
        have := (((((((((cF.put 0 (by simp) (.int .i64 (a : Int))).put 1 (by simp) (.int .i64 ((c : Int) / 16))).put 2 (by simp) (.int .i64 ((c : Int) % 16))).put 3 (by simp) (.bool ((d : Int) % 2 == 1))).put 4 (by simp) (.bool ((d : Int) / 2 % 2 == 1))).put 5 (by simp) (.int .i64 ((d : Int) / 4 % 4))).put 6 (by simp) (.int .i64 ((d : Int) / 16))).put 7 (by simp) (.int .i64 (e : Int))).put 8 (by simp) (.slice xa xn xc))
        simpa using this
      have o7 : Own (((((((((w6.setCell ⟨w5.heap.size, 0, none⟩ (.int .i64 (a : Int))).setCell ⟨w5.heap.size, 1, none⟩ (.int .i64 ((c : Int) / 16))).setCell ⟨w5.heap.size, 2, none⟩ (.int .i64 ((c : Int) % 16))).setCell ⟨w5.heap.size, 3, none⟩ (.bool ((d : Int) % 2 == 1))).setCell ⟨w5.heap.size, 4, none⟩ (.bool ((d : Int) / 2 % 2 == 1))).setCell ⟨w5.heap.size, 5, none⟩ (.int .i64 ((d : Int) / 4 % 4))).setCell ⟨w5.heap.size, 6, none⟩ (.int .i64 ((d : Int) / 16))).setCell ⟨w5.heap.size, 7, none⟩ (.int .i64 (e : Int))).setCell ⟨w5.heap.size, 8, none⟩ (.slice xa xn xc)) w1.heap.size (.slice xa xn xc) r := by
        iterate 9 refine Own.far ?_ _ _ _ nF
        exact o6
      have cR7 : CelF (((((((((w6.setCell ⟨w5.heap.size, 0, none⟩ (.int .i64 (a : Int))).setCell ⟨w5.heap.size, 1, none⟩ (.int .i64 ((c : Int) / 16))).setCell ⟨w5.heap.size, 2, none⟩ (.int .i64 ((c : Int) % 16))).setCell ⟨w5.heap.size, 3, none⟩ (.bool ((d : Int) % 2 == 1))).setCell ⟨w5.heap.size, 4, none⟩ (.bool ((d : Int) / 2 % 2 == 1))).setCell ⟨w5.heap.size, 5, none⟩ (.int .i64 ((d : Int) / 4 % 4))).setCell ⟨w5.heap.size, 6, none⟩ (.int .i64 ((d : Int) / 16))).setCell ⟨w5.heap.size, 7, none⟩ (.int .i64 (e : Int))).setCell ⟨w5.heap.size, 8, none⟩ (.slice xa xn xc)) w.heap.size #[.int .i64 0, .int .i64 0, .int .i64 0, .bool false, .bool false, .int .i64 0, .int .i64 0, .int .i64 0, .slice none 0 0] := by
        iterate 9 refine CelF.far ?_ _ _ _ hFR
        exact cR6
      have bl7 : Below w.heap.size w (((((((((w6.setCell ⟨w5.heap.size, 0, none⟩ (.int .i64 (a : Int))).setCell ⟨w5.heap.size, 1, none⟩ (.int .i64 ((c : Int) / 16))).setCell ⟨w5.heap.size, 2, none⟩ (.int .i64 ((c : Int) % 16))).setCell ⟨w5.heap.size, 3, none⟩ (.bool ((d : Int) % 2 == 1))).setCell ⟨w5.heap.size, 4, none⟩ (.bool ((d : Int) / 2 % 2 == 1))).setCell ⟨w5.heap.size, 5, none⟩ (.int .i64 ((d : Int) / 4 % 4))).setCell ⟨w5.heap.size, 6, none⟩ (.int .i64 ((d : Int) / 16))).setCell ⟨w5.heap.size, 7, none⟩ (.int .i64 (e : Int))).setCell ⟨w5.heap.size, 8, none⟩ (.slice xa xn xc)) := by
        iterate 9 refine Below.setCell ?_ hFw _
        exact bl6
      generalize (((((((((w6.setCell ⟨w5.heap.size, 0, none⟩ (.int .i64 (a : Int))).setCell ⟨w5.heap.size, 1, none⟩ (.int .i64 ((c : Int) / 16))).setCell ⟨w5.heap.size, 2, none⟩ (.int .i64 ((c : Int) % 16))).setCell ⟨w5.heap.size, 3, none⟩ (.bool ((d : Int) % 2 == 1))).setCell ⟨w5.heap.size, 4, none⟩ (.bool ((d : Int) / 2 % 2 == 1))).setCell ⟨w5.heap.size, 5, none⟩ (.int .i64 ((d : Int) / 4 % 4))).setCell ⟨w5.heap.size, 6, none⟩ (.int .i64 ((d : Int) / 16))).setCell ⟨w5.heap.size, 7, none⟩ (.int .i64 (e : Int))).setCell ⟨w5.heap.size, 8, none⟩ (.slice xa xn xc)) = w7 at cF7 o7 cR7 bl7 ⊢
      clear q0 q1 q2 q3 ofW inW ne W ι
      have kF := cF7.2.1
      go_wp2_with fail
      refine (spec_frm _ _ _ _ _ _ _ _ _ _ _ _).mono ?_
      obtain rfl := own_len o7
      rw [hfb]
      rintro x w8 ⟨rfl, b8⟩
      replace cR7 := cR7.kept b8
      replace cF7 := cF7.kept b8
      replace o7 := o7.kept b8
      replace bl7 := bchain bl7 b8
      clear kF
      have kF := cF7.2.1
      have kc := cR7.2.1
      have kf := cR7.2.2
      clear f0 f1 f2 f3 f4 f5 f6 f7 f8 f9 f10 f11 f12 f13 t0 t1 t2 t3 i0 i1 i2 i3 i4 c0 c1 c2 c3 c4 hc h5' h13 hby ha hc' hd he hbr rb rT
      go_wp2
      refine bodyPost_ret (v := .tuple #[.agg #[.int .i64 0, .int .i64 0, .int .i64 0, .bool false, .bool false, .int .i64 0, .int .i64 0, .int .i64 0, .slice none 0 0], .bool false]) (by simp [results, Tryd.results9, go_sem, kc]) rfl ⟨rfl, ?_⟩
      iterate 9 refine Below.setCell ?_ (show w.heap.size ≤ w.heap.size from Nat.le_refl _) _
      exact bl7
    · simp only [arrange, List.map_cons, List.map_nil, List.getD_cons_zero, List.getD_cons_succ]
      refine by_move rfl (fun K hK => ?_)
      go_simp
      have y2 : Below w1.heap.size w1.drew (w4.alloc (.cells #[.int .i64 0, .int .i64 0, .int .i64 0, .bool false, .bool false, .int .i64 0, .int .i64 0, .int .i64 0, .slice none 0 0] 24)) := y1.alloc (by omega) _
      have cF := celF_box w4 #[.int .i64 0, .int .i64 0, .int .i64 0, .bool false, .bool false, .int .i64 0, .int .i64 0, .int .i64 0, .slice none 0 0] 24
      have hF0 := heap_new w4 #[.int .i64 0, .int .i64 0, .int .i64 0, .bool false, .bool false, .int .i64 0, .int .i64 0, .int .i64 0, .slice none 0 0] 24
      replace oE := oE.alloc (.cells #[.int .i64 0, .int .i64 0, .int .i64 0, .bool false, .bool false, .int .i64 0, .int .i64 0, .int .i64 0, .slice none 0 0] 24)
      replace rE := rE.alloc (.cells #[.int .i64 0, .int .i64 0, .int .i64 0, .bool false, .bool false, .int .i64 0, .int .i64 0, .int .i64 0, .slice none 0 0] 24)
      replace cR6 := cR6.kept ((Below.refl _ _).alloc (Nat.le_refl _) (.cells #[.int .i64 0, .int .i64 0, .int .i64 0, .bool false, .bool false, .int .i64 0, .int .i64 0, .int .i64 0, .slice none 0 0] 24))
      replace bl6 := bl6.alloc bl6.size (.cells #[.int .i64 0, .int .i64 0, .int .i64 0, .bool false, .bool false, .int .i64 0, .int .i64 0, .int .i64 0, .slice none 0 0] 24)
      generalize w4.alloc (.cells #[.int .i64 0, .int .i64 0, .int .i64 0, .bool false, .bool false, .int .i64 0, .int .i64 0, .int .i64 0, .slice none 0 0] 24) = w6 at y2 cF oE rE cR6 bl6 hF0 ⊢
      refine hK _ _ (fun _ => inW _ y2) ?_
      clear hK K
      refine by_nil ?_
      refine rest_by [(43, false), (44, true), (46, false)] ⟨none, .assign (.tmp 0), 0, "", #[], none⟩ (by kernel_rfl) (inW _ y2) (fun x _ _ _ _ h => by cases x <;> exact h) ?_
      simp only [arrange, List.map_cons, List.map_nil, List.getD_cons_zero, List.getD_cons_succ]
      refine by_move rfl (fun K hK => ?_)
      refine step_app rfl (.tmp 75) (.tmp 77) rfl (w1.heap.size) _ [] rfl oE _ r rfl rE (by simp; omega) (by have := cF.1; omega) ?_
      intro v5 w5 o5 g5
      obtain ⟨xa, xn, xc, hv5⟩ := own_form o5
      rw [hv5] at o5 ⊢
      have y3 : Below w1.heap.size w1.drew w5 := y2.grown g5 y2.size (fun k h => by obtain rfl : w1.heap.size = k := Option.some.inj h; omega)
      have hF5 : w5.heap[w4.heap.size]? = some (.cells #[.int .i64 0, .int .i64 0, .int .i64 0, .bool false, .bool false, .int .i64 0, .int .i64 0, .int .i64 0, .slice none 0 0] 24 (0, 0)) := (g5.block _ cF.1 (fun h => absurd (Option.some.inj (show some w4.heap.size = some w1.heap.size from h)) (by omega))).trans hF0
      have nF : some w4.heap.size ≠ (Value.slice xa xn xc).ownBlock := own_type o5 hF5 (by decide)
      replace cF := cF.other g5 (fun h => absurd (Option.some.inj (show some w4.heap.size = some w1.heap.size from h)) (by omega))
      replace cR6 := cR6.other g5 (fun h => absurd (Option.some.inj (show some w.heap.size = some w1.heap.size from h)) (by omega))
      replace bl6 := bl6.grown g5 bl6.size (fun k h => by obtain rfl : w1.heap.size = k := Option.some.inj h; omega)
      have o6 := o5
      have hFR : w.heap.size ≠ w4.heap.size := by omega
      have hFw : w.heap.size ≤ w4.heap.size := by omega
      refine hK _ _ (fun _ => inW _ y3) ?_
      clear hK K
      refine by_read rfl (fun K hK => ?_)
      go_simp
      refine hK _ ?_
      clear hK K
      have kc := cF.2.1
      have kf := cF.2.2
      refine by_move rfl (fun K hK => ?_)
      go_simp
      refine hK _ _ (fun h => absurd h (by decide)) ?_
      clear hK K kc kf
      refine by_nil ?_
      have cF7 : CelF (((((((((w5.setCell ⟨w4.heap.size, 0, none⟩ (.int .i64 (a : Int))).setCell ⟨w4.heap.size, 1, none⟩ (.int .i64 ((c : Int) / 16))).setCell ⟨w4.heap.size, 2, none⟩ (.int .i64 ((c : Int) % 16))).setCell ⟨w4.heap.size, 3, none⟩ (.bool ((d : Int) % 2 == 1))).setCell ⟨w4.heap.size, 4, none⟩ (.bool ((d : Int) / 2 % 2 == 1))).setCell ⟨w4.heap.size, 5, none⟩ (.int .i64 ((d : Int) / 4 % 4))).setCell ⟨w4.heap.size, 6, none⟩ (.int .i64 ((d : Int) / 16))).setCell ⟨w4.heap.size, 7, none⟩ (.int .i64 (e : Int))).setCell ⟨w4.heap.size, 8, none⟩ (.slice xa xn xc)) w4.heap.size #[.int .i64 (a : Int), .int .i64 ((c : Int) / 16), .int .i64 ((c : Int) % 16), .bool ((d : Int) % 2 == 1), .bool ((d : Int) / 2 % 2 == 1), .int .i64 ((d : Int) / 4 % 4), .int .i64 ((d : Int) / 16), .int .i64 (e : Int), .slice xa xn xc] := by
        have := (((((((((cF.put 0 (by simp) (.int .i64 (a : Int))).put 1 (by simp) (.int .i64 ((c : Int) / 16))).put 2 (by simp) (.int .i64 ((c : Int) % 16))).put 3 (by simp) (.bool ((d : Int) % 2 == 1))).put 4 (by simp) (.bool ((d : Int) / 2 % 2 == 1))).put 5 (by simp) (.int .i64 ((d : Int) / 4 % 4))).put 6 (by simp) (.int .i64 ((d : Int) / 16))).put 7 (by simp) (.int .i64 (e : Int))).put 8 (by simp) (.slice xa xn xc))
        simpa using this
      have o7 : Own (((((((((w5.setCell ⟨w4.heap.size, 0, none⟩ (.int .i64 (a : Int))).setCell ⟨w4.heap.size, 1, none⟩ (.int .i64 ((c : Int) / 16))).setCell ⟨w4.heap.size, 2, none⟩ (.int .i64 ((c : Int) % 16))).setCell ⟨w4.heap.size, 3, none⟩ (.bool ((d : Int) % 2 == 1))).setCell ⟨w4.heap.size, 4, none⟩ (.bool ((d : Int) / 2 % 2 == 1))).setCell ⟨w4.heap.size, 5, none⟩ (.int .i64 ((d : Int) / 4 % 4))).setCell ⟨w4.heap.size, 6, none⟩ (.int .i64 ((d : Int) / 16))).setCell ⟨w4.heap.size, 7, none⟩ (.int .i64 (e : Int))).setCell ⟨w4.heap.size, 8, none⟩ (.slice xa xn xc)) w1.heap.size (.slice xa xn xc) r := by
        iterate 9 refine Own.far ?_ _ _ _ nF
        exact o6
      have cR7 : CelF (((((((((w5.setCell ⟨w4.heap.size, 0, none⟩ (.int .i64 (a : Int))).setCell ⟨w4.heap.size, 1, none⟩ (.int .i64 ((c : Int) / 16))).setCell ⟨w4.heap.size, 2, none⟩ (.int .i64 ((c : Int) % 16))).setCell ⟨w4.heap.size, 3, none⟩ (.bool ((d : Int) % 2 == 1))).setCell ⟨w4.heap.size, 4, none⟩ (.bool ((d : Int) / 2 % 2 == 1))).setCell ⟨w4.heap.size, 5, none⟩ (.int .i64 ((d : Int) / 4 % 4))).setCell ⟨w4.heap.size, 6, none⟩ (.int .i64 ((d : Int) / 16))).setCell ⟨w4.heap.size, 7, none⟩ (.int .i64 (e : Int))).setCell ⟨w4.heap.size, 8, none⟩ (.slice xa xn xc)) w.heap.size #[.int .i64 0, .int .i64 0, .int .i64 0, .bool false, .bool false, .int .i64 0, .int .i64 0, .int .i64 0, .slice none 0 0] := by
        iterate 9 refine CelF.far ?_ _ _ _ hFR
        exact cR6
      have bl7 : Below w.heap.size w (((((((((w5.setCell ⟨w4.heap.size, 0, none⟩ (.int .i64 (a : Int))).setCell ⟨w4.heap.size, 1, none⟩ (.int .i64 ((c : Int) / 16))).setCell ⟨w4.heap.size, 2, none⟩ (.int .i64 ((c : Int) % 16))).setCell ⟨w4.heap.size, 3, none⟩ (.bool ((d : Int) % 2 == 1))).setCell ⟨w4.heap.size, 4, none⟩ (.bool ((d : Int) / 2 % 2 == 1))).setCell ⟨w4.heap.size, 5, none⟩ (.int .i64 ((d : Int) / 4 % 4))).setCell ⟨w4.heap.size, 6, none⟩ (.int .i64 ((d : Int) / 16))).setCell ⟨w4.heap.size, 7, none⟩ (.int .i64 (e : Int))).setCell ⟨w4.heap.size, 8, none⟩ (.slice xa xn xc)) := by
        iterate 9 refine Below.setCell ?_ hFw _
        exact bl6
      generalize (((((((((w5.setCell ⟨w4.heap.size, 0, none⟩ (.int .i64 (a : Int))).setCell ⟨w4.heap.size, 1, none⟩ (.int .i64 ((c : Int) / 16))).setCell ⟨w4.heap.size, 2, none⟩ (.int .i64 ((c : Int) % 16))).setCell ⟨w4.heap.size, 3, none⟩ (.bool ((d : Int) % 2 == 1))).setCell ⟨w4.heap.size, 4, none⟩ (.bool ((d : Int) / 2 % 2 == 1))).setCell ⟨w4.heap.size, 5, none⟩ (.int .i64 ((d : Int) / 4 % 4))).setCell ⟨w4.heap.size, 6, none⟩ (.int .i64 ((d : Int) / 16))).setCell ⟨w4.heap.size, 7, none⟩ (.int .i64 (e : Int))).setCell ⟨w4.heap.size, 8, none⟩ (.slice xa xn xc)) = w7 at cF7 o7 cR7 bl7 ⊢
      clear q0 q1 q2 q3 ofW inW ne W ι
      have kF := cF7.2.1
      go_wp2_with fail
      refine (spec_frm _ _ _ _ _ _ _ _ _ _ _ _).mono ?_
      obtain rfl := own_len o7
      rw [hfb]
      rintro x w8 ⟨rfl, b8⟩
      replace cR7 := cR7.kept b8
      replace cF7 := cF7.kept b8
      replace o7 := o7.kept b8
      replace bl7 := bchain bl7 b8
      clear kF
      have kF := cF7.2.1
      have kc := cR7.2.1
      have kf := cR7.2.2
      clear f0 f1 f2 f3 f4 f5 f6 f7 f8 f9 f10 f11 f12 f13 t0 t1 t2 t3 i0 i1 i2 i3 i4 c0 c1 c2 c3 c4 hc h5' h13 hby ha hc' hd he hbr rb rT
      go_wp2
      refine bodyPost_ret (v := .tuple #[.agg #[.int .i64 0, .int .i64 0, .int .i64 0, .bool false, .bool false, .int .i64 0, .int .i64 0, .int .i64 0, .slice none 0 0], .bool false]) (by simp [results, Tryd.results9, go_sem, kc]) rfl ⟨rfl, ?_⟩
      iterate 9 refine Below.setCell ?_ (show w.heap.size ≤ w.heap.size from Nat.le_refl _) _
      exact bl7
  · simp only [arrange, List.map_cons, List.map_nil, List.getD_cons_zero, List.getD_cons_succ]
    refine by_move rfl (fun K hK => ?_)
    go_simp
    have y1 : Below w1.heap.size w1.drew (w1.alloc (.cells #[.int .i64 0, .int .i64 0, .int .i64 0, .bool false, .bool false, .int .i64 0, .int .i64 0, .int .i64 0, .slice none 0 0] 24)).drew := (Below.refl w1.heap.size w1.drew).alloc (Nat.le_refl _) _
    have cF := (celF_box w1 #[.int .i64 0, .int .i64 0, .int .i64 0, .bool false, .bool false, .int .i64 0, .int .i64 0, .int .i64 0, .slice none 0 0] 24).kept ((Below.refl _ _).alloc (Nat.le_refl _) (.cells #[] 5)).drew
    refine hK _ _ (fun _ => inW _ y1) ?_
    clear hK K
    refine by_nil ?_
    refine rest_by [(40, false), (43, false), (44, true), (46, false)] ⟨none, .assign (.tmp 0), 0, "", #[], none⟩ (by kernel_rfl) (inW _ y1) (fun x _ _ _ _ h => by cases x <;> exact h) ?_
    simp only [arrange, List.map_cons, List.map_nil, List.getD_cons_zero, List.getD_cons_succ]
    refine by_move rfl (fun K hK => ?_)
    go_simp
    have y2 : Below w1.heap.size w1.drew ((w1.alloc (.cells #[.int .i64 0, .int .i64 0, .int .i64 0, .bool false, .bool false, .int .i64 0, .int .i64 0, .int .i64 0, .slice none 0 0] 24)).alloc (.cells #[] 5)).drew := y1.alloc (by simp) _
    refine hK _ _ (fun _ => inW _ y2) ?_
    clear hK K
    have oE : Own ((w1.alloc (.cells #[.int .i64 0, .int .i64 0, .int .i64 0, .bool false, .bool false, .int .i64 0, .int .i64 0, .int .i64 0, .slice none 0 0] 24)).alloc (.cells #[] 5)).drew (w1.heap.size + 1) (.slice (some ⟨w1.heap.size + 1, 0, none⟩) 0 0) [] := by
      have := own_empty (w1.alloc (.cells #[.int .i64 0, .int .i64 0, .int .i64 0, .bool false, .bool false, .int .i64 0, .int .i64 0, .int .i64 0, .slice none 0 0] 24)) (w1.heap.size + 1) (by simp)
      simp only [World.size_alloc] at this
      exact World.ownsRow.drew this
    have rE := rT.kept ((Below.refl w1.heap.size w1).drew.trans y2)
    have cR6 := cR.kept ((Below.refl w1.heap.size w1).drew.trans y2)
    have bl6 := bchain bl ((Below.refl w1.heap.size w1).drew.trans y2)
    generalize ((w1.alloc (.cells #[.int .i64 0, .int .i64 0, .int .i64 0, .bool false, .bool false, .int .i64 0, .int .i64 0, .int .i64 0, .slice none 0 0] 24)).alloc (.cells #[] 5)).drew = w4 at y2 oE rE cF cR6 bl6 ⊢
    refine by_move rfl (fun K hK => ?_)
    refine step_app rfl (.tmp 75) (.tmp 77) rfl (w1.heap.size + 1) _ [] rfl oE _ r rfl rE (by simp; omega) (by have := cF.1; omega) ?_
    intro v5 w5 o5 g5
    obtain ⟨xa, xn, xc, hv5⟩ := own_form o5
    rw [hv5] at o5 ⊢
    have y3 : Below w1.heap.size w1.drew w5 := y2.grown g5 y2.size (fun k h => by obtain rfl : w1.heap.size + 1 = k := Option.some.inj h; omega)
    replace cF := cF.other g5 (fun h => absurd (Option.some.inj (show some w1.heap.size = some (w1.heap.size + 1) from h)) (by omega))
    replace cR6 := cR6.other g5 (fun h => absurd (Option.some.inj (show some w.heap.size = some (w1.heap.size + 1) from h)) (by omega))
    replace bl6 := bl6.grown g5 bl6.size (fun k h => by obtain rfl : w1.heap.size + 1 = k := Option.some.inj h; omega)
    have nF : some w1.heap.size ≠ (Value.slice xa xn xc).ownBlock := own_box_apart o5 (.inl (by omega))
    have o6 := o5.base (C := w1.heap.size) (by omega)
    have hFR : w.heap.size ≠ w1.heap.size := by omega
    have hFw : w.heap.size ≤ w1.heap.size := by omega
    refine hK _ _ (fun _ => inW _ y3) ?_
    clear hK K
    refine by_read rfl (fun K hK => ?_)
    go_simp
    refine hK _ ?_
    clear hK K
    have kc := cF.2.1
    have kf := cF.2.2
    refine by_move rfl (fun K hK => ?_)
    go_simp
    refine hK _ _ (fun h => absurd h (by decide)) ?_
    clear hK K kc kf
    refine by_nil ?_
    have cF7 : CelF (((((((((w5.setCell ⟨w1.heap.size, 0, none⟩ (.int .i64 (a : Int))).setCell ⟨w1.heap.size, 1, none⟩ (.int .i64 ((c : Int) / 16))).setCell ⟨w1.heap.size, 2, none⟩ (.int .i64 ((c : Int) % 16))).setCell ⟨w1.heap.size, 3, none⟩ (.bool ((d : Int) % 2 == 1))).setCell ⟨w1.heap.size, 4, none⟩ (.bool ((d : Int) / 2 % 2 == 1))).setCell ⟨w1.heap.size, 5, none⟩ (.int .i64 ((d : Int) / 4 % 4))).setCell ⟨w1.heap.size, 6, none⟩ (.int .i64 ((d : Int) / 16))).setCell ⟨w1.heap.size, 7, none⟩ (.int .i64 (e : Int))).setCell ⟨w1.heap.size, 8, none⟩ (.slice xa xn xc)) w1.heap.size #[.int .i64 (a : Int), .int .i64 ((c : Int) / 16), .int .i64 ((c : Int) % 16), .bool ((d : Int) % 2 == 1), .bool ((d : Int) / 2 % 2 == 1), .int .i64 ((d : Int) / 4 % 4), .int .i64 ((d : Int) / 16), .int .i64 (e : Int), .slice xa xn xc] := by
      have := (((((((((cF.put 0 (by simp) (.int .i64 (a : Int))).put 1 (by simp) (.int .i64 ((c : Int) / 16))).put 2 (by simp) (.int .i64 ((c : Int) % 16))).put 3 (by simp) (.bool ((d : Int) % 2 == 1))).put 4 (by simp) (.bool ((d : Int) / 2 % 2 == 1))).put 5 (by simp) (.int .i64 ((d : Int) / 4 % 4))).put 6 (by simp) (.int .i64 ((d : Int) / 16))).put 7 (by simp) (.int .i64 (e : Int))).put 8 (by simp) (.slice xa xn xc))
      simpa using this
    have o7 : Own (((((((((w5.setCell ⟨w1.heap.size, 0, none⟩ (.int .i64 (a : Int))).setCell ⟨w1.heap.size, 1, none⟩ (.int .i64 ((c : Int) / 16))).setCell ⟨w1.heap.size, 2, none⟩ (.int .i64 ((c : Int) % 16))).setCell ⟨w1.heap.size, 3, none⟩ (.bool ((d : Int) % 2 == 1))).setCell ⟨w1.heap.size, 4, none⟩ (.bool ((d : Int) / 2 % 2 == 1))).setCell ⟨w1.heap.size, 5, none⟩ (.int .i64 ((d : Int) / 4 % 4))).setCell ⟨w1.heap.size, 6, none⟩ (.int .i64 ((d : Int) / 16))).setCell ⟨w1.heap.size, 7, none⟩ (.int .i64 (e : Int))).setCell ⟨w1.heap.size, 8, none⟩ (.slice xa xn xc)) w1.heap.size (.slice xa xn xc) r := by
      iterate 9 refine Own.far ?_ _ _ _ nF
      exact o6
    have cR7 : CelF (((((((((w5.setCell ⟨w1.heap.size, 0, none⟩ (.int .i64 (a : Int))).setCell ⟨w1.heap.size, 1, none⟩ (.int .i64 ((c : Int) / 16))).setCell ⟨w1.heap.size, 2, none⟩ (.int .i64 ((c : Int) % 16))).setCell ⟨w1.heap.size, 3, none⟩ (.bool ((d : Int) % 2 == 1))).setCell ⟨w1.heap.size, 4, none⟩ (.bool ((d : Int) / 2 % 2 == 1))).setCell ⟨w1.heap.size, 5, none⟩ (.int .i64 ((d : Int) / 4 % 4))).setCell ⟨w1.heap.size, 6, none⟩ (.int .i64 ((d : Int) / 16))).setCell ⟨w1.heap.size, 7, none⟩ (.int .i64 (e : Int))).setCell ⟨w1.heap.size, 8, none⟩ (.slice xa xn xc)) w.heap.size #[.int .i64 0, .int .i64 0, .int .i64 0, .bool false, .bool false, .int .i64 0, .int .i64 0, .int .i64 0, .slice none 0 0] := by
      iterate 9 refine CelF.far ?_ _ _ _ hFR
      exact cR6
    have bl7 : Below w.heap.size w (((((((((w5.setCell ⟨w1.heap.size, 0, none⟩ (.int .i64 (a : Int))).setCell ⟨w1.heap.size, 1, none⟩ (.int .i64 ((c : Int) / 16))).setCell ⟨w1.heap.size, 2, none⟩ (.int .i64 ((c : Int) % 16))).setCell ⟨w1.heap.size, 3, none⟩ (.bool ((d : Int) % 2 == 1))).setCell ⟨w1.heap.size, 4, none⟩ (.bool ((d : Int) / 2 % 2 == 1))).setCell ⟨w1.heap.size, 5, none⟩ (.int .i64 ((d : Int) / 4 % 4))).setCell ⟨w1.heap.size, 6, none⟩ (.int .i64 ((d : Int) / 16))).setCell ⟨w1.heap.size, 7, none⟩ (.int .i64 (e : Int))).setCell ⟨w1.heap.size, 8, none⟩ (.slice xa xn xc)) := by
      iterate 9 refine Below.setCell ?_ hFw _
      exact bl6
    generalize (((((((((w5.setCell ⟨w1.heap.size, 0, none⟩ (.int .i64 (a : Int))).setCell ⟨w1.heap.size, 1, none⟩ (.int .i64 ((c : Int) / 16))).setCell ⟨w1.heap.size, 2, none⟩ (.int .i64 ((c : Int) % 16))).setCell ⟨w1.heap.size, 3, none⟩ (.bool ((d : Int) % 2 == 1))).setCell ⟨w1.heap.size, 4, none⟩ (.bool ((d : Int) / 2 % 2 == 1))).setCell ⟨w1.heap.size, 5, none⟩ (.int .i64 ((d : Int) / 4 % 4))).setCell ⟨w1.heap.size, 6, none⟩ (.int .i64 ((d : Int) / 16))).setCell ⟨w1.heap.size, 7, none⟩ (.int .i64 (e : Int))).setCell ⟨w1.heap.size, 8, none⟩ (.slice xa xn xc)) = w7 at cF7 o7 cR7 bl7 ⊢
    clear q0 q1 q2 q3 ofW inW ne W ι
    have kF := cF7.2.1
    go_wp2_with fail
    refine (spec_frm _ _ _ _ _ _ _ _ _ _ _ _).mono ?_
    obtain rfl := own_len o7
    rw [hfb]
    rintro x w8 ⟨rfl, b8⟩
    replace cR7 := cR7.kept b8
    replace cF7 := cF7.kept b8
    replace o7 := o7.kept b8
    replace bl7 := bchain bl7 b8
    clear kF
    have kF := cF7.2.1
    have kc := cR7.2.1
    have kf := cR7.2.2
    clear f0 f1 f2 f3 f4 f5 f6 f7 f8 f9 f10 f11 f12 f13 t0 t1 t2 t3 i0 i1 i2 i3 i4 c0 c1 c2 c3 c4 hc h5' h13 hby ha hc' hd he hbr rb rT
    go_wp2
    refine bodyPost_ret (v := .tuple #[.agg #[.int .i64 0, .int .i64 0, .int .i64 0, .bool false, .bool false, .int .i64 0, .int .i64 0, .int .i64 0, .slice none 0 0], .bool false]) (by simp [results, Tryd.results9, go_sem, kc]) rfl ⟨rfl, ?_⟩
    iterate 9 refine Below.setCell ?_ (show w.heap.size ≤ w.heap.size from Nat.le_refl _) _
    exact bl7
end Go.Proofs.YthnlpdjjnfkmeaaDoor

/- FrmRead of the specification, at every list of bytes. -/
namespace Go.Proofs.YthnlpdjjnfkmeaaDoor
open Go.RowKit
theorem long_bad (a c d e : Nat) (r : List Nat) (h : 8 < r.length) : frmB (a : Int) ((c : Int) / 16) ((c : Int) % 16) ((d : Int) % 2 == 1) ((d : Int) / 2 % 2 == 1) ((d : Int) / 4 % 4) ((d : Int) / 16) (e : Int) r.length = false := by
  cases hh : frmB (a : Int) ((c : Int) / 16) ((c : Int) % 16) ((d : Int) % 2 == 1) ((d : Int) / 2 % 2 == 1) ((d : Int) / 4 % 4) ((d : Int) / 16) (e : Int) r.length with
  | false => rfl
  | true =>
    exfalso
    simp only [frmB, pieceB, decide_eq_true_eq] at hh
    omega
theorem spec_read (v : Value) (bs : List Nat) (w : World) (hv : Rd w v bs) :
    Calls Tryd.prog 9 #[v] w fun e w' => ∃ v', e = .returned (.tuple #[.agg #[.int .i64 (rdKind bs), .int .i64 (rdSeq bs), .int .i64 (rdAck bs), .bool (rdPoll bs), .bool (rdFinal bs), .int .i64 (rdSay bs), .int .i64 (rdSeg bs), .int .i64 (rdLen bs), v'], .bool (rdB bs)]) ∧ Own w' w.heap.size v' (rdData bs) ∧ Below w.heap.size w w' := by
  have none_ : rdB bs = false → Calls Tryd.prog 9 #[v] w (fun e w' => e = .returned (.tuple #[.agg #[.int .i64 0, .int .i64 0, .int .i64 0, .bool false, .bool false, .int .i64 0, .int .i64 0, .int .i64 0, .slice none 0 0], .bool false]) ∧ Below w.heap.size w w') → Calls Tryd.prog 9 #[v] w fun e w' => ∃ v', e = .returned (.tuple #[.agg #[.int .i64 (rdKind bs), .int .i64 (rdSeq bs), .int .i64 (rdAck bs), .bool (rdPoll bs), .bool (rdFinal bs), .int .i64 (rdSay bs), .int .i64 (rdSeg bs), .int .i64 (rdLen bs), v'], .bool (rdB bs)]) ∧ Own w' w.heap.size v' (rdData bs) ∧ Below w.heap.size w w' := by
    intro hrd h
    simp only [rdKind, rdSeq, rdAck, rdPoll, rdFinal, rdSay, rdSeg, rdLen, rdData, hrd, Bool.false_eq_true, if_false]
    refine h.mono ?_
    rintro e w1 ⟨rfl, b1⟩
    exact ⟨_, rfl, own_none _ _, b1⟩
  cases hB : cutB bs with
  | false => exact none_ (by simp [rdB, goodB, hB]) (spec_read_cut v bs w hv hB)
  | true =>
    by_cases h5 : (cutL bs).length < 5
    · exact none_ (by simp [rdB, goodB]; omega) (spec_read_short v bs w hv hB h5)
    · obtain ⟨a, c, d, e, n, r, hL⟩ : ∃ a c d e n r, cutL bs = a :: c :: d :: e :: n :: r := by
        match cutL bs, h5 with
        | a :: c :: d :: e :: n :: r, _ => exact ⟨a, c, d, e, n, r, rfl⟩
        | [], h | [_], h | [_, _], h | [_, _, _], h | [_, _, _, _], h => simp at h
      by_cases hn : n = r.length
      · subst hn
        by_cases h8 : r.length ≤ 8
        · cases hfb : frmB (a : Int) ((c : Int) / 16) ((c : Int) % 16) ((d : Int) % 2 == 1) ((d : Int) / 2 % 2 == 1) ((d : Int) / 4 % 4) ((d : Int) / 16) (e : Int) r.length with
          | false => exact none_ (by simp [rdB, hL, hfb]) (spec_read_no v bs a c d e r w hv hB hL h8 hfb)
          | true =>
            have hrd : rdB bs = true := by simp [rdB, goodB, hB, hL, hfb]
            simp only [rdKind, rdSeq, rdAck, rdPoll, rdFinal, rdSay, rdSeg, rdLen, rdData, hrd, if_true, hL]
            exact spec_read_yes v bs a c d e r w hv hB hL h8 hfb
        · exact none_ (by simp [rdB, hL, long_bad a c d e r (by omega)]) (spec_read_len v bs a c d e _ r w hv hB hL (.inr (by omega)))
      · exact none_ (by simp [rdB, goodB, hL]; omega) (spec_read_len v bs a c d e n r w hv hB hL (.inl hn))
end Go.Proofs.YthnlpdjjnfkmeaaDoor

/- What is put is cut again, what is cut had its sum put, and with one byte turned nothing is cut: plain lists. -/
namespace Go.Proofs.YthnlpdjjnfkmeaaDoor
open Go.RowKit

theorem cut_put_B {b : List Nat} (h : Byt b) : cutB (putL b) = true := by
  have := CrcM.crc_lt b h
  rw [putL, cutB_eq]
  simp
  omega
theorem cut_put_L {b : List Nat} (h : Byt b) : cutL (putL b) = b := by
  have := CrcM.crc_lt b h
  rw [putL, cutL_eq, if_pos (by omega)]
theorem put_cut {c : List Nat} (hb : Byt c) (h : cutB c = true) : putL (cutL c) = c := by
  by_cases hl : c.length < 2
  · rw [cutB_short hl] at h; simp at h
  · obtain ⟨ys, p, q, rfl⟩ := two_last (show 2 ≤ c.length by omega)
    have hp : p < 256 := hb p (by simp)
    have hq : q < 256 := hb q (by simp)
    rw [cutB_eq] at h
    have e := of_decide_eq_true h
    rw [cutL_eq, if_pos e, putL, e]
    congr 2
    · omega
    · congr 1; omega
namespace CrcM
theorem fold_inj (l : List Nat) : ∀ {s t : Nat}, s < 65536 → t < 65536 → (∀ b ∈ l, b < 256) → l.foldl stp s = l.foldl stp t → s = t := by
  induction l with
  | nil => intro s t _ _ _ h; exact h
  | cons a l ih =>
    intro s t hs ht hl h
    have ha : a < 256 := hl a (by simp)
    exact stp_inj_left hs ht ha (ih (stp_lt hs ha) (stp_lt ht ha) (fun b hb => hl b (by simp [hb])) h)
theorem crc_set {l : List Nat} (h : ∀ b ∈ l, b < 256) {i x : Nat} (hi : i < l.length) (hx : x < 256) (hne : x ≠ l.getD i 0) : crc (l.set i x) ≠ crc l := by
  intro e
  have e1 : l = l.take i ++ l.getD i 0 :: l.drop (i + 1) := by
    simp [hi]
  have e2 : l.set i x = l.take i ++ x :: l.drop (i + 1) := by
    rw [List.set_eq_take_append_cons_drop, if_pos hi]
  have hd : l.getD i 0 < 256 := by
    rw [List.getD_eq_getElem?_getD, List.getElem?_eq_getElem hi]; exact h _ (List.getElem_mem hi)
  have ht : (l.take i).foldl stp 0 < 65536 := crc_lt (l.take i) (fun b hb => h b (List.mem_of_mem_take hb))
  unfold crc at e
  rw [e2] at e
  conv at e => rhs; rw [e1]
  simp only [List.foldl_append, List.foldl_cons] at e
  have := fold_inj (l.drop (i + 1)) (stp_lt ht hx) (stp_lt ht hd) (fun b hb => h b (List.mem_of_mem_drop hb)) e
  exact hne (stp_inj_right ht hx hd this)
end CrcM
theorem cut_bent {b : List Nat} (h : Byt b) {i x : Nat} (hi : i < (putL b).length) (hx : x < 256) (hne : x ≠ (putL b).getD i 0) : cutB ((putL b).set i x) = false := by
  have hc := CrcM.crc_lt b h
  rw [putL_length] at hi
  by_cases h1 : i < b.length
  · have e : (putL b).set i x = b.set i x ++ [CrcM.crc b % 256, CrcM.crc b / 256] := by rw [putL, List.set_append, if_pos h1]
    have hne' : x ≠ b.getD i 0 := by
      intro e2
      apply hne
      rw [e2, putL, List.getD_eq_getElem?_getD, List.getD_eq_getElem?_getD, List.getElem?_append_left h1]
    rw [e, cutB_eq]
    have := CrcM.crc_set h h1 hx hne'
    simp
    omega
  · by_cases h2 : i = b.length
    · subst h2
      have e : (putL b).set b.length x = b ++ [x, CrcM.crc b / 256] := by rw [putL, List.set_append, if_neg (by omega)]; simp
      have hne' : x ≠ CrcM.crc b % 256 := by
        intro e2
        apply hne
        rw [putL, e2]
        simp
      rw [e, cutB_eq]
      simp
      omega
    · have h3 : i = b.length + 1 := by omega
      subst h3
      have e : (putL b).set (b.length + 1) x = b ++ [CrcM.crc b % 256, x] := by rw [putL, List.set_append, if_neg (by omega)]; simp
      have hne' : x ≠ CrcM.crc b / 256 := by
        intro e2
        apply hne
        rw [putL, e2]
        simp
      rw [e, cutB_eq]
      simp
      omega
end Go.Proofs.YthnlpdjjnfkmeaaDoor

/- Structs that came in as arguments: what their cells are. -/
namespace Go.Proofs.YthnlpdjjnfkmeaaDoor
open Go.ChangeShapes Go.WideShapes Go.ChangeAt Go.RowKit

/-- An int of 64 bits. -/
def I64 (n : Int) : Prop := -9223372036854775808 ≤ n ∧ n < 9223372036854775808
theorem i64_of {n : Int} (h : (Lit.int .i64 n).wf = true) : I64 n := by
  simp [Lit.wf, IntKind.min, IntKind.max, IntKind.bits, IntKind.signed] at h
  unfold I64
  omega
theorem field_of {H : Type} {enc : TypeId × Value → H} {P : Program} {w : World} {base : Nat} {spare : Nat → Bool} {held : Bool} {fuel : Nat} {t : TypeId} {cs : List Value} {x : DataW H × List MemPlace} {fs : Array Field}
    (ht : P.underlying t = some (.struct fs)) (h : DataW.trod enc P w base spare held fuel t cs = some x) (i : Nat) (f : Field) (hf : fs[i]? = some f) (k : Nat) (hk : P.cellsOf f.type = k) :
    ∃ y n, DataW.trod enc P w base spare held n f.type ((cs.drop f.offset).take k) = some y := by
  obtain ⟨xs, n, _, _, _, hlen, hx⟩ := DataW.trod_struct ht h
  have hi : i < fs.size := by
    rcases Nat.lt_or_ge i fs.size with h | h
    · exact h
    · rw [Array.getElem?_eq_none h] at hf; cases hf
  refine ⟨xs[i]'(by omega), n, ?_⟩
  rw [← hk, hx i f hf, List.getElem?_eq_getElem (by omega)]
theorem opn_int {H : Type} {enc : TypeId × Value → H} {w : World} {base : Nat} {spare : Nat → Bool} {held : Bool} {fuel : Nat} {cs : List Value} {x : DataW H × List MemPlace}
    (h : DataW.trod enc Tryd.prog w base spare held fuel 3 cs = some x) : ∃ n, cs = [.int .i64 n] ∧ I64 n := by
  obtain ⟨n, h1, _, h2⟩ := DataW.trod_int Tryd.underlying3 h
  exact ⟨n, h1, i64_of h2⟩
theorem opn_bool {H : Type} {enc : TypeId × Value → H} {w : World} {base : Nat} {spare : Nat → Bool} {held : Bool} {fuel : Nat} {cs : List Value} {x : DataW H × List MemPlace}
    (h : DataW.trod enc Tryd.prog w base spare held fuel 4 cs = some x) : ∃ b, cs = [.bool b] := by
  obtain ⟨n, h1, _⟩ := DataW.trod_bool Tryd.underlying4 h
  exact ⟨n, h1⟩
theorem opn_bytes {H : Type} {enc : TypeId × Value → H} {W : World} {fuel : Nat} {cs : List Value} {x : DataW H × List MemPlace}
    (h : DataW.trod enc Tryd.prog W 0 (fun _ => true) true fuel 22 cs = some x) : ∃ a l c zs, cs = [.slice a l c] ∧ IsRow .u8 W a l c zs := by
  rcases open_ints Tryd.underlying22 Tryd.underlying5 (by kernel_rfl) h with ⟨hcs, _⟩ | ⟨x, l, c, zs, hcs, _, hl, hm, hz, _, hcell, hwz⟩
  · exact ⟨_, _, _, [], hcs, .inl ⟨rfl, rfl, rfl, rfl⟩⟩
  · exact ⟨_, _, _, zs, hcs, .inr ⟨_, rfl, hl, hm, by simpa using hz, hcell, hwz⟩⟩
end Go.Proofs.YthnlpdjjnfkmeaaDoor
