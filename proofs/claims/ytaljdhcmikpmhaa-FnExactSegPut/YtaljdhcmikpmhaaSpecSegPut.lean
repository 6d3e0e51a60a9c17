/- SegPut of the specification. -/
import Derived.Test.YtaljdhcmikpmhaaSegPut
namespace Go.Proofs.Ytaljdhcmikpmhaa
open Go.RowKit
set_option maxHeartbeats 2000000 in
theorem spec_bad (w : World) :
    Calls Try.prog 39 #[] w fun e w' => ∃ v, e = .returned (.tuple #[.agg #[.int .i64 0, .slice none 0 0], v, .int .i64 3]) ∧ Own w' w.heap.size v [] ∧ Below w.heap.size w w' := by
  have o1 := own_empty (w.alloc (.cells #[.int .i64 0, .slice none 0 0] 43)) w.heap.size (by simp)
  go_enter Try.func39, Try.ntmps39
  go_wp2
  go_returns
  exact ⟨_, rfl, by simpa using o1, bchain (below_alloc _ _) (below_alloc _ _)⟩
set_option maxHeartbeats 4000000 in
theorem spec_l4 (len : Int) (a : Option Addr) (cap : Nat) (zs : List Nat) (seg le : Int) (a' : Option Addr) (cap' : Nat) (ys : List Nat) (w : World) (hJ : Rd w (.slice a zs.length cap) zs) (hP : Rd w (.slice a' ys.length cap') ys) (h : joinB len zs.length = true) (h2 : pieceB seg le ys.length = true) :
    Calls Try.prog 36 #[.agg #[.int .i64 len, .slice a zs.length cap], .agg #[.int .i64 seg, .int .i64 le, .slice a' ys.length cap']] w fun e w' => PutAns w.heap.size len zs seg le ys e w' ∧ Below w.heap.size w w' := by
  have l1 := joinB_small h
  have l2 := pieceB_small h2
  have hA : putA len zs seg le ys = putC len zs.length seg ys.length := by simp [putA, h, h2]
  go_enter Try.func36, Try.ntmps36
  go_wp2_with fail
  obtain ⟨w0, hw0, J0, P0, O0, T0, b0, z0⟩ := three w #[.int .i64 len, .slice a zs.length cap] 43 #[.int .i64 seg, .int .i64 le, .slice a' ys.length cap'] 35 #[.int .i64 0, .slice none 0 0] 43
  rw [hw0]
  clear hw0
  have d1 : Below w0.heap.size w0 w0.drew := (Below.refl _ _).drew
  replace J0 := J0.kept d1
  replace P0 := P0.kept d1
  have R1 := (hJ.kept b0).kept d1
  have R2 := (hP.kept b0).kept d1
  have e1 := below_alloc w0.drew (.cells #[] 5)
  obtain ⟨ι, W, inW, ofW⟩ := cls (fun w' => Below w0.heap.size w0.drew w')
  have ne : Nonempty ι := ⟨(inW _ (Below.refl _ _)).choose⟩
  have kW : ∀ x k, (W x).cell? ⟨w.heap.size, k, none⟩ = (#[.int .i64 len, .slice a zs.length cap] : Array Value)[k]? := fun x k => ((ofW x).cell (p := ⟨w.heap.size, k, none⟩) J0.1).trans (J0.2.1 k)
  have kV : ∀ x k, (W x).cell? ⟨w.heap.size + 1, k, none⟩ = (#[.int .i64 seg, .int .i64 le, .slice a' ys.length cap'] : Array Value)[k]? := fun x k => ((ofW x).cell (p := ⟨w.heap.size + 1, k, none⟩) P0.1).trans (P0.2.1 k)
  refine region_by (fun w' => ∃ x, w' = W x) 7 [(1, true), (2, true), (4, true), (5, true), (0, false), (3, false), (6, false), (7, false)] ⟨none, .assign (.tmp 0), 0, "", #[], none⟩ (by kernel_rfl) (by kernel_rfl) (inW _ (Below.refl _ _)) (fun x _ _ _ _ h => by cases x <;> exact h) ?_
  simp only [arrange, List.map_cons, List.map_nil, List.getD_cons_zero, List.getD_cons_succ]
  iterate 4 (refine by_read rfl (fun K hK => ?_); go_simp; refine hK _ ?_; clear hK K)
  refine by_move rfl (fun K hK => ?_)
  go_simp
  refine hK _ _ (fun _ => inW _ e1) ?_
  clear hK K
  have o1 := own_empty w0.drew w0.heap.size (by simp)
  refine by_move rfl (fun K hK => ?_)
  refine step_app rfl (.tmp 12) (.tmp 14) rfl w0.heap.size (.slice (some ⟨w0.heap.size, 0, none⟩) 0 0) [] rfl o1 _ zs rfl (R1.kept e1) (by simp; omega) (by simp) ?_
  intro v2 w2 o2 g2
  have q2 : Below w0.heap.size w0.drew w2 := Below.grown e1 g2 (by simp) (by simp [Value.ownBlock])
  refine hK _ _ (fun _ => inW _ q2) ?_
  clear hK K
  refine by_move rfl (fun K hK => ?_)
  refine step_app rfl (.tmp 15) (.tmp 17) rfl w0.heap.size v2 zs rfl o2 _ ys rfl (R2.kept q2) (by omega) (by simpa using q2.size) ?_
  intro v3 w3 o3 g3
  have q3 : Below w0.heap.size w0.drew w3 := q2.grown g3 (by simpa using q2.size) (fun k e => (World.ownsRow.lt o2 k e).1)
  refine hK _ _ (fun _ => inW _ q3) ?_
  clear hK K
  iterate 1 (refine by_move rfl (fun K hK => ?_); go_simp; refine hK _ _ (fun h => absurd h (by decide)) ?_; clear hK K)
  refine by_nil ?_
  clear kW kV
  clear ofW inW ne W ι
  replace J0 := J0.kept q3
  replace P0 := P0.kept q3
  replace O0 := (O0.kept d1).kept q3
  replace T0 := (T0.kept d1).kept q3
  replace b0 := b0.trans ((d1.trans q3).mono b0.size)
  clear g2 g3 q2 q3 e1 o1 o2 R1 R2 d1
  have ap := T0.row o3 (by decide)
  have z3 := b0.size
  replace o3 := o3.base (C := w.heap.size) (by omega)
  obtain ⟨a3, c3, hv3⟩ := o3.form
  rw [List.length_append] at hv3
  subst hv3
  have kJ := J0.2.1
  have kP := P0.2.1
  have kO := O0.2.1
  have fO := O0.2.2
  have lO := O0.1
  have lJ := J0.1
  have ap35 : ∀ k, (Value.slice a3 (zs.length + ys.length) c3).ownBlock = some k → (Value.slice (some ⟨w3.heap.size, 0, none⟩) 0 0).ownBlock ≠ some k := fun k e1 e2 => by
    have := (World.ownsRow.lt o3 k e1).2
    simp [Value.ownBlock] at e2
    omega
  go_wp2_with (go_at_call 39; refine (spec_bad _).mono ?_; rintro e w4 ⟨v4, rfl, o4, b4⟩; have kO4 := (O0.kept b4).2.1; have fO4 := (O0.kept b4).2.2)
  all_goals
    first
    | (refine bodyPost_ret (v := .tuple #[.agg #[.int .i64 0, .slice none 0 0], v4, .int .i64 3]) (by simp [results, Try.results36, go_sem, kO4]) rfl ⟨?_, ?_⟩
       · have ap4 := (T0.kept b4).row o4 (by decide)
         refine .none (c := 3) (hA.trans ?_) (by decide) (by decide) rfl (own_none _ _) (((o4.base z3).far _ _ _ ap4).far _ _ _ ap4) (nil_apart _)
         go_light
         grind [putC, joinB, pieceB]
       · exact ((b0.trans (b4.mono z3)).setCell (by simp; try omega) _).setCell (by simp; try omega) _)
    | (refine bodyPost_ret (v := .tuple #[.agg #[.int .i64 0, .slice none 0 0], .slice a3 (zs.length + ys.length) c3, .int .i64 2]) (by simp [results, Try.results36, go_sem, kO]) rfl ⟨?_, ?_⟩
       · refine .all (hA.trans ?_) rfl (own_none _ _) ((o3.far _ _ _ ap).far _ _ _ ap) (nil_apart _)
         go_light
         grind [putC, joinB, pieceB]
       · exact (b0.setCell (by simp; try omega) _).setCell (by simp; try omega) _)
    | (refine bodyPost_ret (v := .tuple #[.agg #[.int .i64 le, .slice a3 (zs.length + ys.length) c3], .slice (some ⟨w3.heap.size, 0, none⟩) 0 0, .int .i64 1]) (by simp [results, Try.results36, go_sem, kO, lO]) rfl ⟨?_, ?_⟩
       · refine .more (hA.trans ?_) ?_ rfl (((o3.far _ _ _ ap).far _ _ _ ap).alloc _) (by simpa using own_empty ((w3.setCell ⟨w.heap.size + 1 + 1, 0, none⟩ (.int .i64 le)).setCell ⟨w.heap.size + 1 + 1, 1, none⟩ (.slice a3 (zs.length + ys.length) c3)) w.heap.size (by simpa using z3)) ap35
         all_goals
           go_light
           grind [putC, joinB, pieceB]
       · exact ((b0.setCell (by simp; try omega) _).setCell (by simp; try omega) _).alloc (by simpa using z3) _)
    | (refine bodyPost_ret (v := .tuple #[.agg #[.int .i64 len, .slice a3 (zs.length + ys.length) c3], .slice (some ⟨w3.heap.size, 0, none⟩) 0 0, .int .i64 1]) (by simp [results, Try.results36, go_sem, kO, lO]) rfl ⟨?_, ?_⟩
       · refine .more (hA.trans ?_) ?_ rfl (((o3.far _ _ _ ap).far _ _ _ ap).alloc _) (by simpa using own_empty ((w3.setCell ⟨w.heap.size + 1 + 1, 0, none⟩ (.int .i64 len)).setCell ⟨w.heap.size + 1 + 1, 1, none⟩ (.slice a3 (zs.length + ys.length) c3)) w.heap.size (by simpa using z3)) ap35
         all_goals
           go_light
           grind [putC, joinB, pieceB]
       · exact ((b0.setCell (by simp; try omega) _).setCell (by simp; try omega) _).alloc (by simpa using z3) _)
set_option maxHeartbeats 2000000 in
theorem spec_put_nj (len : Int) (a : Option Addr) (cap : Nat) (zs : List Nat) (seg le : Int) (a' : Option Addr) (cap' : Nat) (ys : List Nat) (w : World) (h : joinB len zs.length = false) :
    Calls Try.prog 25 #[.agg #[.int .i64 len, .slice a zs.length cap], .agg #[.int .i64 seg, .int .i64 le, .slice a' ys.length cap']] w fun e w' => PutAns w.heap.size len zs seg le ys e w' ∧ Below w.heap.size w w' := by
  go_enter Try.func25, Try.ntmps25
  go_wp2_with fail
  obtain ⟨w0, hw0, J0, P0, O0, T0, b0, z0⟩ := three w #[.int .i64 len, .slice a zs.length cap] 43 #[.int .i64 seg, .int .i64 le, .slice a' ys.length cap'] 35 #[.int .i64 0, .slice none 0 0] 43
  rw [hw0]
  clear hw0
  refine (spec_join _ _ _ _ _).mono ?_
  rw [h]
  rintro e w1 ⟨rfl, b1⟩
  have y1 := b1.size
  replace J0 := J0.kept b1
  replace P0 := P0.kept b1
  replace O0 := O0.kept b1
  replace T0 := T0.kept b1
  replace b0 := b0.trans (b1.mono (by have := b0.size; omega))
  have z1 := b0.size
  have kJ := J0.2.1
  have kP := P0.2.1
  have kO := O0.2.1
  have fO := O0.2.2
  have lO := O0.1
  go_wp2
  refine bodyPost_ret (v := .tuple #[.agg #[.int .i64 0, .slice none 0 0], .slice (some ⟨w1.heap.size, 0, none⟩) 0 0, .int .i64 0]) (by simp [results, Try.results25, go_sem, kO, lO]) rfl ⟨?_, ?_⟩
  · exact .none (c := 0) (by simp [putA, h]) (by decide) (by decide) rfl (own_none _ _) (by simpa using own_empty ((w1.setCell ⟨w.heap.size + 1 + 1, 0, none⟩ (.int .i64 0)).setCell ⟨w.heap.size + 1 + 1, 1, none⟩ (.slice none 0 0)) w.heap.size (by simpa using z1)) (nil_apart _)
  · exact ((b0.setCell (by simp; try omega) _).setCell (by simp; try omega) _).alloc (by simpa using z1) _
set_option maxHeartbeats 2000000 in
theorem spec_put_np (len : Int) (a : Option Addr) (cap : Nat) (zs : List Nat) (seg le : Int) (a' : Option Addr) (cap' : Nat) (ys : List Nat) (w : World) (h : joinB len zs.length = true) (h2 : pieceB seg le ys.length = false) :
    Calls Try.prog 25 #[.agg #[.int .i64 len, .slice a zs.length cap], .agg #[.int .i64 seg, .int .i64 le, .slice a' ys.length cap']] w fun e w' => PutAns w.heap.size len zs seg le ys e w' ∧ Below w.heap.size w w' := by
  go_enter Try.func25, Try.ntmps25
  go_wp2_with fail
  obtain ⟨w0, hw0, J0, P0, O0, T0, b0, z0⟩ := three w #[.int .i64 len, .slice a zs.length cap] 43 #[.int .i64 seg, .int .i64 le, .slice a' ys.length cap'] 35 #[.int .i64 0, .slice none 0 0] 43
  rw [hw0]
  clear hw0
  refine (spec_join _ _ _ _ _).mono ?_
  rw [h]
  rintro e w1 ⟨rfl, b1⟩
  have y1 := b1.size
  replace J0 := J0.kept b1
  replace P0 := P0.kept b1
  replace O0 := O0.kept b1
  replace T0 := T0.kept b1
  replace b0 := b0.trans (b1.mono (by have := b0.size; omega))
  have z1 := b0.size
  have kJ := J0.2.1
  have kP := P0.2.1
  have kO := O0.2.1
  have fO := O0.2.2
  have lO := O0.1
  go_wp2_with fail
  refine (spec_part _ _ _ _ _ _).mono ?_
  rw [h2]
  rintro e w2 ⟨rfl, b2⟩
  have y2 := b2.size
  clear kJ kP kO fO lO
  replace J0 := J0.kept b2
  replace P0 := P0.kept b2
  replace O0 := O0.kept b2
  replace T0 := T0.kept b2
  replace b0 := b0.trans (b2.mono (by have := b0.size; omega))
  have z2 := b0.size
  have kJ := J0.2.1
  have kP := P0.2.1
  have kO := O0.2.1
  have fO := O0.2.2
  have lO := O0.1
  go_wp2
  refine bodyPost_ret (v := .tuple #[.agg #[.int .i64 0, .slice none 0 0], .slice (some ⟨w2.heap.size, 0, none⟩) 0 0, .int .i64 0]) (by simp [results, Try.results25, go_sem, kO, lO]) rfl ⟨?_, ?_⟩
  · exact .none (c := 0) (by simp [putA, h2]) (by decide) (by decide) rfl (own_none _ _) (by simpa using own_empty ((w2.setCell ⟨w.heap.size + 1 + 1, 0, none⟩ (.int .i64 0)).setCell ⟨w.heap.size + 1 + 1, 1, none⟩ (.slice none 0 0)) w.heap.size (by simpa using z2)) (nil_apart _)
  · exact ((b0.setCell (by simp; try omega) _).setCell (by simp; try omega) _).alloc (by simpa using z2) _
set_option maxHeartbeats 2000000 in
theorem spec_put_yes (len : Int) (a : Option Addr) (cap : Nat) (zs : List Nat) (seg le : Int) (a' : Option Addr) (cap' : Nat) (ys : List Nat) (w : World) (hJ : Rd w (.slice a zs.length cap) zs) (hP : Rd w (.slice a' ys.length cap') ys) (h : joinB len zs.length = true) (h2 : pieceB seg le ys.length = true) :
    Calls Try.prog 25 #[.agg #[.int .i64 len, .slice a zs.length cap], .agg #[.int .i64 seg, .int .i64 le, .slice a' ys.length cap']] w fun e w' => PutAns w.heap.size len zs seg le ys e w' ∧ Below w.heap.size w w' := by
  go_enter Try.func25, Try.ntmps25
  go_wp2_with fail
  obtain ⟨w0, hw0, J0, P0, O0, T0, b0, z0⟩ := three w #[.int .i64 len, .slice a zs.length cap] 43 #[.int .i64 seg, .int .i64 le, .slice a' ys.length cap'] 35 #[.int .i64 0, .slice none 0 0] 43
  rw [hw0]
  clear hw0
  refine (spec_join _ _ _ _ _).mono ?_
  rw [h]
  rintro e w1 ⟨rfl, b1⟩
  have y1 := b1.size
  replace J0 := J0.kept b1
  replace P0 := P0.kept b1
  replace O0 := O0.kept b1
  replace T0 := T0.kept b1
  replace b0 := b0.trans (b1.mono (by have := b0.size; omega))
  have z1 := b0.size
  have kJ := J0.2.1
  have kP := P0.2.1
  have kO := O0.2.1
  have fO := O0.2.2
  have lO := O0.1
  go_wp2_with fail
  refine (spec_part _ _ _ _ _ _).mono ?_
  rw [h2]
  rintro e w2 ⟨rfl, b2⟩
  have y2 := b2.size
  clear kJ kP kO fO lO
  replace J0 := J0.kept b2
  replace P0 := P0.kept b2
  replace O0 := O0.kept b2
  replace T0 := T0.kept b2
  replace b0 := b0.trans (b2.mono (by have := b0.size; omega))
  have z2 := b0.size
  have kJ := J0.2.1
  have kP := P0.2.1
  have kO := O0.2.1
  have fO := O0.2.2
  have lO := O0.1
  go_wp2_with fail
  refine (spec_l4 _ _ _ zs _ _ _ _ ys _ (hJ.kept b0) (hP.kept b0) h h2).mono ?_
  rintro e w3 ⟨⟨v1, v2, rfl, o1, o2, ap12⟩, b3⟩
  clear kJ kP kO fO lO
  replace J0 := J0.kept b3
  replace P0 := P0.kept b3
  replace O0 := O0.kept b3
  replace T0 := T0.kept b3
  replace b0 := b0.trans (b3.mono (by have := b0.size; omega))
  have z3 := b0.size
  have kJ := J0.2.1
  have kP := P0.2.1
  have kO := O0.2.1
  have fO := O0.2.2
  have lO := O0.1
  have ap1 := T0.row o1 (by decide)
  have ap2 := T0.row o2 (by decide)
  obtain ⟨a1, c1, rfl⟩ := o1.form
  go_wp2
  refine bodyPost_ret (v := .tuple #[.agg #[.int .i64 (putN len zs seg le ys), .slice a1 (putG len zs seg le ys).length c1], v2, .int .i64 (putA len zs seg le ys)]) (by simp [results, Try.results25, go_sem, kO]) rfl ⟨⟨_, _, rfl, ?_, ?_, ap12⟩, ?_⟩
  · exact (((o1.base z2).far _ _ _ ap1).far _ _ _ ap1)
  · exact (((o2.base z2).far _ _ _ ap2).far _ _ _ ap2)
  · exact (b0.setCell (by simp; try omega) _).setCell (by simp; try omega) _
theorem spec_put (len : Int) (v : Value) (zs : List Nat) (seg le : Int) (u : Value) (ys : List Nat) (w : World) (hJ : Rd w v zs) (hP : Rd w u ys) :
    Calls Try.prog 25 #[.agg #[.int .i64 len, v], .agg #[.int .i64 seg, .int .i64 le, u]] w fun e w' => PutAns w.heap.size len zs seg le ys e w' ∧ Below w.heap.size w w' := by
  obtain ⟨a, cap, rfl⟩ := hJ.form
  obtain ⟨a', cap', rfl⟩ := hP.form
  cases h : joinB len zs.length
  · exact spec_put_nj _ _ _ _ _ _ _ _ _ _ h
  cases h2 : pieceB seg le ys.length
  · exact spec_put_np _ _ _ _ _ _ _ _ _ _ h h2
  · exact spec_put_yes _ _ _ _ _ _ _ _ _ _ hJ hP h h2
end Go.Proofs.Ytaljdhcmikpmhaa
