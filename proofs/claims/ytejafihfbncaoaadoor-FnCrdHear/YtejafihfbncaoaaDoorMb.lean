/- Laws and contracts that the proof stands on: SpecSegPut, OpensBytes. -/
import Derived.Test.YtejafihfbncaoaaDoorMa
import Derived.ProofKit
import Derived.OpenShut
/- SegPut of the specification. -/
namespace Go.Proofs.YtejafihfbncaoaaDoor
open Go.RowKit
set_option maxHeartbeats 2000000 in
theorem spec_bad (w : World) :
    Calls Tryd.prog 82 #[] w fun e w' => ∃ v, e = .returned (.tuple #[.agg #[.int .i64 0, .slice none 0 0], v, .int .i64 3]) ∧ Own w' w.heap.size v [] ∧ Below w.heap.size w w' := by
  have o1 := own_empty (w.alloc (.cells #[.int .i64 0, .slice none 0 0] 48)) w.heap.size (by simp)
  go_enter Tryd.func82, Tryd.ntmps82
  go_wp2
  go_returns
  exact ⟨_, rfl, by simpa using o1, bchain (below_alloc _ _) (below_alloc _ _)⟩
set_option maxHeartbeats 4000000 in
theorem spec_l4 (len : Int) (a : Option Addr) (cap : Nat) (zs : List Nat) (seg le : Int) (a' : Option Addr) (cap' : Nat) (ys : List Nat) (w : World) (hJ : Rd w (.slice a zs.length cap) zs) (hP : Rd w (.slice a' ys.length cap') ys) (h : joinB len zs.length = true) (h2 : pieceB seg le ys.length = true) :
    Calls Tryd.prog 65 #[.agg #[.int .i64 len, .slice a zs.length cap], .agg #[.int .i64 seg, .int .i64 le, .slice a' ys.length cap']] w fun e w' => PutAns w.heap.size len zs seg le ys e w' ∧ Below w.heap.size w w' := by
  have l1 := joinB_small h
  have l2 := pieceB_small h2
  have hA : putA len zs seg le ys = putC len zs.length seg ys.length := by simp [putA, h, h2]
  go_enter Tryd.func65, Tryd.ntmps65
  go_wp2_with fail
  obtain ⟨w0, hw0, J0, P0, O0, T0, b0, z0⟩ := three w #[.int .i64 len, .slice a zs.length cap] 48 #[.int .i64 seg, .int .i64 le, .slice a' ys.length cap'] 41 #[.int .i64 0, .slice none 0 0] 48
  rw [hw0]
  clear hw0
  have d1 : Below w0.heap.size w0 w0.drew := (Below.refl _ _).drew
  replace J0 := J0.kept d1
  replace P0 := P0.kept d1
  have R1 := (hJ.kept b0).kept d1
  have R2 := (hP.kept b0).kept d1
  have e1 := below_alloc w0.drew (.cells #[] 5)
  obtain ⟨ι, W, inW, ofW⟩ := cls (fun w' => Below w0.heap.size w0.drew w')
  have ne : Nonempty ι := ⟨(inW _ (Below.refl _ _)).choose⟩
  have kW : ∀ x k, (W x).cell? ⟨w.heap.size, k, none⟩ = (#[.int .i64 len, .slice a zs.length cap] : Array Value)[k]? := fun x k => ((ofW x).cell (p := ⟨w.heap.size, k, none⟩) J0.1).trans (J0.2.1 k)
  have kV : ∀ x k, (W x).cell? ⟨w.heap.size + 1, k, none⟩ = (#[.int .i64 seg, .int .i64 le, .slice a' ys.length cap'] : Array Value)[k]? := fun x k => ((ofW x).cell (p := ⟨w.heap.size + 1, k, none⟩) P0.1).trans (P0.2.1 k)
  refine region_by (fun w' => ∃ x, w' = W x) 7 [(1, true), (2, true), (4, true), (5, true), (0, false), (3, false), (6, false), (7, false)] ⟨none, .assign (.tmp 0), 0, "", #[], none⟩ (by kernel_rfl) (by kernel_rfl) (inW _ (Below.refl _ _)) (fun x _ _ _ _ h => by cases x <;> exact h) ?_
  simp only [arrange, List.map_cons, List.map_nil, List.getD_cons_zero, List.getD_cons_succ]
  iterate 4 (refine by_read rfl (fun K hK => ?_); go_simp; refine hK _ ?_; clear hK K)
  refine by_move rfl (fun K hK => ?_)
  go_simp
  refine hK _ _ (fun _ => inW _ e1) ?_
  clear hK K
  have o1 := own_empty w0.drew w0.heap.size (by simp)
  refine by_move rfl (fun K hK => ?_)
  refine step_app rfl (.tmp 12) (.tmp 14) rfl w0.heap.size (.slice (some ⟨w0.heap.size, 0, none⟩) 0 0) [] rfl o1 _ zs rfl (R1.kept e1) (by simp; omega) (by simp) ?_
  intro v2 w2 o2 g2
  have q2 : Below w0.heap.size w0.drew w2 := Below.grown e1 g2 (by simp) (by simp [Value.ownBlock])
  refine hK _ _ (fun _ => inW _ q2) ?_
  clear hK K
  refine by_move rfl (fun K hK => ?_)
  refine step_app rfl (.tmp 15) (.tmp 17) rfl w0.heap.size v2 zs rfl o2 _ ys rfl (R2.kept q2) (by omega) (by simpa using q2.size) ?_
  intro v3 w3 o3 g3
  have q3 : Below w0.heap.size w0.drew w3 := q2.grown g3 (by simpa using q2.size) (fun k e => (World.ownsRow.lt o2 k e).1)
  refine hK _ _ (fun _ => inW _ q3) ?_
  clear hK K
  iterate 1 (refine by_move rfl (fun K hK => ?_); go_simp; refine hK _ _ (fun h => absurd h (by decide)) ?_; clear hK K)
  refine by_nil ?_
  clear kW kV
  clear ofW inW ne W ι
  replace J0 := J0.kept q3
  replace P0 := P0.kept q3
  replace O0 := (O0.kept d1).kept q3
  replace T0 := (T0.kept d1).kept q3
  replace b0 := b0.trans ((d1.trans q3).mono b0.size)
  clear g2 g3 q2 q3 e1 o1 o2 R1 R2 d1
  have ap := T0.row o3 (by decide)
  have z3 := b0.size
  replace o3 := o3.base (C := w.heap.size) (by omega)
  obtain ⟨a3, c3, hv3⟩ := o3.form
  rw [List.length_append] at hv3
  subst hv3
  have kJ := J0.2.1
  have kP := P0.2.1
  have kO := O0.2.1
  have fO := O0.2.2
  have lO := O0.1
  have lJ := J0.1
  have ap35 : ∀ k, (Value.slice a3 (zs.length + ys.length) c3).ownBlock = some k → (Value.slice (some ⟨w3.heap.size, 0, none⟩) 0 0).ownBlock ≠ some k := fun k e1 e2 => by
    have := (World.ownsRow.lt o3 k e1).2
    simp [Value.ownBlock] at e2
    omega
  go_wp2_with (go_at_call 82; refine (spec_bad _).mono ?_; rintro e w4 ⟨v4, rfl, o4, b4⟩; have kO4 := (O0.kept b4).2.1; have fO4 := (O0.kept b4).2.2)
  all_goals
    first
    | (refine bodyPost_ret (v := .tuple #[.agg #[.int .i64 0, .slice none 0 0], v4, .int .i64 3]) (by simp [results, Tryd.results65, go_sem, kO4]) rfl ⟨?_, ?_⟩
       · have ap4 := (T0.kept b4).row o4 (by decide)
         refine .none (c := 3) (hA.trans ?_) (by decide) (by decide) rfl (own_none _ _) (((o4.base z3).far _ _ _ ap4).far _ _ _ ap4) (nil_apart _)
         go_light
         grind [putC, joinB, pieceB]
       · exact ((b0.trans (b4.mono z3)).setCell (by simp; try omega) _).setCell (by simp; try omega) _)
    | (refine bodyPost_ret (v := .tuple #[.agg #[.int .i64 0, .slice none 0 0], .slice a3 (zs.length + ys.length) c3, .int .i64 2]) (by simp [results, Tryd.results65, go_sem, kO]) rfl ⟨?_, ?_⟩
       · refine .all (hA.trans ?_) rfl (own_none _ _) ((o3.far _ _ _ ap).far _ _ _ ap) (nil_apart _)
         go_light
         grind [putC, joinB, pieceB]
       · exact (b0.setCell (by simp; try omega) _).setCell (by simp; try omega) _)
    | (refine bodyPost_ret (v := .tuple #[.agg #[.int .i64 le, .slice a3 (zs.length + ys.length) c3], .slice (some ⟨w3.heap.size, 0, none⟩) 0 0, .int .i64 1]) (by simp [results, Tryd.results65, go_sem, kO, lO]) rfl ⟨?_, ?_⟩
       · refine .more (hA.trans ?_) ?_ rfl (((o3.far _ _ _ ap).far _ _ _ ap).alloc _) (by simpa using own_empty ((w3.setCell ⟨w.heap.size + 1 + 1, 0, none⟩ (.int .i64 le)).setCell ⟨w.heap.size + 1 + 1, 1, none⟩ (.slice a3 (zs.length + ys.length) c3)) w.heap.size (by simpa using z3)) ap35
         all_goals
           go_light
           grind [putC, joinB, pieceB]
       · exact ((b0.setCell (by simp; try omega) _).setCell (by simp; try omega) _).alloc (by simpa using z3) _)
    | (refine bodyPost_ret (v := .tuple #[.agg #[.int .i64 len, .slice a3 (zs.length + ys.length) c3], .slice (some ⟨w3.heap.size, 0, none⟩) 0 0, .int .i64 1]) (by simp [results, Tryd.results65, go_sem, kO, lO]) rfl ⟨?_, ?_⟩
       · refine .more (hA.trans ?_) ?_ rfl (((o3.far _ _ _ ap).far _ _ _ ap).alloc _) (by simpa using own_empty ((w3.setCell ⟨w.heap.size + 1 + 1, 0, none⟩ (.int .i64 len)).setCell ⟨w.heap.size + 1 + 1, 1, none⟩ (.slice a3 (zs.length + ys.length) c3)) w.heap.size (by simpa using z3)) ap35
         all_goals
           go_light
           grind [putC, joinB, pieceB]
       · exact ((b0.setCell (by simp; try omega) _).setCell (by simp; try omega) _).alloc (by simpa using z3) _)
end Go.Proofs.YtejafihfbncaoaaDoor

/- Structs that came in as arguments: what their cells are. -/
namespace Go.Proofs.YtejafihfbncaoaaDoor
open Go.ChangeShapes Go.WideShapes Go.ChangeAt Go.RowKit

/-- An int of 64 bits. -/
def I64 (n : Int) : Prop := -9223372036854775808 ≤ n ∧ n < 9223372036854775808
theorem i64_of {n : Int} (h : (Lit.int .i64 n).wf = true) : I64 n := by
  simp [Lit.wf, IntKind.min, IntKind.max, IntKind.bits, IntKind.signed] at h
  unfold I64
  omega
theorem field_of {H : Type} {enc : TypeId × Value → H} {P : Program} {w : World} {base : Nat} {spare : Nat → Bool} {held : Bool} {fuel : Nat} {t : TypeId} {cs : List Value} {x : DataW H × List MemPlace} {fs : Array Field}
    (ht : P.underlying t = some (.struct fs)) (h : DataW.trod enc P w base spare held fuel t cs = some x) (i : Nat) (f : Field) (hf : fs[i]? = some f) (k : Nat) (hk : P.cellsOf f.type = k) :
    ∃ y n, DataW.trod enc P w base spare held n f.type ((cs.drop f.offset).take k) = some y := by
  obtain ⟨xs, n, _, _, _, hlen, hx⟩ := DataW.trod_struct ht h
  have hi : i < fs.size := by
    rcases Nat.lt_or_ge i fs.size with h | h
    · exact h
    · rw [Array.getElem?_eq_none h] at hf; cases hf
  refine ⟨xs[i]'(by omega), n, ?_⟩
  rw [← hk, hx i f hf, List.getElem?_eq_getElem (by omega)]
theorem opn_int {H : Type} {enc : TypeId × Value → H} {w : World} {base : Nat} {spare : Nat → Bool} {held : Bool} {fuel : Nat} {cs : List Value} {x : DataW H × List MemPlace}
    (h : DataW.trod enc Tryd.prog w base spare held fuel 3 cs = some x) : ∃ n, cs = [.int .i64 n] ∧ I64 n := by
  obtain ⟨n, h1, _, h2⟩ := DataW.trod_int Tryd.underlying3 h
  exact ⟨n, h1, i64_of h2⟩
theorem opn_bool {H : Type} {enc : TypeId × Value → H} {w : World} {base : Nat} {spare : Nat → Bool} {held : Bool} {fuel : Nat} {cs : List Value} {x : DataW H × List MemPlace}
    (h : DataW.trod enc Tryd.prog w base spare held fuel 4 cs = some x) : ∃ b, cs = [.bool b] := by
  obtain ⟨n, h1, _⟩ := DataW.trod_bool Tryd.underlying4 h
  exact ⟨n, h1⟩
theorem opn_bytes {H : Type} {enc : TypeId × Value → H} {W : World} {fuel : Nat} {cs : List Value} {x : DataW H × List MemPlace}
    (h : DataW.trod enc Tryd.prog W 0 (fun _ => true) true fuel 22 cs = some x) : ∃ a l c zs, cs = [.slice a l c] ∧ IsRow .u8 W a l c zs := by
  rcases open_ints Tryd.underlying22 Tryd.underlying5 (by kernel_rfl) h with ⟨hcs, _⟩ | ⟨x, l, c, zs, hcs, _, hl, hm, hz, _, hcell, hwz⟩
  · exact ⟨_, _, _, [], hcs, .inl ⟨rfl, rfl, rfl, rfl⟩⟩
  · exact ⟨_, _, _, zs, hcs, .inr ⟨_, rfl, hl, hm, by simpa using hz, hcell, hwz⟩⟩
end Go.Proofs.YtejafihfbncaoaaDoor
