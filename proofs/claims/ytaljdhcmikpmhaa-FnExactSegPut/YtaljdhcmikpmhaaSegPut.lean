/- SegPut of the program and of the specification: what has come of a message behind a piece more, in new memory. -/
import Derived.Test.YtaljdhcmikpmhaaJoiner
import Derived.Test.YtaljdhcmikpmhaaBox
namespace Go.Proofs.Ytaljdhcmikpmhaa
open Go.RowKit

/-- What comes of a piece; what has come then: how long the message is, which bytes; and the message. -/
def putA (len : Int) (zs : List Nat) (seg le : Int) (ys : List Nat) : Int := if (joinB len zs.length && pieceB seg le ys.length) = true then putC len zs.length seg ys.length else 0
def putN (len : Int) (zs : List Nat) (seg le : Int) (ys : List Nat) : Int := if putA len zs seg le ys = 1 then (if len = 0 then le else len) else 0
def putG (len : Int) (zs : List Nat) (seg le : Int) (ys : List Nat) : List Nat := if putA len zs seg le ys = 1 then zs ++ ys else []
def putM (len : Int) (zs : List Nat) (seg le : Int) (ys : List Nat) : List Nat := if putA len zs seg le ys = 2 then zs ++ ys else []
/-- The three answers: what has come, the message, what comes of the piece; the call owns the rows, each its own. -/
def PutAns (B : Nat) (len : Int) (zs : List Nat) (seg le : Int) (ys : List Nat) (e : Ending) (w : World) : Prop :=
  ∃ v1 v2, e = .returned (.tuple #[.agg #[.int .i64 (putN len zs seg le ys), v1], v2, .int .i64 (putA len zs seg le ys)]) ∧ Own w B v1 (putG len zs seg le ys) ∧ Own w B v2 (putM len zs seg le ys) ∧ ∀ k, v1.ownBlock = some k → v2.ownBlock ≠ some k
theorem PutAns.none {B : Nat} {len : Int} {zs : List Nat} {seg le : Int} {ys : List Nat} {e : Ending} {w : World} {v1 v2 : Value} {c : Int} (h : putA len zs seg le ys = c) (h1 : c ≠ 1) (h2 : c ≠ 2) (he : e = .returned (.tuple #[.agg #[.int .i64 0, v1], v2, .int .i64 c])) (o1 : Own w B v1 []) (o2 : Own w B v2 []) (ap : ∀ k, v1.ownBlock = some k → v2.ownBlock ≠ some k) : PutAns B len zs seg le ys e w := by
  subst h
  refine ⟨v1, v2, ?_, ?_, ?_, ap⟩
  · rw [he, putN, if_neg h1]
  · rw [putG, if_neg h1]; exact o1
  · rw [putM, if_neg h2]; exact o2
theorem PutAns.more {B : Nat} {len : Int} {zs : List Nat} {seg le : Int} {ys : List Nat} {e : Ending} {w : World} {v1 v2 : Value} {n : Int} (h : putA len zs seg le ys = 1) (hn : n = if len = 0 then le else len) (he : e = .returned (.tuple #[.agg #[.int .i64 n, v1], v2, .int .i64 1])) (o1 : Own w B v1 (zs ++ ys)) (o2 : Own w B v2 []) (ap : ∀ k, v1.ownBlock = some k → v2.ownBlock ≠ some k) : PutAns B len zs seg le ys e w := by
  subst hn
  refine ⟨v1, v2, ?_, ?_, ?_, ap⟩
  · rw [he, putN, h]; rfl
  · rw [putG, h]; exact o1
  · rw [putM, h]; exact o2
theorem PutAns.all {B : Nat} {len : Int} {zs : List Nat} {seg le : Int} {ys : List Nat} {e : Ending} {w : World} {v1 v2 : Value} (h : putA len zs seg le ys = 2) (he : e = .returned (.tuple #[.agg #[.int .i64 0, v1], v2, .int .i64 2])) (o1 : Own w B v1 []) (o2 : Own w B v2 (zs ++ ys)) (ap : ∀ k, v1.ownBlock = some k → v2.ownBlock ≠ some k) : PutAns B len zs seg le ys e w := by
  refine ⟨v1, v2, ?_, ?_, ?_, ap⟩
  · rw [he, putN, h]; rfl
  · rw [putG, h]; exact o1
  · rw [putM, h]; exact o2
theorem nil_apart (v : Value) : ∀ k, (Value.slice none 0 0).ownBlock = some k → v.ownBlock ≠ some k := fun k e => by cases e
theorem joinB_small {len : Int} {n : Nat} (h : joinB len n = true) : n ≤ 24 := by
  simp only [joinB, decide_eq_true_eq] at h
  omega
theorem pieceB_small {seg len : Int} {n : Nat} (h : pieceB seg len n = true) : n ≤ 8 := by
  simp only [pieceB, decide_eq_true_eq] at h
  omega

theorem CelF.below {w w' : World} {B b : Nat} {cs : Array Value} (h : CelF w b cs) (hb : Below B w w') (hl : b < B) : CelF w' b cs :=
  ⟨Nat.lt_of_lt_of_le h.1 hb.size, fun k => (hb.cell (p := ⟨b, k, none⟩) hl).trans (h.2.1 k), fun k => (hb.frozen (p := ⟨b, k, none⟩) hl).trans (h.2.2 k)⟩
/-- Three boxes. -/
theorem three (w : World) (cs1 : Array Value) (t1 : TypeId) (cs2 : Array Value) (t2 : TypeId) (cs3 : Array Value) (t3 : TypeId) :
    ∃ w0, ((w.alloc (.cells cs1 t1)).alloc (.cells cs2 t2)).alloc (.cells cs3 t3) = w0 ∧ CelF w0 w.heap.size cs1 ∧ CelF w0 (w.heap.size + 1) cs2 ∧ CelF w0 (w.heap.size + 1 + 1) cs3 ∧ Typ w0 (w.heap.size + 1 + 1) t3 ∧ Below w.heap.size w w0 ∧ w.heap.size + 3 ≤ w0.heap.size := by
  refine ⟨_, rfl, ?_, ?_, ?_, ?_, ?_, ?_⟩
  · exact ((celF_box w cs1 t1).kept (below_alloc _ _)).kept (below_alloc _ _)
  · have := (celF_box (w.alloc (.cells cs1 t1)) cs2 t2).kept (below_alloc _ (.cells cs3 t3))
    simpa using this
  · have := celF_box ((w.alloc (.cells cs1 t1)).alloc (.cells cs2 t2)) cs3 t3
    simpa using this
  · have := typ_box ((w.alloc (.cells cs1 t1)).alloc (.cells cs2 t2)) cs3 t3
    simpa using this
  · exact bchain (bchain (below_alloc _ _) (below_alloc _ _)) (below_alloc _ _)
  · simp

set_option maxHeartbeats 2000000 in
theorem impl_put_nj (len : Int) (a : Option Addr) (cap : Nat) (zs : List Nat) (seg le : Int) (a' : Option Addr) (cap' : Nat) (ys : List Nat) (w : World) (h : joinB len zs.length = false) :
    Calls Try.prog 26 #[.agg #[.int .i64 len, .slice a zs.length cap], .agg #[.int .i64 seg, .int .i64 le, .slice a' ys.length cap']] w fun e w' => PutAns w.heap.size len zs seg le ys e w' ∧ Below w.heap.size w w' := by
  go_enter Try.func26, Try.ntmps26
  go_wp2_with fail
  obtain ⟨w0, hw0, J0, P0, O0, T0, b0, z0⟩ := three w #[.int .i64 len, .slice a zs.length cap] 43 #[.int .i64 seg, .int .i64 le, .slice a' ys.length cap'] 35 #[.int .i64 0, .slice none 0 0] 43
  rw [hw0]
  clear hw0
  refine (impl_join _ _ _ _ _).mono ?_
  rw [h]
  rintro e w1 ⟨rfl, b1⟩
  replace J0 := J0.kept b1
  replace P0 := P0.kept b1
  replace O0 := O0.kept b1
  replace T0 := T0.kept b1
  replace b0 := b0.trans (b1.mono (by have := b0.size; omega))
  have z1 := b0.size
  have kJ := J0.2.1
  have kP := P0.2.1
  have kO := O0.2.1
  have fO := O0.2.2
  go_wp2
  refine bodyPost_ret (v := .tuple #[.agg #[.int .i64 0, .slice none 0 0], .slice none 0 0, .int .i64 0]) (by simp [results, Try.results26, go_sem, kO]) rfl ⟨?_, ?_⟩
  · exact .none (c := 0) (by simp [putA, h]) (by decide) (by decide) rfl (own_none _ _) (own_none _ _) (nil_apart _)
  · exact (b0.setCell (by simp; try omega) _).setCell (by simp; try omega) _
set_option maxHeartbeats 2000000 in
theorem impl_put_np (len : Int) (a : Option Addr) (cap : Nat) (zs : List Nat) (seg le : Int) (a' : Option Addr) (cap' : Nat) (ys : List Nat) (w : World) (h : joinB len zs.length = true) (h2 : pieceB seg le ys.length = false) :
    Calls Try.prog 26 #[.agg #[.int .i64 len, .slice a zs.length cap], .agg #[.int .i64 seg, .int .i64 le, .slice a' ys.length cap']] w fun e w' => PutAns w.heap.size len zs seg le ys e w' ∧ Below w.heap.size w w' := by
  go_enter Try.func26, Try.ntmps26
  go_wp2_with fail
  obtain ⟨w0, hw0, J0, P0, O0, T0, b0, z0⟩ := three w #[.int .i64 len, .slice a zs.length cap] 43 #[.int .i64 seg, .int .i64 le, .slice a' ys.length cap'] 35 #[.int .i64 0, .slice none 0 0] 43
  rw [hw0]
  clear hw0
  refine (impl_join _ _ _ _ _).mono ?_
  rw [h]
  rintro e w1 ⟨rfl, b1⟩
  replace J0 := J0.kept b1
  replace P0 := P0.kept b1
  replace O0 := O0.kept b1
  replace T0 := T0.kept b1
  replace b0 := b0.trans (b1.mono (by have := b0.size; omega))
  have z1 := b0.size
  have kJ := J0.2.1
  have kP := P0.2.1
  have kO := O0.2.1
  have fO := O0.2.2
  go_wp2_with fail
  refine (impl_part _ _ _ _ _ _).mono ?_
  rw [h2]
  rintro e w2 ⟨rfl, b2⟩
  clear kJ kP kO fO
  replace J0 := J0.kept b2
  replace P0 := P0.kept b2
  replace O0 := O0.kept b2
  replace T0 := T0.kept b2
  replace b0 := b0.trans (b2.mono (by have := b0.size; omega))
  have z2 := b0.size
  have kJ := J0.2.1
  have kP := P0.2.1
  have kO := O0.2.1
  have fO := O0.2.2
  go_wp2
  refine bodyPost_ret (v := .tuple #[.agg #[.int .i64 0, .slice none 0 0], .slice none 0 0, .int .i64 0]) (by simp [results, Try.results26, go_sem, kO]) rfl ⟨?_, ?_⟩
  · exact .none (c := 0) (by simp [putA, h2]) (by decide) (by decide) rfl (own_none _ _) (own_none _ _) (nil_apart _)
  · exact (b0.setCell (by simp; try omega) _).setCell (by simp; try omega) _
set_option maxHeartbeats 2000000 in
theorem impl_put_z (a : Option Addr) (cap : Nat) (zs : List Nat) (seg le : Int) (a' : Option Addr) (cap' : Nat) (ys : List Nat) (w : World) (hJ : Rd w (.slice a zs.length cap) zs) (hP : Rd w (.slice a' ys.length cap') ys) (h : joinB 0 zs.length = true) (h2 : pieceB seg le ys.length = true) :
    Calls Try.prog 26 #[.agg #[.int .i64 0, .slice a zs.length cap], .agg #[.int .i64 seg, .int .i64 le, .slice a' ys.length cap']] w fun e w' => PutAns w.heap.size 0 zs seg le ys e w' ∧ Below w.heap.size w w' := by
  have l1 := joinB_small h
  have l2 := pieceB_small h2
  go_enter Try.func26, Try.ntmps26
  go_wp2_with fail
  obtain ⟨w0, hw0, J0, P0, O0, T0, b0, z0⟩ := three w #[.int .i64 0, .slice a zs.length cap] 43 #[.int .i64 seg, .int .i64 le, .slice a' ys.length cap'] 35 #[.int .i64 0, .slice none 0 0] 43
  rw [hw0]
  clear hw0
  have hA : putA 0 zs seg le ys = putC 0 zs.length seg ys.length := by simp [putA, h, h2]
  refine (impl_join _ _ _ _ _).mono ?_
  rw [h]
  rintro e w1 ⟨rfl, b1⟩
  have y1 := b1.size
  replace J0 := J0.kept b1
  replace P0 := P0.kept b1
  replace O0 := O0.kept b1
  replace T0 := T0.kept b1
  replace b0 := b0.trans (b1.mono (by have := b0.size; omega))
  have z1 := b0.size
  have kJ := J0.2.1
  have kP := P0.2.1
  have kO := O0.2.1
  have fO := O0.2.2
  go_wp2_with fail
  refine (impl_part _ _ _ _ _ _).mono ?_
  rw [h2]
  rintro e w2 ⟨rfl, b2⟩
  have y2 := b2.size
  clear kJ kP kO fO
  replace J0 := J0.kept b2
  replace P0 := P0.kept b2
  replace O0 := O0.kept b2
  replace T0 := T0.kept b2
  replace b0 := b0.trans (b2.mono (by have := b0.size; omega))
  have z2 := b0.size
  have kJ := J0.2.1
  have kP := P0.2.1
  have kO := O0.2.1
  have fO := O0.2.2
  go_wp2_with fail
  refine (joiner_new _ _ _ zs _ (hJ.kept b0) (by omega)).mono ?_
  rintro e w3 ⟨g, rfl, j3, b3⟩
  have hR : ∀ W, Below w2.heap.size w3 W → Rd W (.slice a' ys.length cap') ys := fun W hW => hP.kept (b0.trans ((b3.mono z2).trans (hW.mono z2)))
  have lo : w.heap.size + 1 + 1 < w2.heap.size := by omega
  have B3 : w2.heap.size ≤ w3.heap.size := b3.size
  clear kJ kP kO fO
  replace J0 := J0.kept b3
  replace P0 := P0.kept b3
  replace O0 := O0.kept b3
  replace T0 := T0.kept b3
  replace b0 := b0.trans (b3.mono (by have := b0.size; omega))
  have z3 := b0.size
  have kJ := J0.2.1
  have kP := P0.2.1
  have kO := O0.2.1
  have fO := O0.2.2
  go_wp2_with fail
  refine (joiner_waiting _ _ _ zs _ j3).mono ?_
  simp only [if_true]
  rintro e w4 ⟨rfl, h4⟩
  subst h4
  go_wp2_with fail
  refine (joiner_begin _ _ zs _ _ _ _ ys _ j3 hR (by omega) B3).mono ?_
  rintro e w4 ⟨f, rfl, st, b4⟩
  clear kJ kP kO fO
  replace J0 := J0.below b4 (by omega)
  replace P0 := P0.below b4 (by omega)
  replace O0 := O0.below b4 lo
  replace T0 := T0.below b4 lo
  replace b0 := b0.trans (b4.mono z2)
  have z4 := b0.size
  have kJ := J0.2.1
  have kP := P0.2.1
  have kO := O0.2.1
  have fO := O0.2.2
  rcases st with ⟨hc, rfl, j4⟩ | ⟨hc, rfl, n4, j4⟩ | ⟨hc, rfl⟩
  · go_wp2_with fail
    refine (joiner_more _ _ _ _ _ j4).mono ?_
    rintro e w5 ⟨v5, rfl, o5, b5⟩
    clear kJ kP kO fO
    replace J0 := J0.kept b5
    replace P0 := P0.kept b5
    replace O0 := O0.kept b5
    replace T0 := T0.kept b5
    replace b0 := b0.trans (b5.mono (by have := b0.size; omega))
    have z5 := b0.size
    have kJ := J0.2.1
    have kP := P0.2.1
    have kO := O0.2.1
    have fO := O0.2.2
    have ap := T0.row o5 (by decide)
    replace o5 := o5.base (C := w.heap.size) z2
    obtain ⟨a5, c5, rfl⟩ := o5.form
    go_wp2
    refine bodyPost_ret (v := .tuple #[.agg #[.int .i64 le, .slice a5 (zs ++ ys).length c5], .slice none 0 0, .int .i64 1]) (by simp [results, Try.results26, go_sem, kO]) rfl ⟨?_, ?_⟩
    · exact .more (hA.trans hc) (by rw [if_pos rfl]) rfl ((o5.far _ _ _ ap).far _ _ _ ap) (own_none _ _) (apart_symm (nil_apart _))
    · exact (b0.setCell (by simp; try omega) _).setCell (by simp; try omega) _
  · go_wp2_with fail
    refine (joiner_all _ _ _ _ _ j4).mono ?_
    rintro e w5 ⟨v5, rfl, o5, b5⟩
    clear kJ kP kO fO
    replace J0 := J0.kept b5
    replace P0 := P0.kept b5
    replace O0 := O0.kept b5
    replace T0 := T0.kept b5
    replace b0 := b0.trans (b5.mono (by have := b0.size; omega))
    have z5 := b0.size
    have kJ := J0.2.1
    have kP := P0.2.1
    have kO := O0.2.1
    have fO := O0.2.2
    have ap := T0.row o5 (by decide)
    replace o5 := o5.base (C := w.heap.size) z2
    obtain ⟨a5, c5, rfl⟩ := o5.form
    go_wp2
    refine bodyPost_ret (v := .tuple #[.agg #[.int .i64 0, .slice none 0 0], .slice a5 (zs ++ ys).length c5, .int .i64 2]) (by simp [results, Try.results26, go_sem, kO]) rfl ⟨?_, ?_⟩
    · exact .all (hA.trans hc) rfl (own_none _ _) ((o5.far _ _ _ ap).far _ _ _ ap) (nil_apart _)
    · exact (b0.setCell (by simp; try omega) _).setCell (by simp; try omega) _
  · go_wp2_with fail
    refine (joiner_bad _ _).mono ?_
    rintro e w5 ⟨rfl, b5⟩
    clear kJ kP kO fO
    replace J0 := J0.kept b5
    replace P0 := P0.kept b5
    replace O0 := O0.kept b5
    replace T0 := T0.kept b5
    replace b0 := b0.trans (b5.mono (by have := b0.size; omega))
    have z5 := b0.size
    have kJ := J0.2.1
    have kP := P0.2.1
    have kO := O0.2.1
    have fO := O0.2.2
    go_wp2
    refine bodyPost_ret (v := .tuple #[.agg #[.int .i64 0, .slice none 0 0], .slice none 0 0, .int .i64 3]) (by simp [results, Try.results26, go_sem, kO]) rfl ⟨?_, ?_⟩
    · exact .none (hA.trans hc) (by decide) (by decide) rfl (own_none _ _) (own_none _ _) (nil_apart _)
    · exact (b0.setCell (by simp; try omega) _).setCell (by simp; try omega) _
set_option maxHeartbeats 2000000 in
theorem impl_put_g (len : Int) (a : Option Addr) (cap : Nat) (zs : List Nat) (seg le : Int) (a' : Option Addr) (cap' : Nat) (ys : List Nat) (w : World) (h0 : len ≠ 0) (hJ : Rd w (.slice a zs.length cap) zs) (hP : Rd w (.slice a' ys.length cap') ys) (h : joinB len zs.length = true) (h2 : pieceB seg le ys.length = true) :
    Calls Try.prog 26 #[.agg #[.int .i64 len, .slice a zs.length cap], .agg #[.int .i64 seg, .int .i64 le, .slice a' ys.length cap']] w fun e w' => PutAns w.heap.size len zs seg le ys e w' ∧ Below w.heap.size w w' := by
  have l1 := joinB_small h
  have l2 := pieceB_small h2
  go_enter Try.func26, Try.ntmps26
  go_wp2_with fail
  obtain ⟨w0, hw0, J0, P0, O0, T0, b0, z0⟩ := three w #[.int .i64 len, .slice a zs.length cap] 43 #[.int .i64 seg, .int .i64 le, .slice a' ys.length cap'] 35 #[.int .i64 0, .slice none 0 0] 43
  rw [hw0]
  clear hw0
  have hA : putA len zs seg le ys = putC len zs.length seg ys.length := by simp [putA, h, h2]
  refine (impl_join _ _ _ _ _).mono ?_
  rw [h]
  rintro e w1 ⟨rfl, b1⟩
  have y1 := b1.size
  replace J0 := J0.kept b1
  replace P0 := P0.kept b1
  replace O0 := O0.kept b1
  replace T0 := T0.kept b1
  replace b0 := b0.trans (b1.mono (by have := b0.size; omega))
  have z1 := b0.size
  have kJ := J0.2.1
  have kP := P0.2.1
  have kO := O0.2.1
  have fO := O0.2.2
  go_wp2_with fail
  refine (impl_part _ _ _ _ _ _).mono ?_
  rw [h2]
  rintro e w2 ⟨rfl, b2⟩
  have y2 := b2.size
  clear kJ kP kO fO
  replace J0 := J0.kept b2
  replace P0 := P0.kept b2
  replace O0 := O0.kept b2
  replace T0 := T0.kept b2
  replace b0 := b0.trans (b2.mono (by have := b0.size; omega))
  have z2 := b0.size
  have kJ := J0.2.1
  have kP := P0.2.1
  have kO := O0.2.1
  have fO := O0.2.2
  go_wp2_with fail
  refine (joiner_new _ _ _ zs _ (hJ.kept b0) (by omega)).mono ?_
  rintro e w3 ⟨g, rfl, j3, b3⟩
  have hR : ∀ W, Below w2.heap.size w3 W → Rd W (.slice a' ys.length cap') ys := fun W hW => hP.kept (b0.trans ((b3.mono z2).trans (hW.mono z2)))
  have lo : w.heap.size + 1 + 1 < w2.heap.size := by omega
  have B3 : w2.heap.size ≤ w3.heap.size := b3.size
  clear kJ kP kO fO
  replace J0 := J0.kept b3
  replace P0 := P0.kept b3
  replace O0 := O0.kept b3
  replace T0 := T0.kept b3
  replace b0 := b0.trans (b3.mono (by have := b0.size; omega))
  have z3 := b0.size
  have kJ := J0.2.1
  have kP := P0.2.1
  have kO := O0.2.1
  have fO := O0.2.2
  go_wp2_with fail
  refine (joiner_waiting _ _ _ zs _ j3).mono ?_
  rw [if_neg h0]
  rintro e w4 ⟨rfl, h4⟩
  subst h4
  go_wp2_with fail
  refine (joiner_goOn _ _ _ zs _ _ _ _ ys _ h0 j3 hR (by omega) B3).mono ?_
  rintro e w4 ⟨f, rfl, st, b4⟩
  clear kJ kP kO fO
  replace J0 := J0.below b4 (by omega)
  replace P0 := P0.below b4 (by omega)
  replace O0 := O0.below b4 lo
  replace T0 := T0.below b4 lo
  replace b0 := b0.trans (b4.mono z2)
  have z4 := b0.size
  have kJ := J0.2.1
  have kP := P0.2.1
  have kO := O0.2.1
  have fO := O0.2.2
  rcases st with ⟨hc, rfl, j4⟩ | ⟨hc, rfl, n4, j4⟩ | ⟨hc, rfl⟩
  · go_wp2_with fail
    refine (joiner_more _ _ _ _ _ j4).mono ?_
    rintro e w5 ⟨v5, rfl, o5, b5⟩
    clear kJ kP kO fO
    replace J0 := J0.kept b5
    replace P0 := P0.kept b5
    replace O0 := O0.kept b5
    replace T0 := T0.kept b5
    replace b0 := b0.trans (b5.mono (by have := b0.size; omega))
    have z5 := b0.size
    have kJ := J0.2.1
    have kP := P0.2.1
    have kO := O0.2.1
    have fO := O0.2.2
    have ap := T0.row o5 (by decide)
    replace o5 := o5.base (C := w.heap.size) z2
    obtain ⟨a5, c5, rfl⟩ := o5.form
    go_wp2
    refine bodyPost_ret (v := .tuple #[.agg #[.int .i64 len, .slice a5 (zs ++ ys).length c5], .slice none 0 0, .int .i64 1]) (by simp [results, Try.results26, go_sem, kO]) rfl ⟨?_, ?_⟩
    · exact .more (hA.trans hc) (by rw [if_neg h0]) rfl ((o5.far _ _ _ ap).far _ _ _ ap) (own_none _ _) (apart_symm (nil_apart _))
    · exact (b0.setCell (by simp; try omega) _).setCell (by simp; try omega) _
  · go_wp2_with fail
    refine (joiner_all _ _ _ _ _ j4).mono ?_
    rintro e w5 ⟨v5, rfl, o5, b5⟩
    clear kJ kP kO fO
    replace J0 := J0.kept b5
    replace P0 := P0.kept b5
    replace O0 := O0.kept b5
    replace T0 := T0.kept b5
    replace b0 := b0.trans (b5.mono (by have := b0.size; omega))
    have z5 := b0.size
    have kJ := J0.2.1
    have kP := P0.2.1
    have kO := O0.2.1
    have fO := O0.2.2
    have ap := T0.row o5 (by decide)
    replace o5 := o5.base (C := w.heap.size) z2
    obtain ⟨a5, c5, rfl⟩ := o5.form
    go_wp2
    refine bodyPost_ret (v := .tuple #[.agg #[.int .i64 0, .slice none 0 0], .slice a5 (zs ++ ys).length c5, .int .i64 2]) (by simp [results, Try.results26, go_sem, kO]) rfl ⟨?_, ?_⟩
    · exact .all (hA.trans hc) rfl (own_none _ _) ((o5.far _ _ _ ap).far _ _ _ ap) (nil_apart _)
    · exact (b0.setCell (by simp; try omega) _).setCell (by simp; try omega) _
  · go_wp2_with fail
    refine (joiner_bad _ _).mono ?_
    rintro e w5 ⟨rfl, b5⟩
    clear kJ kP kO fO
    replace J0 := J0.kept b5
    replace P0 := P0.kept b5
    replace O0 := O0.kept b5
    replace T0 := T0.kept b5
    replace b0 := b0.trans (b5.mono (by have := b0.size; omega))
    have z5 := b0.size
    have kJ := J0.2.1
    have kP := P0.2.1
    have kO := O0.2.1
    have fO := O0.2.2
    go_wp2
    refine bodyPost_ret (v := .tuple #[.agg #[.int .i64 0, .slice none 0 0], .slice none 0 0, .int .i64 3]) (by simp [results, Try.results26, go_sem, kO]) rfl ⟨?_, ?_⟩
    · exact .none (hA.trans hc) (by decide) (by decide) rfl (own_none _ _) (own_none _ _) (nil_apart _)
    · exact (b0.setCell (by simp; try omega) _).setCell (by simp; try omega) _
theorem impl_put (len : Int) (v : Value) (zs : List Nat) (seg le : Int) (u : Value) (ys : List Nat) (w : World) (hJ : Rd w v zs) (hP : Rd w u ys) :
    Calls Try.prog 26 #[.agg #[.int .i64 len, v], .agg #[.int .i64 seg, .int .i64 le, u]] w fun e w' => PutAns w.heap.size len zs seg le ys e w' ∧ Below w.heap.size w w' := by
  obtain ⟨a, cap, rfl⟩ := hJ.form
  obtain ⟨a', cap', rfl⟩ := hP.form
  cases h : joinB len zs.length
  · exact impl_put_nj _ _ _ _ _ _ _ _ _ _ h
  cases h2 : pieceB seg le ys.length
  · exact impl_put_np _ _ _ _ _ _ _ _ _ _ h h2
  by_cases h0 : len = 0
  · subst h0; exact impl_put_z _ _ _ _ _ _ _ _ _ hJ hP h h2
  · exact impl_put_g _ _ _ _ _ _ _ _ _ _ h0 hJ hP h h2
end Go.Proofs.Ytaljdhcmikpmhaa
