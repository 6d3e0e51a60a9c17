/- The program's reader of frames: bytes that are left, and whether something went wrong. -/
import Derived.Test.YtfeaagjnfncdnaaDoorCrcCut
import Derived.Test.YtfeaagjnfncdnaaDoorFrmMath
import Derived.Test.YtfeaagjnfncdnaaDoorOwnMore
import Derived.Deep.Light
namespace Go.Proofs.YtfeaagjnfncdnaaDoor
open Go.RowKit

/-- The package's three errors, each at its block: they are something. -/
def Errs (w : World) : Prop := (∃ t x, w.cell? ⟨0, 0, none⟩ = some (.iface t x)) ∧ (∃ t x, w.cell? ⟨1, 0, none⟩ = some (.iface t x)) ∧ (∃ t x, w.cell? ⟨2, 0, none⟩ = some (.iface t x)) ∧ 3 ≤ w.heap.size
theorem Errs.kept {w w' : World} (h : Errs w) (hb : Below w.heap.size w w') : Errs w' := by
  obtain ⟨⟨t0, x0, h0⟩, ⟨t1, x1, h1⟩, ⟨t2, x2, h2⟩, hz⟩ := h
  exact ⟨⟨t0, x0, (hb.cell (p := ⟨0, 0, none⟩) (show 0 < _ by omega)).trans h0⟩, ⟨t1, x1, (hb.cell (p := ⟨1, 0, none⟩) (show 1 < _ by omega)).trans h1⟩, ⟨t2, x2, (hb.cell (p := ⟨2, 0, none⟩) (show 2 < _ by omega)).trans h2⟩, Nat.le_trans hz hb.size⟩

theorem rd_nil (w : World) : Rd w (.slice none 0 0) [] := ⟨fun z hz => by simp at hz, by simp, .inl ⟨rfl, _, _, rfl, fun _ => rfl⟩⟩
/-- The reader at block g: what is left, and whether there is an error. -/
def Fr (w : World) (g : Nat) (zs : List Nat) (e : Bool) : Prop :=
  ∃ s ev, Rd w s zs ∧ g < w.heap.size ∧ w.cell? ⟨g, 0, none⟩ = some s ∧ w.cell? ⟨g, 1, none⟩ = some ev ∧ (∀ o, w.frozen? ⟨g, o, none⟩ = false) ∧ (∀ b, s.ownBlock = some b → b < g) ∧ (if e = true then ∃ t x, ev = .iface t x else ev = .nilIface)

set_option maxHeartbeats 1000000 in
theorem reader_new (v : Value) (bs : List Nat) (w : World) (hv : Rd w v bs) (hE : Errs w) :
    Calls Tryd.prog 14 #[v] w fun e w' => ∃ g, e = .returned (.pointer (some ⟨g, 0, none⟩)) ∧ w.heap.size ≤ g ∧ Fr w' g (cutL bs) (!cutB bs) ∧ Below w.heap.size w w' := by
  cases hk : cutB bs with
  | false =>
    go_enter Tryd.func14, Tryd.ntmps14
    go_wp2_with fail
    refine (impl_cut _ bs _ hv).mono ?_
    rw [hk]
    rintro e w1 ⟨v1, rfl, o1, b1⟩
    obtain ⟨⟨t0, x0, g0⟩, _⟩ := hE.kept b1
    go_wp2
    go_ret
    have hL : cutL bs = [] := by unfold cutL; rw [hk]; rfl
    rw [hL]
    exact ⟨w1.heap.size, rfl, b1.size, ⟨.slice none 0 0, .iface t0 x0, rd_nil _, by simp, by simp, by simp, fun o => by simp, fun b e => by simp [Value.ownBlock] at e, _, _, rfl⟩, b1.alloc b1.size _⟩
  | true =>
    have pl := cutL_length bs
    go_enter Tryd.func14, Tryd.ntmps14
    go_wp2_with fail
    refine (impl_cut _ bs _ hv).mono ?_
    rw [hk]
    rintro e w1 ⟨v1, rfl, o1, b1⟩
    have r1 := o1.rd (cutL_byt hv.1) (by have := hv.2.1; omega)
    have n1 : ∀ b, v1.ownBlock = some b → b < w1.heap.size := fun b e => (World.ownsRow.lt o1 b e).2
    obtain ⟨a1, c1, hv1⟩ := r1.form
    rw [hv1] at r1 n1 ⊢
    go_wp2
    go_ret
    exact ⟨w1.heap.size, rfl, b1.size, ⟨.slice a1 (cutL bs).length c1, .nilIface, r1.alloc _, by simp, by simp, by simp, fun o => by simp, n1, rfl⟩, b1.alloc b1.size _⟩

/-- What is taken, what is left then, and whether there is an error then. -/
def tkR (n : Nat) (zs : List Nat) (e : Bool) : List Nat := if e = true then [] else if zs.length < n then [] else zs.take n
def tkZ (n : Nat) (zs : List Nat) (e : Bool) : List Nat := if e = true then zs else if zs.length < n then zs else zs.drop n
def tkE (n : Nat) (zs : List Nat) (e : Bool) : Bool := e || decide (zs.length < n)

theorem rd_set {w : World} {s : Value} {zs : List Nat} {g o : Nat} {x : Value} (h : Rd w s zs) (hlt : ∀ b, s.ownBlock = some b → b < g) : Rd (w.setCell ⟨g, o, none⟩ x) s zs := by
  have hne : s.ownBlock ≠ some g := fun e => by have := hlt g e; omega
  obtain ⟨h1, h2, h3⟩ := h
  refine ⟨h1, h2, ?_⟩
  rcases h3 with h3 | ⟨b, off, cap, e, h4, h5, h6, h7⟩
  · exact .inl h3
  · refine .inr ⟨b, off, cap, e, h4, h5, by simpa using h6, fun j hj => ?_⟩
    have hne' : (⟨g, o, none⟩ : Addr) ≠ ⟨b, off + j, none⟩ := by
      intro e'
      simp only [Addr.mk.injEq] at e'
      rw [e] at hne
      exact hne (by simp [Value.ownBlock, e'.1])
    exact (cell_far hne').trans (h7 j hj)
theorem set_grown (w : World) (g o : Nat) (x : Value) : w.grownBy (w.setCell ⟨g, o, none⟩ x) (some g) :=
  ⟨rfl, rfl, rfl, by simp, fun k _ hne => Below.heap_setCell w _ x k (fun e => hne (by rw [e]))⟩

theorem Rd.room {w : World} {v : Value} {zs : List Nat} (h : Rd w v zs) : ∃ a cap, v = .slice a zs.length cap ∧ zs.length ≤ cap := by
  rcases h.2.2 with ⟨rfl, a, c, rfl, _⟩ | ⟨b, off, cap, rfl, h4, _⟩
  · exact ⟨_, _, rfl, Nat.zero_le _⟩
  · exact ⟨_, _, rfl, h4⟩
theorem Rd.first {w : World} {a : Option Addr} {cap n : Nat} {zs : List Nat} (h : Rd w (.slice a zs.length cap) zs) (hn : n ≤ zs.length) : Rd w (.slice a n cap) (zs.take n) := by
  obtain ⟨h1, h2, h3⟩ := h
  refine ⟨h1.take n, by rw [List.length_take]; omega, ?_⟩
  rcases h3 with ⟨rfl, a', c', e, hnone⟩ | ⟨b, off, cap', e, h4, h5, h6, h7⟩
  · simp only [Value.slice.injEq] at e
    obtain ⟨rfl, _, rfl⟩ := e
    obtain rfl : n = 0 := by simpa using hn
    exact .inl ⟨rfl, _, _, rfl, hnone⟩
  · simp only [Value.slice.injEq, true_and] at e
    obtain ⟨rfl, rfl⟩ := e
    refine .inr ⟨b, off, cap, by rw [List.length_take, Nat.min_eq_left hn], by rw [List.length_take]; omega, h5, h6, fun j hj => ?_⟩
    rw [List.length_take] at hj
    rw [h7 j (by omega)]
    simp [show j < n by omega]
theorem Rd.rest {w : World} {a : Option Addr} {cap n : Nat} {zs : List Nat} (h : Rd w (.slice a zs.length cap) zs) (hn : n ≤ zs.length) : Rd w (.slice (if cap = n then a else a.map fun x => x.add n) (zs.length - n) (cap - n)) (zs.drop n) := by
  obtain ⟨h1, h2, h3⟩ := h
  refine ⟨fun z hz => h1 z (List.mem_of_mem_drop hz), by rw [List.length_drop]; omega, ?_⟩
  by_cases h0 : zs.length = n
  · left
    refine ⟨by rw [List.drop_eq_nil_iff]; omega, _, _, by rw [h0, Nat.sub_self], fun e => ?_⟩
    rcases h3 with ⟨rfl, a', c', e', hnone⟩ | ⟨b, off, cap', e', h4, h5, h6, h7⟩
    · simp only [Value.slice.injEq] at e'
      obtain ⟨rfl, _, rfl⟩ := e'
      split at e
      · have := hnone e; omega
      · have := hnone (by simpa using e); omega
    · simp only [Value.slice.injEq, true_and] at e'
      obtain ⟨rfl, rfl⟩ := e'
      split at e <;> simp at e
  · right
    rcases h3 with ⟨rfl, a', c', e', hnone⟩ | ⟨b, off, cap', e', h4, h5, h6, h7⟩
    · simp at hn h0; omega
    · simp only [Value.slice.injEq, true_and] at e'
      obtain ⟨rfl, rfl⟩ := e'
      refine ⟨b, off + n, cap - n, ?_, by rw [List.length_drop]; omega, by omega, h6, fun j hj => ?_⟩
      · rw [if_neg (by omega), List.length_drop, Option.map_some, add_at]
      · rw [List.length_drop] at hj
        rw [show off + n + j = off + (n + j) by omega, h7 (n + j) (by omega)]
        simp [List.getElem?_drop]
theorem head_block {a : Option Addr} {m c m' c' : Nat} : (Value.slice a m c).ownBlock = (Value.slice a m' c').ownBlock := by cases a <;> rfl
theorem rest_block {a : Option Addr} {cap n m c m' c' : Nat} : (Value.slice (if cap = n then a else a.map fun x => x.add n) m c).ownBlock = (Value.slice a m' c').ownBlock := by
  split
  · cases a <;> rfl
  · cases a with
    | none => rfl
    | some x => simp [Value.ownBlock, Addr.add]; split <;> rfl

set_option maxHeartbeats 1000000 in
theorem take_any (g n : Nat) (zs : List Nat) (e : Bool) (w : World) (hF : Fr w g zs e) (hE : Errs w) (hn : n ≤ 255) :
    Calls Tryd.prog 24 #[.pointer (some ⟨g, 0, none⟩), .int .i64 n] w fun r w' => ∃ v', r = .returned v' ∧ Rd w' v' (tkR n zs e) ∧ Fr w' g (tkZ n zs e) (tkE n zs e) ∧ w.grownBy w' (some g) := by
  obtain ⟨s, ev, hs, hg2, c0, c1, fz, hne, hev⟩ := hF
  have f0 := fz 0
  have f1 := fz 1
  cases e with
  | true =>
    obtain ⟨t, x, rfl⟩ := hev
    go_enter Tryd.func24, Tryd.ntmps24
    go_wp2
    go_ret
    exact ⟨_, rfl, rd_nil _, ⟨s, _, hs, hg2, c0, c1, fz, hne, t, x, rfl⟩, ⟨rfl, rfl, rfl, Nat.le_refl _, fun _ _ _ => rfl⟩⟩
  | false =>
    obtain rfl : ev = .nilIface := hev
    obtain ⟨a, cap, rfl, hcap⟩ := hs.room
    obtain ⟨_, _, ⟨t2, x2, g2⟩, _⟩ := hE
    by_cases hlt : zs.length < n
    · have hlt' : (zs.length : Int) < (n : Int) := by omega
      have hR : tkR n zs false = [] := by simp [tkR, hlt]
      have hZ : tkZ n zs false = zs := by simp [tkZ, hlt]
      have hT : tkE n zs false = true := by simp [tkE, hlt]
      rw [hR, hZ, hT]
      go_enter Tryd.func24, Tryd.ntmps24
      go_wp2
      go_ret
      exact ⟨_, rfl, rd_nil _, ⟨_, .iface t2 x2, rd_set hs hne, by simpa using hg2, (cell_far (by simp)).trans c0, cell_here c1, fun o => by simpa using fz o, hne, t2, x2, rfl⟩, set_grown _ _ _ _⟩
    · have hlt' : ¬ (zs.length : Int) < (n : Int) := by omega
      have hR : tkR n zs false = zs.take n := by simp [tkR, hlt]
      have hZ : tkZ n zs false = zs.drop n := by simp [tkZ, hlt]
      have hT : tkE n zs false = false := by simp [tkE]; omega
      rw [hR, hZ, hT]
      have hnc : (n : Int) ≤ (cap : Int) := by omega
      have r1 := hs.first (show n ≤ zs.length by omega)
      have r2 := hs.rest (show n ≤ zs.length by omega)
      have n1 : ∀ b, (Value.slice (if cap = n then a else a.map fun x => x.add n) (zs.length - n) (cap - n)).ownBlock = some b → b < g := by intro b; rw [rest_block (m' := zs.length) (c' := cap)]; exact hne b
      have n2 : ∀ b, (Value.slice a n cap).ownBlock = some b → b < g := by intro b; rw [head_block (m' := zs.length) (c' := cap)]; exact hne b
      by_cases hcn : cap = n
      · rw [if_pos hcn] at r2 n1
        subst hcn
        have hz0 : cap - cap = 0 := Nat.sub_self _
        have hz1 : zs.length - cap = 0 := by omega
        rw [hz0, hz1] at r2 n1
        go_enter Tryd.func24, Tryd.ntmps24
        go_wp2
        go_ret
        exact ⟨_, rfl, rd_set r1 n2, ⟨_, .nilIface, rd_set r2 n1, by simpa using hg2, cell_here c0, (cell_far (by simp)).trans c1, fun o => by simpa using fz o, n1, rfl⟩, set_grown _ _ _ _⟩
      · rw [if_neg hcn] at r2 n1
        go_enter Tryd.func24, Tryd.ntmps24
        go_wp2
        go_ret
        exact ⟨_, rfl, rd_set r1 n2, ⟨_, .nilIface, rd_set r2 n1, by simpa using hg2, cell_here c0, (cell_far (by simp)).trans c1, fun o => by simpa using fz o, n1, rfl⟩, set_grown _ _ _ _⟩

theorem Errs.grown {w w' : World} {g : Nat} (h : Errs w) (hg : w.grownBy w' (some g)) (h3 : 3 ≤ g) : Errs w' := by
  obtain ⟨⟨t0, x0, h0⟩, ⟨t1, x1, h1⟩, ⟨t2, x2, h2⟩, hz⟩ := h
  have c : ∀ b, b < 3 → w'.cell? ⟨b, 0, none⟩ = w.cell? ⟨b, 0, none⟩ := fun b hb => World.cell?_of_block (a := ⟨b, 0, none⟩) (hg.block b (by omega) (fun e => by cases e; omega))
  exact ⟨⟨t0, x0, (c 0 (by omega)).trans h0⟩, ⟨t1, x1, (c 1 (by omega)).trans h1⟩, ⟨t2, x2, (c 2 (by omega)).trans h2⟩, Nat.le_trans hz hg.size⟩

theorem tkR_one (zs : List Nat) (e : Bool) : tkR 1 zs e = [] ∨ ∃ z, tkR 1 zs e = [z] ∧ tkE 1 zs e = false := by
  cases e
  · cases zs with
    | nil => left; rfl
    | cons z zs => right; exact ⟨z, by simp [tkR], by simp [tkE]⟩
  · left; rfl
set_option maxHeartbeats 1000000 in
theorem number_rd (g : Nat) (zs : List Nat) (e : Bool) (w : World) (hF : Fr w g zs e) (hE : Errs w) :
    Calls Tryd.prog 23 #[.pointer (some ⟨g, 0, none⟩)] w fun r w' => r = .returned (.int .i64 (((tkR 1 zs e).getD 0 0 : Nat) : Int)) ∧ (tkR 1 zs e).getD 0 0 < 256 ∧ Fr w' g (tkZ 1 zs e) (tkE 1 zs e) ∧ w.grownBy w' (some g) := by
  rcases tkR_one zs e with h0 | ⟨z, h0, _⟩
  · rw [h0]
    go_enter Tryd.func23, Tryd.ntmps23
    go_wp2_with fail
    refine (take_any g 1 zs e _ hF hE (by omega)).mono ?_
    rintro r w1 ⟨v1, rfl, r1, F1, g1⟩
    rw [h0] at r1
    obtain ⟨a, c, hv⟩ := r1.form
    rw [hv]
    go_wp2
    go_ret
    exact ⟨rfl, by simp, F1, g1⟩
  · rw [h0]
    go_enter Tryd.func23, Tryd.ntmps23
    go_wp2_with fail
    refine (take_any g 1 zs e _ hF hE (by omega)).mono ?_
    rintro r w1 ⟨v1, rfl, r1, F1, g1⟩
    rw [h0] at r1
    have hb : z < 256 := r1.1 z (by simp)
    obtain ⟨b, off, cap, hv, c0⟩ : ∃ b off cap, v1 = .slice (some ⟨b, off, none⟩) 1 cap ∧ w1.cell? ⟨b, off, none⟩ = some (.int .u8 (z : Int)) := by
      rcases r1.2.2 with ⟨h, _⟩ | ⟨b, off, cap, h, _, _, _, hc⟩
      · simp at h
      · exact ⟨b, off, cap, h, by simpa using hc 0 (by simp)⟩
    have hw : IntKind.i64.wrap (z : Int) = (z : Int) := by rw [IntKind.wrap_i64]; omega
    rw [hv]
    go_wp2
    go_ret
    exact ⟨rfl, by simpa using hb, F1, g1⟩

set_option maxHeartbeats 1000000 in
theorem end_any (g : Nat) (zs : List Nat) (e : Bool) (w : World) (hF : Fr w g zs e) (hE : Errs w) :
    Calls Tryd.prog 16 #[.pointer (some ⟨g, 0, none⟩)] w fun r w' => r = .returned (.tuple #[]) ∧ Fr w' g zs (e || decide (0 < zs.length)) ∧ w.grownBy w' (some g) := by
  obtain ⟨s, ev, hs, hg2, c0, c1, fz, hne, hev⟩ := hF
  have f1 := fz 1
  have same : w.grownBy w (some g) := ⟨rfl, rfl, rfl, Nat.le_refl _, fun _ _ _ => rfl⟩
  cases e with
  | true =>
    obtain ⟨t, x, rfl⟩ := hev
    go_enter Tryd.func16, Tryd.ntmps16
    go_wp2
    go_end0
    exact ⟨rfl, ⟨s, _, hs, hg2, c0, c1, fz, hne, t, x, rfl⟩, same⟩
  | false =>
    obtain rfl : ev = .nilIface := hev
    obtain ⟨a, cap, rfl⟩ := hs.form
    obtain ⟨_, ⟨t1, x1, g1⟩, _⟩ := hE
    by_cases h0 : 0 < zs.length
    · have h0' : (0 : Int) < (zs.length : Int) := by omega
      rw [show (false || decide (0 < zs.length)) = true from by simp [h0]]
      go_enter Tryd.func16, Tryd.ntmps16
      go_wp2
      go_end0
      exact ⟨rfl, ⟨_, .iface t1 x1, rd_set hs hne, by simpa using hg2, (cell_far (by simp)).trans c0, cell_here c1, fun o => by simpa using fz o, hne, t1, x1, rfl⟩, set_grown _ _ _ _⟩
    · have h0' : ¬ (0 : Int) < (zs.length : Int) := by omega
      rw [show (false || decide (0 < zs.length)) = false from by simp [h0]]
      go_enter Tryd.func16, Tryd.ntmps16
      go_wp2
      go_end0
      exact ⟨rfl, ⟨_, _, hs, hg2, c0, c1, fz, hne, rfl⟩, same⟩
end Go.Proofs.YtfeaagjnfncdnaaDoor
