/- Bytes with one put in, taken out or turned; of a copy, in new memory. -/
import Derived.Test.YthbmafoikloocaaDrawBytes
import Derived.Deep.RegionLaw
namespace Go.Proofs.Ythbmafoikloocaa
open Go.RowKit

/-- What is behind a place, as a slice. -/
theorem Rd.tail {w : World} {b cap m : Nat} {zs : List Nat} (n : Nat) (h : Rd w (.slice (some ⟨b, 0, none⟩) m cap) zs) (hm : m = zs.length) (hn : n ≤ m) (h0 : 0 < m) : ∃ A, (if cap = n then some (⟨b, 0, none⟩ : Addr) else some ⟨b, n, none⟩) = some A ∧ Rd w (.slice (some A) (m - n) (cap - n)) (zs.drop n) := by
  subst hm
  obtain ⟨h1, h2, h3⟩ := h
  have hl : (zs.drop n).length = zs.length - n := by rw [List.length_drop]
  have hby : Byt (zs.drop n) := fun z hz => h1 z (List.mem_of_mem_drop hz)
  rcases h3 with ⟨rfl, _⟩ | ⟨b', off', cap', e, h4, h5, h6, h7⟩
  · simp at h0
  · simp only [Value.slice.injEq, Option.some.injEq, Addr.mk.injEq, and_true, true_and] at e
    obtain ⟨⟨rfl, rfl⟩, rfl⟩ := e
    by_cases hc : cap = n
    · refine ⟨_, if_pos hc, hby, by omega, .inl ⟨List.eq_nil_of_length_eq_zero (by omega), some ⟨b, 0, none⟩, cap - n, ?_, fun e => by cases e⟩⟩
      rw [show zs.length - n = 0 from by omega]
    · refine ⟨_, if_neg hc, hby, by omega, .inr ⟨b, n, cap - n, by rw [hl], by omega, by omega, h6, fun j hj => ?_⟩⟩
      rw [hl] at hj
      have := h7 (n + j) (by omega)
      rw [Nat.zero_add] at this
      rw [this]
      simp

theorem Rd.tail_at {w : World} {b cap m : Nat} {zs : List Nat} (n : Nat) (h : Rd w (.slice (some ⟨b, 0, none⟩) m cap) zs) (hm : m = zs.length) (hn : n ≤ m) (h0 : 0 < m) {A : Addr} (hA : (if cap = n then some (⟨b, 0, none⟩ : Addr) else some ⟨b, n, none⟩) = some A) : Rd w (.slice (some A) (m - n) (cap - n)) (zs.drop n) := by
  obtain ⟨A', h1, h2⟩ := h.tail n hm hn h0
  rw [hA] at h1
  cases h1
  exact h2
theorem low_of {w2 wx w4 : World} {u : Option Nat} (hb : Below w2.heap.size w2 wx) (hu : ∀ q, u = some q → w2.heap.size ≤ q) (g : wx.grownBy w4 u) : Below w2.heap.size w2 w4 :=
  hb.grown g hb.size hu
theorem low_two {w0 w2 w4 : World} {r u : Option Nat} (g2 : w0.grownBy w2 r) (b4 : Below w2.heap.size w2 w4) (w5 : World) (g5 : w4.grownBy w5 u) (hu : ∀ q, u = some q → w0.heap.size ≤ q) : w0.grownBy w5 r :=
  grown_new (grown_new g2 (below_grown b4) (fun q e => by cases e)) g5 hu

set_option maxRecDepth 100000 in
set_option maxHeartbeats 2000000 in
theorem turn_cut (B g p Bb gb m cap : Nat) (cs zs : List Nat) (w : World) (h : Rdr w B g p cs) (hp : p ≤ 900000000) (hb : Own w Bb (.slice (some ⟨gb, 0, none⟩) m cap) zs) (hby : Byt zs) (hm : m = zs.length) (h0 : 0 < m) (hg : g < Bb) (hlen : zs.length ≤ 1000000) :
    Calls Try.prog 14 #[.pointer (some ⟨g, 0, none⟩), .slice (some ⟨gb, 0, none⟩) m cap] w fun e w' => ∃ v ys p', e = .returned v ∧ Own w' w.heap.size v ys ∧ Byt ys ∧ ys.length ≤ zs.length + 1 ∧ Rdr w' B g p' cs ∧ p' ≤ p + 3 ∧ w.grownBy w' (some g) := by
  subst hm
  have hgl := h.lt
  have hgB := h.1
  have hgb : gb < w.heap.size := (World.ownsRow.lt hb gb rfl).2
  have hne : ((zs.length : Int) == 0) = false := beq_eq_false_iff_ne.2 (by omega)
  go_enter Try.func14, Try.ntmps14
  go_wp2_with fail
  refine (pick_any B g p cs _ _ h (by omega) (by omega)).mono ?_
  rintro e w1 ⟨k, rfl, hk, r1, g1⟩
  have o1 := hb.since g1 (fun q e => by cases e; exact hg)
  go_wp2_with fail
  refine (pick_any B g _ cs _ _ r1 (by omega) (by omega)).mono ?_
  rintro e w2 ⟨s, rfl, hs, r2, g2⟩
  have o2 := o1.since g2 (fun q e => by cases e; exact hg)
  have gr2 := grown_trans g1 g2
  have rd2 := o2.rd hby (by omega)
  have hz2 := gr2.size
  have hkl : k ≤ cap := by
    rcases o2.2 with ⟨e, _⟩ | ⟨g', c', cur, e, _, _, hc, _⟩
    · simp at e
    · simp only [Value.slice.injEq] at e; obtain ⟨_, _, rfl⟩ := e; omega
  have hkl1 : k + 1 ≤ cap := by
    rcases o2.2 with ⟨e, _⟩ | ⟨g', c', cur, e, _, _, hc, _⟩
    · simp at e
    · simp only [Value.slice.injEq] at e; obtain ⟨_, _, rfl⟩ := e; omega
  clear g1 g2 r1 o1 h hb
  by_cases hs0 : s = 0
  · subst hs0
    have hd1 := rd2.head k rfl (by omega) h0
    obtain ⟨A, hA, hd2⟩ := rd2.tail (k + 1) rfl (by omega) h0
    have hk1 : 0 ≤ (k : Int) + 1 := by omega
    have hk2 : (k : Int) + 1 ≤ (zs.length : Int) := by omega
    have hwk : IntKind.i64.wrap ((k : Int) + 1) = (k : Int) + 1 := by rw [IntKind.wrap_i64]; omega
    have htk : ((k : Int) + 1).toNat = k + 1 := by omega
    have o3 := own_empty w2 w.heap.size hz2
    have hd3 := hd1.alloc (.cells #[] 5)
    go_wp2
    go_region_law (first
      | (refine step_app rfl (.tmp 22) (.tmp 25) rfl w.heap.size _ [] (by simp [Act.eval]) o3 _ (zs.take k) (by simp [Act.eval]) hd3 (by simp; omega) (by simp; omega) ?_; intro v4 w4 o4 g4; have b4 : Below w2.heap.size w2 w4 := low_of (by first | exact ((Below.refl _ _).alloc (Nat.le_refl _) _) | exact ((Below.refl _ _).alloc (Nat.le_refl _) _).drew) (by simp [Value.ownBlock]) g4; have hd4 := hd2.kept b4; have hz4 := b4.size; clear g4)
      | (refine step_app rfl (.tmp 26) (.tmp 30) rfl w.heap.size v4 (zs.take k) rfl o4 (.slice (some A) (zs.length - (k + 1)) (cap - (k + 1))) (zs.drop (k + 1)) rfl hd4 (by simp; omega) (by omega) ?_; intro v5 w5 o5 g5))
    have hrow := fun q e => (World.ownsRow.lt o4 q e).1
    have gr5 := low_two gr2 b4 w5 g5 hrow
    have r5 := (r2.other (below_grown b4) (fun q e => by cases e)).other g5 (fun q e => by have := hrow q e; omega)
    have by5 : Byt (zs.take k ++ zs.drop (k + 1)) := by
      intro z hz
      rcases List.mem_append.1 hz with hz | hz
      · exact hby z (List.mem_of_mem_take hz)
      · exact hby z (List.mem_of_mem_drop hz)
    have ln5 : (zs.take k ++ zs.drop (k + 1)).length ≤ zs.length + 1 := by simp; omega
    clear o3 hd1 hd2 hd3 hd4 b4 o4 g5 hrow gr2 r2
    go_wp2
    go_ret
    exact ⟨_, _, _, rfl, o5, by5, ln5, r5, by omega, gr5⟩
  · by_cases hs1 : s = 1
    · subst hs1
      have hd1 := rd2.head k rfl (by omega) h0
      obtain ⟨A, hA, hd2⟩ := rd2.tail k rfl (by omega) h0
      have hk2 : (k : Int) ≤ (zs.length : Int) := by omega
      have o3 := own_empty w2 w.heap.size hz2
      have hd3 := hd1.alloc (.cells #[] 5)
      go_wp2
      have hgw : ∀ q, some g = some q → q < w.heap.size := fun q e => by cases e; exact hgl
      go_region_law (first
        | (refine step_app rfl (.tmp 34) (.tmp 37) rfl w.heap.size _ [] (by simp [Act.eval]) o3 _ (zs.take k) (by simp [Act.eval]) hd3 (by simp; omega) (by simp; omega) ?_; intro v4 w4 o4 g4; have b4 : Below w2.heap.size w2 w4 := low_of (by first | exact ((Below.refl _ _).alloc (Nat.le_refl _) _) | exact ((Below.refl _ _).alloc (Nat.le_refl _) _).drew) (by simp [Value.ownBlock]) g4; have r4 := r2.other (below_grown b4) (fun q e => by cases e); have o4b := o2.kept b4; have gr4 := grown_new gr2 (below_grown b4) (fun q e => by cases e); clear g4)
        | (go_simp; go_at_call 13; refine (pick_any B g _ cs _ _ r4 (by omega) (by omega)).mono ?_; rintro e w5 ⟨y, rfl, hy, r5, g5⟩; have o5 := o4.since g5 hgw; have o5b := o4b.since g5 (fun q e => by cases e; exact hg); have gr5 := grown_trans gr4 g5; have hz5 := gr5.size; have hyw : IntKind.u8.wrap (y : Int) = (y : Int) := by rw [IntKind.wrap_u8']; omega)
        | (refine step_app rfl (.tmp 38) (.tmp 42) rfl w.heap.size v4 (zs.take k) rfl (o5.alloc _) _ [y] rfl (rd_one w5 y (by omega)) (by simp; omega) (by simp; omega) ?_; intro v6 w6 o6 g6; have h4 := fun q e => (World.ownsRow.lt o5 q e).1; have o6b := (o5b.alloc (.cells #[.int .u8 (y : Int)] 5)).other g6 (fun q e e' => by simp only [Value.ownBlock, Option.some.injEq] at e; have := h4 q e'; omega); have hd6 := (o6b.rd hby (by omega)).tail_at k rfl (by omega) h0 hA; have gr6 := grown_new (grown_trans gr5 (grown_alloc w5 _ _)) g6 h4; have hz6 := gr6.size; have r6 := (r5.other (grown_alloc w5 (.cells #[.int .u8 (y : Int)] 5) none) (fun q e => by cases e)).other g6 (fun q e => by have := h4 q e; omega))
        | (refine step_app rfl (.tmp 43) (.tmp 46) rfl w.heap.size v6 (zs.take k ++ [y]) rfl o6 (.slice (some A) (zs.length - k) (cap - k)) (zs.drop k) rfl hd6 (by simp; omega) (by omega) ?_; intro v7 w7 o7 g7))
      have h6 := fun q e => (World.ownsRow.lt o6 q e).1
      have gr7 := grown_new gr6 g7 h6
      have r7 := r6.other g7 (fun q e => by have := h6 q e; omega)
      have by7 : Byt (zs.take k ++ [y] ++ zs.drop k) := by
        intro z hz
        simp only [List.mem_append, List.mem_singleton] at hz
        rcases hz with (hz | rfl) | hz
        · exact hby z (List.mem_of_mem_take hz)
        · omega
        · exact hby z (List.mem_of_mem_drop hz)
      have ln7 : (zs.take k ++ [y] ++ zs.drop k).length ≤ zs.length + 1 := by simp; omega
      clear o3 hd1 hd2 hd3 b4 o4 g5 gr2 r2 o4b r4 gr4 o5 o5b r5 gr5 h4 o6b g6 hd6 gr6 r6 g7 h6 o6
      go_wp2
      go_ret
      exact ⟨_, _, _, rfl, o7, by7, ln7, r7, by omega, gr7⟩
    · have hs2 : s = 2 := by omega
      subst hs2
      have o3 := own_empty w2 w.heap.size hz2
      have rd3 := rd2.alloc (.cells #[] 5)
      go_wp2_with (at_builtin; refine wpList_app _ rfl (.tmp 48) (.tmp 49) rfl w.heap.size _ [] rfl o3 _ zs rfl rd3 (by simp; omega) (by simp; omega) ?_)
      intro v4 w4 o4 g4
      have b4 : Below w2.heap.size w2 w4 := low_of ((Below.refl _ _).alloc (Nat.le_refl _) _) (by simp [Value.ownBlock]) g4
      have r4 := r2.other (below_grown b4) (fun q e => by cases e)
      have gr4 := grown_new gr2 (below_grown b4) (fun q e => by cases e)
      obtain ⟨go, c4, rfl⟩ : ∃ go c, v4 = .slice (some ⟨go, 0, none⟩) zs.length c := by
        rcases o4.2 with ⟨_, e⟩ | ⟨go, c, _, e, _⟩
        · simp at e; simp [e] at h0
        · exact ⟨go, c, e⟩
      have hgo := (World.ownsRow.lt o4 go rfl).1
      have c40 : w4.cell? ⟨go, k, none⟩ = some (.int .u8 ((zs.getD k 0 : Nat) : Int)) := by
        have := (World.ownsRow.cellAt o4 k (by simp; omega)).trans (bcells_get ([] ++ zs) k (by simp; omega))
        simpa using this
      have hx := hby.get k
      clear o3 rd3 g4 b4 gr2 r2 o2 rd2
      generalize zs.getD k 0 = x at *
      have hki : (k : Int) < (zs.length : Int) := by omega
      go_wp2
      have r4d : Rdr w4.drew B g (p + 1 + 1) cs := r4
      have c4d : w4.drew.cell? ⟨go, k, none⟩ = some (.int .u8 (x : Int)) := c40
      have o4z : Own w4 w.heap.size (.slice (some ⟨go, 0, none⟩) zs.length c4) zs := by simpa using o4
      have o4d : Own w4.drew w.heap.size (.slice (some ⟨go, 0, none⟩) zs.length c4) zs := World.ownsRow.drew o4z
      have gr4d : w.grownBy w4.drew (some g) := ⟨gr4.os, gr4.tape, gr4.output, gr4.size, gr4.block⟩
      have hgw : ∀ q, some g = some q → q < w.heap.size := fun q e => by cases e; exact hgl
      go_region_law (first
        | (go_simp; go_at_call 13; refine (pick_any B g (p + 1 + 1) cs 255 w4.drew r4d (by omega) (by omega)).mono ?_; rintro e w5 ⟨y, rfl, hy, r5, g5⟩; have c5 : w5.cell? ⟨go, k, none⟩ = some (.int .u8 (x : Int)) := g5.cell c4d (by simp; omega); have o5 := o4d.since g5 hgw; have gr5 := grown_trans gr4d g5; have f5 := World.ownsRow.frozenAt o5 k; have hw1 : IntKind.i64.wrap (1 + (y : Int)) = 1 + (y : Int) := (by rw [IntKind.wrap_i64]; omega); have hw2 : IntKind.u8.wrap (1 + (y : Int)) = 1 + (y : Int) := (by rw [IntKind.wrap_u8']; omega); have hx8 : bits .xor .u8 (x : Int) (1 + (y : Int)) = ((x ^^^ (1 + y) : Nat) : Int) := u8_xor_nat x (1 + y) hx (by omega)))
      all_goals
        have hxl : x ^^^ (1 + y) < 256 := Nat.xor_lt_two_pow (n := 8) (by omega) (by omega)
        have S := World.ownsRow.stored o5 k (.int .u8 ((x ^^^ (1 + y) : Nat) : Int))
        have e6 : (bcells zs).set k (.int .u8 ((x ^^^ (1 + y) : Nat) : Int)) = bcells (zs.set k (x ^^^ (1 + y))) := by simp [bcells, List.map_set]
        rw [e6] at S
        have o6 : Own (w5.setCell ⟨go, k, none⟩ (.int .u8 ((x ^^^ (1 + y) : Nat) : Int))) w.heap.size (.slice (some ⟨go, 0, none⟩) zs.length c4) (zs.set k (x ^^^ (1 + y))) := by
          unfold Own
          rw [List.length_set]
          exact S.1
        have gr6 := grown_new gr5 S.2 (fun q e => by cases e; exact hgo)
        have r6 := r5.other S.2 (fun q e => by cases e; omega)
        have by6 : Byt (zs.set k (x ^^^ (1 + y))) := by
          intro z hz
          rcases List.mem_or_eq_of_mem_set hz with hz | rfl
          · exact hby z hz
          · exact hxl
        have ln6 : (zs.set k (x ^^^ (1 + y))).length ≤ zs.length + 1 := by simp
        clear S e6 o5 gr5 r5 g5 c5 f5 hw1 hw2 o4d gr4d r4d c4d o4 c40 r4 gr4 o4z
        go_wp2
        go_ret
        exact ⟨_, _, _, rfl, o6, by6, ln6, r6, by omega, gr6⟩

set_option maxRecDepth 100000 in
set_option maxHeartbeats 2000000 in
theorem turn_any (B g p Bb : Nat) (vb : Value) (cs zs : List Nat) (w : World) (h : Rdr w B g p cs) (hp : p ≤ 900000000) (hb : Own w Bb vb zs) (hby : Byt zs) (hg : g < Bb) (hlen : zs.length ≤ 1000000) :
    Calls Try.prog 14 #[.pointer (some ⟨g, 0, none⟩), vb] w fun e w' => ∃ v ys p', e = .returned v ∧ Own w' w.heap.size v ys ∧ Byt ys ∧ ys.length ≤ zs.length + 1 ∧ Rdr w' B g p' cs ∧ p' ≤ p + 3 ∧ w.grownBy w' (some g) := by
  have hgl := h.lt
  by_cases h0 : 0 < zs.length
  · obtain ⟨gb, c, rfl⟩ : ∃ gb c, vb = .slice (some ⟨gb, 0, none⟩) zs.length c := by
      rcases hb.2 with ⟨_, e⟩ | ⟨go, c, _, e, _⟩
      · omega
      · exact ⟨go, c, e⟩
    exact turn_cut B g p Bb gb zs.length c cs zs w h hp hb hby rfl h0 hg hlen
  · obtain ⟨a, c, rfl⟩ : ∃ a c, vb = .slice a 0 c := by
      rcases hb.2 with ⟨e, _⟩ | ⟨go, c, _, e, _⟩
      · exact ⟨_, _, e⟩
      · exact ⟨_, _, by rw [e]; congr 1; omega⟩
    go_enter Try.func14, Try.ntmps14
    go_wp2_with fail
    refine (pick_any B g p cs _ _ h (by omega) (by omega)).mono ?_
    rintro e w1 ⟨k, rfl, hk, r1, g1⟩
    have hz1 := g1.size
    have hkw : IntKind.u8.wrap (k : Int) = (k : Int) := by rw [IntKind.wrap_u8']; omega
    have o2 : Own (w1.alloc (.cells #[.int .u8 (k : Int)] 5)) w.heap.size (.slice (some ⟨w1.heap.size, 0, none⟩) 1 1) [k] :=
      World.ownsRow_lit (base := w.heap.size) (e := 5) (size := 1) w1 #[.int .u8 (k : Int)] 1 hz1 (by unfold maxLen; omega) rfl
    have r2 := r1.other (grown_alloc w1 (.cells #[.int .u8 (k : Int)] 5) none) (fun q e => by cases e)
    have gr2 := grown_trans g1 (grown_alloc w1 (.cells #[.int .u8 (k : Int)] 5) (some g))
    go_wp2
    go_ret
    exact ⟨_, [k], _, rfl, o2, fun z hz => by simp at hz; omega, by simp, r2, by omega, gr2⟩
end Go.Proofs.Ythbmafoikloocaa
