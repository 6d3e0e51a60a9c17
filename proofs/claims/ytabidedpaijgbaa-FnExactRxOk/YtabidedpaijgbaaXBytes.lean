/- What the exact laws do with lists of bytes: a copy, a comparison, marks and a look at the marks. -/
import Derived.Test.YtabidedpaijgbaaAppend
namespace Go.Proofs.Ytabidedpaijgbaa
open Go.RowKit

set_option maxHeartbeats 800000 in
theorem toBytes_any (v : Value) (zs : List Nat) (w : World) (hv : Rd w v zs) :
    Calls Try.prog 53 #[v] w fun e w' => ∃ v', e = .returned v' ∧ Own w' w.heap.size v' zs ∧ Below w.heap.size w w' := by
  obtain ⟨hby, hlen, hv⟩ := hv
  rcases hv with ⟨rfl, a, c, rfl, _⟩ | ⟨b, off, cap, rfl, hcap, hm, hb, hc⟩
  · have hmk : ∀ w : World, (Instr.makeSlice 22 (.int .i64 0) (.int .i64 0)).run Try.prog w = .ok (.slice (some ⟨w.heap.size, 0, none⟩) 0 0) (w.alloc (.cells (madeCells #[.int .u8 0] 0) 5)) := run_make_row' (P := Try.prog) 22 5 (.int .u8 0) 1 Try.underlying22 Try.infoB rfl .i64 .i64 0 (by omega) (by omega)
    go_enter Try.func53, Try.ntmps53
    go_wp2
    go_loopw [4] (fun i wr => i = .int .i64 0 ∧ wr = w.alloc (.cells (madeCells #[.int .u8 0] 0) 5)) (fun _ _ => 0)
    case atStart => exact ⟨rfl, rfl⟩
    case round =>
      obtain ⟨rfl, rfl⟩ := hrel
      go_wp2
      go_ret
      exact ⟨_, rfl, made_part [] (by simp), (Below.refl _ _).alloc (Nat.le_refl _) _⟩
  · have hmk := run_make_row' (P := Try.prog) 22 5 (.int .u8 0) 1 Try.underlying22 Try.infoB rfl .i64 .i64 zs.length (by omega) (by omega)
    go_enter Try.func53, Try.ntmps53
    go_wp2
    clear hmk
    go_loopw [4] (fun i wr => ∃ k : Nat, k ≤ zs.length ∧ i = .int .i64 k ∧ wr.ownsRow w.heap.size 5 1 (.slice (some ⟨w.heap.size, 0, none⟩) zs.length zs.length) zs.length (part zs k) ∧ Below w.heap.size w wr) (fun i _ => zs.length - (intOf i).toNat)
    case atStart => exact ⟨0, Nat.zero_le _, rfl, made_part zs hlen, (Below.refl _ _).alloc (Nat.le_refl _) _⟩
    case round =>
      obtain ⟨k, hk, rfl, hown, hbl⟩ := hrel
      by_cases hlt : k < zs.length
      · have c1 : wr.cell? ⟨b, off + k, none⟩ = some (.int .u8 ((zs.getD k 0 : Nat) : Int)) := (hbl.cell (p := ⟨b, off + k, none⟩) hb).trans (hc k hlt)
        obtain ⟨u, c2⟩ : ∃ u, wr.cell? ⟨w.heap.size, k, none⟩ = some u := by
          rw [hown.cellAt k (by omega)]
          exact ⟨_, List.getElem?_eq_getElem (by rw [part_length zs k hk]; exact hlt)⟩
        have c3 := hown.frozenAt k
        have S := hown.stored k (.int .u8 ((zs.getD k 0 : Nat) : Int))
        rw [part_set zs k hlt] at S
        have HS := S.1
        have HB : Below w.heap.size w (wr.setCell ⟨w.heap.size, k, none⟩ (.int .u8 ((zs.getD k 0 : Nat) : Int))) := hbl.setCell (Nat.le_refl _) _
        clear S
        generalize zs.getD k 0 = x at *
        go_wp2
        go_roundw
        case rel => exact ⟨k + 1, by omega, by go_num, HS, HB⟩
        case measure => simp [intOf]; omega
      · have : k = zs.length := by omega
        subst this
        rw [part_all] at hown
        go_wp2
        go_ret
        exact ⟨_, rfl, hown, hbl⟩

set_option maxHeartbeats 800000 in
theorem eqBytes_same (v u : Value) (zs : List Nat) (w : World) (hv : Rd w v zs) (hu : Rd w u zs) :
    Calls Try.prog 55 #[v, u] w fun e w' => e = .returned (.bool true) ∧ ∃ n, w' = w.drewN n := by
  obtain ⟨hby, hlen, hv⟩ := hv
  obtain ⟨_, _, hu⟩ := hu
  by_cases hn : zs.length = 0
  · obtain rfl := List.length_eq_zero_iff.1 hn
    obtain ⟨a, c, rfl⟩ : ∃ a c, v = .slice a 0 c := by
      rcases hv with ⟨_, a, c, rfl, _⟩ | ⟨b, off, cap, rfl, _⟩
      · exact ⟨_, _, rfl⟩
      · exact ⟨_, _, rfl⟩
    obtain ⟨a', c', rfl⟩ : ∃ a c, u = .slice a 0 c := by
      rcases hu with ⟨_, a, c, rfl, _⟩ | ⟨b, off, cap, rfl, _⟩
      · exact ⟨_, _, rfl⟩
      · exact ⟨_, _, rfl⟩
    clear hv hu hn
    go_enter Try.func55, Try.ntmps55
    go_wp2
    go_loop [5] (fun i => i = .int .i64 0) (fun _ => 0)
    case atStart => exact rfl
    case round =>
      obtain rfl := hrel
      go_wp2
      go_ret
      exact ⟨rfl, 0, rfl⟩
  · rcases hv with ⟨rfl, _⟩ | ⟨b, off, cap, rfl, _, _, hb, hc⟩
    · simp at hn
    rcases hu with ⟨rfl, _⟩ | ⟨b', off', cap', rfl, _, _, hb', hc'⟩
    · simp at hn
    go_enter Try.func55, Try.ntmps55
    go_wp2
    go_loopw [5] (fun i wr => ∃ k n : Nat, k ≤ zs.length ∧ i = .int .i64 k ∧ wr = w.drewN n) (fun i _ => zs.length - (intOf i).toNat)
    case atStart => exact ⟨0, 0, Nat.zero_le _, rfl, rfl⟩
    case round =>
      obtain ⟨k, n, hk, rfl, rfl⟩ := hrel
      by_cases hlt : k < zs.length
      · have c1 := hc k hlt
        have c2 := hc' k hlt
        clear hc hc'
        generalize zs.getD k 0 = x at *
        go_wp2
        go_quiet (fail)
        go_wp2
        go_roundw
        case rel => exact ⟨k + 1, _, by omega, by go_num, rfl⟩
        case measure => simp [intOf]; omega
      · have : k = zs.length := by omega
        subst this
        go_wp2
        go_ret
        exact ⟨rfl, _, rfl⟩

/-- Marks: a number a place, from k on, as bytes. -/
def marks (k n : Nat) : List Nat := (List.range n).map fun j => (k + j) % 256
theorem marks_length (k n : Nat) : (marks k n).length = n := by simp [marks]
theorem marks_byt (k n : Nat) : Byt (marks k n) := by
  intro z hz
  simp only [marks, List.mem_map] at hz
  obtain ⟨j, _, rfl⟩ := hz
  omega
theorem marks_get (k n j : Nat) (h : j < n) : (marks k n).getD j 0 = (k + j) % 256 := by simp [marks, h]
/-- The row zs whose first j places are marked. -/
def marked (k : Nat) (zs : List Nat) (j : Nat) : List Nat := marks k j ++ zs.drop j
theorem marked_zero (k : Nat) (zs : List Nat) : marked k zs 0 = zs := by simp [marked, marks]
theorem marked_all (k : Nat) (zs : List Nat) : marked k zs zs.length = marks k zs.length := by simp [marked]
theorem marked_length (k : Nat) (zs : List Nat) (j : Nat) (h : j ≤ zs.length) : (marked k zs j).length = zs.length := by simp [marked, marks_length]; omega
theorem marked_set (k : Nat) (zs : List Nat) (j : Nat) (h : j < zs.length) : (marked k zs j).set j ((k + j) % 256) = marked k zs (j + 1) := by
  unfold marked
  rw [List.set_append, if_neg (by rw [marks_length]; omega), marks_length, Nat.sub_self, List.drop_eq_getElem_cons h, List.set_cons_zero]
  simp [marks, List.range_succ]

theorem byte_wrap (n : Nat) : IntKind.u8.wrap (n : Int) = ((n % 256 : Nat) : Int) := by
  rw [IntKind.wrap_u8']; omega

set_option maxHeartbeats 800000 in
theorem mark_any (B : Nat) (v : Value) (zs : List Nat) (k : Nat) (w : World) (hown : Own w B v zs) (hlen : zs.length ≤ 2000000) (hk : k ≤ 2000000) :
    Calls Try.prog 56 #[v, .int .i64 k] w fun e w' => e = .returned (.int .i64 ((k + zs.length : Nat) : Int)) ∧ Own w' B v (marks k zs.length) ∧ w.grownBy w' v.ownBlock := by
  have h0 := hown
  rcases hown.2 with ⟨rfl, hz⟩ | ⟨g, cap, cur, rfl, _⟩
  · obtain rfl := List.length_eq_zero_iff.1 hz
    go_enter Try.func56, Try.ntmps56
    go_wp2
    go_loop [1, 5] (fun q i => i = .int .i64 0 ∧ q = .int .i64 k) (fun _ _ => 0)
    case atStart => exact ⟨rfl, rfl⟩
    case round =>
      obtain ⟨rfl, rfl⟩ := hrel
      go_wp2
      go_ret
      exact ⟨rfl, h0, ⟨rfl, rfl, rfl, Nat.le_refl _, fun _ _ _ => rfl⟩⟩
  · clear hown
    go_enter Try.func56, Try.ntmps56
    go_wp2
    go_loopw [1, 5] (fun q i wr => ∃ j : Nat, j ≤ zs.length ∧ i = .int .i64 j ∧ q = .int .i64 ((k + j : Nat) : Int) ∧ wr.ownsRow B 5 1 (.slice (some ⟨g, 0, none⟩) zs.length cap) zs.length (bcells (marked k zs j)) ∧ w.grownBy wr (some g)) (fun _ i _ => zs.length - (intOf i).toNat)
    case atStart => exact ⟨0, Nat.zero_le _, rfl, rfl, by rw [marked_zero]; exact h0, ⟨rfl, rfl, rfl, Nat.le_refl _, fun _ _ _ => rfl⟩⟩
    case round =>
      obtain ⟨j, hj, rfl, rfl, hown, hgr⟩ := hrel
      by_cases hlt : j < zs.length
      · obtain ⟨u, c2⟩ : ∃ u, wr.cell? ⟨g, j, none⟩ = some u := by
          rw [hown.cellAt j (by omega)]
          exact ⟨_, List.getElem?_eq_getElem (by rw [bcells_length, marked_length k zs j hj]; exact hlt)⟩
        have c3 := hown.frozenAt j
        have S := hown.stored j (.int .u8 (((k + j) % 256 : Nat) : Int))
        have e : (bcells (marked k zs j)).set j (.int .u8 (((k + j) % 256 : Nat) : Int)) = bcells (marked k zs (j + 1)) := by
          rw [← marked_set k zs j hlt]; simp [bcells, List.map_set]
        rw [e] at S
        obtain ⟨S1, S2⟩ := S
        have HG : w.grownBy (wr.setCell ⟨g, j, none⟩ (.int .u8 (((k + j) % 256 : Nat) : Int))) (some g) :=
          ⟨S2.os.trans hgr.os, S2.tape.trans hgr.tape, S2.output.trans hgr.output, Nat.le_trans hgr.size S2.size, fun q hq hne => (S2.block q (Nat.lt_of_lt_of_le hq hgr.size) hne).trans (hgr.block q hq hne)⟩
        have HE : Hid ((bcells (marked k zs j)).set j (.int .u8 (((k + j) % 256 : Nat) : Int)) = bcells (marked k zs (j + 1))) := e
        have hw := byte_wrap (k + j)
        clear e S2
        go_wp2
        go_roundw
        case rel => exact ⟨j + 1, by omega, by go_num, by go_num, S1, HG⟩
        case measure => simp [intOf]; omega
      · have : j = zs.length := by omega
        subst this
        rw [marked_all] at hown
        go_wp2
        go_ret
        refine ⟨rfl, ?_, hgr⟩
        unfold Own
        rw [marks_length]
        exact hown

set_option maxHeartbeats 800000 in
theorem held_any (v : Value) (k n : Nat) (w : World) (hv : Rd w v (marks k n)) (hn : n ≤ 2000000) (hk : k ≤ 2000000) :
    Calls Try.prog 73 #[v, .int .i64 k] w fun e w' => e = .returned (.int .i64 ((k + n : Nat) : Int)) ∧ w' = w := by
  obtain ⟨hby, hlen, hv⟩ := hv
  simp only [marks_length] at hv hlen
  by_cases h0 : n = 0
  · subst h0
    obtain ⟨a, c, rfl⟩ : ∃ a c, v = .slice a 0 c := by
      rcases hv with ⟨_, a, c, rfl, _⟩ | ⟨b, off, cap, rfl, _⟩
      · exact ⟨_, _, rfl⟩
      · exact ⟨_, _, rfl⟩
    clear hv
    go_enter Try.func73, Try.ntmps73
    go_wp2
    go_loop [1, 5] (fun q i => i = .int .i64 0 ∧ q = .int .i64 k) (fun _ _ => 0)
    case atStart => exact ⟨rfl, rfl⟩
    case round =>
      obtain ⟨rfl, rfl⟩ := hrel
      go_wp2
      go_ret
      exact ⟨rfl, rfl⟩
  · rcases hv with ⟨h, _⟩ | ⟨b, off, cap, rfl, _, _, hb, hc⟩
    · exact absurd (by rw [← marks_length k n, h]; rfl) h0
    go_enter Try.func73, Try.ntmps73
    go_wp2
    go_loop [1, 5] (fun q i => ∃ j : Nat, j ≤ n ∧ i = .int .i64 j ∧ q = .int .i64 ((k + j : Nat) : Int)) (fun _ i => n - (intOf i).toNat)
    case atStart => exact ⟨0, Nat.zero_le _, rfl, rfl⟩
    case round =>
      obtain ⟨j, hj, rfl, rfl⟩ := hrel
      by_cases hlt : j < n
      · have c1 := hc j hlt
        rw [marks_get k n j hlt] at c1
        have hw := byte_wrap (k + j)
        clear hc
        go_wp2
        go_round
        case rel => exact ⟨j + 1, by omega, by go_num, by go_num⟩
        case measure => simp [intOf]; omega
      · have : j = n := by omega
        subst this
        go_wp2
        go_ret
        exact ⟨rfl, rfl⟩
theorem eqBytes_b (v u : Value) (zs : List Nat) (w : World) (hv : Rd w v zs) (hu : Rd w u zs) :
    Calls Try.prog 55 #[v, u] w fun e w' => e = .returned (.bool true) ∧ Below w.heap.size w w' := by
  refine (eqBytes_same v u zs w hv hu).mono ?_
  rintro e w1 ⟨rfl, n, rfl⟩
  exact ⟨rfl, below_drew n⟩
theorem mark1 (W : World) (B : Nat) (v : Value) (zs : List Nat) (w : World) (hown : Own w B v zs) (hlen : zs.length ≤ 2000000) (hb : Below W.heap.size W w) (hB : W.heap.size ≤ B) :
    Calls Try.prog 56 #[v, .int .i64 1] w fun e w' => e = .returned (.int .i64 (1 + (zs.length : Int))) ∧ Own w' B v (marks 1 zs.length) ∧ w.grownBy w' v.ownBlock ∧ Below W.heap.size W w' := by
  refine (mark_any B v zs 1 w hown hlen (by omega)).mono ?_
  rintro e w1 ⟨rfl, h1, h2⟩
  exact ⟨rfl, h1, h2, hb.grown h2 hb.size (fun k e => Nat.le_trans hB (World.ownsRow.lt hown k e).1)⟩
theorem held1 (v : Value) (n : Nat) (B : Nat) (w : World) (hown : Own w B v (marks 1 n)) (hn : n ≤ 2000000) :
    Calls Try.prog 73 #[v, .int .i64 1] w fun e w' => e = .returned (.int .i64 (1 + (n : Int))) ∧ Below w.heap.size w w' := by
  refine (held_any v 1 n w (hown.rd (marks_byt 1 n) (by rw [marks_length]; omega)) hn (by omega)).mono ?_
  rintro e w1 ⟨rfl, rfl⟩
  exact ⟨rfl, Below.refl _ _⟩
end Go.Proofs.Ytabidedpaijgbaa
