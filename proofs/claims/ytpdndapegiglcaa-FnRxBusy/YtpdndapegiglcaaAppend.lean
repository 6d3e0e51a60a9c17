/- Appending to a row of bytes that the call owns: what it reads then. -/
import Derived.Test.YtpdndapegiglcaaBytes
import Derived.Laws.AppendOwnNone
namespace Go.Proofs.Ytpdndapegiglcaa
open Go.RowKit

theorem add_at (b off j : Nat) : (⟨b, off, none⟩ : Addr).add j = ⟨b, off + j, none⟩ := by
  by_cases h : j = 0
  · subst h; rfl
  · simp [Addr.add, h]

theorem wpList_app (w : World) {ops : Array Oper} {rest : List Oper} {o : Oper} {a : Act} {Q : Exit → Act → World → Prop} (hgd : o.guard = none) (s x : Operand)
    (ho : o.op = .call { callee := .builtin .append, args := #[s, x], argTypes := #[22, 22] }) (B : Nat) (v : Value) (zs : List Nat) (hs : a.eval s = v) (hown : Own w B v zs)
    (u : Value) (ys : List Nat) (hx : a.eval x = u) (hr : Rd w u ys) (hl : zs.length + ys.length ≤ 4000000) (hB : B ≤ w.heap.size)
    (h : ∀ v' w', Own w' B v' (zs ++ ys) → w.grownBy w' v.ownBlock → wpList Try.prog ops Q rest (a.put o.dst v') w') : wpList Try.prog ops Q (o :: rest) a w := by
  obtain ⟨i0, hi, hz0, hz1, hz2⟩ := info_parts Try.infoB
  obtain ⟨_, _, hr⟩ := hr
  have key : ∀ (ad : Addr) (c : Nat), u = .slice (some ad) ys.length c → (∀ j, j < ys.length → w.cell? (ad.add j) = some (.int .u8 ((ys.getD j 0 : Nat) : Int))) → wpList Try.prog ops Q (o :: rest) a w := by
    intro ad c hu hc
    refine wpList_append_own w hgd s x 22 ho B 5 i0 (.int .u8 0) 1 1 Try.underlying22 hi hz0 hz1 hz2 rfl (by decide) v zs.length (bcells zs) hs hown ad ys.length c (bcells ys) (by rw [hx, hu]) (by rw [bcells_length]; omega) ?_ (bcells_one ys) (by unfold maxLen; omega) (by omega) hB ?_
    · intro j q hj
      have hj2 : j < ys.length := by
        have := (List.getElem?_eq_some_iff.1 hj).1
        rwa [bcells_length] at this
      rw [bcells_get ys j hj2] at hj
      rw [hc j hj2, hj]
    · intro v' w' h1 h2 _
      refine h v' w' ?_ h2
      unfold Own
      rw [bcells_append, List.length_append]
      exact h1
  rcases hr with ⟨rfl, ad, c, rfl, hn⟩ | ⟨b, off, cap, rfl, _, _, _, hc⟩
  · cases ad with
    | some ad => exact key ad c rfl (fun j hj => by simp at hj)
    | none =>
      obtain rfl := hn rfl
      refine wpList_append_own_none hgd s x 22 ho B 5 i0 1 Try.underlying22 hi v zs.length (bcells zs) hs hown hx ?_
      exact h v w (by simpa using hown) ⟨rfl, rfl, rfl, Nat.le_refl _, fun _ _ _ => rfl⟩
  · exact key ⟨b, off, none⟩ cap rfl (fun j hj => by rw [add_at]; exact hc j hj)

/-- The same as one step of a statement whose order is open. -/
theorem step_app {ops : Array Oper} {o : Oper} {a : Act} {w : World} {K : Act → World → Prop} {Q : Exit → Act → World → Prop} {E : Prop} (hgd : o.guard = none) (s x : Operand)
    (ho : o.op = .call { callee := .builtin .append, args := #[s, x], argTypes := #[22, 22] }) (B : Nat) (v : Value) (zs : List Nat) (hs : a.eval s = v) (hown : Own w B v zs)
    (u : Value) (ys : List Nat) (hx : a.eval x = u) (hr : Rd w u ys) (hl : zs.length + ys.length ≤ 4000000) (hB : B ≤ w.heap.size)
    (h : ∀ v' w', Own w' B v' (zs ++ ys) → w.grownBy w' v.ownBlock → K (a.put o.dst v') w') : if Region.wanted o (yielded ops a.tmps) = true then Oper.wp Try.prog o a w K Q else E := by
  have hw : Region.wanted o (yielded ops a.tmps) = true := by simp [Region.wanted, hgd]
  rw [if_pos hw]
  obtain ⟨i0, hi, hz0, hz1, hz2⟩ := info_parts Try.infoB
  obtain ⟨_, _, hr⟩ := hr
  have key : ∀ (ad : Addr) (c : Nat), u = .slice (some ad) ys.length c → (∀ j, j < ys.length → w.cell? (ad.add j) = some (.int .u8 ((ys.getD j 0 : Nat) : Int))) → Oper.wp Try.prog o a w K Q := by
    intro ad c hu hc
    refine wp_append_own w s x 22 ho B 5 i0 (.int .u8 0) 1 1 Try.underlying22 hi hz0 hz1 hz2 rfl (by decide) v zs.length (bcells zs) hs hown ad ys.length c (bcells ys) (by rw [hx, hu]) (by rw [bcells_length]; omega) ?_ (bcells_one ys) (by unfold maxLen; omega) (by omega) hB ?_
    · intro j q hj
      have hj2 : j < ys.length := by
        have := (List.getElem?_eq_some_iff.1 hj).1
        rwa [bcells_length] at this
      rw [bcells_get ys j hj2] at hj
      rw [hc j hj2, hj]
    · intro v' w' h1 h2 _
      refine h v' w' ?_ h2
      unfold Own
      rw [bcells_append, List.length_append]
      exact h1
  rcases hr with ⟨rfl, ad, c, rfl, hn⟩ | ⟨b, off, cap, rfl, _, _, _, hc⟩
  · cases ad with
    | some ad => exact key ad c rfl (fun j hj => by simp at hj)
    | none =>
      obtain rfl := hn rfl
      have hrun := run_append_owned_none (P := Try.prog) (w := w) B 22 o.type 5 i0 1 Try.underlying22 hi v zs.length (bcells zs) hown
      unfold Oper.wp
      simp [execOp, ho, resolve, invoke, builtin, hs, hx, hrun, Result.andThen]
      exact h v w (by simpa using hown) ⟨rfl, rfl, rfl, Nat.le_refl _, fun _ _ _ => rfl⟩
  · exact key ⟨b, off, none⟩ cap rfl (fun j hj => by rw [add_at]; exact hc j hj)

theorem Rd.head {w : World} {b off cap m : Nat} {zs : List Nat} (n : Nat) (h : Rd w (.slice (some ⟨b, off, none⟩) m cap) zs) (hm : m = zs.length) (hn : n ≤ m) (h0 : 0 < m) : Rd w (.slice (some ⟨b, off, none⟩) n cap) (zs.take n) := by
  subst hm
  obtain ⟨h1, h2, h3⟩ := h
  have hl : (zs.take n).length = n := by rw [List.length_take]; omega
  refine ⟨h1.take n, by omega, .inr ⟨b, off, cap, by rw [hl], ?_, ?_, ?_, ?_⟩⟩
  all_goals
    rcases h3 with ⟨rfl, _⟩ | ⟨b', off', cap', e, h4, h5, h6, h7⟩
    · simp at h0
    · simp only [Value.slice.injEq, Option.some.injEq, Addr.mk.injEq, and_true, true_and] at e
      obtain ⟨⟨rfl, rfl⟩, rfl⟩ := e
      first
        | omega
        | (intro j hj
           rw [hl] at hj
           rw [h7 j (by omega)]
           simp [hj])

theorem own_none (w : World) (B : Nat) : Own w B (.slice none 0 0) [] := World.ownsRow_nil w B 5 1
theorem own_empty (w : World) (B : Nat) (hB : B ≤ w.heap.size) : Own (w.alloc (.cells #[] 5)) B (.slice (some ⟨w.heap.size, 0, none⟩) 0 0) [] :=
  World.ownsRow_lit (base := B) (e := 5) (size := 1) w #[] 0 hB (by unfold maxLen; omega) rfl
theorem rd_two (w : World) (x y : Nat) (hx : x < 256) (hy : y < 256) : Rd (w.alloc (.cells #[.int .u8 (x : Int), .int .u8 (y : Int)] 5)) (.slice (some ⟨w.heap.size, 0, none⟩) 2 2) [x, y] := by
  refine ⟨?_, by simp, .inr ⟨w.heap.size, 0, 2, rfl, by simp, by unfold maxLen; omega, by simp, ?_⟩⟩
  · intro z hz
    simp at hz
    omega
  · intro j hj
    match j, hj with
    | 0, _ => simp
    | 1, _ => simp
theorem Own.alloc {w : World} {B : Nat} {v : Value} {zs : List Nat} (h : Own w B v zs) (o : Obj) : Own (w.alloc o) B v zs := World.ownsRow.alloc h o
theorem Rd.alloc {w : World} {v : Value} {zs : List Nat} (h : Rd w v zs) (o : Obj) : Rd (w.alloc o) v zs := h.kept ((Below.refl _ _).alloc (Nat.le_refl _) o)
theorem run_cap (n : Nat) (hn : n ≤ 4000000) (w : World) : (Instr.makeSlice 22 (.int .i64 0) (.int .i64 (n : Int))).run Try.prog w = .ok (.slice (some ⟨w.heap.size, 0, none⟩) 0 n) (w.alloc (.cells (madeCells #[.int .u8 0] n) 5)) := by
  obtain ⟨i0, hi, hz0, hz1, hz2⟩ := info_parts Try.infoB
  have := run_make (P := Try.prog) w 22 5 i0 (.int .u8 0) Try.underlying22 hi hz0 .i64 .i64 0 (n : Int) (by omega) (by omega) (by rw [hz2]; omega) (by omega)
  rw [this, hz1]
  simp [Value.cells]
theorem own_cap (w : World) (B n : Nat) (hB : B ≤ w.heap.size) (hn : n ≤ 4000000) : Own (w.alloc (.cells (madeCells #[.int .u8 0] n) 5)) B (.slice (some ⟨w.heap.size, 0, none⟩) 0 n) [] :=
  World.ownsRow_made (base := B) (e := 5) (size := 1) w _ n hB (by unfold maxLen; omega) (by rw [size_madeCells]; omega)

theorem hide {p : Prop} (h : p) : Hid p := h
theorem unhide {p : Prop} (h : Hid p) : p := h
theorem own_apart {w1 w2 : World} {B1 B2 : Nat} {v1 v2 : Value} {z1 z2 : List Nat} (h1 : Own w1 B1 v1 z1) (hB : w1.heap.size ≤ B2) (h2 : Own w2 B2 v2 z2) : ∀ k, v1.ownBlock = some k → v2.ownBlock ≠ some k := by
  intro k e1 e2
  have a := (World.ownsRow.lt h1 k e1).2
  have b := (World.ownsRow.lt h2 k e2).1
  omega
theorem apart_symm {v1 v2 : Value} (h : ∀ k, v1.ownBlock = some k → v2.ownBlock ≠ some k) : ∀ k, v2.ownBlock = some k → v1.ownBlock ≠ some k := fun k e1 e2 => h k e2 e1
end Go.Proofs.Ytpdndapegiglcaa
