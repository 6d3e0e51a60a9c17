/- What the exact laws do with frames: a copy, how many bytes, a comparison. -/
import Derived.Test.YtfeaagjnfncdnaaXBytes
import Derived.Test.YtfeaagjnfncdnaaFrmMath
import Derived.Deep.Light
namespace Go.Proofs.Ytfeaagjnfncdnaa
open Go.RowKit

theorem Own.base {w : World} {B C : Nat} {v : Value} {zs : List Nat} (h : Own w B v zs) (hc : C ≤ B) : Own w C v zs := by
  refine ⟨h.1, ?_⟩
  rcases h.2 with h0 | ⟨g, cap, cur, e, hb, r⟩
  · exact .inl h0
  · exact .inr ⟨g, cap, cur, e, Nat.le_trans hc hb, r⟩
theorem Own.set {w : World} {B : Nat} {v : Value} {zs : List Nat} (h : Own w B v zs) (b o : Nat) (x : Value) (hb : b < B) : Own (w.setCell ⟨b, o, none⟩ x) B v zs := ownsRow_setCell_below h hb x
/-- Cells of old blocks behind a call. -/
theorem old_cell {W w1 : World} (hb : Below W.heap.size W w1) (b : Nat) (h : b < W.heap.size) : ∀ o, w1.cell? ⟨b, o, none⟩ = W.cell? ⟨b, o, none⟩ := fun o => hb.cell (p := ⟨b, o, none⟩) h
theorem old_frozen {W w1 : World} (hb : Below W.heap.size W w1) (b : Nat) (h : b < W.heap.size) : ∀ o, w1.frozen? ⟨b, o, none⟩ = W.frozen? ⟨b, o, none⟩ := fun o => hb.frozen (p := ⟨b, o, none⟩) h

set_option maxHeartbeats 1000000 in
theorem toFrame_any (kind seq ack : Int) (poll final : Bool) (say seg len : Int) (s : Value) (zs : List Nat) (w : World) (hs : Rd w s zs) :
    Calls Try.prog 7 #[.agg #[.int .i64 kind, .int .i64 seq, .int .i64 ack, .bool poll, .bool final, .int .i64 say, .int .i64 seg, .int .i64 len, s]] w fun e w' => ∃ v', e = .returned (.agg #[.int .i64 kind, .int .i64 seq, .int .i64 ack, .bool poll, .bool final, .int .i64 say, .int .i64 seg, .int .i64 len, v']) ∧ Own w' w.heap.size v' zs ∧ Below w.heap.size w w' := by
  obtain ⟨a, cap, rfl⟩ := hs.form
  have hs3 := ((hs.alloc (.cells #[.int .i64 kind, .int .i64 seq, .int .i64 ack, .bool poll, .bool final, .int .i64 say, .int .i64 seg, .int .i64 len, .slice a zs.length cap] 24)).alloc (.cells #[.int .i64 0, .int .i64 0, .int .i64 0, .bool false, .bool false, .int .i64 0, .int .i64 0, .int .i64 0, .slice none 0 0] 27)).alloc (.cells #[.int .i64 kind, .int .i64 seq, .int .i64 ack, .bool poll, .bool final, .int .i64 say, .int .i64 seg, .int .i64 len, .slice none 0 0] 27)
  have bl3 := (((Below.refl w.heap.size w).alloc (Nat.le_refl _) (.cells #[.int .i64 kind, .int .i64 seq, .int .i64 ack, .bool poll, .bool final, .int .i64 say, .int .i64 seg, .int .i64 len, .slice a zs.length cap] 24)).alloc (by simp) (.cells #[.int .i64 0, .int .i64 0, .int .i64 0, .bool false, .bool false, .int .i64 0, .int .i64 0, .int .i64 0, .slice none 0 0] 27)).alloc (by simp; omega) (.cells #[.int .i64 kind, .int .i64 seq, .int .i64 ack, .bool poll, .bool final, .int .i64 say, .int .i64 seg, .int .i64 len, .slice none 0 0] 27)
  go_enter Try.func7, Try.ntmps7
  go_wp2_with fail
  refine (toBytes_any _ zs _ hs3).mono ?_
  rintro e w1 ⟨v1, rfl, o1, b1⟩
  have c1 := old_cell b1 (w.heap.size + 1) (by simp)
  have c2 := old_cell b1 (w.heap.size + 1 + 1) (by simp)
  have f1 := old_frozen b1 (w.heap.size + 1) (by simp)
  have f2 := old_frozen b1 (w.heap.size + 1 + 1) (by simp)
  have bl := bl3.trans (b1.mono (by simp; omega))
  obtain ⟨x1, n1, c, hv1⟩ : ∃ x n c, v1 = .slice x n c := by
    rcases o1.2 with ⟨h, _⟩ | ⟨g, cap, cur, h, _⟩
    · exact ⟨_, _, _, h⟩
    · exact ⟨_, _, _, h⟩
  clear b1 bl3 hs3
  rw [hv1] at o1 ⊢
  go_wp2
  refine bodyPost_ret (v := .agg #[.int .i64 kind, .int .i64 seq, .int .i64 ack, .bool poll, .bool final, .int .i64 say, .int .i64 seg, .int .i64 len, .slice x1 n1 c]) (by simp [results, Try.results7, go_sem, c1]) rfl ⟨_, rfl, ?_, ?_⟩
  · refine Own.base (B := w.heap.size + 1 + 1 + 1) ?_ (by omega)
    have o2 : Own w1 (w.heap.size + 1 + 1 + 1) (.slice x1 n1 c) zs := by simpa using o1
    iterate 10 refine Own.set ?_ _ _ _ (by omega)
    exact o2
  · iterate 10 refine Below.setCell ?_ (by dsimp only; omega) _
    exact bl
set_option maxHeartbeats 1000000 in
theorem szFrame_small (kind seq ack : Int) (poll final : Bool) (say seg len : Int) (a : Option Addr) (n cap : Nat) (w : World) (h : n ≤ 1048576) :
    Calls Try.prog 5 #[.agg #[.int .i64 kind, .int .i64 seq, .int .i64 ack, .bool poll, .bool final, .int .i64 say, .int .i64 seg, .int .i64 len, .slice a n cap], .int .i64 1048576] w fun e w' => e = .returned (.int .i64 (1048576 - (n : Int))) ∧ Below w.heap.size w w' := by
  have h1 : ¬ (1048576 : Int) - (n : Int) < 0 := by omega
  go_enter Try.func5, Try.ntmps5
  go_wp2
  go_ret
  exact ⟨rfl, (Below.refl _ _).alloc (Nat.le_refl _) _⟩
set_option maxHeartbeats 1000000 in
theorem szFrame_great (kind seq ack : Int) (poll final : Bool) (say seg len : Int) (a : Option Addr) (n cap : Nat) (w : World) (h : ¬ n ≤ 1048576) (hm : n ≤ maxLen) :
    Calls Try.prog 5 #[.agg #[.int .i64 kind, .int .i64 seq, .int .i64 ack, .bool poll, .bool final, .int .i64 say, .int .i64 seg, .int .i64 len, .slice a n cap], .int .i64 1048576] w fun e w' => e = .returned (.int .i64 (-1)) ∧ Below w.heap.size w w' := by
  have h1 : (1048576 : Int) - (n : Int) < 0 := by omega
  unfold maxLen at hm
  go_enter Try.func5, Try.ntmps5
  go_wp2
  go_ret
  exact ⟨rfl, (Below.refl _ _).alloc (Nat.le_refl _) _⟩
set_option maxHeartbeats 2000000 in
theorem eqFrame_same (kind seq ack : Int) (poll final : Bool) (say seg len : Int) (s t : Value) (zs : List Nat) (w : World) (hs : Rd w s zs) (ht : Rd w t zs) :
    Calls Try.prog 9 #[.agg #[.int .i64 kind, .int .i64 seq, .int .i64 ack, .bool poll, .bool final, .int .i64 say, .int .i64 seg, .int .i64 len, s], .agg #[.int .i64 kind, .int .i64 seq, .int .i64 ack, .bool poll, .bool final, .int .i64 say, .int .i64 seg, .int .i64 len, t]] w fun e w' => e = .returned (.bool true) ∧ Below w.heap.size w w' := by
  obtain ⟨a, cap, rfl⟩ := hs.form
  obtain ⟨a', cap', rfl⟩ := ht.form
  have B0 := fun (o1 o2 : Obj) => ((Below.refl w.heap.size w).alloc (Nat.le_refl _) o1).alloc (by simp) o2
  have hs2 := fun (o1 o2 : Obj) => hs.kept (B0 o1 o2)
  have ht2 := fun (o1 o2 : Obj) => ht.kept (B0 o1 o2)
  go_enter Try.func9, Try.ntmps9
  go_wp2_with (go_at_call 12; refine (eqBytes_b _ _ zs _ (hs2 _ _) (ht2 _ _)).mono ?_; rintro e w1 ⟨rfl, b1⟩)
  go_ret
  exact ⟨rfl, (B0 _ _).trans (b1.mono (by simp; omega))⟩
end Go.Proofs.Ytfeaagjnfncdnaa
