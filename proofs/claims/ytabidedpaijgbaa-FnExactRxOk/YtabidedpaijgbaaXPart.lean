/- What the exact laws do with pieces, and with what has come of a message: how many bytes, a copy, a comparison, marks and a look at them. -/
import Derived.Test.YtabidedpaijgbaaXBytes
import Derived.Test.YtabidedpaijgbaaFrmMath
import Derived.Test.YtabidedpaijgbaaOwnMore
import Derived.Deep.Light
namespace Go.Proofs.Ytabidedpaijgbaa
open Go.RowKit

set_option maxHeartbeats 1000000 in
theorem szBytes_small (a : Option Addr) (n cap m : Nat) (w : World) (h : n ≤ m) (hm : m ≤ 1048576) :
    Calls Try.prog 100 #[.slice a n cap, .int .i64 m] w fun e w' => e = .returned (.int .i64 ((m : Int) - (n : Int))) ∧ w' = w := by
  have h1 : ¬ (m : Int) - (n : Int) < 0 := by omega
  go_enter Try.func100, Try.ntmps100
  go_wp2
  go_ret
  exact ⟨rfl, rfl⟩
set_option maxHeartbeats 1000000 in
theorem szBytes_great (a : Option Addr) (n cap m : Nat) (w : World) (h : ¬ n ≤ m) (hm : m ≤ 1048576) (hn : n ≤ maxLen) :
    Calls Try.prog 100 #[.slice a n cap, .int .i64 m] w fun e w' => e = .returned (.int .i64 (-1)) ∧ w' = w := by
  have h1 : (m : Int) - (n : Int) < 0 := by omega
  unfold maxLen at hn
  go_enter Try.func100, Try.ntmps100
  go_wp2
  go_ret
  exact ⟨rfl, rfl⟩
set_option maxHeartbeats 1000000 in
theorem szPart_small (seg len : Int) (a : Option Addr) (n cap m : Nat) (w : World) (h : n ≤ m) (hm : m ≤ 1048576) :
    Calls Try.prog 104 #[.agg #[.int .i64 seg, .int .i64 len, .slice a n cap], .int .i64 m] w fun e w' => e = .returned (.int .i64 ((m : Int) - (n : Int))) ∧ Below w.heap.size w w' := by
  have h1 : ¬ (m : Int) - (n : Int) < 0 := by omega
  go_enter Try.func104, Try.ntmps104
  go_wp2_with (go_at_call 100; refine (szBytes_small _ _ _ m _ h hm).mono ?_; rintro e w1 ⟨rfl, h2⟩; subst h2)
  go_ret
  exact ⟨rfl, (Below.refl _ _).alloc (Nat.le_refl _) _⟩
set_option maxHeartbeats 1000000 in
theorem szPart_great (seg len : Int) (a : Option Addr) (n cap m : Nat) (w : World) (h : ¬ n ≤ m) (hm : m ≤ 1048576) (hn : n ≤ maxLen) :
    Calls Try.prog 104 #[.agg #[.int .i64 seg, .int .i64 len, .slice a n cap], .int .i64 m] w fun e w' => e = .returned (.int .i64 (-1)) ∧ Below w.heap.size w w' := by
  go_enter Try.func104, Try.ntmps104
  go_wp2_with (go_at_call 100; refine (szBytes_great _ _ _ m _ h hm hn).mono ?_; rintro e w1 ⟨rfl, h2⟩; subst h2)
  go_ret
  exact ⟨rfl, (Below.refl _ _).alloc (Nat.le_refl _) _⟩
set_option maxHeartbeats 2000000 in
theorem eqPart_same (seg len : Int) (s t : Value) (zs : List Nat) (w : World) (hs : Rd w s zs) (ht : Rd w t zs) :
    Calls Try.prog 110 #[.agg #[.int .i64 seg, .int .i64 len, s], .agg #[.int .i64 seg, .int .i64 len, t]] w fun e w' => e = .returned (.bool true) ∧ Below w.heap.size w w' := by
  obtain ⟨a, cap, rfl⟩ := hs.form
  obtain ⟨a', cap', rfl⟩ := ht.form
  have B0 := fun (o1 o2 : Obj) => ((Below.refl w.heap.size w).alloc (Nat.le_refl _) o1).alloc (by simp) o2
  have hs2 := fun (o1 o2 : Obj) => hs.kept (B0 o1 o2)
  have ht2 := fun (o1 o2 : Obj) => ht.kept (B0 o1 o2)
  go_enter Try.func110, Try.ntmps110
  go_wp2_with (go_at_call 55; refine (eqBytes_b _ _ zs _ (hs2 _ _) (ht2 _ _)).mono ?_; rintro e w1 ⟨rfl, b1⟩)
  go_ret
  exact ⟨rfl, (B0 _ _).trans (b1.mono (by simp; omega))⟩
set_option maxHeartbeats 1000000 in
theorem toPart_any (seg len : Int) (s : Value) (zs : List Nat) (w : World) (hs : Rd w s zs) :
    Calls Try.prog 106 #[.agg #[.int .i64 seg, .int .i64 len, s]] w fun e w' => ∃ v', e = .returned (.agg #[.int .i64 seg, .int .i64 len, v']) ∧ Own w' w.heap.size v' zs ∧ Below w.heap.size w w' := by
  obtain ⟨a, cap, rfl⟩ := hs.form
  have hs3 := ((hs.alloc (.cells #[.int .i64 seg, .int .i64 len, .slice a zs.length cap] 135)).alloc (.cells #[.int .i64 0, .int .i64 0, .slice none 0 0] 137)).alloc (.cells #[.int .i64 seg, .int .i64 len, .slice none 0 0] 137)
  have bl3 := (((Below.refl w.heap.size w).alloc (Nat.le_refl _) (.cells #[.int .i64 seg, .int .i64 len, .slice a zs.length cap] 135)).alloc (by simp) (.cells #[.int .i64 0, .int .i64 0, .slice none 0 0] 137)).alloc (by simp; omega) (.cells #[.int .i64 seg, .int .i64 len, .slice none 0 0] 137)
  go_enter Try.func106, Try.ntmps106
  go_wp2_with fail
  refine (toBytes_any _ zs _ hs3).mono ?_
  rintro e w1 ⟨v1, rfl, o1, b1⟩
  have c1 := old_cell b1 (w.heap.size + 1) (by simp)
  have c2 := old_cell b1 (w.heap.size + 1 + 1) (by simp)
  have f1 := old_frozen b1 (w.heap.size + 1) (by simp)
  have f2 := old_frozen b1 (w.heap.size + 1 + 1) (by simp)
  have bl := bl3.trans (b1.mono (by simp; omega))
  obtain ⟨x1, n1, c, hv1⟩ : ∃ x n c, v1 = .slice x n c := by
    rcases o1.2 with ⟨h, _⟩ | ⟨g, cap, cur, h, _⟩
    · exact ⟨_, _, _, h⟩
    · exact ⟨_, _, _, h⟩
  clear b1 bl3 hs3
  rw [hv1] at o1 ⊢
  go_wp2
  refine bodyPost_ret (v := .agg #[.int .i64 seg, .int .i64 len, .slice x1 n1 c]) (by simp [results, Try.results106, go_sem, c1]) rfl ⟨_, rfl, ?_, ?_⟩
  · refine Own.base (B := w.heap.size + 1 + 1 + 1) ?_ (by omega)
    have o2 : Own w1 (w.heap.size + 1 + 1 + 1) (.slice x1 n1 c) zs := by simpa using o1
    iterate 4 refine Own.set ?_ _ _ _ (by omega)
    exact o2
  · iterate 4 refine Below.setCell ?_ (by dsimp only; omega) _
    exact bl
set_option maxHeartbeats 1000000 in
theorem szJoin_small (len : Int) (a : Option Addr) (n cap m : Nat) (w : World) (h : n ≤ m) (hm : m ≤ 1048576) :
    Calls Try.prog 61 #[.agg #[.int .i64 len, .slice a n cap], .int .i64 m] w fun e w' => e = .returned (.int .i64 ((m : Int) - (n : Int))) ∧ Below w.heap.size w w' := by
  have h1 : ¬ (m : Int) - (n : Int) < 0 := by omega
  go_enter Try.func61, Try.ntmps61
  go_wp2_with (go_at_call 100; refine (szBytes_small _ _ _ m _ h hm).mono ?_; rintro e w1 ⟨rfl, h2⟩; subst h2)
  go_ret
  exact ⟨rfl, (Below.refl _ _).alloc (Nat.le_refl _) _⟩
set_option maxHeartbeats 1000000 in
theorem szJoin_great (len : Int) (a : Option Addr) (n cap m : Nat) (w : World) (h : ¬ n ≤ m) (hm : m ≤ 1048576) (hn : n ≤ maxLen) :
    Calls Try.prog 61 #[.agg #[.int .i64 len, .slice a n cap], .int .i64 m] w fun e w' => e = .returned (.int .i64 (-1)) ∧ Below w.heap.size w w' := by
  go_enter Try.func61, Try.ntmps61
  go_wp2_with (go_at_call 100; refine (szBytes_great _ _ _ m _ h hm hn).mono ?_; rintro e w1 ⟨rfl, h2⟩; subst h2)
  go_ret
  exact ⟨rfl, (Below.refl _ _).alloc (Nat.le_refl _) _⟩
set_option maxHeartbeats 2000000 in
theorem eqJoin_same (len : Int) (s t : Value) (zs : List Nat) (w : World) (hs : Rd w s zs) (ht : Rd w t zs) :
    Calls Try.prog 69 #[.agg #[.int .i64 len, s], .agg #[.int .i64 len, t]] w fun e w' => e = .returned (.bool true) ∧ Below w.heap.size w w' := by
  obtain ⟨a, cap, rfl⟩ := hs.form
  obtain ⟨a', cap', rfl⟩ := ht.form
  have B0 := fun (o1 o2 : Obj) => ((Below.refl w.heap.size w).alloc (Nat.le_refl _) o1).alloc (by simp) o2
  have hs2 := fun (o1 o2 : Obj) => hs.kept (B0 o1 o2)
  have ht2 := fun (o1 o2 : Obj) => ht.kept (B0 o1 o2)
  go_enter Try.func69, Try.ntmps69
  go_wp2_with (go_at_call 55; refine (eqBytes_b _ _ zs _ (hs2 _ _) (ht2 _ _)).mono ?_; rintro e w1 ⟨rfl, b1⟩)
  go_ret
  exact ⟨rfl, (B0 _ _).trans (b1.mono (by simp; omega))⟩
set_option maxHeartbeats 1000000 in
theorem markJoin_any (len : Int) (B : Nat) (v : Value) (zs : List Nat) (k : Nat) (w : World) (hown : Own w B v zs) (hlen : zs.length ≤ 2000000) (hk : k ≤ 2000000) :
    Calls Try.prog 72 #[.agg #[.int .i64 len, v], .int .i64 k] w fun e w' => e = .returned (.int .i64 ((k + zs.length : Nat) : Int)) ∧ Own w' B v (marks k zs.length) ∧ w.grownBy w' v.ownBlock := by
  have h1 := fun o => hown.alloc o
  obtain ⟨x1, n1, c, hv1⟩ : ∃ x n c, v = .slice x n c := by
    rcases hown.2 with ⟨h, _⟩ | ⟨g, cap, cur, h, _⟩
    · exact ⟨_, _, _, h⟩
    · exact ⟨_, _, _, h⟩
  rw [hv1] at hown h1 ⊢
  go_enter Try.func72, Try.ntmps72
  go_wp2_with (go_at_call 56; refine (mark_any B _ zs k _ (h1 _) hlen hk).mono ?_; rintro e w1 ⟨rfl, o1, g1⟩)
  go_ret
  exact ⟨rfl, o1, grown_step (grown_alloc' _ _ _) g1⟩
set_option maxHeartbeats 1000000 in
theorem heldJoin_any (len : Int) (v : Value) (k n : Nat) (w : World) (hv : Rd w v (marks k n)) (hn : n ≤ 2000000) (hk : k ≤ 2000000) :
    Calls Try.prog 78 #[.agg #[.int .i64 len, v], .int .i64 k] w fun e w' => e = .returned (.int .i64 ((k + n : Nat) : Int)) ∧ Below w.heap.size w w' := by
  have h1 := fun o => hv.alloc o
  obtain ⟨a, cap, hv1⟩ := hv.form
  rw [hv1] at h1 ⊢
  have hneg : ¬ ((k + n : Nat) : Int) < 0 := by omega
  go_enter Try.func78, Try.ntmps78
  go_wp2_with (go_at_call 73; refine (held_any _ k n _ (h1 _) hn hk).mono ?_; rintro e w1 ⟨rfl, h2⟩; subst h2)
  go_ret
  exact ⟨rfl, (Below.refl _ _).alloc (Nat.le_refl _) _⟩
set_option maxHeartbeats 1000000 in
theorem toJoin_any (len : Int) (s : Value) (zs : List Nat) (w : World) (hs : Rd w s zs) :
    Calls Try.prog 65 #[.agg #[.int .i64 len, s]] w fun e w' => ∃ v', e = .returned (.agg #[.int .i64 len, v']) ∧ Own w' w.heap.size v' zs ∧ Below w.heap.size w w' := by
  obtain ⟨a, cap, rfl⟩ := hs.form
  have hs3 := ((hs.alloc (.cells #[.int .i64 len, .slice a zs.length cap] 24)).alloc (.cells #[.int .i64 0, .slice none 0 0] 29)).alloc (.cells #[.int .i64 len, .slice none 0 0] 29)
  have bl3 := (((Below.refl w.heap.size w).alloc (Nat.le_refl _) (.cells #[.int .i64 len, .slice a zs.length cap] 24)).alloc (by simp) (.cells #[.int .i64 0, .slice none 0 0] 29)).alloc (by simp; omega) (.cells #[.int .i64 len, .slice none 0 0] 29)
  go_enter Try.func65, Try.ntmps65
  go_wp2_with fail
  refine (toBytes_any _ zs _ hs3).mono ?_
  rintro e w1 ⟨v1, rfl, o1, b1⟩
  have c1 := old_cell b1 (w.heap.size + 1) (by simp)
  have c2 := old_cell b1 (w.heap.size + 1 + 1) (by simp)
  have f1 := old_frozen b1 (w.heap.size + 1) (by simp)
  have f2 := old_frozen b1 (w.heap.size + 1 + 1) (by simp)
  have bl := bl3.trans (b1.mono (by simp; omega))
  obtain ⟨x1, n1, c, hv1⟩ : ∃ x n c, v1 = .slice x n c := by
    rcases o1.2 with ⟨h, _⟩ | ⟨g, cap, cur, h, _⟩
    · exact ⟨_, _, _, h⟩
    · exact ⟨_, _, _, h⟩
  clear b1 bl3 hs3
  rw [hv1] at o1 ⊢
  go_wp2
  refine bodyPost_ret (v := .agg #[.int .i64 len, .slice x1 n1 c]) (by simp [results, Try.results65, go_sem, c1]) rfl ⟨_, rfl, ?_, ?_⟩
  · refine Own.base (B := w.heap.size + 1 + 1 + 1) ?_ (by omega)
    have o2 : Own w1 (w.heap.size + 1 + 1 + 1) (.slice x1 n1 c) zs := by simpa using o1
    iterate 3 refine Own.set ?_ _ _ _ (by omega)
    exact o2
  · iterate 3 refine Below.setCell ?_ (by dsimp only; omega) _
    exact bl
end Go.Proofs.Ytabidedpaijgbaa
