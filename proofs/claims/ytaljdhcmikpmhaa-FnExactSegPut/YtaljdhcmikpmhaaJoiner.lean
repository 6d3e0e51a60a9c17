/- The program's joiner: a message that comes piece by piece, whose states are method values. -/
import Derived.Test.YtaljdhcmikpmhaaJoin
import Derived.Test.YtaljdhcmikpmhaaPiece
import Derived.Test.YtaljdhcmikpmhaaOwnMore
import Derived.Test.YtaljdhcmikpmhaaOpenRead
import Derived.Handy
namespace Go.Proofs.Ytaljdhcmikpmhaa
open Go.RowKit

/-- The joiner at block g: how long the message is, and what has come, in a row that the call owns from block B on. -/
def Jn (w : World) (B g : Nat) (whole : Int) (zs : List Nat) : Prop :=
  ∃ a c, CelF w g #[.int .i64 whole, .slice a zs.length c] ∧ Own w B (.slice a zs.length c) zs ∧ Typ w g 68 ∧ B ≤ g
theorem Jn.base {w : World} {B C g : Nat} {whole : Int} {zs : List Nat} (h : Jn w B g whole zs) (hc : C ≤ B) : Jn w C g whole zs := by
  obtain ⟨a, c, h1, h2, h3, h4⟩ := h
  exact ⟨a, c, h1, h2.base hc, h3, Nat.le_trans hc h4⟩
theorem Jn.kept {w w' : World} {B g : Nat} {whole : Int} {zs : List Nat} (h : Jn w B g whole zs) (hb : Below w.heap.size w w') : Jn w' B g whole zs := by
  obtain ⟨a, c, h1, h2, h3, h4⟩ := h
  exact ⟨a, c, h1.kept hb, h2.kept hb, h3.kept hb, h4⟩
theorem Own.form {w : World} {B : Nat} {v : Value} {zs : List Nat} (h : Own w B v zs) : ∃ a c, v = .slice a zs.length c := by
  rcases h.2 with ⟨h, h0⟩ | ⟨g, cap, cur, h, _⟩
  · exact ⟨_, _, by rw [h, h0]⟩
  · exact ⟨_, _, h⟩

set_option maxHeartbeats 1000000 in
theorem joiner_new (len : Int) (a : Option Addr) (cap : Nat) (zs : List Nat) (w : World) (hR : Rd w (.slice a zs.length cap) zs) (hl : zs.length ≤ 1000000) :
    Calls Try.prog 37 #[.agg #[.int .i64 len, .slice a zs.length cap]] w fun e w' => ∃ g, e = .returned (.pointer (some ⟨g, 0, none⟩)) ∧ Jn w' w.heap.size g len zs ∧ Below w.heap.size w w' := by
  go_enter Try.func37, Try.ntmps37
  go_wp2_with fail
  have hC := cel_box w #[.int .i64 len, .slice a zs.length cap] 43
  have b0 := (Below.refl w.heap.size w).alloc (Nat.le_refl _) (.cells #[.int .i64 len, .slice a zs.length cap] 43)
  have z0 : (w.alloc (.cells #[.int .i64 len, .slice a zs.length cap] 43)).heap.size = w.heap.size + 1 := by simp
  generalize w.alloc (.cells #[.int .i64 len, .slice a zs.length cap] 43) = w1 at hC b0 z0 ⊢
  have R1 := (hR.kept b0).kept (Below.refl _ _).drew
  obtain ⟨ι, W, inW, ofW⟩ := cls (fun w' => Below w1.heap.size w1.drew w')
  have ne : Nonempty ι := ⟨(inW _ (Below.refl _ _)).choose⟩
  have kW : ∀ x k, (W x).cell? ⟨w.heap.size, k, none⟩ = (#[.int .i64 len, .slice a zs.length cap] : Array Value)[k]? := fun x k => ((ofW x).cell (p := ⟨w.heap.size, k, none⟩) hC.1).trans (hC.2 k)
  refine region_by (fun w' => ∃ x, w' = W x) 7 [(0, true), (1, true), (2, true), (3, true), (4, false), (5, true), (6, false), (7, false)] ⟨none, .assign (.tmp 0), 0, "", #[], none⟩ (by kernel_rfl) (by kernel_rfl) (inW _ (Below.refl _ _)) (fun x _ _ _ _ h => by cases x <;> exact h) ?_
  simp only [arrange, List.map_cons, List.map_nil, List.getD_cons_zero, List.getD_cons_succ]
  iterate 4 (refine by_read rfl (fun K hK => ?_); go_simp; refine hK _ ?_; clear hK K)
  refine by_move rfl (fun K hK => ?_)
  refine step_app rfl (.const (.slice none 0 0)) (.tmp 6) rfl w1.heap.size (.slice none 0 0) [] rfl (own_none _ _) _ zs rfl R1 (by simp; omega) (by simp) ?_
  intro v2 w2 o2 g2
  have q2 : Below w1.heap.size w1.drew w2 := (Below.refl _ _).grown g2 (by simp) (by simp [Value.ownBlock])
  obtain ⟨a2, c2, rfl⟩ := o2.form
  refine hK _ _ (fun _ => inW _ q2) ?_
  clear hK K
  refine by_read rfl (fun K hK => ?_)
  go_simp
  refine hK _ ?_
  clear hK K
  refine by_move rfl (fun K hK => ?_)
  go_simp
  have z2 := q2.size
  have q3 := q2.alloc (by simpa using z2) (.cells #[.int .i64 len, .slice a2 zs.length c2] 68)
  refine hK _ _ (fun _ => inW _ q3) ?_
  clear hK K
  refine by_move rfl (fun K hK => ?_)
  go_simp
  refine hK _ _ (fun h => absurd h (by decide)) ?_
  clear hK K
  refine by_nil ?_
  clear kW ofW inW ne W ι
  go_wp2
  go_ret
  exact ⟨w2.heap.size, rfl, Jn.base (B := w1.heap.size) ⟨a2, c2, celF_box _ _ _, o2.alloc _, typ_box _ _ _, by simpa using z2⟩ (by omega), b0.trans (((Below.refl _ _).drew).trans (q3.mono (Nat.le_of_succ_le (Nat.le_of_eq z0.symm))))⟩
set_option maxHeartbeats 1000000 in
theorem joiner_add (B g : Nat) (whole : Int) (zs : List Nat) (seg le : Int) (a : Option Addr) (cap : Nat) (ys : List Nat) (w : World) (hJ : Jn w B g whole zs) (hR : Rd w (.slice a ys.length cap) ys) (hl : zs.length + ys.length ≤ 1000000) (hB : B ≤ w.heap.size) :
    Calls Try.prog 42 #[.pointer (some ⟨g, 0, none⟩), .agg #[.int .i64 seg, .int .i64 le, .slice a ys.length cap]] w fun e w' => e = .returned (.tuple #[]) ∧ Jn w' B g whole (zs ++ ys) ∧ Below B w w' := by
  obtain ⟨a0, c0, hC, hO, hT, hBg⟩ := hJ
  have hne := hT.row hO (by decide)
  have hlt := hC.1
  go_enter Try.func42, Try.ntmps42
  go_wp2_with fail
  have hD := cel_box w #[.int .i64 seg, .int .i64 le, .slice a ys.length cap] 35
  have hE := typ_box w #[.int .i64 seg, .int .i64 le, .slice a ys.length cap] 35
  have b0 := (Below.refl w.heap.size w).alloc (Nat.le_refl _) (.cells #[.int .i64 seg, .int .i64 le, .slice a ys.length cap] 35)
  have z0 : (w.alloc (.cells #[.int .i64 seg, .int .i64 le, .slice a ys.length cap] 35)).heap.size = w.heap.size + 1 := by simp
  generalize w.alloc (.cells #[.int .i64 seg, .int .i64 le, .slice a ys.length cap] 35) = w1 at hD hE b0 z0 ⊢
  have d1 : Below w1.heap.size w1 w1.drew := (Below.refl _ _).drew
  have R1 := (hR.kept b0).kept d1
  replace hC := (hC.kept b0).kept d1
  replace hO := (hO.kept b0).kept d1
  replace hD := hD.kept d1
  replace hT := (hT.kept b0).kept d1
  replace hE := hE.kept d1
  obtain ⟨ι, W, inW, ofW⟩ := cls (fun w' => CelF w' g #[.int .i64 whole, .slice a0 zs.length c0] ∧ Cel w' w.heap.size #[.int .i64 seg, .int .i64 le, .slice a ys.length cap])
  have ne : Nonempty ι := ⟨(inW _ ⟨hC, hD⟩).choose⟩
  have kW : ∀ x k, (W x).cell? ⟨g, k, none⟩ = (#[.int .i64 whole, .slice a0 zs.length c0] : Array Value)[k]? := fun x k => (ofW x).1.2.1 k
  have kV : ∀ x k, (W x).cell? ⟨w.heap.size, k, none⟩ = (#[.int .i64 seg, .int .i64 le, .slice a ys.length cap] : Array Value)[k]? := fun x k => (ofW x).2.2 k
  refine region_by (fun w' => ∃ x, w' = W x) 8 [(0, true), (1, true), (2, true), (3, true), (4, true), (5, true), (6, true), (7, false), (8, false), (9, false), (10, false)] ⟨none, .assign (.tmp 0), 0, "", #[], none⟩ (by kernel_rfl) (by kernel_rfl) (inW _ ⟨hC, hD⟩) (fun x _ _ _ _ h => by cases x <;> exact h) ?_
  simp only [arrange, List.map_cons, List.map_nil, List.getD_cons_zero, List.getD_cons_succ]
  iterate 2 (refine by_read rfl (fun K hK => ?_); go_simp; refine hK _ ?_; clear hK K)
  refine by_check (.tmp 5) ⟨g, 0, none⟩ rfl rfl rfl ?_
  iterate 4 (refine by_read rfl (fun K hK => ?_); go_simp; refine hK _ ?_; clear hK K)
  refine by_move rfl (fun K hK => ?_)
  refine step_app rfl (.tmp 8) (.tmp 10) rfl B (.slice a0 zs.length c0) zs rfl hO _ ys rfl R1 (by omega) (by simp; omega) ?_
  intro v2 w2 o2 g2
  have C2 := hC.other g2 hne
  have D2 := hD.other g2 (hE.row hO (by decide))
  have z2 := g2.size
  obtain ⟨a2, c2, hv2⟩ := o2.form
  have T2 := hT.other g2 hne
  have ap := T2.row o2 (by decide)
  subst hv2
  refine hK _ _ (fun _ => inW _ ⟨C2, D2⟩) ?_
  clear hK K
  have cs := C2.2.1
  have fs := C2.2.2
  iterate 3 (refine by_move rfl (fun K hK => ?_); go_simp; refine hK _ _ (fun h => absurd h (by decide)) ?_; clear hK K)
  refine by_nil ?_
  clear kW kV ofW inW ne W ι
  go_returns
  have C3 := C2.put 1 (by simp) (.slice a2 (zs.length + ys.length) c2)
  refine ⟨rfl, ⟨a2, c2, by rw [List.length_append]; exact C3, o2.far _ _ _ ap, T2.set _ _, hBg⟩, ?_⟩
  have q1 : Below B w w1.drew := (b0.mono hB).trans (d1.mono (by omega))
  exact (q1.grown g2 (by simp; omega) (fun k e => (World.ownsRow.lt hO k e).1)).setCell hBg _

/-- What comes of a piece that is ok where what has come is ok. -/
def putC (len : Int) (n : Nat) (seg : Int) (m : Nat) : Int :=
  if len = 0 then (if seg = 0 then 2 else if seg = 1 then 1 else 3) else if seg = 2 ∧ ((n + m : Nat) : Int) < len then 1 else if seg = 3 ∧ ((n + m : Nat) : Int) = len then 2 else 3
/-- The state in which a joiner answers. -/
def Stands (w : World) (B g : Nat) (f : Fn) (c whole : Int) (zs : List Nat) : Prop :=
  (c = 1 ∧ f = .func 44 ∧ Jn w B g whole zs) ∨ (c = 2 ∧ f = .func 43 ∧ ∃ n, Jn w B g n zs) ∨ (c = 3 ∧ f = .func 45)

theorem Jn.low {w : World} {B g : Nat} {whole : Int} {zs : List Nat} (h : Jn w B g whole zs) : B ≤ g := by
  obtain ⟨a, c, h1, h2, h3, h4⟩ := h
  exact h4
theorem Jn.cel {w : World} {B g : Nat} {whole : Int} {zs : List Nat} (h : Jn w B g whole zs) : ∃ a c, CelF w g #[.int .i64 whole, .slice a zs.length c] := by
  obtain ⟨a, c, h1, _⟩ := h
  exact ⟨a, c, h1⟩
theorem joiner_waiting (B g : Nat) (whole : Int) (zs : List Nat) (w : World) (hJ : Jn w B g whole zs) :
    Calls Try.prog 38 #[.pointer (some ⟨g, 0, none⟩)] w fun e w' => e = .returned (.func (.func (if whole = 0 then 40 else 41)) #[.pointer (some ⟨g, 0, none⟩)] #[]) ∧ w' = w := by
  obtain ⟨a, c, hC⟩ := hJ.cel
  have hc := hC.2.1
  by_cases h0 : whole = 0
  · subst h0
    go_enter Try.func38, Try.ntmps38
    go_wp2
    go_ret
    exact ⟨rfl, rfl⟩
  · have h1 : (whole == 0) = false := by simpa using h0
    rw [if_neg h0]
    go_enter Try.func38, Try.ntmps38
    go_wp2
    go_ret
    exact ⟨rfl, rfl⟩
theorem Jn.whole {w : World} {B g : Nat} {n m : Int} {zs : List Nat} (h : Jn w B g n zs) : Jn (w.setCell ⟨g, 0, none⟩ (.int .i64 m)) B g m zs := by
  obtain ⟨a, c, h1, h2, h3, h4⟩ := h
  exact ⟨a, c, by simpa using h1.put 0 (by simp) (.int .i64 m), h2.far _ _ _ (h3.row h2 (by decide)), h3.set _ _, h4⟩
set_option maxHeartbeats 1000000 in
theorem joiner_begin (B g : Nat) (zs : List Nat) (seg le : Int) (a : Option Addr) (cap : Nat) (ys : List Nat) (w : World) (hJ : Jn w B g 0 zs) (hR : ∀ W, Below B w W → Rd W (.slice a ys.length cap) ys) (hl : zs.length + ys.length ≤ 1000000) (hB : B ≤ w.heap.size) :
    Calls Try.prog 40 #[.pointer (some ⟨g, 0, none⟩), .agg #[.int .i64 seg, .int .i64 le, .slice a ys.length cap]] w fun e w' => ∃ f, e = .returned (.func f #[.pointer (some ⟨g, 0, none⟩)] #[]) ∧ Stands w' B g f (putC 0 zs.length seg ys.length) le (zs ++ ys) ∧ Below B w w' := by
  have b0 := fun o => (Below.refl B w).alloc hB o
  by_cases h0 : seg = 0
  · subst h0
    have hR1 := fun o => hR _ (b0 o)
    have hJ1 := fun o => hJ.kept ((Below.refl _ _).alloc (Nat.le_refl _) o)
    go_enter Try.func40, Try.ntmps40
    go_wp2_with (go_at_call 42; refine (joiner_add B g 0 zs _ _ _ _ ys _ (hJ1 _) (hR1 _) hl (by simp; omega)).mono ?_; rintro e w1 ⟨rfl, j1, b1⟩)
    go_ret
    exact ⟨_, rfl, .inr (.inl ⟨rfl, rfl, 0, j1⟩), (b0 _).trans b1⟩
  by_cases h1 : seg = 1
  · subst h1
    have hJ1 := fun o => (hJ.whole (m := le)).kept ((Below.refl _ _).alloc (Nat.le_refl _) o)
    have b1 := fun o => ((Below.refl B w).setCell (p := ⟨g, 0, none⟩) hJ.low (.int .i64 le)).alloc (by simpa using hB) o
    have hR1 := fun o => hR _ (b1 o)
    go_enter Try.func40, Try.ntmps40
    obtain ⟨a1, c1, hC, hO, hT, hg⟩ := hJ
    have hC1 := fun o => (hC.kept ((Below.refl _ _).alloc (Nat.le_refl _) o)).2.1
    have hF1 := fun o => (hC.kept ((Below.refl _ _).alloc (Nat.le_refl _) o)).2.2
    have hlt := hC.1
    go_wp2_with (go_at_call 42; refine (joiner_add B g le zs _ _ _ _ ys _ (hJ1 _) (hR1 _) hl (by simp; omega)).mono ?_; rintro e w1 ⟨rfl, j1, q1⟩)
    go_ret
    exact ⟨_, rfl, .inl ⟨rfl, rfl, j1⟩, (b1 _).trans q1⟩
  · have e0 : (seg == 0) = false := by simpa using h0
    have e1 : (seg == 1) = false := by simpa using h1
    go_enter Try.func40, Try.ntmps40
    go_wp2
    go_ret
    exact ⟨_, rfl, .inr (.inr ⟨by simp [putC, h0, h1], rfl⟩), b0 _⟩
set_option maxHeartbeats 1000000 in
theorem joiner_goOn (B g : Nat) (len : Int) (zs : List Nat) (seg le : Int) (a : Option Addr) (cap : Nat) (ys : List Nat) (w : World) (h0 : len ≠ 0) (hJ : Jn w B g len zs) (hR : ∀ W, Below B w W → Rd W (.slice a ys.length cap) ys) (hl : zs.length + ys.length ≤ 1000000) (hB : B ≤ w.heap.size) :
    Calls Try.prog 41 #[.pointer (some ⟨g, 0, none⟩), .agg #[.int .i64 seg, .int .i64 le, .slice a ys.length cap]] w fun e w' => ∃ f, e = .returned (.func f #[.pointer (some ⟨g, 0, none⟩)] #[]) ∧ Stands w' B g f (putC len zs.length seg ys.length) len (zs ++ ys) ∧ Below B w w' := by
  have b0 : ∀ o n, Below B w ((w.alloc o).drewN n) := fun o n => below_drewN ((Below.refl B w).alloc hB o) n
  have hR1 := fun o n => hR _ (b0 o n)
  have hJ1 : ∀ o n, Jn ((w.alloc o).drewN n) B g len zs := fun o n => hJ.kept (below_drewN ((Below.refl _ _).alloc (Nat.le_refl _) o) n)
  have hs : IntKind.i64.wrap ((zs.length : Int) + (ys.length : Int)) = (zs.length : Int) + (ys.length : Int) := by rw [IntKind.wrap_i64]; omega
  obtain ⟨a1, c1, hC⟩ := hJ.cel
  have hC1 := fun o => (hC.kept ((Below.refl _ _).alloc (Nat.le_refl _) o)).2.1
  have hlt := hC.1
  go_enter Try.func41, Try.ntmps41
  go_wp2_with fail
  go_quiet (fail)
  go_wp2_with (go_at_call 42; refine (joiner_add B g len zs _ _ _ _ ys _ (hJ1 _ _) (hR1 _ _) hl (by simp; omega)).mono ?_; rintro e w1 ⟨rfl, j1, b1⟩)
  all_goals
    go_ret
    refine ⟨_, rfl, ?_, ?_⟩
    · first
        | refine .inl ⟨?_, rfl, j1⟩
        | refine .inr (.inl ⟨?_, rfl, _, j1⟩)
        | refine .inr (.inr ⟨?_, rfl⟩)
      go_light
      grind [putC]
    · first
        | exact (b0 _ _).trans b1
        | exact b0 _ _
set_option maxHeartbeats 1000000 in
theorem joiner_more (B g : Nat) (len : Int) (zs : List Nat) (w : World) (hJ : Jn w B g len zs) :
    Calls Try.prog 44 #[.pointer (some ⟨g, 0, none⟩)] w fun e w' => ∃ v, e = .returned (.tuple #[.agg #[.int .i64 len, v], .slice none 0 0, .int .i64 1]) ∧ Own w' B v zs ∧ Below w.heap.size w w' := by
  obtain ⟨a, c, hC, hO, hT, hB⟩ := hJ
  go_enter Try.func44, Try.ntmps44
  go_wp2
  have hD := celF_box w #[.int .i64 0, .slice none 0 0] 43
  have hE := typ_box w #[.int .i64 0, .slice none 0 0] 43
  have b0 := (Below.refl w.heap.size w).alloc (Nat.le_refl _) (.cells #[.int .i64 0, .slice none 0 0] 43)
  generalize w.alloc (.cells #[.int .i64 0, .slice none 0 0] 43) = w1 at hD hE b0 ⊢
  have d1 : Below w1.heap.size w1 w1.drew := (Below.refl _ _).drew
  replace hC := (hC.kept b0).kept d1
  replace hO := (hO.kept b0).kept d1
  have cs := hD.2.1
  have fs := hD.2.2
  replace hD := hD.kept d1
  replace hE := hE.kept d1
  obtain ⟨ι, W, inW, ofW⟩ := cls (fun w' => CelF w' g #[.int .i64 len, .slice a zs.length c])
  have ne : Nonempty ι := ⟨(inW _ hC).choose⟩
  have kW : ∀ x k, (W x).cell? ⟨g, k, none⟩ = (#[.int .i64 len, .slice a zs.length c] : Array Value)[k]? := fun x k => (ofW x).2.1 k
  refine region_by (fun w' => ∃ x, w' = W x) 9 [(0, true), (1, true), (2, true), (3, true), (4, true), (5, true), (6, true), (7, true), (8, true), (9, false), (10, false), (11, false)] ⟨none, .assign (.tmp 0), 0, "", #[], none⟩ (by kernel_rfl) (by kernel_rfl) (inW _ (hC)) (fun x _ _ _ _ h => by cases x <;> exact h) ?_
  simp only [arrange, List.map_cons, List.map_nil, List.getD_cons_zero, List.getD_cons_succ]
  iterate 1 (refine by_read rfl (fun K hK => ?_); go_simp; refine hK _ ?_; clear hK K)
  refine by_check (.tmp 5) ⟨g, 0, none⟩ rfl rfl rfl ?_
  iterate 3 (refine by_read rfl (fun K hK => ?_); go_simp; refine hK _ ?_; clear hK K)
  refine by_check (.tmp 9) ⟨g, 0, none⟩ rfl rfl rfl ?_
  iterate 3 (refine by_read rfl (fun K hK => ?_); go_simp; refine hK _ ?_; clear hK K)
  iterate 3 (refine by_move rfl (fun K hK => ?_); go_simp; refine hK _ _ (fun h => absurd h (by decide)) ?_; clear hK K)
  refine by_nil ?_
  clear kW
  clear ofW inW ne W ι
  go_wp2
  refine bodyPost_ret (v := .tuple #[.agg #[.int .i64 len, .slice a zs.length c], .slice none 0 0, .int .i64 1]) (by simp [results, Try.results44, go_sem, cs]) rfl ⟨_, rfl, ?_, ?_⟩
  · have ap := hE.row hO (by decide)
    exact (hO.far _ _ _ ap).far _ _ _ ap
  · exact ((b0.setCell (Nat.le_refl _) _).setCell (Nat.le_refl _) _).drew
set_option maxHeartbeats 1000000 in
theorem joiner_all (B g : Nat) (len : Int) (zs : List Nat) (w : World) (hJ : Jn w B g len zs) :
    Calls Try.prog 43 #[.pointer (some ⟨g, 0, none⟩)] w fun e w' => ∃ v, e = .returned (.tuple #[.agg #[.int .i64 0, .slice none 0 0], v, .int .i64 2]) ∧ Own w' B v zs ∧ Below w.heap.size w w' := by
  obtain ⟨a, c, hC, hO, hT, hB⟩ := hJ
  go_enter Try.func43, Try.ntmps43
  go_wp2
  have hD := celF_box w #[.int .i64 0, .slice none 0 0] 43
  have hE := typ_box w #[.int .i64 0, .slice none 0 0] 43
  have b0 := (Below.refl w.heap.size w).alloc (Nat.le_refl _) (.cells #[.int .i64 0, .slice none 0 0] 43)
  generalize w.alloc (.cells #[.int .i64 0, .slice none 0 0] 43) = w1 at hD hE b0 ⊢
  have d1 : Below w1.heap.size w1 w1.drew := (Below.refl _ _).drew
  replace hC := (hC.kept b0).kept d1
  replace hO := (hO.kept b0).kept d1
  have cs := hD.2.1
  have fs := hD.2.2
  replace hD := hD.kept d1
  replace hE := hE.kept d1
  obtain ⟨ι, W, inW, ofW⟩ := cls (fun w' => CelF w' g #[.int .i64 len, .slice a zs.length c])
  have ne : Nonempty ι := ⟨(inW _ hC).choose⟩
  have kW : ∀ x k, (W x).cell? ⟨g, k, none⟩ = (#[.int .i64 len, .slice a zs.length c] : Array Value)[k]? := fun x k => (ofW x).2.1 k
  have hlt := hT.lt
  have C2 := (hC.far w.heap.size 0 (.int .i64 0) (by omega)).far w.heap.size 1 (.slice none 0 0) (by omega)
  refine region_by (fun w' => ∃ x, w' = W x) 6 [(0, true), (1, true), (2, true), (3, true), (4, true), (5, false), (6, false), (7, false)] ⟨none, .assign (.tmp 0), 0, "", #[], none⟩ (by kernel_rfl) (by kernel_rfl) (inW _ (hC)) (fun x _ _ _ _ h => by cases x <;> exact h) ?_
  simp only [arrange, List.map_cons, List.map_nil, List.getD_cons_zero, List.getD_cons_succ]
  iterate 2 (refine by_read rfl (fun K hK => ?_); go_simp; refine hK _ ?_; clear hK K)
  refine by_check (.tmp 6) ⟨g, 0, none⟩ rfl rfl rfl ?_
  iterate 2 (refine by_read rfl (fun K hK => ?_); go_simp; refine hK _ ?_; clear hK K)
  refine by_move rfl (fun K hK => ?_)
  go_simp
  refine hK _ _ (fun _ => inW _ C2) ?_
  clear hK K
  iterate 2 (refine by_move rfl (fun K hK => ?_); go_simp; refine hK _ _ (fun h => absurd h (by decide)) ?_; clear hK K)
  refine by_nil ?_
  clear kW
  clear ofW inW ne W ι
  go_wp2
  refine bodyPost_ret (v := .tuple #[.agg #[.int .i64 0, .slice none 0 0], .slice a zs.length c, .int .i64 2]) (by simp [results, Try.results43, go_sem, cs]) rfl ⟨_, rfl, ?_, ?_⟩
  · have ap := hE.row hO (by decide)
    exact (hO.far _ _ _ ap).far _ _ _ ap
  · exact ((b0.setCell (Nat.le_refl _) _).setCell (Nat.le_refl _) _).drew
set_option maxHeartbeats 1000000 in
theorem joiner_bad (g : Nat) (w : World) :
    Calls Try.prog 45 #[.pointer (some ⟨g, 0, none⟩)] w fun e w' => e = .returned (.tuple #[.agg #[.int .i64 0, .slice none 0 0], .slice none 0 0, .int .i64 3]) ∧ Below w.heap.size w w' := by
  go_enter Try.func45, Try.ntmps45
  go_wp2
  go_returns
  exact ⟨rfl, (Below.refl _ _).alloc (Nat.le_refl _) _⟩
end Go.Proofs.Ytaljdhcmikpmhaa
