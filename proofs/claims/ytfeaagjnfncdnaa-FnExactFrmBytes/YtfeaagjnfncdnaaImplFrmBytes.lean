/- The program's FrmBytes: the bytes of a frame that is ok, with their sum; else none. -/
import Derived.Test.YtfeaagjnfncdnaaImplFrmOk
import Derived.Test.YtfeaagjnfncdnaaCrcPut
import Derived.Test.YtfeaagjnfncdnaaOpenRead
import Derived.Test.YtfeaagjnfncdnaaXFrm
namespace Go.Proofs.Ytfeaagjnfncdnaa
open Go.RowKit

/-- The one byte of Poll, Final, Say and Seg. -/
def signs (poll final : Bool) (say seg : Int) : Int := 4 * say + 16 * seg + (if poll = true then 1 else 0) + (if final = true then 2 else 0)
/-- The bytes ahead of the sum. -/
def headL (kind seq ack : Int) (poll final : Bool) (say seg len : Int) (n : Nat) : List Nat := [kind.toNat, (seq * 16 + ack).toNat, (signs poll final say seg).toNat, len.toNat, n]
def frmL (kind seq ack : Int) (poll final : Bool) (say seg len : Int) (zs : List Nat) : List Nat :=
  if frmB kind seq ack poll final say seg len zs.length = true then putL (headL kind seq ack poll final say seg len zs.length ++ zs) else []

set_option maxHeartbeats 1000000 in
theorem signs_any (kind seq ack : Int) (poll final : Bool) (say seg len : Int) (a : Option Addr) (n cap : Nat) (w : World) (h1 : 0 ≤ say) (h2 : say ≤ 3) (h3 : 0 ≤ seg) (h4 : seg ≤ 3) :
    Calls Try.prog 24 #[.agg #[.int .i64 kind, .int .i64 seq, .int .i64 ack, .bool poll, .bool final, .int .i64 say, .int .i64 seg, .int .i64 len, .slice a n cap]] w fun e w' => e = .returned (.int .i64 (signs poll final say seg)) ∧ Below w.heap.size w w' := by
  cases poll <;> cases final
  all_goals
    go_enter Try.func24, Try.ntmps24
    go_wp2
    go_ret
    exact ⟨ret_int (by simp [signs]; try omega), (Below.refl _ _).alloc (Nat.le_refl _) _⟩

set_option maxHeartbeats 1000000 in
theorem impl_bytes_no (kind seq ack : Int) (poll final : Bool) (say seg len : Int) (a : Option Addr) (zs : List Nat) (cap : Nat) (w : World) (hR : Rd w (.slice a zs.length cap) zs) (hk : frmB kind seq ack poll final say seg len zs.length = false) :
    Calls Try.prog 11 #[.agg #[.int .i64 kind, .int .i64 seq, .int .i64 ack, .bool poll, .bool final, .int .i64 say, .int .i64 seg, .int .i64 len, .slice a zs.length cap]] w fun e w' => ∃ v', e = .returned v' ∧ Own w' w.heap.size v' [] ∧ Below w.heap.size w w' := by
  go_enter Try.func11, Try.ntmps11
  go_wp2_with fail
  refine (impl_frm _ _ _ _ _ _ _ _ _ zs _ (hR.alloc _)).mono ?_
  rw [hk]
  rintro e w1 ⟨rfl, b1⟩
  go_wp2
  go_ret
  exact ⟨_, rfl, own_none _ _, box_below b1⟩

theorem headL_byt {kind seq ack : Int} {poll final : Bool} {say seg len : Int} {n : Nat} (h1 : 0 ≤ kind ∧ kind ≤ 4) (h2 : 0 ≤ seq ∧ seq ≤ 7) (h3 : 0 ≤ ack ∧ ack ≤ 7) (h4 : 0 ≤ say ∧ say ≤ 3) (h5 : 0 ≤ seg ∧ seg ≤ 3) (h6 : 0 ≤ len ∧ len ≤ 255) (h7 : n ≤ 8) :
    Byt (headL kind seq ack poll final say seg len n) := by
  intro z hz
  have : 0 ≤ signs poll final say seg ∧ signs poll final say seg < 256 := by unfold signs; split <;> split <;> omega
  simp only [headL, List.mem_cons, List.not_mem_nil, or_false] at hz
  omega
theorem headL_cells {kind seq ack : Int} {poll final : Bool} {say seg len : Int} {n : Nat} (h1 : 0 ≤ kind ∧ kind ≤ 4) (h2 : 0 ≤ seq ∧ seq ≤ 7) (h3 : 0 ≤ ack ∧ ack ≤ 7) (h4 : 0 ≤ say ∧ say ≤ 3) (h5 : 0 ≤ seg ∧ seg ≤ 3) (h6 : 0 ≤ len ∧ len ≤ 255) :
    (bcells (headL kind seq ack poll final say seg len n)).toArray = #[.int .u8 kind, .int .u8 (seq * 16 + ack), .int .u8 (signs poll final say seg), .int .u8 len, .int .u8 (n : Int)] := by
  have : 0 ≤ signs poll final say seg := by unfold signs; split <;> split <;> omega
  simp [headL, bcells]
  omega
theorem rd_cells (w : World) (l : List Nat) (hb : Byt l) (hl : l.length ≤ 2000000) : Rd (w.alloc (.cells (bcells l).toArray 5)) (.slice (some ⟨w.heap.size, 0, none⟩) l.length l.length) l := by
  refine ⟨hb, hl, .inr ⟨w.heap.size, 0, l.length, rfl, Nat.le_refl _, by unfold maxLen; omega, by simp, fun j hj => ?_⟩⟩
  have := bcells_get l j hj
  simp [this]
set_option maxHeartbeats 2000000 in
theorem impl_bytes_yes (kind seq ack : Int) (poll final : Bool) (say seg len : Int) (a : Option Addr) (zs : List Nat) (cap : Nat) (w : World) (hR : Rd w (.slice a zs.length cap) zs) (hk : frmB kind seq ack poll final say seg len zs.length = true)
    (h1 : 0 ≤ kind ∧ kind ≤ 4) (h2 : 0 ≤ seq ∧ seq ≤ 7) (h3 : 0 ≤ ack ∧ ack ≤ 7) (h4 : 0 ≤ say ∧ say ≤ 3) (h5 : 0 ≤ seg ∧ seg ≤ 3) (h6 : 0 ≤ len ∧ len ≤ 255) (h7 : zs.length ≤ 8) :
    Calls Try.prog 11 #[.agg #[.int .i64 kind, .int .i64 seq, .int .i64 ack, .bool poll, .bool final, .int .i64 say, .int .i64 seg, .int .i64 len, .slice a zs.length cap]] w fun e w' => ∃ v', e = .returned v' ∧ Own w' w.heap.size v' (putL (headL kind seq ack poll final say seg len zs.length ++ zs)) ∧ Below w.heap.size w w' := by
  go_enter Try.func11, Try.ntmps11
  go_wp2_with fail
  refine (impl_frm _ _ _ _ _ _ _ _ _ zs _ (hR.alloc _)).mono ?_
  rw [hk]
  rintro e w1 ⟨rfl, b1⟩
  have k1 := box_kept b1
  have B1 := box_below b1
  have z1 : w.heap.size + 1 ≤ w1.heap.size := by have := b1.size; simpa using this
  have R1 := hR.kept B1
  have hmk : ∀ w : World, (Instr.makeSlice 22 (.int .i64 0) (.int .i64 (5 + (zs.length : Int)))).run Try.prog w = .ok (.slice (some ⟨w.heap.size, 0, none⟩) 0 (5 + zs.length)) (w.alloc (.cells (madeCells #[.int .u8 0] (5 + zs.length)) 5)) := run_cap (5 + zs.length) (by omega)
  have o2 := own_cap w1 (w.heap.size + 1) (5 + zs.length) z1 (by omega)
  have bl2 := b1.alloc (by simpa using z1) (.cells (madeCells #[.int .u8 0] (5 + zs.length)) 5)
  have R2 := R1.alloc (.cells (madeCells #[.int .u8 0] (5 + zs.length)) 5)
  have z2 : (w1.alloc (.cells (madeCells #[.int .u8 0] (5 + zs.length)) 5)).heap.size = w1.heap.size + 1 := by simp
  go_wp2
  generalize w1.alloc (.cells (madeCells #[.int .u8 0] (5 + zs.length)) 5) = w2 at o2 bl2 R2 z2 ⊢
  have u1 : IntKind.u8.wrap kind = kind := by rw [IntKind.wrap_u8']; omega
  have u2 : IntKind.i64.wrap (seq * 16) = seq * 16 := by rw [IntKind.wrap_i64]; omega
  have u3 : IntKind.i64.wrap (seq * 16 + ack) = seq * 16 + ack := by rw [IntKind.wrap_i64]; omega
  have u4 : IntKind.u8.wrap (seq * 16 + ack) = seq * 16 + ack := by rw [IntKind.wrap_u8']; omega
  have u5 : IntKind.u8.wrap (signs poll final say seg) = signs poll final say seg := by rw [IntKind.wrap_u8']; unfold signs; split <;> split <;> omega
  have u6 : IntKind.u8.wrap len = len := by rw [IntKind.wrap_u8']; omega
  have u7 : IntKind.u8.wrap (zs.length : Int) = (zs.length : Int) := by rw [IntKind.wrap_u8']; omega
  obtain ⟨ι, W, inW, ofW⟩ := cls (fun w' => Below (w.heap.size + 1) w2.drew w')
  have ne : Nonempty ι := ⟨(inW _ (Below.refl _ _)).choose⟩
  have kW : ∀ x k, (W x).cell? ⟨w.heap.size, k, none⟩ = (w.alloc (.cells #[.int .i64 kind, .int .i64 seq, .int .i64 ack, .bool poll, .bool final, .int .i64 say, .int .i64 seg, .int .i64 len, .slice a zs.length cap] 27)).cell? ⟨w.heap.size, k, none⟩ := fun x k => ((ofW x).cell (p := ⟨w.heap.size, k, none⟩) (Nat.lt_succ_self _)).trans (box_kept bl2.drew k)
  clear k1 hmk
  refine region_by (fun w' => ∃ x, w' = W x) 23 [(0, true), (1, true), (2, true), (3, true), (4, true), (5, true), (6, true), (7, true), (8, true), (9, true), (10, true), (11, true), (14, true), (15, true), (16, true), (17, true), (18, true), (19, true), (20, true), (12, false), (13, true), (21, false), (22, false), (23, false)] ⟨none, .assign (.tmp 0), 0, "", #[], none⟩ (by kernel_rfl) (by kernel_rfl) (inW _ (Below.refl _ _)) (fun x _ _ _ _ h => by cases x <;> exact h) ?_
  simp only [arrange, List.map_cons, List.map_nil, List.getD_cons_zero, List.getD_cons_succ]
  iterate 19 (refine by_read rfl (fun K hK => ?_); go_simp; refine hK _ ?_; clear hK K)
  refine by_move rfl (fun K hK => ?_)
  go_simp
  go_at_call 24
  refine (signs_any _ _ _ _ _ _ _ _ _ _ _ _ h4.1 h4.2 h5.1 h5.2).mono ?_
  rintro e w3 ⟨rfl, b3⟩
  have q3 : Below (w.heap.size + 1) w2.drew w3 := b3.mono (by simp; omega)
  refine hK _ _ (fun _ => inW _ q3) ?_
  clear hK K
  refine by_read rfl (fun K hK => ?_)
  go_simp
  refine hK _ ?_
  clear hK K
  refine by_move rfl (fun K hK => ?_)
  go_simp
  have b23 : Below w2.heap.size w2 w3 := bchain ((Below.refl _ _).drew) b3
  have o5 := (o2.kept b23).alloc (.cells #[.int .u8 kind, .int .u8 (seq * 16 + ack), .int .u8 (signs poll final say seg), .int .u8 len, .int .u8 (zs.length : Int)] 5)
  have r5 : Rd (w3.alloc (.cells #[.int .u8 kind, .int .u8 (seq * 16 + ack), .int .u8 (signs poll final say seg), .int .u8 len, .int .u8 (zs.length : Int)] 5)) (.slice (some ⟨w3.heap.size, 0, none⟩) 5 5) (headL kind seq ack poll final say seg len zs.length) := by
    have := rd_cells w3 (headL kind seq ack poll final say seg len zs.length) (headL_byt h1 h2 h3 h4 h5 h6 h7) (by simp [headL])
    rw [headL_cells h1 h2 h3 h4 h5 h6] at this
    exact this
  have z3 := b23.size
  have q4 := q3.alloc (show w.heap.size + 1 ≤ w3.heap.size by omega) (.cells #[.int .u8 kind, .int .u8 (seq * 16 + ack), .int .u8 (signs poll final say seg), .int .u8 len, .int .u8 (zs.length : Int)] 5)
  refine hK _ _ (fun _ => inW _ q4) ?_
  clear hK K
  refine by_move rfl (fun K hK => ?_)
  refine step_app rfl (.tmp 12) (.tmp 33) rfl (w.heap.size + 1) _ [] rfl o5 _ (headL kind seq ack poll final say seg len zs.length) rfl r5 (by simp [headL]) (by simp; omega) ?_
  intro v6 w6 o6 g6
  have q6 := q4.grown g6 (by simp; omega) (fun k e => by obtain rfl : w1.heap.size = k := Option.some.inj e; exact z1)
  refine hK _ _ (fun _ => inW _ q6) ?_
  clear hK K
  refine by_move rfl (fun K hK => ?_)
  go_simp
  refine hK _ _ (fun h => absurd h (by decide)) ?_
  clear hK K
  refine by_nil ?_
  have B6 : Below w.heap.size w w6 := box_below (bl2.drew.trans (by simpa using q6))
  have k6 : ∀ k, w6.cell? ⟨w.heap.size, k, none⟩ = (w.alloc (.cells #[.int .i64 kind, .int .i64 seq, .int .i64 ack, .bool poll, .bool final, .int .i64 say, .int .i64 seg, .int .i64 len, .slice a zs.length cap] 27)).cell? ⟨w.heap.size, k, none⟩ := fun k => (q6.cell (p := ⟨w.heap.size, k, none⟩) (Nat.lt_succ_self _)).trans (box_kept bl2.drew k)
  have R6 := hR.kept B6
  have z6 := B6.size
  clear kW ofW inW ne W ι
  go_wp2_with (at_builtin; refine wpList_app _ rfl (.tmp 35) (.tmp 37) rfl (w.heap.size + 1) _ (headL kind seq ack poll final say seg len zs.length) rfl o6 _ zs rfl R6 (by simp [headL]; omega) (by have := q6.size; simp at this; omega) ?_)
  intro v7 w7 o7 g7
  have h67 := fun k e => (World.ownsRow.lt o6 k e).1
  have q7 := q6.grown g7 (by have := q6.size; simp at this ⊢; omega) h67
  have B7 : Below w.heap.size w w7 := box_below (bl2.drew.trans (by simpa using q7))
  have hb7 : Byt (headL kind seq ack poll final say seg len zs.length ++ zs) := by
    intro z hz
    rcases List.mem_append.1 hz with hz | hz
    · exact headL_byt h1 h2 h3 h4 h5 h6 h7 z hz
    · exact hR.1 z hz
  have r7 := o7.rd hb7 (by simp [headL]; omega)
  go_wp2_with fail
  refine (impl_put _ _ _ r7 (by simp [headL]; omega)).mono ?_
  rintro e w8 ⟨v8, rfl, o8, b8⟩
  go_wp2
  go_ret
  exact ⟨_, rfl, o8.base B7.size, bchain B7 b8⟩
theorem frmB_bounds {kind seq ack : Int} {poll final : Bool} {say seg len : Int} {n : Nat} (h : frmB kind seq ack poll final say seg len n = true) :
    (0 ≤ kind ∧ kind ≤ 4) ∧ (0 ≤ seq ∧ seq ≤ 7) ∧ (0 ≤ ack ∧ ack ≤ 7) ∧ (0 ≤ say ∧ say ≤ 3) ∧ (0 ≤ seg ∧ seg ≤ 3) ∧ (0 ≤ len ∧ len ≤ 255) ∧ n ≤ 8 := by
  simp only [frmB, pieceB, decide_eq_true_eq] at h
  omega
theorem impl_bytes (kind seq ack : Int) (poll final : Bool) (say seg len : Int) (s : Value) (zs : List Nat) (w : World) (hR : Rd w s zs) :
    Calls Try.prog 11 #[.agg #[.int .i64 kind, .int .i64 seq, .int .i64 ack, .bool poll, .bool final, .int .i64 say, .int .i64 seg, .int .i64 len, s]] w fun e w' => ∃ v', e = .returned v' ∧ Own w' w.heap.size v' (frmL kind seq ack poll final say seg len zs) ∧ Below w.heap.size w w' := by
  obtain ⟨a, cap, rfl⟩ := hR.form
  cases hk : frmB kind seq ack poll final say seg len zs.length with
  | false => rw [show frmL kind seq ack poll final say seg len zs = [] from by simp [frmL, hk]]; exact impl_bytes_no _ _ _ _ _ _ _ _ _ _ _ _ hR hk
  | true =>
    obtain ⟨h1, h2, h3, h4, h5, h6, h7⟩ := frmB_bounds hk
    rw [show frmL kind seq ack poll final say seg len zs = putL (headL kind seq ack poll final say seg len zs.length ++ zs) from by simp [frmL, hk]]
    exact impl_bytes_yes _ _ _ _ _ _ _ _ _ _ _ _ hR hk h1 h2 h3 h4 h5 h6 h7
end Go.Proofs.Ytfeaagjnfncdnaa
