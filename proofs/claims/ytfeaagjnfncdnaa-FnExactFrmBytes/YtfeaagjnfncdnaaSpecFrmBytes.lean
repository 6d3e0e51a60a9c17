/- FrmBytes of the specification: the bytes of a frame that is ok, with their sum; else none. -/
import Derived.Test.YtfeaagjnfncdnaaSpecFrm
import Derived.Test.YtfeaagjnfncdnaaImplFrmBytes
namespace Go.Proofs.Ytfeaagjnfncdnaa
open Go.RowKit

def bitI (b : Bool) : Int := if b = true then 1 else 0
theorem bitI_lo (b : Bool) : 0 ≤ bitI b ∧ bitI b ≤ 1 := by cases b <;> simp [bitI]
theorem bit_any (b : Bool) (w : World) : Calls Try.prog 22 #[.bool b] w fun e w' => e = .returned (.int .i64 (bitI b)) ∧ w' = w := by
  cases b
  all_goals
    go_enter Try.func22, Try.ntmps22
    go_wp2
    go_ret
    exact ⟨ret_int (by simp [bitI]), rfl⟩

set_option maxHeartbeats 1000000 in
theorem spec_bytes_no (kind seq ack : Int) (poll final : Bool) (say seg len : Int) (a : Option Addr) (n cap : Nat) (w : World) (hk : frmB kind seq ack poll final say seg len n = false) :
    Calls Try.prog 10 #[.agg #[.int .i64 kind, .int .i64 seq, .int .i64 ack, .bool poll, .bool final, .int .i64 say, .int .i64 seg, .int .i64 len, .slice a n cap]] w fun e w' => ∃ v', e = .returned v' ∧ Own w' w.heap.size v' [] ∧ Below w.heap.size w w' := by
  go_enter Try.func10, Try.ntmps10
  go_wp2_with fail
  refine (spec_frm _ _ _ _ _ _ _ _ _ _ _ _).mono ?_
  rw [hk]
  rintro e w1 ⟨rfl, b1⟩
  have B1 := box_below b1
  go_wp2
  go_ret
  exact ⟨_, rfl, own_empty _ _ B1.size, B1.alloc B1.size _⟩

theorem own_cells (w : World) (B : Nat) (l : List Nat) (hB : B ≤ w.heap.size) (hl : l.length ≤ 2000000) : Own (w.alloc (.cells (bcells l).toArray 5)) B (.slice (some ⟨w.heap.size, 0, none⟩) l.length l.length) l := by
  have := World.ownsRow_lit (base := B) (e := 5) (size := 1) w (bcells l).toArray l.length hB (by unfold maxLen; omega) (by simp [bcells_length])
  simpa [Own] using this
set_option maxHeartbeats 2000000 in
theorem spec_bytes_yes (kind seq ack : Int) (poll final : Bool) (say seg len : Int) (a : Option Addr) (zs : List Nat) (cap : Nat) (w : World) (hR : Rd w (.slice a zs.length cap) zs) (hk : frmB kind seq ack poll final say seg len zs.length = true)
    (h1 : 0 ≤ kind ∧ kind ≤ 4) (h2 : 0 ≤ seq ∧ seq ≤ 7) (h3 : 0 ≤ ack ∧ ack ≤ 7) (h4 : 0 ≤ say ∧ say ≤ 3) (h5 : 0 ≤ seg ∧ seg ≤ 3) (h6 : 0 ≤ len ∧ len ≤ 255) (h7 : zs.length ≤ 8) :
    Calls Try.prog 10 #[.agg #[.int .i64 kind, .int .i64 seq, .int .i64 ack, .bool poll, .bool final, .int .i64 say, .int .i64 seg, .int .i64 len, .slice a zs.length cap]] w fun e w' => ∃ v', e = .returned v' ∧ Own w' w.heap.size v' (putL ((headL kind seq ack poll final say seg len zs.length) ++ zs)) ∧ Below w.heap.size w w' := by
  go_enter Try.func10, Try.ntmps10
  go_wp2_with fail
  refine (spec_frm _ _ _ _ _ _ _ _ _ _ _ _).mono ?_
  rw [hk]
  rintro e w1 ⟨rfl, b1⟩
  have z1 : w.heap.size + 1 ≤ w1.heap.size := by have := b1.size; simpa using this
  have i1 := bitI_lo poll
  have i2 := bitI_lo final
  have u1 : IntKind.u8.wrap kind = kind := by rw [IntKind.wrap_u8']; omega
  have u2 : IntKind.i64.wrap (seq * 16) = seq * 16 := by rw [IntKind.wrap_i64]; omega
  have u3 : IntKind.i64.wrap (seq * 16 + ack) = seq * 16 + ack := by rw [IntKind.wrap_i64]; omega
  have u4 : IntKind.u8.wrap (seq * 16 + ack) = seq * 16 + ack := by rw [IntKind.wrap_u8']; omega
  have u5 : IntKind.u8.wrap (bitI poll + 2 * bitI final + 4 * say + 16 * seg) = signs poll final say seg := by rw [IntKind.wrap_u8']; unfold signs bitI; split <;> split <;> omega
  have u6 : IntKind.u8.wrap len = len := by rw [IntKind.wrap_u8']; omega
  have u7 : IntKind.u8.wrap (zs.length : Int) = (zs.length : Int) := by rw [IntKind.wrap_u8']; omega
  have u8 : IntKind.i64.wrap (2 * bitI final) = 2 * bitI final := by rw [IntKind.wrap_i64]; omega
  have u9 : IntKind.i64.wrap (bitI poll + 2 * bitI final) = bitI poll + 2 * bitI final := by rw [IntKind.wrap_i64]; omega
  have u10 : IntKind.i64.wrap (4 * say) = 4 * say := by rw [IntKind.wrap_i64]; omega
  have u11 : IntKind.i64.wrap (16 * seg) = 16 * seg := by rw [IntKind.wrap_i64]; omega
  have u12 : IntKind.i64.wrap (bitI poll + 2 * bitI final + 4 * say) = bitI poll + 2 * bitI final + 4 * say := by rw [IntKind.wrap_i64]; omega
  have u13 : IntKind.i64.wrap (bitI poll + 2 * bitI final + 4 * say + 16 * seg) = bitI poll + 2 * bitI final + 4 * say + 16 * seg := by rw [IntKind.wrap_i64]; omega
  go_wp2
  obtain ⟨ι, W, inW, ofW⟩ := cls (fun w' => Below (w.heap.size + 1) w1.drew w')
  have ne : Nonempty ι := ⟨(inW _ (Below.refl _ _)).choose⟩
  have kW : ∀ x k, (W x).cell? ⟨w.heap.size, k, none⟩ = (w.alloc (.cells #[.int .i64 kind, .int .i64 seq, .int .i64 ack, .bool poll, .bool final, .int .i64 say, .int .i64 seg, .int .i64 len, .slice a zs.length cap] 27)).cell? ⟨w.heap.size, k, none⟩ := fun x k => ((ofW x).cell (p := ⟨w.heap.size, k, none⟩) (Nat.lt_succ_self _)).trans (box_kept b1.drew k)
  refine region_by (fun w' => ∃ x, w' = W x) 35 [(0, true), (1, true), (2, true), (3, true), (4, true), (5, true), (6, true), (7, true), (8, true), (9, true), (10, true), (11, true), (13, true), (14, true), (18, true), (19, true), (20, true), (22, true), (23, true), (24, true), (27, true), (28, true), (29, true), (30, true), (31, true), (32, true), (33, true), (12, false), (15, false), (16, true), (17, true), (21, true), (25, true), (26, true), (34, false), (35, false)] ⟨none, .assign (.tmp 0), 0, "", #[], none⟩ (by kernel_rfl) (by kernel_rfl) (inW _ (Below.refl _ _)) (fun x _ _ _ _ h => by cases x <;> exact h) ?_
  simp only [arrange, List.map_cons, List.map_nil, List.getD_cons_zero, List.getD_cons_succ]
  iterate 27 (refine by_read rfl (fun K hK => ?_); go_simp; refine hK _ ?_; clear hK K)
  iterate 2
    refine by_move rfl (fun K hK => ?_)
    go_simp
    go_at_call 22
    refine (bit_any _ _).mono ?_
    rintro e wx ⟨rfl, hx⟩
    subst wx
    refine hK _ _ (fun _ => inW _ (Below.refl _ _)) ?_
    clear hK K
  iterate 5 (refine by_read rfl (fun K hK => ?_); go_simp; refine hK _ ?_; clear hK K)
  refine by_move rfl (fun K hK => ?_)
  go_simp
  have q4 := (Below.refl (w.heap.size + 1) w1.drew).alloc (show w.heap.size + 1 ≤ w1.drew.heap.size by simpa using z1) (.cells #[.int .u8 kind, .int .u8 (seq * 16 + ack), .int .u8 (signs poll final say seg), .int .u8 len, .int .u8 (zs.length : Int)] 5)
  refine hK _ _ (fun _ => inW _ q4) ?_
  clear hK K
  refine by_move rfl (fun K hK => ?_)
  go_simp
  refine hK _ _ (fun h => absurd h (by decide)) ?_
  clear hK K
  refine by_nil ?_
  clear kW ofW inW ne W ι u2 u3 u8 u9 u10 u11 u12 u13 u5
  have o4 : Own ((w1.alloc (.cells #[.int .u8 kind, .int .u8 (seq * 16 + ack), .int .u8 (signs poll final say seg), .int .u8 len, .int .u8 (zs.length : Int)] 5)).drew) (w.heap.size + 1) (.slice (some ⟨w1.heap.size, 0, none⟩) 5 5) (headL kind seq ack poll final say seg len zs.length) := by
    have := own_cells w1 (w.heap.size + 1) (headL kind seq ack poll final say seg len zs.length) z1 (by simp [headL])
    rw [headL_cells h1 h2 h3 h4 h5 h6] at this
    exact World.ownsRow.drew this
  have b4 := (b1.alloc (by simpa using z1) (.cells #[.int .u8 kind, .int .u8 (seq * 16 + ack), .int .u8 (signs poll final say seg), .int .u8 len, .int .u8 (zs.length : Int)] 5)).drew
  have z4 : w.heap.size + 1 ≤ ((w1.alloc (.cells #[.int .u8 kind, .int .u8 (seq * 16 + ack), .int .u8 (signs poll final say seg), .int .u8 len, .int .u8 (zs.length : Int)] 5)).drew).heap.size := by simp; omega
  generalize (w1.alloc (.cells #[.int .u8 kind, .int .u8 (seq * 16 + ack), .int .u8 (signs poll final say seg), .int .u8 len, .int .u8 (zs.length : Int)] 5)).drew = w4 at o4 b4 z4 ⊢
  have k4 := box_kept b4
  have R4 := hR.kept (box_below b4)
  clear q4
  go_wp2_with (at_builtin; refine wpList_app _ rfl (.tmp 43) (.tmp 45) rfl (w.heap.size + 1) _ (headL kind seq ack poll final say seg len zs.length) rfl o4 _ zs rfl R4 (by simp [headL]; omega) (by omega) ?_)
  intro v7 w7 o7 g7
  have q7 := b4.grown g7 (by simp; omega) (fun k e => by simp; exact (World.ownsRow.lt o4 k e).1)
  have B7 := box_below q7
  have hb7 : Byt ((headL kind seq ack poll final say seg len zs.length) ++ zs) := by
    intro z hz
    rcases List.mem_append.1 hz with hz | hz
    · exact headL_byt h1 h2 h3 h4 h5 h6 h7 z hz
    · exact hR.1 z hz
  have r7 := o7.rd hb7 (by simp [headL]; omega)
  go_wp2_with fail
  refine (spec_put _ _ _ r7 (by simp [headL]; omega)).mono ?_
  rintro e w8 ⟨v8, rfl, o8, b8⟩
  go_wp2
  go_ret
  exact ⟨_, rfl, o8.base B7.size, bchain B7 b8⟩
theorem spec_bytes (kind seq ack : Int) (poll final : Bool) (say seg len : Int) (s : Value) (zs : List Nat) (w : World) (hR : Rd w s zs) :
    Calls Try.prog 10 #[.agg #[.int .i64 kind, .int .i64 seq, .int .i64 ack, .bool poll, .bool final, .int .i64 say, .int .i64 seg, .int .i64 len, s]] w fun e w' => ∃ v', e = .returned v' ∧ Own w' w.heap.size v' (frmL kind seq ack poll final say seg len zs) ∧ Below w.heap.size w w' := by
  obtain ⟨a, cap, rfl⟩ := hR.form
  cases hk : frmB kind seq ack poll final say seg len zs.length with
  | false => rw [show frmL kind seq ack poll final say seg len zs = [] from by simp [frmL, hk]]; exact spec_bytes_no _ _ _ _ _ _ _ _ _ _ _ _ hk
  | true =>
    obtain ⟨h1, h2, h3, h4, h5, h6, h7⟩ := frmB_bounds hk
    rw [show frmL kind seq ack poll final say seg len zs = putL (headL kind seq ack poll final say seg len zs.length ++ zs) from by simp [frmL, hk]]
    exact spec_bytes_yes _ _ _ _ _ _ _ _ _ _ _ _ hR hk h1 h2 h3 h4 h5 h6 h7
theorem frmL_byt {kind seq ack : Int} {poll final : Bool} {say seg len : Int} {zs : List Nat} (hz : Byt zs) : Byt (frmL kind seq ack poll final say seg len zs) := by
  unfold frmL
  split
  · rename_i hk
    obtain ⟨h1, h2, h3, h4, h5, h6, h7⟩ := frmB_bounds hk
    refine putL_byt ?_
    intro z hm
    rcases List.mem_append.1 hm with hm | hm
    · exact headL_byt h1 h2 h3 h4 h5 h6 h7 z hm
    · exact hz z hm
  · intro z hm; simp at hm
theorem frmL_length {kind seq ack : Int} {poll final : Bool} {say seg len : Int} {zs : List Nat} : (frmL kind seq ack poll final say seg len zs).length ≤ 15 := by
  unfold frmL
  split
  · rename_i hk
    obtain ⟨_, _, _, _, _, _, h7⟩ := frmB_bounds hk
    simp [putL_length, headL]
    omega
  · simp
end Go.Proofs.Ytfeaagjnfncdnaa
