/- The law of FrmBytes and FrmRead, promise 14, returns true at every two codes. Written by tools/mk_WFnFrmBytes.py. -/
import Derived.Test.YthnlpdjjnfkmeaaDoorMa
import Derived.Test.YthnlpdjjnfkmeaaDoorMb
import Derived.Test.YthnlpdjjnfkmeaaDoorMc
import Derived.Test.YthnlpdjjnfkmeaaDoorMd
import Derived.Test.YthnlpdjjnfkmeaaDoorMe
import Derived.RowKit3
namespace Go.Proofs.YthnlpdjjnfkmeaaDoor
open Go Go.RowKit
theorem frmL_bytn {k s c : Int} {p f : Bool} {y g l : Int} {zs : List Nat} (hz : Byt zs) : Byt (frmL k s c p f y g l zs) ∧ (frmL k s c p f y g l zs).length ≤ zs.length + 7 := by
  cases h : frmB k s c p f y g l zs.length with
  | false => rw [frmL_no h]; exact ⟨(fun z hz' => by cases hz'), by simp⟩
  | true =>
    have := rd_put hz h _ rfl
    exact ⟨this.1, Nat.le_of_eq this.2.1⟩
def bytesPost (_ : List A) (r : A) : Prop := ∃ ys : List (Fin 256), r = .d (fbytes ys) ∧ ys.length ≤ 40
def bPost (n : Nat) (r : A) : Prop := ∃ ys : List (Fin 256), r = .d (fbytes ys) ∧ ys.length ≤ n
theorem bPost_in {n : Nat} {r : A} (h : bPost n r) : r.within [] = true := by
  obtain ⟨ys, rfl, _⟩ := h
  rfl
theorem frmBytesW : FunX Tryd.prog 11 (fun aas => ∃ (k s c : Int) (p f : Bool) (y g l : Int) (bs : List (Fin 256)), aas = [frmA k s c p f y g l bs] ∧ bs.length ≤ 17) (fun _ r bs => bPost 24 r ∧ bs = []) [] := by
  refine FunX.of ?_ ⟨_, [], rfl, by simp⟩ fun r => bPost_in
  rintro aas ⟨k, s, c, p, f, y, g, l, bs, rfl, hbl⟩
  obtain ⟨hby, hbn⟩ := frmL_bytn (k := k) (s := s) (c := c) (p := p) (f := f) (y := y) (g := g) (l := l) (fin_byt bs)
  obtain ⟨b, hb⟩ := byt_fin hby
  have hb8 : b.length ≤ 24 := by have := congrArg List.length hb; simp only [List.length_map] at this hbn; omega
  exact ⟨_, sfbytes_ok k s c p f y g l bs (by omega) hb.symm, b, rfl, hb8⟩
theorem crcPutW : FunX Tryd.prog 25 (fun aas => ∃ ys : List (Fin 256), aas = [.d (fbytes ys)] ∧ ys.length ≤ 30) (fun _ r bs => bPost 40 r ∧ bs = []) [] := by
  refine FunX.of ?_ ⟨_, [], rfl, by simp⟩ fun r => bPost_in
  rintro aas ⟨ys, rfl, hyl⟩
  obtain ⟨pb, hpb⟩ := byt_fin (putL_byt (fin_byt ys))
  have hpl : pb.length ≤ 40 := by have h1 := congrArg List.length hpb; rw [putL_length] at h1; simp only [List.length_map] at h1; omega
  have hput := scrput_ok (ys.map (·.val)) (fin_byt ys) (by simp; omega)
  rw [← hpb] at hput
  exact ⟨_, hput, pb, rfl, hpl⟩
set_option maxHeartbeats 2000000 in
set_option maxRecDepth 100000 in
theorem drawFrmRead_ok (zs : List (Fin 256)) : DataW Tryd.prog 6 [.d (bytesD (zs.map (·.val)))] (bytesPost []) := by
  refine ⟨?_, ⟨_, [], rfl, by simp⟩, ?_⟩
  · refine id ?_
    refine Spec.intro (n := 31) (rv := [.tmp 2]) Tryd.func6 rfl rfl rfl (by simp) fun C hN hX => ?_
    refine AW.seq ?_
    apply AW.list
    apply Wk.asg (by conv => lhs; whnf) (lt_of_ble rfl)
    refine Wk.nil ?_
    refine AW.seq ?_
    apply AW.list
    apply Wk.mv (by conv => lhs; whnf) (lt_of_ble rfl)
    apply Wk.opn open_ok Tryd.func21 rfl rfl rfl rfl (lt_of_ble rfl)
    rintro zs1
    apply Wk.asg (by conv => lhs; whnf) (lt_of_ble rfl)
    refine Wk.nil ?_
    refine AW.seq ?_
    apply AW.list
    apply Wk.mv (by conv => lhs; whnf) (lt_of_ble rfl)
    apply Wk.drw 0 frame_ok Tryd.func20 rfl rfl rfl rfl ⟨0, rfl, by omega, by omega⟩ (by omega) rfl (lt_of_ble rfl)
    rintro r2 zs2 p2 ⟨k, s, c, p, f, y, g, l, bs, rfl, hk, hs, hc, hy, hg, hl, hbl⟩ hp2
    apply Wk.fnx [] frmBytesW Tryd.func11 rfl rfl rfl ⟨k, s, c, p, f, y, g, l, bs, rfl, hbl⟩ rfl (by simp) (lt_of_ble rfl)
    rintro _ _ ⟨⟨b, rfl, hb8⟩, rfl⟩
    apply Wk.asg (by conv => lhs; whnf) (lt_of_ble rfl)
    refine Wk.nil ?_
    refine AW.seq (AW.seq ?_)
    apply AW.list
    apply Wk.mv (by conv => lhs; whnf) (lt_of_ble rfl)
    apply Wk.drw 0 pick_ok Tryd.func22 rfl rfl rfl rfl ⟨_, rfl, by omega⟩ (by omega) rfl (lt_of_ble rfl)
    rintro r3 zs3 p3 ⟨q, rfl, hq⟩ hp3
    refine Wk.nil (AW.block ?_)
    refine AW.seq ?_
    by_cases q0 : q = 0
    · apply AW.list
      apply Wk.bin rfl rfl (r := .bool true) (fun w => by rw [q0]; simp [go_sem]) (lt_of_ble rfl)
      apply Wk.asg (by conv => lhs; whnf) (lt_of_ble rfl)
      refine Wk.nil ?_
      refine AW.cond rfl (fun _ => ?_) (fun hc => by cases hc)
      refine AW.seq ?_
      apply AW.list
      apply Wk.mv (by conv => lhs; whnf) (lt_of_ble rfl)
      apply Wk.mv (by conv => lhs; whnf) (lt_of_ble rfl)
      apply Wk.drw 0 turn_ok Tryd.func23 rfl rfl rfl rfl ⟨b, rfl, by omega⟩ (by omega) rfl (lt_of_ble rfl)
      rintro r4 zs4 p4 ⟨ys, rfl, hys⟩ hp4
      apply Wk.asg (by conv => lhs; whnf) (lt_of_ble rfl)
      refine Wk.nil (AW.ret ?_)
      repeat (first | refine thenA_ret ?_ | refine inBlockA_ret ?_)
      exact RetQ.ret [] (.cons rfl .nil) ⟨⟨ys, rfl, by have := hys b rfl; omega⟩, rfl⟩ none_kept
    apply AW.list
    apply Wk.bin rfl rfl (r := .bool false) (fun w => by simp [go_sem]; omega) (lt_of_ble rfl)
    apply Wk.asg (by conv => lhs; whnf) (lt_of_ble rfl)
    refine Wk.nil ?_
    refine AW.cond rfl (fun hc => by cases hc) (fun _ => ?_)
    refine AW.seq ?_
    by_cases q1 : q = 1
    · apply AW.list
      apply Wk.bin rfl rfl (r := .bool true) (fun w => by rw [q1]; simp [go_sem]) (lt_of_ble rfl)
      apply Wk.asg (by conv => lhs; whnf) (lt_of_ble rfl)
      refine Wk.nil ?_
      refine AW.cond rfl (fun _ => ?_) (fun hc => by cases hc)
      refine AW.seq ?_
      obtain ⟨cb, hcb⟩ := byt_fin (cutL_byt (fin_byt b))
      have hcl : cb.length ≤ 24 := by have h1 := congrArg List.length hcb; have h2 := cutL_length (b.map (·.val)); simp only [List.length_map] at h1 h2; omega
      have hcut := scrcut_ok (b.map (·.val)) (fin_byt b) (by simp; omega)
      rw [← hcb] at hcut
      apply AW.list
      apply Wk.mv (by conv => lhs; whnf) (lt_of_ble rfl)
      apply Wk.dat hcut Tryd.func24 rfl rfl rfl rfl rfl (lt_of_ble rfl)
      apply Wk.mv (by conv => lhs; whnf) (lt_of_ble rfl)
      apply Wk.ext rfl rfl (lt_of_ble rfl)
      apply Wk.ext rfl rfl (lt_of_ble rfl)
      apply Wk.asg (by conv => lhs; whnf) (lt_of_ble rfl)
      apply Wk.asg (by conv => lhs; whnf) (lt_of_ble rfl)
      refine Wk.nil ?_
      refine AW.seq ?_
      apply AW.list
      apply Wk.mv (by conv => lhs; whnf) (lt_of_ble rfl)
      apply Wk.mv (by conv => lhs; whnf) (lt_of_ble rfl)
      apply Wk.drw 0 turn_ok Tryd.func23 rfl rfl rfl rfl ⟨cb, rfl, by omega⟩ (by omega) rfl (lt_of_ble rfl)
      rintro r4 zs4 p4 ⟨ys, rfl, hys⟩ hp4
      apply Wk.fnx [] crcPutW Tryd.func25 rfl rfl rfl ⟨ys, rfl, by have := hys cb rfl; omega⟩ rfl (by simp) (lt_of_ble rfl)
      rintro _ _ ⟨⟨pb, rfl, hpl⟩, rfl⟩
      apply Wk.asg (by conv => lhs; whnf) (lt_of_ble rfl)
      refine Wk.nil (AW.ret ?_)
      repeat (first | refine thenA_ret ?_ | refine inBlockA_ret ?_)
      exact RetQ.ret [] (.cons rfl .nil) ⟨⟨pb, rfl, hpl⟩, rfl⟩ none_kept
    apply AW.list
    apply Wk.bin rfl rfl (r := .bool false) (fun w => by simp [go_sem]; omega) (lt_of_ble rfl)
    apply Wk.asg (by conv => lhs; whnf) (lt_of_ble rfl)
    refine Wk.nil ?_
    refine AW.cond rfl (fun hc => by cases hc) (fun _ => AW.skip ?_)
    repeat (first | refine thenA_normal ?_ | refine inBlockA_normal ?_)
    refine AW.seq ?_
    apply AW.list
    apply Wk.mv (by conv => lhs; whnf) (lt_of_ble rfl)
    apply Wk.asg (by conv => lhs; whnf) (lt_of_ble rfl)
    refine Wk.nil (AW.ret ?_)
    repeat (first | refine thenA_ret ?_ | refine inBlockA_ret ?_)
    exact RetQ.ret [] (.cons rfl .nil) ⟨⟨b, rfl, by omega⟩, rfl⟩ none_kept
  · rintro r ⟨ys, rfl, _⟩; rfl
set_option maxHeartbeats 8000000 in
set_option maxRecDepth 100000 in
theorem lawFrmBytes_ok (cs ms : List (Fin 256)) (hz : cs.length ≤ 1048576) (hz' : ms.length ≤ 1048576) {V : List (Nat × Value)} {a0 a1 a2 : Addr} (h0 : (1, errV a0) ∈ V) (h1 : (2, errV a1) ∈ V) (h2 : (3, errV a2) ∈ V) :
    DataV Tryd.prog V 3 [.d (bytesD (cs.map (·.val))), .d (bytesD (ms.map (·.val)))] (.d (.v (.bool true))) := by
  have ec : (((((cs.map (·.val)).map (fun z : Nat => [D.v (.int .u8 (z : Int))])).length : Nat) : Int)) = (cs.length : Int) := by simp
  have em : (((((ms.map (·.val)).map (fun z : Nat => [D.v (.int .u8 (z : Int))])).length : Nat) : Int)) = (ms.length : Int) := by simp
  refine DataV.intro (n := 171) (rv := [.tmp 4]) Tryd.func3 rfl rfl rfl (by simp) fun C hV hN hX => ?_
  refine AW.seq ?_
  apply AW.list
  apply Wk.asg (by conv => lhs; whnf) (lt_of_ble rfl)
  refine Wk.nil ?_
  refine AW.seq (AW.seq ?_)
  apply AW.list
  apply Wk.mv (by conv => lhs; whnf) (lt_of_ble rfl)
  apply Wk.len un22 rfl (lt_of_ble rfl)
  apply Wk.bin rfl rfl (r := .bool false) (fun w => by simp [go_sem] <;> omega) (lt_of_ble rfl)
  apply Wk.mv (by conv => lhs; whnf) (lt_of_ble rfl)
  apply Wk.gon 25 rfl rfl
  apply Wk.mv (by conv => lhs; whnf) (lt_of_ble rfl)
  apply Wk.gon 25 rfl rfl
  apply Wk.len un22 rfl (lt_of_ble rfl)
  apply Wk.gon 25 rfl rfl
  apply Wk.bin rfl rfl (r := .bool false) (fun w => by simp [go_sem] <;> omega) (lt_of_ble rfl)
  apply Wk.pckF rfl (by conv => lhs; whnf) (lt_of_ble rfl)
  refine Wk.nil ?_
  refine AW.cond rfl (fun hc => by cases hc) (fun _ => AW.skip (thenA_normal ?_))
  refine AW.seq ?_
  apply AW.list
  apply Wk.mv (by conv => lhs; whnf) (lt_of_ble rfl)
  apply Wk.datw (drawFrmBytes_ok cs) Tryd.func5 rfl rfl rfl rfl (lt_of_ble rfl)
  rintro _ ⟨k, s, c, p, f, y, g, l, bs, rfl, hk, hs, hc2, hy, hg, hl, hbl⟩
  apply Wk.alc 5 [.int .i64 0, .int .i64 0, .int .i64 0, .bool false, .bool false, .int .i64 0, .int .i64 0, .int .i64 0, .slice none 0 0] ze24 rfl rfl (lt_of_ble rfl)
  apply Wk.sto (i := 5) 9 true ty24 rfl rfl rfl rfl (Nat.le_of_ble_eq_true rfl) (lt_of_ble rfl)
  refine Wk.nil ?_
  refine AW.seq ?_
  apply AW.list
  apply Wk.mv (by conv => lhs; whnf) (lt_of_ble rfl)
  apply Wk.datw (drawFrmRead_ok ms) Tryd.func6 rfl rfl rfl rfl (lt_of_ble rfl)
  rintro _ ⟨ys, rfl, hyl⟩
  apply Wk.asg (by conv => lhs; whnf) (lt_of_ble rfl)
  refine Wk.nil ?_
  have lm : (bs.map (·.val)).length = bs.length := List.length_map _
  have hb1 : bs.length ≤ 2000000 := by omega
  obtain ⟨hby, hbn⟩ := frmL_bytn (k := k) (s := s) (c := c) (p := p) (f := f) (y := y) (g := g) (l := l) (fin_byt bs)
  obtain ⟨b, hb⟩ := byt_fin hby
  have hb8 : b.length ≤ 24 := by have := congrArg List.length hb; simp only [List.length_map] at this hbn; omega
  have Ib := ifbytes_ok k s c p f y g l bs hb1 hb.symm
  have Sb := sfbytes_ok k s c p f y g l bs hb1 hb.symm
  have hyy : Byt (ys.map (·.val)) := fin_byt ys
  obtain ⟨ds, hds⟩ := byt_fin (rdData_byt hyy)
  have hdl : ds.length ≤ 2000000 := by have h1 := congrArg List.length hds; have h2 := rdData_length (ys.map (·.val)); simp only [List.length_map] at h1 h2; omega
  have Ir := iread_ok (ys.map (·.val)) ds hyy (by simp; omega) hds h0 h1 h2
  have Sr := sread_ok (ys.map (·.val)) ds hyy (by simp; omega) hds
  have hof := rd_of hyy
  rw [← hds] at hof
  obtain ⟨K, hK⟩ : ∃ K, rdKind (ys.map (·.val)) = K := ⟨_, rfl⟩
  obtain ⟨S, hS⟩ : ∃ S, rdSeq (ys.map (·.val)) = S := ⟨_, rfl⟩
  obtain ⟨C0, hC⟩ : ∃ C0, rdAck (ys.map (·.val)) = C0 := ⟨_, rfl⟩
  obtain ⟨Q, hQ⟩ : ∃ Q, rdPoll (ys.map (·.val)) = Q := ⟨_, rfl⟩
  obtain ⟨F0, hF⟩ : ∃ F0, rdFinal (ys.map (·.val)) = F0 := ⟨_, rfl⟩
  obtain ⟨Y, hY⟩ : ∃ Y, rdSay (ys.map (·.val)) = Y := ⟨_, rfl⟩
  obtain ⟨G, hG⟩ : ∃ G, rdSeg (ys.map (·.val)) = G := ⟨_, rfl⟩
  obtain ⟨M, hM⟩ : ∃ M, rdLen (ys.map (·.val)) = M := ⟨_, rfl⟩
  obtain ⟨R, hR⟩ : ∃ R, rdB (ys.map (·.val)) = R := ⟨_, rfl⟩
  simp only [rdA, hK, hS, hC, hQ, hF, hY, hG, hM, hR] at Ir Sr hof
  have E1 := liBytes_ok (b.map (·.val)) (b.map (·.val))
  rw [decide_eq_true rfl] at E1
  have E2 := liBytes_ok (ys.map (·.val)) (ys.map (·.val))
  rw [decide_eq_true rfl] at E2
  have L1 := liFrame_is K S C0 Q F0 Y G M ds
  have L2 := liFrame_is k s c p f y g l bs
  refine AW.seq ?_
  apply AW.list
  apply Wk.ld (i := 5) 9 true ty24 rfl rfl (by conv => lhs; whnf) (lt_of_ble rfl)
  apply Wk.dat Ib Tryd.func7 rfl rfl rfl rfl rfl (lt_of_ble rfl)
  apply Wk.asg (by conv => lhs; whnf) (lt_of_ble rfl)
  refine Wk.nil ?_
  refine AW.seq ?_
  apply AW.list
  apply Wk.mv (by conv => lhs; whnf) (lt_of_ble rfl)
  apply Wk.dav Ir hX hV Tryd.func8 rfl rfl rfl rfl rfl (lt_of_ble rfl)
  apply Wk.mv (by conv => lhs; whnf) (lt_of_ble rfl)
  apply Wk.ext rfl rfl (lt_of_ble rfl)
  apply Wk.ext rfl rfl (lt_of_ble rfl)
  apply Wk.alc 8 [.int .i64 0, .int .i64 0, .int .i64 0, .bool false, .bool false, .int .i64 0, .int .i64 0, .int .i64 0, .slice none 0 0] ze24 rfl rfl (lt_of_ble rfl)
  apply Wk.sto (i := 8) 9 true ty24 rfl rfl rfl rfl (Nat.le_of_ble_eq_true rfl) (lt_of_ble rfl)
  apply Wk.asg (by conv => lhs; whnf) (lt_of_ble rfl)
  refine Wk.nil ?_
  refine AW.seq ?_
  apply AW.list
  apply Wk.mv (by conv => lhs; whnf) (lt_of_ble rfl)
  apply Wk.dat Sr Tryd.func9 rfl rfl rfl rfl rfl (lt_of_ble rfl)
  apply Wk.mv (by conv => lhs; whnf) (lt_of_ble rfl)
  apply Wk.ext rfl rfl (lt_of_ble rfl)
  apply Wk.ext rfl rfl (lt_of_ble rfl)
  apply Wk.alc 10 [.int .i64 0, .int .i64 0, .int .i64 0, .bool false, .bool false, .int .i64 0, .int .i64 0, .int .i64 0, .slice none 0 0] ze24 rfl rfl (lt_of_ble rfl)
  apply Wk.sto (i := 10) 9 true ty24 rfl rfl rfl rfl (Nat.le_of_ble_eq_true rfl) (lt_of_ble rfl)
  apply Wk.asg (by conv => lhs; whnf) (lt_of_ble rfl)
  refine Wk.nil ?_
  obtain ⟨fB, hA⟩ : ∃ fB, frmB k s c p f y g l bs.length = fB := ⟨_, rfl⟩
  refine AW.via (fun _ : Unit => St.of 171 [(0, .d (bytesD (cs.map (·.val)))), (1, .d (bytesD (ms.map (·.val)))), (5, .ptr 5 0), (6, .d (fbytes ys)), (7, .d (bytesD (b.map (·.val)))), (8, .ptr 8 0), (9, .d (.v (.bool R)))] [(5, .var (frmO k s c p f y g l (.d (fbytes bs)))), (8, .var (frmO K S C0 Q F0 Y G M (.d (fbytes ds))))]) (fun _ => True) ?_ ?_
  · have fin : ∀ σ : St, σ.n = 171 → σ.t 0 = .d (bytesD (cs.map (·.val))) → σ.t 1 = .d (bytesD (ms.map (·.val))) → σ.t 5 = .ptr 5 0 → σ.t 6 = .d (fbytes ys) → σ.t 7 = .d (bytesD (b.map (·.val))) → σ.t 8 = .ptr 8 0 → σ.t 9 = .d (.v (.bool R)) → σ.b 5 = .var (frmO k s c p f y g l (.d (fbytes bs))) → σ.b 8 = .var (frmO K S C0 Q F0 Y G M (.d (fbytes ds))) → ∃ _ : Unit, True ∧ ∀ a w, Rel C σ a w → Rel C (St.of 171 [(0, .d (bytesD (cs.map (·.val)))), (1, .d (bytesD (ms.map (·.val)))), (5, .ptr 5 0), (6, .d (fbytes ys)), (7, .d (bytesD (b.map (·.val)))), (8, .ptr 8 0), (9, .d (.v (.bool R)))] [(5, .var (frmO k s c p f y g l (.d (fbytes bs)))), (8, .var (frmO K S C0 Q F0 Y G M (.d (fbytes ds))))]) a w := fun σ q0 q1 q2 q3 q4 q5 q6 q7 q8 q9 => ⟨(), trivial, fun a w => Rel.keep ⟨q0.symm, .cons q1 rfl (.cons q2 rfl (.cons q3 rfl (.cons q4 rfl (.cons q5 rfl (.cons q6 rfl (.cons q7 rfl .nil)))))), .cons q8 rfl (.cons q9 rfl .nil), hN.mono (by simp [keys])⟩⟩
    refine AW.seq ?_
    apply AW.draw (hm := hmix) (cs := _)
    · apply Wk.mv (by conv => lhs; whnf) (lt_of_ble rfl)
      apply Wk.ld (i := 5) 9 true ty24 rfl rfl (by conv => lhs; whnf) (lt_of_ble rfl)
      apply Wk.dat Sb Tryd.func11 rfl rfl rfl rfl rfl (lt_of_ble rfl)
      apply Wk.dat E1 Tryd.func10 rfl rfl rfl rfl rfl (lt_of_ble rfl)
      apply Wk.un rfl (fun w => by simp [go_sem] <;> rfl) (lt_of_ble rfl)
      apply Wk.mv (by conv => lhs; whnf) (lt_of_ble rfl)
      apply Wk.gon 51 rfl rfl
      apply Wk.ld (i := 8) 9 true ty24 rfl rfl (by conv => lhs; whnf) (lt_of_ble rfl)
      apply Wk.gon 51 rfl rfl
      apply Wk.ld (i := 10) 9 true ty24 rfl rfl (by conv => lhs; whnf) (lt_of_ble rfl)
      apply Wk.gon 51 rfl rfl
      apply Wk.dat L1 Tryd.func12 rfl rfl rfl rfl rfl (lt_of_ble rfl)
      apply Wk.gon 51 rfl rfl
      apply Wk.un rfl (fun w => by simp [go_sem] <;> rfl) (lt_of_ble rfl)
      apply Wk.pckF rfl (by conv => lhs; whnf) (lt_of_ble rfl)
      apply Wk.mv (by conv => lhs; whnf) (lt_of_ble rfl)
      apply Wk.gon 57 rfl rfl
      apply Wk.mv (by conv => lhs; whnf) (lt_of_ble rfl)
      apply Wk.gon 57 rfl rfl
      apply Wk.mv (by conv => lhs; whnf) (lt_of_ble rfl)
      apply Wk.gon 57 rfl rfl
      apply Wk.bin rfl rfl (r := .bool false) (fun w => by simp [go_sem]) (lt_of_ble rfl)
      apply Wk.pckF rfl (by conv => lhs; whnf) (lt_of_ble rfl)
      apply Wk.mv (by conv => lhs; whnf) (lt_of_ble rfl)
      apply Wk.gon 62 rfl rfl
      apply Wk.ld (i := 5) 9 true ty24 rfl rfl (by conv => lhs; whnf) (lt_of_ble rfl)
      apply Wk.gon 62 rfl rfl
      apply Wk.dat (ifrmb k s c p f y g l bs hb1 hA) Tryd.func13 rfl rfl rfl rfl rfl (lt_of_ble rfl)
      apply Wk.gon 62 rfl rfl
      apply Wk.ld (i := 5) 9 true ty24 rfl rfl (by conv => lhs; whnf) (lt_of_ble rfl)
      apply Wk.gon 62 rfl rfl
      apply Wk.dat (sfrmb k s c p f y g l bs hA) Tryd.func14 rfl rfl rfl rfl rfl (lt_of_ble rfl)
      apply Wk.gon 62 rfl rfl
      apply Wk.bin rfl rfl (r := .bool false) (fun w => by simp [go_sem]) (lt_of_ble rfl)
      apply Wk.pckF rfl (by conv => lhs; whnf) (lt_of_ble rfl)
      refine Wk.nil ?_
      refine AW.cond rfl (fun hc => by cases hc) (fun _ => AW.skip ?_)
      repeat (first | refine thenA_normal ?_ | refine inBlockA_normal ?_)
      exact fin _ rfl rfl rfl rfl rfl rfl rfl rfl rfl rfl
    · rfl
    · rfl
  intro _ _
  refine AW.via (fun _ : Unit => St.of 171 [(0, .d (bytesD (cs.map (·.val)))), (1, .d (bytesD (ms.map (·.val)))), (5, .ptr 5 0), (7, .d (bytesD (b.map (·.val))))] [(5, .var (frmO k s c p f y g l (.d (fbytes bs))))]) (fun _ => True) ?_ ?_
  · have fin : ∀ σ : St, σ.n = 171 → σ.t 0 = .d (bytesD (cs.map (·.val))) → σ.t 1 = .d (bytesD (ms.map (·.val))) → σ.t 5 = .ptr 5 0 → σ.t 7 = .d (bytesD (b.map (·.val))) → σ.b 5 = .var (frmO k s c p f y g l (.d (fbytes bs))) → ∃ _ : Unit, True ∧ ∀ a w, Rel C σ a w → Rel C (St.of 171 [(0, .d (bytesD (cs.map (·.val)))), (1, .d (bytesD (ms.map (·.val)))), (5, .ptr 5 0), (7, .d (bytesD (b.map (·.val))))] [(5, .var (frmO k s c p f y g l (.d (fbytes bs))))]) a w := fun σ q0 q1 q2 q3 q4 q5 => ⟨(), trivial, fun a w => Rel.keep ⟨q0.symm, .cons q1 rfl (.cons q2 rfl (.cons q3 rfl (.cons q4 rfl .nil))), .cons q5 rfl .nil, hN.mono (by simp [keys])⟩⟩
    refine AW.seq ?_
    cases hRR : R
    · subst hRR
      apply AW.list
      apply Wk.mv (by conv => lhs; whnf) (lt_of_ble rfl)
      apply Wk.mv (by conv => lhs; whnf) (lt_of_ble rfl)
      apply Wk.goff 70 (ok_load 8 ty24) rfl rfl (by simp)
      apply Wk.goff 70 (ok_datw ((ifrm_ok 0 0 0 false false 0 0 0 [] (by simp)).w rfl) Tryd.func13 rfl rfl) rfl rfl (by simp)
      apply Wk.goff 70 (ok_un _ _ _) rfl rfl (by simp)
      apply Wk.goff 70 (ok_move _) rfl rfl (by simp)
      apply Wk.goffu 74 (ok_load 8 ty24) rfl rfl
      apply Wk.goffu 74 (ok_datw ((ifbytes_ok 0 0 0 false false 0 0 0 [] (by simp) rfl).w rfl) Tryd.func7 rfl rfl) rfl rfl
      apply Wk.goffu 74 (ok_move _) rfl rfl
      apply Wk.goffu 74 (ok_datw ((liBytes_ok [] []).w rfl) Tryd.func10 rfl rfl) rfl rfl
      apply Wk.goffu 74 (ok_un _ _ _) rfl rfl
      apply Wk.goff 70 (ok_pick _ _ _) rfl rfl (by simp)
      apply Wk.pckF rfl (by conv => lhs; whnf) (lt_of_ble rfl)
      refine Wk.nil ?_
      refine AW.cond rfl (fun hc => by cases hc) (fun _ => AW.skip ?_)
      repeat (first | refine thenA_normal ?_ | refine inBlockA_normal ?_)
      exact fin _ rfl rfl rfl rfl rfl rfl
    · subst hRR
      obtain ⟨ho1, ho2⟩ := hof rfl
      rw [List.length_map] at ho1
      apply AW.list
      apply Wk.mv (by conv => lhs; whnf) (lt_of_ble rfl)
      apply Wk.mv (by conv => lhs; whnf) (lt_of_ble rfl)
      apply Wk.gon 70 rfl rfl
      apply Wk.ld (i := 8) 9 true ty24 rfl rfl (by conv => lhs; whnf) (lt_of_ble rfl)
      apply Wk.gon 70 rfl rfl
      apply Wk.dat (ifrmb K S C0 Q F0 Y G M ds hdl ho1) Tryd.func13 rfl rfl rfl rfl rfl (lt_of_ble rfl)
      apply Wk.gon 70 rfl rfl
      apply Wk.un rfl (fun w => by simp [go_sem] <;> rfl) (lt_of_ble rfl)
      apply Wk.gon 70 rfl rfl
      apply Wk.mv (by conv => lhs; whnf) (lt_of_ble rfl)
      apply Wk.gon 74 rfl rfl
      apply Wk.ld (i := 8) 9 true ty24 rfl rfl (by conv => lhs; whnf) (lt_of_ble rfl)
      apply Wk.gon 74 rfl rfl
      apply Wk.dat (ifbytes_ok K S C0 Q F0 Y G M ds hdl ho2) Tryd.func7 rfl rfl rfl rfl rfl (lt_of_ble rfl)
      apply Wk.gon 74 rfl rfl
      apply Wk.mv (by conv => lhs; whnf) (lt_of_ble rfl)
      apply Wk.gon 74 rfl rfl
      apply Wk.dat E2 Tryd.func10 rfl rfl rfl rfl rfl (lt_of_ble rfl)
      apply Wk.gon 74 rfl rfl
      apply Wk.un rfl (fun w => by simp [go_sem] <;> rfl) (lt_of_ble rfl)
      apply Wk.gon 70 rfl rfl
      apply Wk.pckF rfl (by conv => lhs; whnf) (lt_of_ble rfl)
      apply Wk.pckT rfl (by conv => lhs; whnf) (lt_of_ble rfl)
      refine Wk.nil ?_
      refine AW.cond rfl (fun hc => by cases hc) (fun _ => AW.skip ?_)
      repeat (first | refine thenA_normal ?_ | refine inBlockA_normal ?_)
      exact fin _ rfl rfl rfl rfl rfl rfl
  intro _ _
  clear Ir Sr hof L1 E2
  refine AW.seq (AW.seq ?_)
  apply AW.list
  apply Wk.ld (i := 5) 9 true ty24 rfl rfl (by conv => lhs; whnf) (lt_of_ble rfl)
  apply Wk.dat (sfrmb k s c p f y g l bs hA) Tryd.func14 rfl rfl rfl rfl rfl (lt_of_ble rfl)
  apply Wk.un rfl (fun w => by simp [go_sem] <;> rfl) (lt_of_ble rfl)
  refine Wk.nil ?_
  cases fB
  · have hn : b = [] := by have e := frmL_no (zs := bs.map (·.val)) (by rw [lm]; exact hA); rw [e] at hb; simpa using hb
    subst hn
    refine AW.cond rfl (fun _ => ?_) (fun hc => by cases hc)
    refine AW.seq ?_
    apply AW.list
    apply Wk.mv (by conv => lhs; whnf) (lt_of_ble rfl)
    apply Wk.len un22 rfl (lt_of_ble rfl)
    apply Wk.bin rfl rfl (r := .bool true) (fun w => by simp [go_sem]) (lt_of_ble rfl)
    apply Wk.mv (by conv => lhs; whnf) (lt_of_ble rfl)
    apply Wk.gon 88 rfl rfl
    apply Wk.dat liok_ok Tryd.func15 rfl rfl rfl rfl rfl (lt_of_ble rfl)
    apply Wk.pckT rfl (by conv => lhs; whnf) (lt_of_ble rfl)
    apply Wk.asg (by conv => lhs; whnf) (lt_of_ble rfl)
    refine Wk.nil (AW.ret ?_)
    repeat (first | refine thenA_ret ?_ | refine inBlockA_ret ?_)
    exact RetQ.ret [] (.cons rfl .nil) ⟨rfl, rfl⟩ none_kept
  refine AW.cond rfl (fun hc => by cases hc) (fun _ => AW.skip (thenA_normal ?_))
  obtain ⟨pB, pL, pR, r1, r2, r3, r4, r5, r6, r7, r8, r9, L, hLb, hL, hLl, hL4⟩ := rd_put (fin_byt bs) (by rw [lm]; exact hA) _ hb.symm
  have eb : (((((b.map (·.val)).map (fun z : Nat => [D.v (.int .u8 (z : Int))])).length : Nat) : Int)) = (b.length : Int) := by simp
  have en : ((b.map (·.val)).map (fun z : Nat => [D.v (.int .u8 (z : Int))])).length = b.length := by simp
  have ebs : (((((bs.map (·.val)).map (fun z : Nat => [D.v (.int .u8 (z : Int))])).length : Nat) : Int)) = (bs.length : Int) := by simp
  have pLn : b.length = bs.length + 7 := by simpa using pL
  have I2 := iread_ok (b.map (·.val)) bs pB (by simp; omega) r9.symm h0 h1 h2
  simp only [rdA, pR, r1, r2, r3, r4, r5, r6, r7, r8] at I2
  refine AW.seq ?_
  apply AW.list
  apply Wk.mv (by conv => lhs; whnf) (lt_of_ble rfl)
  apply Wk.dav I2 hX hV Tryd.func8 rfl rfl rfl rfl rfl (lt_of_ble rfl)
  apply Wk.mv (by conv => lhs; whnf) (lt_of_ble rfl)
  apply Wk.ext rfl rfl (lt_of_ble rfl)
  apply Wk.ext rfl rfl (lt_of_ble rfl)
  apply Wk.alc 12 [.int .i64 0, .int .i64 0, .int .i64 0, .bool false, .bool false, .int .i64 0, .int .i64 0, .int .i64 0, .slice none 0 0] ze24 rfl rfl (lt_of_ble rfl)
  apply Wk.sto (i := 12) 9 true ty24 rfl rfl rfl rfl (Nat.le_of_ble_eq_true rfl) (lt_of_ble rfl)
  apply Wk.asg (by conv => lhs; whnf) (lt_of_ble rfl)
  refine Wk.nil ?_
  refine AW.seq (AW.seq ?_)
  apply AW.list
  apply Wk.mv (by conv => lhs; whnf) (lt_of_ble rfl)
  apply Wk.un rfl (fun w => by simp [go_sem] <;> rfl) (lt_of_ble rfl)
  apply Wk.mv (by conv => lhs; whnf) (lt_of_ble rfl)
  apply Wk.gon 98 rfl rfl
  apply Wk.ld (i := 12) 9 true ty24 rfl rfl (by conv => lhs; whnf) (lt_of_ble rfl)
  apply Wk.gon 98 rfl rfl
  apply Wk.ld (i := 5) 9 true ty24 rfl rfl (by conv => lhs; whnf) (lt_of_ble rfl)
  apply Wk.gon 98 rfl rfl
  apply Wk.dat L2 Tryd.func12 rfl rfl rfl rfl rfl (lt_of_ble rfl)
  apply Wk.gon 98 rfl rfl
  apply Wk.un rfl (fun w => by simp [go_sem] <;> rfl) (lt_of_ble rfl)
  apply Wk.pckF rfl (by conv => lhs; whnf) (lt_of_ble rfl)
  apply Wk.mv (by conv => lhs; whnf) (lt_of_ble rfl)
  apply Wk.gon 104 rfl rfl
  apply Wk.mv (by conv => lhs; whnf) (lt_of_ble rfl)
  apply Wk.gon 104 rfl rfl
  apply Wk.len un22 rfl (lt_of_ble rfl)
  apply Wk.gon 104 rfl rfl
  apply Wk.fad 8 0 false fd24_8 rfl (lt_of_ble rfl)
  apply Wk.gon 104 rfl rfl
  apply Wk.ld (i := 5) 1 false ty22 rfl rfl (by conv => lhs; whnf) (lt_of_ble rfl)
  apply Wk.gon 104 rfl rfl
  apply Wk.len un22 rfl (lt_of_ble rfl)
  apply Wk.gon 104 rfl rfl
  apply Wk.addi rfl rfl (by omega) (lt_of_ble rfl)
  apply Wk.gon 104 rfl rfl
  apply Wk.bin rfl rfl (r := .bool false) (fun w => by rw [eb, ebs]; simp [go_sem]; omega) (lt_of_ble rfl)
  apply Wk.pckF rfl (by conv => lhs; whnf) (lt_of_ble rfl)
  refine Wk.nil ?_
  refine AW.cond rfl (fun hc => by cases hc) (fun _ => AW.skip (thenA_normal ?_))
  refine AW.seq ?_
  apply AW.list
  apply Wk.lst 113 1 false [.int .u8 0] un22 ty5 ze5 rfl rfl (by rfl) (by rfl) (by decide) (by decide) rfl rfl (all_len rfl) (lt_of_ble rfl)
  apply Wk.mv (by conv => lhs; whnf) (lt_of_ble rfl)
  apply Wk.appOR 113 1000 1 un22 ap5 rfl rfl rfl (.inr rfl) (by decide) (bytes_len b) (by simp) (by simp; omega) (lt_of_ble rfl)
  rw [cells_of, List.nil_append]
  apply Wk.asg (by conv => lhs; whnf) (lt_of_ble rfl)
  refine Wk.nil ?_
  obtain ⟨at_, hat⟩ : ∃ n, (ms.length * 37 + cs.length) % b.length = n := ⟨_, rfl⟩
  have hal : at_ < b.length := by rw [← hat]; exact Nat.mod_lt _ (by omega)
  obtain ⟨x, hx⟩ : ∃ x, b[at_]? = some x := ⟨_, List.getElem?_eq_getElem hal⟩
  have hec : (cellsB b).length = b.length := cellsB_length b
  refine AW.seq ?_
  apply AW.list
  apply Wk.mv (by conv => lhs; whnf) (lt_of_ble rfl)
  apply Wk.len un22 rfl (lt_of_ble rfl)
  apply Wk.muln (a := ms.length) (b := 37) (by exact congrArg (fun n : Int => A.d (.v (.int .i64 n))) em) rfl (by omega) (lt_of_ble rfl)
  apply Wk.mv (by conv => lhs; whnf) (lt_of_ble rfl)
  apply Wk.len un22 rfl (lt_of_ble rfl)
  apply Wk.addn (a := ms.length * 37) (b := cs.length) rfl (by exact congrArg (fun n : Int => A.d (.v (.int .i64 n))) ec) (by omega) (lt_of_ble rfl)
  apply Wk.mv (by conv => lhs; whnf) (lt_of_ble rfl)
  apply Wk.leno (i := 113) un22 rfl rfl (lt_of_ble rfl)
  apply Wk.remn (a := ms.length * 37 + cs.length) (b := b.length) rfl (by exact congrArg (fun n : Nat => A.d (.v (.int .i64 (n : Int)))) hec) (by omega) (lt_of_ble rfl)
  rw [hat]
  apply Wk.asg (by conv => lhs; whnf) (lt_of_ble rfl)
  refine Wk.nil ?_
  refine AW.seq ?_
  apply AW.list
  apply Wk.mv (by conv => lhs; whnf) (lt_of_ble rfl)
  apply Wk.mv (by conv => lhs; whnf) (lt_of_ble rfl)
  apply Wk.mv (by conv => lhs; whnf) (lt_of_ble rfl)
  apply Wk.mv (by conv => lhs; whnf) (lt_of_ble rfl)
  apply Wk.iado 113 1 false un22 ty5 rfl rfl rfl (by rw [cellsB_length]; exact hal) (lt_of_ble rfl)
  apply Wk.ldo (i := 113) 1 false ty5 rfl rfl (cellsB_part hx) (lt_of_ble rfl)
  apply Wk.mv (by conv => lhs; whnf) (lt_of_ble rfl)
  apply Wk.len un22 rfl (lt_of_ble rfl)
  apply Wk.remn (a := ms.length) (b := 255) (by exact congrArg (fun n : Int => A.d (.v (.int .i64 n))) em) rfl (by omega) (lt_of_ble rfl)
  apply Wk.addn (a := 1) (b := ms.length % 255) rfl rfl (by omega) (lt_of_ble rfl)
  obtain ⟨z, hzv⟩ : ∃ z : Fin 256, z.val = 1 + ms.length % 255 := ⟨⟨1 + ms.length % 255, by omega⟩, rfl⟩
  have hwz : IntKind.u8.wrap (((1 + ms.length % 255 : Nat) : Int)) = ((z.val : Nat) : Int) := by rw [hzv]; exact wrap8 (by omega) (by omega)
  have hz0 : z.val ≠ 0 := by omega
  obtain ⟨v, hv, hvx⟩ := xor8 x z
  apply Wk.convi rfl ui3 ui5 (lt_of_ble rfl)
  rw [hwz]
  apply Wk.bin rfl rfl (r := .int .u8 ((v.val : Nat) : Int)) (fun w => by simp [go_sem, hv]) (lt_of_ble rfl)
  apply Wk.iado 113 1 false un22 ty5 rfl rfl rfl (by rw [cellsB_length]; exact hal) (lt_of_ble rfl)
  apply Wk.stoo 113 at_ 0 1 false ty5 rfl rfl (by omega) (cellsB_get hx) rfl rfl (by decide) (lt_of_ble rfl)
  rw [cellsB_set b at_ v rfl]
  refine Wk.nil ?_
  refine AW.thaw (t := 14) (i := 113) (cellsD (b.set at_ v)) rfl rfl (asData_cells _) hX.none ?_
  have hbent : rdB ((b.set at_ v).map (·.val)) = false := by
    refine rd_cut ?_
    rw [List.map_set, hL]
    have hxe : (putL L).getD at_ 0 = x.val := by rw [← hL, List.getD_eq_getElem?_getD]; simp [hx]
    refine cut_bent hLb (by rw [← hL]; simpa using hal) v.isLt ?_
    rw [hxe, hvx]
    intro e
    have : z.val = 0 := by
      have h3 : x.val ^^^ (x.val ^^^ z.val) = x.val ^^^ x.val := by rw [e]
      rw [← Nat.xor_assoc, Nat.xor_self, Nat.zero_xor] at h3
      exact h3
    exact hz0 this
  obtain ⟨d3, hd3⟩ := byt_fin (rdData_byt (fin_byt (b.set at_ v)))
  have I3 := iread_ok ((b.set at_ v).map (·.val)) d3 (fin_byt _) (by simp; omega) hd3 h0 h1 h2
  have hlong : rdB ((b ++ [(0 : Fin 256)] : List (Fin 256)).map (fun z => z.val)) = false := by
    rw [List.map_append, hL]
    exact rd_longer (n := bs.length) (by rw [hLl, lm]) (by rw [hL4, lm])
  obtain ⟨d4, hd4⟩ := byt_fin (rdData_byt (fin_byt (b ++ [(0 : Fin 256)])))
  have I4 := iread_ok ((b ++ [(0 : Fin 256)] : List (Fin 256)).map (fun z => z.val)) d4 (fin_byt _) (by simp; omega) hd4 h0 h1 h2
  have hshort : rdB (((b.drop 0).take (b.length - 1 - 0)).map (·.val)) = false := by
    rw [List.drop_zero, Nat.sub_zero, List.map_take, hL]
    have : b.length = (putL L).length := by rw [← hL, List.length_map]
    rw [this]
    exact rd_shorter (n := bs.length) (by rw [hLl, lm]) (by rw [hL4, lm])
  obtain ⟨d5, hd5⟩ := byt_fin (rdData_byt (fin_byt ((b.drop 0).take (b.length - 1 - 0))))
  have I5 := iread_ok (((b.drop 0).take (b.length - 1 - 0)).map (·.val)) d5 (fin_byt _) (by simp; omega) hd5 h0 h1 h2
  simp only [rdA, hbent] at I3
  simp only [rdA, hlong] at I4
  simp only [rdA, hshort] at I5
  refine AW.seq ?_
  apply AW.list
  apply Wk.mv (by conv => lhs; whnf) (lt_of_ble rfl)
  apply Wk.dav I3 hX hV Tryd.func8 rfl rfl rfl rfl rfl (lt_of_ble rfl)
  apply Wk.mv (by conv => lhs; whnf) (lt_of_ble rfl)
  apply Wk.ext rfl rfl (lt_of_ble rfl)
  apply Wk.ext rfl rfl (lt_of_ble rfl)
  apply Wk.alc 16 [.int .i64 0, .int .i64 0, .int .i64 0, .bool false, .bool false, .int .i64 0, .int .i64 0, .int .i64 0, .slice none 0 0] ze24 rfl rfl (lt_of_ble rfl)
  apply Wk.sto (i := 16) 9 true ty24 rfl rfl rfl rfl (Nat.le_of_ble_eq_true rfl) (lt_of_ble rfl)
  apply Wk.asg (by conv => lhs; whnf) (lt_of_ble rfl)
  refine Wk.nil ?_
  refine AW.seq ?_
  apply AW.list
  apply Wk.lst 144 1 false [.int .u8 0] un22 ty5 ze5 rfl rfl (by rfl) (by rfl) (by decide) (by decide) rfl rfl (all_len rfl) (lt_of_ble rfl)
  apply Wk.mv (by conv => lhs; whnf) (lt_of_ble rfl)
  apply Wk.appOR 144 1000 1 un22 ap5 rfl rfl rfl (.inr rfl) (by decide) (bytes_len b) (by simp) (by simp; omega) (lt_of_ble rfl)
  rw [cells_of, List.nil_append]
  apply Wk.lst 147 1 false [.int .u8 0] un22 ty5 ze5 rfl rfl (by rfl) (by rfl) (by decide) (by decide) rfl rfl (all_len rfl) (lt_of_ble rfl)
  apply Wk.appOO 144 147 1 un22 ap5 rfl rfl rfl rfl (by decide) (all_len rfl) (one_cellsB b) (by rw [cellsB_length]; simp; omega) (lt_of_ble rfl)
  rw [show cellsB b ++ [[A.d (.v (.int .u8 0))]] = cellsB (b ++ [0]) by simp [cellsB]]
  apply Wk.thaw 148 144 (cellsD (b ++ [0])) hX rfl (by rfl) (asData_cells _)
  apply Wk.dav I4 hX hV Tryd.func8 rfl rfl rfl rfl rfl (lt_of_ble rfl)
  apply Wk.mv (by conv => lhs; whnf) (lt_of_ble rfl)
  apply Wk.ext rfl rfl (lt_of_ble rfl)
  apply Wk.ext rfl rfl (lt_of_ble rfl)
  apply Wk.alc 18 [.int .i64 0, .int .i64 0, .int .i64 0, .bool false, .bool false, .int .i64 0, .int .i64 0, .int .i64 0, .slice none 0 0] ze24 rfl rfl (lt_of_ble rfl)
  apply Wk.sto (i := 18) 9 true ty24 rfl rfl rfl rfl (Nat.le_of_ble_eq_true rfl) (lt_of_ble rfl)
  apply Wk.asg (by conv => lhs; whnf) (lt_of_ble rfl)
  refine Wk.nil ?_
  refine AW.seq ?_
  apply AW.list
  apply Wk.mv (by conv => lhs; whnf) (lt_of_ble rfl)
  apply Wk.mv (by conv => lhs; whnf) (lt_of_ble rfl)
  apply Wk.len un22 rfl (lt_of_ble rfl)
  apply Wk.subi rfl rfl (by omega) (lt_of_ble rfl)
  apply Wk.slc (m := b.length - 1) (l := 0) 1 false un22 ty5 rfl (by rw [eb, en]; exact (if_pos ⟨by omega, by omega⟩).trans (congrArg some (by omega))) rfl (bytes_len b) (lt_of_ble rfl)
  rw [show (((b.map (·.val)).map (fun z : Nat => [D.v (.int .u8 (z : Int))])).drop 0).take (b.length - 1 - 0) = ((((b.drop 0).take (b.length - 1 - 0)).map (·.val)).map (fun z : Nat => [D.v (.int .u8 (z : Int))])) by simp only [List.map_drop, List.map_take]]
  apply Wk.dav I5 hX hV Tryd.func8 rfl rfl rfl rfl rfl (lt_of_ble rfl)
  apply Wk.mv (by conv => lhs; whnf) (lt_of_ble rfl)
  apply Wk.ext rfl rfl (lt_of_ble rfl)
  apply Wk.ext rfl rfl (lt_of_ble rfl)
  apply Wk.alc 20 [.int .i64 0, .int .i64 0, .int .i64 0, .bool false, .bool false, .int .i64 0, .int .i64 0, .int .i64 0, .slice none 0 0] ze24 rfl rfl (lt_of_ble rfl)
  apply Wk.sto (i := 20) 9 true ty24 rfl rfl rfl rfl (Nat.le_of_ble_eq_true rfl) (lt_of_ble rfl)
  apply Wk.asg (by conv => lhs; whnf) (lt_of_ble rfl)
  refine Wk.nil ?_
  refine AW.seq ?_
  apply AW.list
  apply Wk.mv (by conv => lhs; whnf) (lt_of_ble rfl)
  apply Wk.un rfl (fun w => by simp [go_sem] <;> rfl) (lt_of_ble rfl)
  apply Wk.mv (by conv => lhs; whnf) (lt_of_ble rfl)
  apply Wk.gon 163 rfl rfl
  apply Wk.mv (by conv => lhs; whnf) (lt_of_ble rfl)
  apply Wk.gon 163 rfl rfl
  apply Wk.un rfl (fun w => by simp [go_sem] <;> rfl) (lt_of_ble rfl)
  apply Wk.pckT rfl (by conv => lhs; whnf) (lt_of_ble rfl)
  apply Wk.mv (by conv => lhs; whnf) (lt_of_ble rfl)
  apply Wk.gon 167 rfl rfl
  apply Wk.mv (by conv => lhs; whnf) (lt_of_ble rfl)
  apply Wk.gon 167 rfl rfl
  apply Wk.un rfl (fun w => by simp [go_sem] <;> rfl) (lt_of_ble rfl)
  apply Wk.pckT rfl (by conv => lhs; whnf) (lt_of_ble rfl)
  apply Wk.asg (by conv => lhs; whnf) (lt_of_ble rfl)
  refine Wk.nil (AW.ret ?_)
  repeat (first | refine thenA_ret ?_ | refine inBlockA_ret ?_)
  exact RetQ.ret [] (.cons rfl .nil) ⟨rfl, rfl⟩ none_kept
namespace fnFrmBytes
set_option linter.unusedVariables false in
set_option maxRecDepth 100000 in
theorem walk (a0 : Option Addr) (len0 cap0 : Nat) (z0 : List Int) (a1 : Option Addr) (len1 cap1 : Nat) (z1 : List Int) (w : World) (w0 : IsRow .u8 w a0 len0 cap0 z0) (w1 : IsRow .u8 w a1 len1 cap1 z1) (a10 a11 a12 : Addr) (hE : VarsIn [(1, errV a10), (3, errV a11), (2, errV a12)] w) (hne0_1 : a10 ≠ a11) (hne0_2 : a10 ≠ a12) (hne1_2 : a11 ≠ a12) :
    Calls Tryd.prog 3 #[.slice a0 len0 cap0, .slice a1 len1 cap1] w fun e w' => e = .returned (.bool true) ∧ Below w.heap.size w w' := by
  by_cases hs0 : (1048576 : Int) < (len0 : Int)
  · go_enter Tryd.func3, Tryd.ntmps3
    go_wp2
    go_ret
    exact ⟨rfl, Below.refl _ _⟩
  · by_cases hs1 : (1048576 : Int) < (len1 : Int)
    · go_enter Tryd.func3, Tryd.ntmps3
      go_wp2
      go_ret
      exact ⟨rfl, Below.refl _ _⟩
    · obtain ⟨cz, hR0, e0⟩ := w0.rd (by omega)
      obtain ⟨mz, hR1, e1⟩ := w1.rd (by omega)
      obtain ⟨zs, rfl⟩ := byt_fin hR0.1
      obtain ⟨ys, rfl⟩ := byt_fin hR1.1
      refine (lawFrmBytes_ok zs ys ?_ ?_ (V := [(1, errV a10), (3, errV a11), (2, errV a12)]) (show (1, errV a10) ∈ ([(1, errV a10), (3, errV a11), (2, errV a12)] : List (Nat × Value)) by simp) (show (2, errV a12) ∈ ([(1, errV a10), (3, errV a11), (2, errV a12)] : List (Nat × Value)) by simp) (show (3, errV a11) ∈ ([(1, errV a10), (3, errV a11), (2, errV a12)] : List (Nat × Value)) by simp)).run2 hE hR0 hR1
      · simp at e0; omega
      · simp at e1; omega
end fnFrmBytes
end Go.Proofs.YthnlpdjjnfkmeaaDoor
