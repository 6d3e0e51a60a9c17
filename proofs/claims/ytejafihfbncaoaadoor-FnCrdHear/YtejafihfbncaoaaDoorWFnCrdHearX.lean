/- The law of CrdHear, promise 4, returns true at every code. Written by tools/mk_WFnCrdHear.py. -/
import Derived.Test.YtejafihfbncaoaaDoorMa
import Derived.Test.YtejafihfbncaoaaDoorMb
import Derived.Test.YtejafihfbncaoaaDoorMc
import Derived.Test.YtejafihfbncaoaaDoorMd
import Derived.Test.YtejafihfbncaoaaDoorMe
import Derived.Test.YtejafihfbncaoaaDoorMf
import Derived.Test.YtejafihfbncaoaaDoorMg
import Derived.Test.YtejafihfbncaoaaDoorMh
import Derived.RowKit3
namespace Go.Proofs.YtejafihfbncaoaaDoor
open Go Go.RowKit
theorem liS0 : DataOk Tryd.prog 30 [noS, noS] (.d (.v (.bool true))) := liSdusE []
theorem liS1 (bs : List (Fin 256)) : DataOk Tryd.prog 30 [oneS bs, oneS bs] (.d (.v (.bool true))) := liSdusE [bs.map fun x : Fin 256 => x.val]
theorem crx_nil {v : Int} (h0 : 1 ≤ v) (h1 : v ≤ 255) : crxB (v - 1) 0 ([] : List (Fin 256)).length = true := by
  simp only [crxB, Bool.and_eq_true]
  exact ⟨(inB_iff _ _ _).2 (by omega), rfl⟩
theorem crx_more {v m : Int} {bs : List (Fin 256)} {g l : Int} {fs : List (Fin 256)} (h0 : 1 ≤ v) (h1 : v ≤ 255) (hj : joinB m bs.length = true) (hp : pieceB g l fs.length = true) (hC : putC m bs.length g fs.length = 1) : crxB (v - 1) (if m = 0 then l else m) (bs ++ fs).length = true := by
  simp only [crxB, Bool.and_eq_true, List.length_append]
  exact ⟨(inB_iff _ _ _).2 (by omega), join_more hj hp hC⟩
set_option maxHeartbeats 8000000 in
set_option maxRecDepth 100000 in
theorem lawCrdHear_ok (zs : List (Fin 256)) {V : List (Nat × Value)} {a : Addr} (hV0 : (0, errV a) ∈ V) : DataV Tryd.prog V 6 [.d (bytesD (zs.map (·.val)))] (.d (.v (.bool true))) := by
  refine DataV.intro (n := 174) (rv := [.tmp 2]) Tryd.func6 rfl rfl rfl (by simp) fun C hV hN hX => ?_
  refine AW.seq ?_
  apply AW.list
  apply Wk.asg (by conv => lhs; whnf) (lt_of_ble rfl)
  refine Wk.nil ?_
  refine AW.seq (AW.seq ?_)
  apply AW.list
  apply Wk.mv (by conv => lhs; whnf) (lt_of_ble rfl)
  apply Wk.len un22 rfl (lt_of_ble rfl)
  apply Wk.bin rfl rfl (fun w => by simp [go_sem] <;> rfl) (lt_of_ble rfl)
  refine Wk.nil ?_
  refine AW.cond rfl (fun hc => ?_) (fun hc => ?_)
  · refine AW.seq ?_
    apply AW.list
    apply Wk.asg (by conv => lhs; whnf) (lt_of_ble rfl)
    refine Wk.nil (AW.ret ?_)
    refine thenA_ret ?_
    exact RetQ.ret [] (.cons rfl .nil) ⟨rfl, rfl⟩ none_kept
  refine AW.skip (thenA_normal ?_)
  refine AW.seq ?_
  apply AW.list
  apply Wk.mv (by conv => lhs; whnf) (lt_of_ble rfl)
  apply Wk.datw (drawCHear_ok zs) Tryd.func27 rfl rfl rfl rfl (lt_of_ble rfl)
  rintro _ ⟨m0, w0, s0, t0, y0, v, m, bs, d, k, s, c, p, f, y, g, l, fs, rfl, hbl, hfl⟩
  apply Wk.mv (by conv => lhs; whnf) (lt_of_ble rfl)
  apply Wk.ext rfl rfl (lt_of_ble rfl)
  apply Wk.ext rfl rfl (lt_of_ble rfl)
  apply Wk.ext rfl rfl (lt_of_ble rfl)
  apply Wk.alc 3 [.int .i64 0, .int .i64 0, .int .i64 0, .int .i64 0, .int .i64 0] ze24 rfl rfl (lt_of_ble rfl)
  apply Wk.alc 4 [.int .i64 0, .int .i64 0, .slice none 0 0, .bool false] ze50 rfl rfl (lt_of_ble rfl)
  apply Wk.alc 5 [.int .i64 0, .int .i64 0, .int .i64 0, .bool false, .bool false, .int .i64 0, .int .i64 0, .int .i64 0, .slice none 0 0] ze31 rfl rfl (lt_of_ble rfl)
  apply Wk.sto (i := 3) 5 true ty24 rfl rfl rfl rfl (Nat.le_of_ble_eq_true rfl) (lt_of_ble rfl)
  apply Wk.sto (i := 4) 4 true ty50 rfl rfl rfl rfl (Nat.le_of_ble_eq_true rfl) (lt_of_ble rfl)
  apply Wk.sto (i := 5) 9 true ty31 rfl rfl rfl rfl (Nat.le_of_ble_eq_true rfl) (lt_of_ble rfl)
  refine Wk.nil ?_
  cases h0 : Opt.ok ⟨m0, w0, s0, t0, y0⟩
  · have ci := ihearCNo (V := V) m0 w0 s0 t0 y0 v m bs d k s c p f y g l fs (by omega) (.inl h0)
    have cs := shearCNo m0 w0 s0 t0 y0 v m bs d k s c p f y g l fs (by omega) (.inl h0)
    obtain ⟨t1, h1⟩ : ∃ t, crxB v m bs.length = t := ⟨_, rfl⟩
    refine AW.seq ?_
    apply AW.list
    apply Wk.ld (i := 3) 5 true ty24 rfl rfl (by conv => lhs; whnf) (lt_of_ble rfl)
    apply Wk.ld (i := 4) 4 true ty50 rfl rfl (by conv => lhs; whnf) (lt_of_ble rfl)
    apply Wk.ld (i := 5) 9 true ty31 rfl rfl (by conv => lhs; whnf) (lt_of_ble rfl)
    apply Wk.dav ci hX hV Tryd.func28 rfl rfl rfl rfl rfl (lt_of_ble rfl)
    apply Wk.mv (by conv => lhs; whnf) (lt_of_ble rfl)
    apply Wk.ext rfl rfl (lt_of_ble rfl)
    apply Wk.ext rfl rfl (lt_of_ble rfl)
    apply Wk.alc 6 [.int .i64 0, .int .i64 0, .slice none 0 0, .bool false] ze50 rfl rfl (lt_of_ble rfl)
    apply Wk.sto (i := 6) 4 true ty50 rfl rfl rfl rfl (Nat.le_of_ble_eq_true rfl) (lt_of_ble rfl)
    apply Wk.asg (by conv => lhs; whnf) (lt_of_ble rfl)
    refine Wk.nil ?_
    refine AW.seq ?_
    apply AW.list
    apply Wk.ld (i := 3) 5 true ty24 rfl rfl (by conv => lhs; whnf) (lt_of_ble rfl)
    apply Wk.ld (i := 4) 4 true ty50 rfl rfl (by conv => lhs; whnf) (lt_of_ble rfl)
    apply Wk.ld (i := 5) 9 true ty31 rfl rfl (by conv => lhs; whnf) (lt_of_ble rfl)
    apply Wk.dat cs Tryd.func29 rfl rfl rfl rfl rfl (lt_of_ble rfl)
    apply Wk.mv (by conv => lhs; whnf) (lt_of_ble rfl)
    apply Wk.ext rfl rfl (lt_of_ble rfl)
    apply Wk.ext rfl rfl (lt_of_ble rfl)
    apply Wk.alc 8 [.int .i64 0, .int .i64 0, .slice none 0 0, .bool false] ze50 rfl rfl (lt_of_ble rfl)
    apply Wk.sto (i := 8) 4 true ty50 rfl rfl rfl rfl (Nat.le_of_ble_eq_true rfl) (lt_of_ble rfl)
    apply Wk.asg (by conv => lhs; whnf) (lt_of_ble rfl)
    refine Wk.nil ?_
    refine AW.seq (AW.seq ?_)
    apply AW.draw (hm := hmix) (cs := _)
    · apply Wk.ld (i := 6) 4 true ty50 rfl rfl (by conv => lhs; whnf) (lt_of_ble rfl)
      apply Wk.ld (i := 8) 4 true ty50 rfl rfl (by conv => lhs; whnf) (lt_of_ble rfl)
      apply Wk.dat (liCrxE 0 0 [] false) Tryd.func24 rfl rfl rfl rfl rfl (lt_of_ble rfl)
      apply Wk.un rfl (fun w => by simp [go_sem] <;> rfl) (lt_of_ble rfl)
      apply Wk.mv (by conv => lhs; whnf) (lt_of_ble rfl)
      apply Wk.gon 40 rfl rfl
      apply Wk.mv (by conv => lhs; whnf) (lt_of_ble rfl)
      apply Wk.gon 40 rfl rfl
      apply Wk.mv (by conv => lhs; whnf) (lt_of_ble rfl)
      apply Wk.gon 40 rfl rfl
      apply Wk.dat liS0 Tryd.func30 rfl rfl rfl rfl rfl (lt_of_ble rfl)
      apply Wk.gon 40 rfl rfl
      apply Wk.un rfl (fun w => by simp [go_sem] <;> rfl) (lt_of_ble rfl)
      apply Wk.pckF rfl (by conv => lhs; whnf) (lt_of_ble rfl)
      apply Wk.mv (by conv => lhs; whnf) (lt_of_ble rfl)
      apply Wk.gon 46 rfl rfl
      apply Wk.ld (i := 4) 4 true ty50 rfl rfl (by conv => lhs; whnf) (lt_of_ble rfl)
      apply Wk.gon 46 rfl rfl
      apply Wk.dat (icrxb d h1) Tryd.func26 rfl rfl rfl rfl rfl (lt_of_ble rfl)
      apply Wk.gon 46 rfl rfl
      apply Wk.ld (i := 4) 4 true ty50 rfl rfl (by conv => lhs; whnf) (lt_of_ble rfl)
      apply Wk.gon 46 rfl rfl
      apply Wk.dat (scrxb d h1) Tryd.func25 rfl rfl rfl rfl rfl (lt_of_ble rfl)
      apply Wk.gon 46 rfl rfl
      apply Wk.bin rfl rfl (r := .bool false) (fun w => by simp [go_sem]) (lt_of_ble rfl)
      apply Wk.pckF rfl (by conv => lhs; whnf) (lt_of_ble rfl)
      refine Wk.nil ?_
      refine AW.cond rfl (fun hc => by cases hc) (fun _ => AW.skip (thenA_normal ?_))
      refine AW.seq (AW.seq ?_)
      apply AW.list
      apply Wk.ld (i := 3) 5 true ty24 rfl rfl (by conv => lhs; whnf) (lt_of_ble rfl)
      apply Wk.dat (scfgbX m0 w0 s0 t0 y0 h0) Tryd.func31 rfl rfl rfl rfl rfl (lt_of_ble rfl)
      apply Wk.un rfl (fun w => by simp [go_sem] <;> rfl) (lt_of_ble rfl)
      apply Wk.mv (by conv => lhs; whnf) (lt_of_ble rfl)
      apply Wk.goff 56 (ok_load 4 ty50) rfl rfl (by simp)
      apply Wk.goff 56 (ok_datw ((scrxb (v := 0) (m := 0) (bs := []) false rfl).w rfl) Tryd.func25 rfl rfl) rfl rfl (by simp)
      apply Wk.goff 56 (ok_un _ _ _) rfl rfl (by simp)
      apply Wk.pckT rfl (by conv => lhs; whnf) (lt_of_ble rfl)
      apply Wk.mv (by conv => lhs; whnf) (lt_of_ble rfl)
      apply Wk.goff 61 (ok_load 5 ty31) rfl rfl (by simp)
      apply Wk.goff 61 (ok_datw ((sfrmb k s c p f y g l fs rfl).w rfl) Tryd.func32 rfl rfl) rfl rfl (by simp)
      apply Wk.goff 61 (ok_un _ _ _) rfl rfl (by simp)
      apply Wk.pckT rfl (by conv => lhs; whnf) (lt_of_ble rfl)
      apply Wk.mv (by conv => lhs; whnf) (lt_of_ble rfl)
      apply Wk.goff 66 (ok_faddr fd31_0) rfl rfl (by simp)
      apply Wk.goff 66 (ok_load 5 ty3) rfl rfl (by simp)
      apply Wk.goff 66 (ok_bin _ _ _ _ _) rfl rfl (by simp)
      apply Wk.pckT rfl (by conv => lhs; whnf) (lt_of_ble rfl)
      refine Wk.nil ?_
      refine AW.cond rfl (fun _ => ?_) (fun hc => by cases hc)
      refine AW.seq ?_
      apply AW.list
      apply Wk.ld (i := 6) 4 true ty50 rfl rfl (by conv => lhs; whnf) (lt_of_ble rfl)
      apply Wk.bld [.int .i64 0, .int .i64 0, .slice none 0 0, .bool false] [(0, 1), (1, 2), (3, 1)] bl50 rfl (by conv => lhs; whnf) (lt_of_ble rfl)
      apply Wk.dat (liCrxE 0 0 [] false) Tryd.func24 rfl rfl rfl rfl rfl (lt_of_ble rfl)
      apply Wk.mv (by conv => lhs; whnf) (lt_of_ble rfl)
      apply Wk.gon 74 rfl rfl
      apply Wk.mv (by conv => lhs; whnf) (lt_of_ble rfl)
      apply Wk.gon 74 rfl rfl
      apply Wk.len un58 rfl (lt_of_ble rfl)
      apply Wk.gon 74 rfl rfl
      apply Wk.bin rfl rfl (r := .bool true) (fun w => by simp [go_sem]) (lt_of_ble rfl)
      apply Wk.pckT rfl (by conv => lhs; whnf) (lt_of_ble rfl)
      apply Wk.mv (by conv => lhs; whnf) (lt_of_ble rfl)
      apply Wk.gon 79 rfl rfl
      apply Wk.dat liok_ok Tryd.func13 rfl rfl rfl rfl rfl (lt_of_ble rfl)
      apply Wk.pckT rfl (by conv => lhs; whnf) (lt_of_ble rfl)
      apply Wk.asg (by conv => lhs; whnf) (lt_of_ble rfl)
      refine Wk.nil (AW.ret ?_)
      repeat (first | refine thenA_ret ?_ | refine inBlockA_ret ?_)
      exact RetQ.ret [] (.cons rfl .nil) ⟨rfl, rfl⟩ none_kept
    · rfl
    · rfl
  cases h1 : crxB v m bs.length
  · have ci := ihearCNo (V := V) m0 w0 s0 t0 y0 v m bs d k s c p f y g l fs (by omega) (.inr (.inl h1))
    have cs := shearCNo m0 w0 s0 t0 y0 v m bs d k s c p f y g l fs (by omega) (.inr (.inl h1))
    refine AW.seq ?_
    apply AW.list
    apply Wk.ld (i := 3) 5 true ty24 rfl rfl (by conv => lhs; whnf) (lt_of_ble rfl)
    apply Wk.ld (i := 4) 4 true ty50 rfl rfl (by conv => lhs; whnf) (lt_of_ble rfl)
    apply Wk.ld (i := 5) 9 true ty31 rfl rfl (by conv => lhs; whnf) (lt_of_ble rfl)
    apply Wk.dav ci hX hV Tryd.func28 rfl rfl rfl rfl rfl (lt_of_ble rfl)
    apply Wk.mv (by conv => lhs; whnf) (lt_of_ble rfl)
    apply Wk.ext rfl rfl (lt_of_ble rfl)
    apply Wk.ext rfl rfl (lt_of_ble rfl)
    apply Wk.alc 6 [.int .i64 0, .int .i64 0, .slice none 0 0, .bool false] ze50 rfl rfl (lt_of_ble rfl)
    apply Wk.sto (i := 6) 4 true ty50 rfl rfl rfl rfl (Nat.le_of_ble_eq_true rfl) (lt_of_ble rfl)
    apply Wk.asg (by conv => lhs; whnf) (lt_of_ble rfl)
    refine Wk.nil ?_
    refine AW.seq ?_
    apply AW.list
    apply Wk.ld (i := 3) 5 true ty24 rfl rfl (by conv => lhs; whnf) (lt_of_ble rfl)
    apply Wk.ld (i := 4) 4 true ty50 rfl rfl (by conv => lhs; whnf) (lt_of_ble rfl)
    apply Wk.ld (i := 5) 9 true ty31 rfl rfl (by conv => lhs; whnf) (lt_of_ble rfl)
    apply Wk.dat cs Tryd.func29 rfl rfl rfl rfl rfl (lt_of_ble rfl)
    apply Wk.mv (by conv => lhs; whnf) (lt_of_ble rfl)
    apply Wk.ext rfl rfl (lt_of_ble rfl)
    apply Wk.ext rfl rfl (lt_of_ble rfl)
    apply Wk.alc 8 [.int .i64 0, .int .i64 0, .slice none 0 0, .bool false] ze50 rfl rfl (lt_of_ble rfl)
    apply Wk.sto (i := 8) 4 true ty50 rfl rfl rfl rfl (Nat.le_of_ble_eq_true rfl) (lt_of_ble rfl)
    apply Wk.asg (by conv => lhs; whnf) (lt_of_ble rfl)
    refine Wk.nil ?_
    refine AW.seq (AW.seq ?_)
    apply AW.draw (hm := hmix) (cs := _)
    · apply Wk.ld (i := 6) 4 true ty50 rfl rfl (by conv => lhs; whnf) (lt_of_ble rfl)
      apply Wk.ld (i := 8) 4 true ty50 rfl rfl (by conv => lhs; whnf) (lt_of_ble rfl)
      apply Wk.dat (liCrxE 0 0 [] false) Tryd.func24 rfl rfl rfl rfl rfl (lt_of_ble rfl)
      apply Wk.un rfl (fun w => by simp [go_sem] <;> rfl) (lt_of_ble rfl)
      apply Wk.mv (by conv => lhs; whnf) (lt_of_ble rfl)
      apply Wk.gon 40 rfl rfl
      apply Wk.mv (by conv => lhs; whnf) (lt_of_ble rfl)
      apply Wk.gon 40 rfl rfl
      apply Wk.mv (by conv => lhs; whnf) (lt_of_ble rfl)
      apply Wk.gon 40 rfl rfl
      apply Wk.dat liS0 Tryd.func30 rfl rfl rfl rfl rfl (lt_of_ble rfl)
      apply Wk.gon 40 rfl rfl
      apply Wk.un rfl (fun w => by simp [go_sem] <;> rfl) (lt_of_ble rfl)
      apply Wk.pckF rfl (by conv => lhs; whnf) (lt_of_ble rfl)
      apply Wk.mv (by conv => lhs; whnf) (lt_of_ble rfl)
      apply Wk.gon 46 rfl rfl
      apply Wk.ld (i := 4) 4 true ty50 rfl rfl (by conv => lhs; whnf) (lt_of_ble rfl)
      apply Wk.gon 46 rfl rfl
      apply Wk.dat (icrxb d h1) Tryd.func26 rfl rfl rfl rfl rfl (lt_of_ble rfl)
      apply Wk.gon 46 rfl rfl
      apply Wk.ld (i := 4) 4 true ty50 rfl rfl (by conv => lhs; whnf) (lt_of_ble rfl)
      apply Wk.gon 46 rfl rfl
      apply Wk.dat (scrxb d h1) Tryd.func25 rfl rfl rfl rfl rfl (lt_of_ble rfl)
      apply Wk.gon 46 rfl rfl
      apply Wk.bin rfl rfl (r := .bool false) (fun w => by simp [go_sem]) (lt_of_ble rfl)
      apply Wk.pckF rfl (by conv => lhs; whnf) (lt_of_ble rfl)
      refine Wk.nil ?_
      refine AW.cond rfl (fun hc => by cases hc) (fun _ => AW.skip (thenA_normal ?_))
      refine AW.seq (AW.seq ?_)
      apply AW.list
      apply Wk.ld (i := 3) 5 true ty24 rfl rfl (by conv => lhs; whnf) (lt_of_ble rfl)
      apply Wk.dat (scfgbX m0 w0 s0 t0 y0 h0) Tryd.func31 rfl rfl rfl rfl rfl (lt_of_ble rfl)
      apply Wk.un rfl (fun w => by simp [go_sem] <;> rfl) (lt_of_ble rfl)
      apply Wk.mv (by conv => lhs; whnf) (lt_of_ble rfl)
      apply Wk.gon 56 rfl rfl
      apply Wk.ld (i := 4) 4 true ty50 rfl rfl (by conv => lhs; whnf) (lt_of_ble rfl)
      apply Wk.gon 56 rfl rfl
      apply Wk.dat (scrxb d h1) Tryd.func25 rfl rfl rfl rfl rfl (lt_of_ble rfl)
      apply Wk.gon 56 rfl rfl
      apply Wk.un rfl (fun w => by simp [go_sem] <;> rfl) (lt_of_ble rfl)
      apply Wk.pckF rfl (by conv => lhs; whnf) (lt_of_ble rfl)
      apply Wk.mv (by conv => lhs; whnf) (lt_of_ble rfl)
      apply Wk.goff 61 (ok_load 5 ty31) rfl rfl (by simp)
      apply Wk.goff 61 (ok_datw ((sfrmb k s c p f y g l fs rfl).w rfl) Tryd.func32 rfl rfl) rfl rfl (by simp)
      apply Wk.goff 61 (ok_un _ _ _) rfl rfl (by simp)
      apply Wk.pckT rfl (by conv => lhs; whnf) (lt_of_ble rfl)
      apply Wk.mv (by conv => lhs; whnf) (lt_of_ble rfl)
      apply Wk.goff 66 (ok_faddr fd31_0) rfl rfl (by simp)
      apply Wk.goff 66 (ok_load 5 ty3) rfl rfl (by simp)
      apply Wk.goff 66 (ok_bin _ _ _ _ _) rfl rfl (by simp)
      apply Wk.pckT rfl (by conv => lhs; whnf) (lt_of_ble rfl)
      refine Wk.nil ?_
      refine AW.cond rfl (fun _ => ?_) (fun hc => by cases hc)
      refine AW.seq ?_
      apply AW.list
      apply Wk.ld (i := 6) 4 true ty50 rfl rfl (by conv => lhs; whnf) (lt_of_ble rfl)
      apply Wk.bld [.int .i64 0, .int .i64 0, .slice none 0 0, .bool false] [(0, 1), (1, 2), (3, 1)] bl50 rfl (by conv => lhs; whnf) (lt_of_ble rfl)
      apply Wk.dat (liCrxE 0 0 [] false) Tryd.func24 rfl rfl rfl rfl rfl (lt_of_ble rfl)
      apply Wk.mv (by conv => lhs; whnf) (lt_of_ble rfl)
      apply Wk.gon 74 rfl rfl
      apply Wk.mv (by conv => lhs; whnf) (lt_of_ble rfl)
      apply Wk.gon 74 rfl rfl
      apply Wk.len un58 rfl (lt_of_ble rfl)
      apply Wk.gon 74 rfl rfl
      apply Wk.bin rfl rfl (r := .bool true) (fun w => by simp [go_sem]) (lt_of_ble rfl)
      apply Wk.pckT rfl (by conv => lhs; whnf) (lt_of_ble rfl)
      apply Wk.mv (by conv => lhs; whnf) (lt_of_ble rfl)
      apply Wk.gon 79 rfl rfl
      apply Wk.dat liok_ok Tryd.func13 rfl rfl rfl rfl rfl (lt_of_ble rfl)
      apply Wk.pckT rfl (by conv => lhs; whnf) (lt_of_ble rfl)
      apply Wk.asg (by conv => lhs; whnf) (lt_of_ble rfl)
      refine Wk.nil (AW.ret ?_)
      repeat (first | refine thenA_ret ?_ | refine inBlockA_ret ?_)
      exact RetQ.ret [] (.cons rfl .nil) ⟨rfl, rfl⟩ none_kept
    · rfl
    · rfl
  cases h3 : frmB k s c p f y g l fs.length
  · have ci := ihearCNo (V := V) m0 w0 s0 t0 y0 v m bs d k s c p f y g l fs (by omega) (.inr (.inr (.inr h3)))
    have cs := shearCNo m0 w0 s0 t0 y0 v m bs d k s c p f y g l fs (by omega) (.inr (.inr (.inr h3)))
    refine AW.seq ?_
    apply AW.list
    apply Wk.ld (i := 3) 5 true ty24 rfl rfl (by conv => lhs; whnf) (lt_of_ble rfl)
    apply Wk.ld (i := 4) 4 true ty50 rfl rfl (by conv => lhs; whnf) (lt_of_ble rfl)
    apply Wk.ld (i := 5) 9 true ty31 rfl rfl (by conv => lhs; whnf) (lt_of_ble rfl)
    apply Wk.dav ci hX hV Tryd.func28 rfl rfl rfl rfl rfl (lt_of_ble rfl)
    apply Wk.mv (by conv => lhs; whnf) (lt_of_ble rfl)
    apply Wk.ext rfl rfl (lt_of_ble rfl)
    apply Wk.ext rfl rfl (lt_of_ble rfl)
    apply Wk.alc 6 [.int .i64 0, .int .i64 0, .slice none 0 0, .bool false] ze50 rfl rfl (lt_of_ble rfl)
    apply Wk.sto (i := 6) 4 true ty50 rfl rfl rfl rfl (Nat.le_of_ble_eq_true rfl) (lt_of_ble rfl)
    apply Wk.asg (by conv => lhs; whnf) (lt_of_ble rfl)
    refine Wk.nil ?_
    refine AW.seq ?_
    apply AW.list
    apply Wk.ld (i := 3) 5 true ty24 rfl rfl (by conv => lhs; whnf) (lt_of_ble rfl)
    apply Wk.ld (i := 4) 4 true ty50 rfl rfl (by conv => lhs; whnf) (lt_of_ble rfl)
    apply Wk.ld (i := 5) 9 true ty31 rfl rfl (by conv => lhs; whnf) (lt_of_ble rfl)
    apply Wk.dat cs Tryd.func29 rfl rfl rfl rfl rfl (lt_of_ble rfl)
    apply Wk.mv (by conv => lhs; whnf) (lt_of_ble rfl)
    apply Wk.ext rfl rfl (lt_of_ble rfl)
    apply Wk.ext rfl rfl (lt_of_ble rfl)
    apply Wk.alc 8 [.int .i64 0, .int .i64 0, .slice none 0 0, .bool false] ze50 rfl rfl (lt_of_ble rfl)
    apply Wk.sto (i := 8) 4 true ty50 rfl rfl rfl rfl (Nat.le_of_ble_eq_true rfl) (lt_of_ble rfl)
    apply Wk.asg (by conv => lhs; whnf) (lt_of_ble rfl)
    refine Wk.nil ?_
    refine AW.seq (AW.seq ?_)
    apply AW.draw (hm := hmix) (cs := _)
    · apply Wk.ld (i := 6) 4 true ty50 rfl rfl (by conv => lhs; whnf) (lt_of_ble rfl)
      apply Wk.ld (i := 8) 4 true ty50 rfl rfl (by conv => lhs; whnf) (lt_of_ble rfl)
      apply Wk.dat (liCrxE 0 0 [] false) Tryd.func24 rfl rfl rfl rfl rfl (lt_of_ble rfl)
      apply Wk.un rfl (fun w => by simp [go_sem] <;> rfl) (lt_of_ble rfl)
      apply Wk.mv (by conv => lhs; whnf) (lt_of_ble rfl)
      apply Wk.gon 40 rfl rfl
      apply Wk.mv (by conv => lhs; whnf) (lt_of_ble rfl)
      apply Wk.gon 40 rfl rfl
      apply Wk.mv (by conv => lhs; whnf) (lt_of_ble rfl)
      apply Wk.gon 40 rfl rfl
      apply Wk.dat liS0 Tryd.func30 rfl rfl rfl rfl rfl (lt_of_ble rfl)
      apply Wk.gon 40 rfl rfl
      apply Wk.un rfl (fun w => by simp [go_sem] <;> rfl) (lt_of_ble rfl)
      apply Wk.pckF rfl (by conv => lhs; whnf) (lt_of_ble rfl)
      apply Wk.mv (by conv => lhs; whnf) (lt_of_ble rfl)
      apply Wk.gon 46 rfl rfl
      apply Wk.ld (i := 4) 4 true ty50 rfl rfl (by conv => lhs; whnf) (lt_of_ble rfl)
      apply Wk.gon 46 rfl rfl
      apply Wk.dat (icrxb d h1) Tryd.func26 rfl rfl rfl rfl rfl (lt_of_ble rfl)
      apply Wk.gon 46 rfl rfl
      apply Wk.ld (i := 4) 4 true ty50 rfl rfl (by conv => lhs; whnf) (lt_of_ble rfl)
      apply Wk.gon 46 rfl rfl
      apply Wk.dat (scrxb d h1) Tryd.func25 rfl rfl rfl rfl rfl (lt_of_ble rfl)
      apply Wk.gon 46 rfl rfl
      apply Wk.bin rfl rfl (r := .bool false) (fun w => by simp [go_sem]) (lt_of_ble rfl)
      apply Wk.pckF rfl (by conv => lhs; whnf) (lt_of_ble rfl)
      refine Wk.nil ?_
      refine AW.cond rfl (fun hc => by cases hc) (fun _ => AW.skip (thenA_normal ?_))
      refine AW.seq (AW.seq ?_)
      apply AW.list
      apply Wk.ld (i := 3) 5 true ty24 rfl rfl (by conv => lhs; whnf) (lt_of_ble rfl)
      apply Wk.dat (scfgbX m0 w0 s0 t0 y0 h0) Tryd.func31 rfl rfl rfl rfl rfl (lt_of_ble rfl)
      apply Wk.un rfl (fun w => by simp [go_sem] <;> rfl) (lt_of_ble rfl)
      apply Wk.mv (by conv => lhs; whnf) (lt_of_ble rfl)
      apply Wk.gon 56 rfl rfl
      apply Wk.ld (i := 4) 4 true ty50 rfl rfl (by conv => lhs; whnf) (lt_of_ble rfl)
      apply Wk.gon 56 rfl rfl
      apply Wk.dat (scrxb d h1) Tryd.func25 rfl rfl rfl rfl rfl (lt_of_ble rfl)
      apply Wk.gon 56 rfl rfl
      apply Wk.un rfl (fun w => by simp [go_sem] <;> rfl) (lt_of_ble rfl)
      apply Wk.pckF rfl (by conv => lhs; whnf) (lt_of_ble rfl)
      apply Wk.mv (by conv => lhs; whnf) (lt_of_ble rfl)
      apply Wk.gon 61 rfl rfl
      apply Wk.ld (i := 5) 9 true ty31 rfl rfl (by conv => lhs; whnf) (lt_of_ble rfl)
      apply Wk.gon 61 rfl rfl
      apply Wk.dat (sfrmb k s c p f y g l fs h3) Tryd.func32 rfl rfl rfl rfl rfl (lt_of_ble rfl)
      apply Wk.gon 61 rfl rfl
      apply Wk.un rfl (fun w => by simp [go_sem] <;> rfl) (lt_of_ble rfl)
      apply Wk.pckF rfl (by conv => lhs; whnf) (lt_of_ble rfl)
      apply Wk.mv (by conv => lhs; whnf) (lt_of_ble rfl)
      apply Wk.goff 66 (ok_faddr fd31_0) rfl rfl (by simp)
      apply Wk.goff 66 (ok_load 5 ty3) rfl rfl (by simp)
      apply Wk.goff 66 (ok_bin _ _ _ _ _) rfl rfl (by simp)
      apply Wk.pckT rfl (by conv => lhs; whnf) (lt_of_ble rfl)
      refine Wk.nil ?_
      refine AW.cond rfl (fun _ => ?_) (fun hc => by cases hc)
      refine AW.seq ?_
      apply AW.list
      apply Wk.ld (i := 6) 4 true ty50 rfl rfl (by conv => lhs; whnf) (lt_of_ble rfl)
      apply Wk.bld [.int .i64 0, .int .i64 0, .slice none 0 0, .bool false] [(0, 1), (1, 2), (3, 1)] bl50 rfl (by conv => lhs; whnf) (lt_of_ble rfl)
      apply Wk.dat (liCrxE 0 0 [] false) Tryd.func24 rfl rfl rfl rfl rfl (lt_of_ble rfl)
      apply Wk.mv (by conv => lhs; whnf) (lt_of_ble rfl)
      apply Wk.gon 74 rfl rfl
      apply Wk.mv (by conv => lhs; whnf) (lt_of_ble rfl)
      apply Wk.gon 74 rfl rfl
      apply Wk.len un58 rfl (lt_of_ble rfl)
      apply Wk.gon 74 rfl rfl
      apply Wk.bin rfl rfl (r := .bool true) (fun w => by simp [go_sem]) (lt_of_ble rfl)
      apply Wk.pckT rfl (by conv => lhs; whnf) (lt_of_ble rfl)
      apply Wk.mv (by conv => lhs; whnf) (lt_of_ble rfl)
      apply Wk.gon 79 rfl rfl
      apply Wk.dat liok_ok Tryd.func13 rfl rfl rfl rfl rfl (lt_of_ble rfl)
      apply Wk.pckT rfl (by conv => lhs; whnf) (lt_of_ble rfl)
      apply Wk.asg (by conv => lhs; whnf) (lt_of_ble rfl)
      refine Wk.nil (AW.ret ?_)
      repeat (first | refine thenA_ret ?_ | refine inBlockA_ret ?_)
      exact RetQ.ret [] (.cons rfl .nil) ⟨rfl, rfl⟩ none_kept
    · rfl
    · rfl
  by_cases hk : k = 3
  case neg =>
    have ci := ihearCNo (V := V) m0 w0 s0 t0 y0 v m bs d k s c p f y g l fs (by omega) (.inr (.inr (.inl hk)))
    have cs := shearCNo m0 w0 s0 t0 y0 v m bs d k s c p f y g l fs (by omega) (.inr (.inr (.inl hk)))
    refine AW.seq ?_
    apply AW.list
    apply Wk.ld (i := 3) 5 true ty24 rfl rfl (by conv => lhs; whnf) (lt_of_ble rfl)
    apply Wk.ld (i := 4) 4 true ty50 rfl rfl (by conv => lhs; whnf) (lt_of_ble rfl)
    apply Wk.ld (i := 5) 9 true ty31 rfl rfl (by conv => lhs; whnf) (lt_of_ble rfl)
    apply Wk.dav ci hX hV Tryd.func28 rfl rfl rfl rfl rfl (lt_of_ble rfl)
    apply Wk.mv (by conv => lhs; whnf) (lt_of_ble rfl)
    apply Wk.ext rfl rfl (lt_of_ble rfl)
    apply Wk.ext rfl rfl (lt_of_ble rfl)
    apply Wk.alc 6 [.int .i64 0, .int .i64 0, .slice none 0 0, .bool false] ze50 rfl rfl (lt_of_ble rfl)
    apply Wk.sto (i := 6) 4 true ty50 rfl rfl rfl rfl (Nat.le_of_ble_eq_true rfl) (lt_of_ble rfl)
    apply Wk.asg (by conv => lhs; whnf) (lt_of_ble rfl)
    refine Wk.nil ?_
    refine AW.seq ?_
    apply AW.list
    apply Wk.ld (i := 3) 5 true ty24 rfl rfl (by conv => lhs; whnf) (lt_of_ble rfl)
    apply Wk.ld (i := 4) 4 true ty50 rfl rfl (by conv => lhs; whnf) (lt_of_ble rfl)
    apply Wk.ld (i := 5) 9 true ty31 rfl rfl (by conv => lhs; whnf) (lt_of_ble rfl)
    apply Wk.dat cs Tryd.func29 rfl rfl rfl rfl rfl (lt_of_ble rfl)
    apply Wk.mv (by conv => lhs; whnf) (lt_of_ble rfl)
    apply Wk.ext rfl rfl (lt_of_ble rfl)
    apply Wk.ext rfl rfl (lt_of_ble rfl)
    apply Wk.alc 8 [.int .i64 0, .int .i64 0, .slice none 0 0, .bool false] ze50 rfl rfl (lt_of_ble rfl)
    apply Wk.sto (i := 8) 4 true ty50 rfl rfl rfl rfl (Nat.le_of_ble_eq_true rfl) (lt_of_ble rfl)
    apply Wk.asg (by conv => lhs; whnf) (lt_of_ble rfl)
    refine Wk.nil ?_
    refine AW.seq (AW.seq ?_)
    apply AW.draw (hm := hmix) (cs := _)
    · apply Wk.ld (i := 6) 4 true ty50 rfl rfl (by conv => lhs; whnf) (lt_of_ble rfl)
      apply Wk.ld (i := 8) 4 true ty50 rfl rfl (by conv => lhs; whnf) (lt_of_ble rfl)
      apply Wk.dat (liCrxE 0 0 [] false) Tryd.func24 rfl rfl rfl rfl rfl (lt_of_ble rfl)
      apply Wk.un rfl (fun w => by simp [go_sem] <;> rfl) (lt_of_ble rfl)
      apply Wk.mv (by conv => lhs; whnf) (lt_of_ble rfl)
      apply Wk.gon 40 rfl rfl
      apply Wk.mv (by conv => lhs; whnf) (lt_of_ble rfl)
      apply Wk.gon 40 rfl rfl
      apply Wk.mv (by conv => lhs; whnf) (lt_of_ble rfl)
      apply Wk.gon 40 rfl rfl
      apply Wk.dat liS0 Tryd.func30 rfl rfl rfl rfl rfl (lt_of_ble rfl)
      apply Wk.gon 40 rfl rfl
      apply Wk.un rfl (fun w => by simp [go_sem] <;> rfl) (lt_of_ble rfl)
      apply Wk.pckF rfl (by conv => lhs; whnf) (lt_of_ble rfl)
      apply Wk.mv (by conv => lhs; whnf) (lt_of_ble rfl)
      apply Wk.gon 46 rfl rfl
      apply Wk.ld (i := 4) 4 true ty50 rfl rfl (by conv => lhs; whnf) (lt_of_ble rfl)
      apply Wk.gon 46 rfl rfl
      apply Wk.dat (icrxb d h1) Tryd.func26 rfl rfl rfl rfl rfl (lt_of_ble rfl)
      apply Wk.gon 46 rfl rfl
      apply Wk.ld (i := 4) 4 true ty50 rfl rfl (by conv => lhs; whnf) (lt_of_ble rfl)
      apply Wk.gon 46 rfl rfl
      apply Wk.dat (scrxb d h1) Tryd.func25 rfl rfl rfl rfl rfl (lt_of_ble rfl)
      apply Wk.gon 46 rfl rfl
      apply Wk.bin rfl rfl (r := .bool false) (fun w => by simp [go_sem]) (lt_of_ble rfl)
      apply Wk.pckF rfl (by conv => lhs; whnf) (lt_of_ble rfl)
      refine Wk.nil ?_
      refine AW.cond rfl (fun hc => by cases hc) (fun _ => AW.skip (thenA_normal ?_))
      refine AW.seq (AW.seq ?_)
      apply AW.list
      apply Wk.ld (i := 3) 5 true ty24 rfl rfl (by conv => lhs; whnf) (lt_of_ble rfl)
      apply Wk.dat (scfgbX m0 w0 s0 t0 y0 h0) Tryd.func31 rfl rfl rfl rfl rfl (lt_of_ble rfl)
      apply Wk.un rfl (fun w => by simp [go_sem] <;> rfl) (lt_of_ble rfl)
      apply Wk.mv (by conv => lhs; whnf) (lt_of_ble rfl)
      apply Wk.gon 56 rfl rfl
      apply Wk.ld (i := 4) 4 true ty50 rfl rfl (by conv => lhs; whnf) (lt_of_ble rfl)
      apply Wk.gon 56 rfl rfl
      apply Wk.dat (scrxb d h1) Tryd.func25 rfl rfl rfl rfl rfl (lt_of_ble rfl)
      apply Wk.gon 56 rfl rfl
      apply Wk.un rfl (fun w => by simp [go_sem] <;> rfl) (lt_of_ble rfl)
      apply Wk.pckF rfl (by conv => lhs; whnf) (lt_of_ble rfl)
      apply Wk.mv (by conv => lhs; whnf) (lt_of_ble rfl)
      apply Wk.gon 61 rfl rfl
      apply Wk.ld (i := 5) 9 true ty31 rfl rfl (by conv => lhs; whnf) (lt_of_ble rfl)
      apply Wk.gon 61 rfl rfl
      apply Wk.dat (sfrmb k s c p f y g l fs h3) Tryd.func32 rfl rfl rfl rfl rfl (lt_of_ble rfl)
      apply Wk.gon 61 rfl rfl
      apply Wk.un rfl (fun w => by simp [go_sem] <;> rfl) (lt_of_ble rfl)
      apply Wk.pckF rfl (by conv => lhs; whnf) (lt_of_ble rfl)
      apply Wk.mv (by conv => lhs; whnf) (lt_of_ble rfl)
      apply Wk.gon 66 rfl rfl
      apply Wk.fad 0 0 false fd31_0 rfl (lt_of_ble rfl)
      apply Wk.gon 66 rfl rfl
      apply Wk.ld (i := 5) 1 false ty3 rfl rfl (by conv => lhs; whnf) (lt_of_ble rfl)
      apply Wk.gon 66 rfl rfl
      apply Wk.bin rfl rfl (r := .bool true) (fun w => by simp [go_sem, hk]) (lt_of_ble rfl)
      apply Wk.pckF rfl (by conv => lhs; whnf) (lt_of_ble rfl)
      refine Wk.nil ?_
      refine AW.cond rfl (fun _ => ?_) (fun hc => by cases hc)
      refine AW.seq ?_
      apply AW.list
      apply Wk.ld (i := 6) 4 true ty50 rfl rfl (by conv => lhs; whnf) (lt_of_ble rfl)
      apply Wk.bld [.int .i64 0, .int .i64 0, .slice none 0 0, .bool false] [(0, 1), (1, 2), (3, 1)] bl50 rfl (by conv => lhs; whnf) (lt_of_ble rfl)
      apply Wk.dat (liCrxE 0 0 [] false) Tryd.func24 rfl rfl rfl rfl rfl (lt_of_ble rfl)
      apply Wk.mv (by conv => lhs; whnf) (lt_of_ble rfl)
      apply Wk.gon 74 rfl rfl
      apply Wk.mv (by conv => lhs; whnf) (lt_of_ble rfl)
      apply Wk.gon 74 rfl rfl
      apply Wk.len un58 rfl (lt_of_ble rfl)
      apply Wk.gon 74 rfl rfl
      apply Wk.bin rfl rfl (r := .bool true) (fun w => by simp [go_sem]) (lt_of_ble rfl)
      apply Wk.pckT rfl (by conv => lhs; whnf) (lt_of_ble rfl)
      apply Wk.mv (by conv => lhs; whnf) (lt_of_ble rfl)
      apply Wk.gon 79 rfl rfl
      apply Wk.dat liok_ok Tryd.func13 rfl rfl rfl rfl rfl (lt_of_ble rfl)
      apply Wk.pckT rfl (by conv => lhs; whnf) (lt_of_ble rfl)
      apply Wk.asg (by conv => lhs; whnf) (lt_of_ble rfl)
      refine Wk.nil (AW.ret ?_)
      repeat (first | refine thenA_ret ?_ | refine inBlockA_ret ?_)
      exact RetQ.ret [] (.cons rfl .nil) ⟨rfl, rfl⟩ none_kept
    · rfl
    · rfl
  have hf := crx_facts h1
  have hp : pieceB g l fs.length = true := by subst hk; exact frm3 h3
  have hl1 := joinB_small hf.2
  have hl2 := pieceB_small hp
  cases d
  case true =>
    have ci := ihearCEnd (V := V) m0 w0 s0 t0 y0 v m bs true k s c p f y g l fs h0 h1 hk h3 hbl (by omega) hV0 (.inl rfl)
    have cs := shearCEnd m0 w0 s0 t0 y0 v m bs true k s c p f y g l fs h0 h1 hk h3 hbl (.inl rfl)
    refine AW.seq ?_
    apply AW.list
    apply Wk.ld (i := 3) 5 true ty24 rfl rfl (by conv => lhs; whnf) (lt_of_ble rfl)
    apply Wk.ld (i := 4) 4 true ty50 rfl rfl (by conv => lhs; whnf) (lt_of_ble rfl)
    apply Wk.ld (i := 5) 9 true ty31 rfl rfl (by conv => lhs; whnf) (lt_of_ble rfl)
    apply Wk.dav ci hX hV Tryd.func28 rfl rfl rfl rfl rfl (lt_of_ble rfl)
    apply Wk.mv (by conv => lhs; whnf) (lt_of_ble rfl)
    apply Wk.ext rfl rfl (lt_of_ble rfl)
    apply Wk.ext rfl rfl (lt_of_ble rfl)
    apply Wk.alc 6 [.int .i64 0, .int .i64 0, .slice none 0 0, .bool false] ze50 rfl rfl (lt_of_ble rfl)
    apply Wk.sto (i := 6) 4 true ty50 rfl rfl rfl rfl (Nat.le_of_ble_eq_true rfl) (lt_of_ble rfl)
    apply Wk.asg (by conv => lhs; whnf) (lt_of_ble rfl)
    refine Wk.nil ?_
    refine AW.seq ?_
    apply AW.list
    apply Wk.ld (i := 3) 5 true ty24 rfl rfl (by conv => lhs; whnf) (lt_of_ble rfl)
    apply Wk.ld (i := 4) 4 true ty50 rfl rfl (by conv => lhs; whnf) (lt_of_ble rfl)
    apply Wk.ld (i := 5) 9 true ty31 rfl rfl (by conv => lhs; whnf) (lt_of_ble rfl)
    apply Wk.dat cs Tryd.func29 rfl rfl rfl rfl rfl (lt_of_ble rfl)
    apply Wk.mv (by conv => lhs; whnf) (lt_of_ble rfl)
    apply Wk.ext rfl rfl (lt_of_ble rfl)
    apply Wk.ext rfl rfl (lt_of_ble rfl)
    apply Wk.alc 8 [.int .i64 0, .int .i64 0, .slice none 0 0, .bool false] ze50 rfl rfl (lt_of_ble rfl)
    apply Wk.sto (i := 8) 4 true ty50 rfl rfl rfl rfl (Nat.le_of_ble_eq_true rfl) (lt_of_ble rfl)
    apply Wk.asg (by conv => lhs; whnf) (lt_of_ble rfl)
    refine Wk.nil ?_
    refine AW.seq (AW.seq ?_)
    apply AW.draw (hm := hmix) (cs := _)
    · apply Wk.ld (i := 6) 4 true ty50 rfl rfl (by conv => lhs; whnf) (lt_of_ble rfl)
      apply Wk.ld (i := 8) 4 true ty50 rfl rfl (by conv => lhs; whnf) (lt_of_ble rfl)
      apply Wk.dat (liCrxE v m bs true) Tryd.func24 rfl rfl rfl rfl rfl (lt_of_ble rfl)
      apply Wk.un rfl (fun w => by simp [go_sem] <;> rfl) (lt_of_ble rfl)
      apply Wk.mv (by conv => lhs; whnf) (lt_of_ble rfl)
      apply Wk.gon 40 rfl rfl
      apply Wk.mv (by conv => lhs; whnf) (lt_of_ble rfl)
      apply Wk.gon 40 rfl rfl
      apply Wk.mv (by conv => lhs; whnf) (lt_of_ble rfl)
      apply Wk.gon 40 rfl rfl
      apply Wk.dat liS0 Tryd.func30 rfl rfl rfl rfl rfl (lt_of_ble rfl)
      apply Wk.gon 40 rfl rfl
      apply Wk.un rfl (fun w => by simp [go_sem] <;> rfl) (lt_of_ble rfl)
      apply Wk.pckF rfl (by conv => lhs; whnf) (lt_of_ble rfl)
      apply Wk.mv (by conv => lhs; whnf) (lt_of_ble rfl)
      apply Wk.gon 46 rfl rfl
      apply Wk.ld (i := 4) 4 true ty50 rfl rfl (by conv => lhs; whnf) (lt_of_ble rfl)
      apply Wk.gon 46 rfl rfl
      apply Wk.dat (icrxb true h1) Tryd.func26 rfl rfl rfl rfl rfl (lt_of_ble rfl)
      apply Wk.gon 46 rfl rfl
      apply Wk.ld (i := 4) 4 true ty50 rfl rfl (by conv => lhs; whnf) (lt_of_ble rfl)
      apply Wk.gon 46 rfl rfl
      apply Wk.dat (scrxb true h1) Tryd.func25 rfl rfl rfl rfl rfl (lt_of_ble rfl)
      apply Wk.gon 46 rfl rfl
      apply Wk.bin rfl rfl (r := .bool false) (fun w => by simp [go_sem]) (lt_of_ble rfl)
      apply Wk.pckF rfl (by conv => lhs; whnf) (lt_of_ble rfl)
      refine Wk.nil ?_
      refine AW.cond rfl (fun hc => by cases hc) (fun _ => AW.skip (thenA_normal ?_))
      refine AW.seq (AW.seq ?_)
      apply AW.list
      apply Wk.ld (i := 3) 5 true ty24 rfl rfl (by conv => lhs; whnf) (lt_of_ble rfl)
      apply Wk.dat (scfgbX m0 w0 s0 t0 y0 h0) Tryd.func31 rfl rfl rfl rfl rfl (lt_of_ble rfl)
      apply Wk.un rfl (fun w => by simp [go_sem] <;> rfl) (lt_of_ble rfl)
      apply Wk.mv (by conv => lhs; whnf) (lt_of_ble rfl)
      apply Wk.gon 56 rfl rfl
      apply Wk.ld (i := 4) 4 true ty50 rfl rfl (by conv => lhs; whnf) (lt_of_ble rfl)
      apply Wk.gon 56 rfl rfl
      apply Wk.dat (scrxb true h1) Tryd.func25 rfl rfl rfl rfl rfl (lt_of_ble rfl)
      apply Wk.gon 56 rfl rfl
      apply Wk.un rfl (fun w => by simp [go_sem] <;> rfl) (lt_of_ble rfl)
      apply Wk.pckF rfl (by conv => lhs; whnf) (lt_of_ble rfl)
      apply Wk.mv (by conv => lhs; whnf) (lt_of_ble rfl)
      apply Wk.gon 61 rfl rfl
      apply Wk.ld (i := 5) 9 true ty31 rfl rfl (by conv => lhs; whnf) (lt_of_ble rfl)
      apply Wk.gon 61 rfl rfl
      apply Wk.dat (sfrmb k s c p f y g l fs h3) Tryd.func32 rfl rfl rfl rfl rfl (lt_of_ble rfl)
      apply Wk.gon 61 rfl rfl
      apply Wk.un rfl (fun w => by simp [go_sem] <;> rfl) (lt_of_ble rfl)
      apply Wk.pckF rfl (by conv => lhs; whnf) (lt_of_ble rfl)
      apply Wk.mv (by conv => lhs; whnf) (lt_of_ble rfl)
      apply Wk.gon 66 rfl rfl
      apply Wk.fad 0 0 false fd31_0 rfl (lt_of_ble rfl)
      apply Wk.gon 66 rfl rfl
      apply Wk.ld (i := 5) 1 false ty3 rfl rfl (by conv => lhs; whnf) (lt_of_ble rfl)
      apply Wk.gon 66 rfl rfl
      apply Wk.bin rfl rfl (r := .bool false) (fun w => by simp [go_sem, hk]) (lt_of_ble rfl)
      apply Wk.pckF rfl (by conv => lhs; whnf) (lt_of_ble rfl)
      refine Wk.nil ?_
      refine AW.cond rfl (fun hc => by cases hc) (fun _ => AW.skip (thenA_normal ?_))
      refine AW.seq (AW.seq ?_)
      apply AW.list
      apply Wk.fad 3 0 false fd50_2 rfl (lt_of_ble rfl)
      apply Wk.ld (i := 4) 1 false ty4 rfl rfl (by conv => lhs; whnf) (lt_of_ble rfl)
      refine Wk.nil ?_
      refine AW.cond rfl (fun _ => ?_) (fun hc => by cases hc)
      refine AW.seq ?_
      apply AW.list
      apply Wk.ld (i := 6) 4 true ty50 rfl rfl (by conv => lhs; whnf) (lt_of_ble rfl)
      apply Wk.ld (i := 4) 4 true ty50 rfl rfl (by conv => lhs; whnf) (lt_of_ble rfl)
      apply Wk.dat (liCrxE v m bs true) Tryd.func24 rfl rfl rfl rfl rfl (lt_of_ble rfl)
      apply Wk.mv (by conv => lhs; whnf) (lt_of_ble rfl)
      apply Wk.gon 87 rfl rfl
      apply Wk.mv (by conv => lhs; whnf) (lt_of_ble rfl)
      apply Wk.gon 87 rfl rfl
      apply Wk.len un58 rfl (lt_of_ble rfl)
      apply Wk.gon 87 rfl rfl
      apply Wk.bin rfl rfl (r := .bool true) (fun w => by simp [go_sem]) (lt_of_ble rfl)
      apply Wk.pckT rfl (by conv => lhs; whnf) (lt_of_ble rfl)
      apply Wk.asg (by conv => lhs; whnf) (lt_of_ble rfl)
      refine Wk.nil (AW.ret ?_)
      repeat (first | refine thenA_ret ?_ | refine inBlockA_ret ?_)
      exact RetQ.ret [] (.cons rfl .nil) ⟨rfl, rfl⟩ none_kept
    · rfl
    · rfl
  by_cases hi : v = 0 ∨ t0 < l ∨ s0 < (fs.length : Int)
  · have ci := ihearCEnd (V := V) m0 w0 s0 t0 y0 v m bs false k s c p f y g l fs h0 h1 hk h3 hbl (by omega) hV0 (.inr hi)
    have cs := shearCEnd m0 w0 s0 t0 y0 v m bs false k s c p f y g l fs h0 h1 hk h3 hbl (.inr hi)
    by_cases c1 : v = 0
    · skip
      refine AW.seq ?_
      apply AW.list
      apply Wk.ld (i := 3) 5 true ty24 rfl rfl (by conv => lhs; whnf) (lt_of_ble rfl)
      apply Wk.ld (i := 4) 4 true ty50 rfl rfl (by conv => lhs; whnf) (lt_of_ble rfl)
      apply Wk.ld (i := 5) 9 true ty31 rfl rfl (by conv => lhs; whnf) (lt_of_ble rfl)
      apply Wk.dav ci hX hV Tryd.func28 rfl rfl rfl rfl rfl (lt_of_ble rfl)
      apply Wk.mv (by conv => lhs; whnf) (lt_of_ble rfl)
      apply Wk.ext rfl rfl (lt_of_ble rfl)
      apply Wk.ext rfl rfl (lt_of_ble rfl)
      apply Wk.alc 6 [.int .i64 0, .int .i64 0, .slice none 0 0, .bool false] ze50 rfl rfl (lt_of_ble rfl)
      apply Wk.sto (i := 6) 4 true ty50 rfl rfl rfl rfl (Nat.le_of_ble_eq_true rfl) (lt_of_ble rfl)
      apply Wk.asg (by conv => lhs; whnf) (lt_of_ble rfl)
      refine Wk.nil ?_
      refine AW.seq ?_
      apply AW.list
      apply Wk.ld (i := 3) 5 true ty24 rfl rfl (by conv => lhs; whnf) (lt_of_ble rfl)
      apply Wk.ld (i := 4) 4 true ty50 rfl rfl (by conv => lhs; whnf) (lt_of_ble rfl)
      apply Wk.ld (i := 5) 9 true ty31 rfl rfl (by conv => lhs; whnf) (lt_of_ble rfl)
      apply Wk.dat cs Tryd.func29 rfl rfl rfl rfl rfl (lt_of_ble rfl)
      apply Wk.mv (by conv => lhs; whnf) (lt_of_ble rfl)
      apply Wk.ext rfl rfl (lt_of_ble rfl)
      apply Wk.ext rfl rfl (lt_of_ble rfl)
      apply Wk.alc 8 [.int .i64 0, .int .i64 0, .slice none 0 0, .bool false] ze50 rfl rfl (lt_of_ble rfl)
      apply Wk.sto (i := 8) 4 true ty50 rfl rfl rfl rfl (Nat.le_of_ble_eq_true rfl) (lt_of_ble rfl)
      apply Wk.asg (by conv => lhs; whnf) (lt_of_ble rfl)
      refine Wk.nil ?_
      refine AW.seq (AW.seq ?_)
      apply AW.draw (hm := hmix) (cs := _)
      · apply Wk.ld (i := 6) 4 true ty50 rfl rfl (by conv => lhs; whnf) (lt_of_ble rfl)
        apply Wk.ld (i := 8) 4 true ty50 rfl rfl (by conv => lhs; whnf) (lt_of_ble rfl)
        apply Wk.dat (liCrxE v m bs true) Tryd.func24 rfl rfl rfl rfl rfl (lt_of_ble rfl)
        apply Wk.un rfl (fun w => by simp [go_sem] <;> rfl) (lt_of_ble rfl)
        apply Wk.mv (by conv => lhs; whnf) (lt_of_ble rfl)
        apply Wk.gon 40 rfl rfl
        apply Wk.mv (by conv => lhs; whnf) (lt_of_ble rfl)
        apply Wk.gon 40 rfl rfl
        apply Wk.mv (by conv => lhs; whnf) (lt_of_ble rfl)
        apply Wk.gon 40 rfl rfl
        apply Wk.dat liS0 Tryd.func30 rfl rfl rfl rfl rfl (lt_of_ble rfl)
        apply Wk.gon 40 rfl rfl
        apply Wk.un rfl (fun w => by simp [go_sem] <;> rfl) (lt_of_ble rfl)
        apply Wk.pckF rfl (by conv => lhs; whnf) (lt_of_ble rfl)
        apply Wk.mv (by conv => lhs; whnf) (lt_of_ble rfl)
        apply Wk.gon 46 rfl rfl
        apply Wk.ld (i := 4) 4 true ty50 rfl rfl (by conv => lhs; whnf) (lt_of_ble rfl)
        apply Wk.gon 46 rfl rfl
        apply Wk.dat (icrxb false h1) Tryd.func26 rfl rfl rfl rfl rfl (lt_of_ble rfl)
        apply Wk.gon 46 rfl rfl
        apply Wk.ld (i := 4) 4 true ty50 rfl rfl (by conv => lhs; whnf) (lt_of_ble rfl)
        apply Wk.gon 46 rfl rfl
        apply Wk.dat (scrxb false h1) Tryd.func25 rfl rfl rfl rfl rfl (lt_of_ble rfl)
        apply Wk.gon 46 rfl rfl
        apply Wk.bin rfl rfl (r := .bool false) (fun w => by simp [go_sem]) (lt_of_ble rfl)
        apply Wk.pckF rfl (by conv => lhs; whnf) (lt_of_ble rfl)
        refine Wk.nil ?_
        refine AW.cond rfl (fun hc => by cases hc) (fun _ => AW.skip (thenA_normal ?_))
        refine AW.seq (AW.seq ?_)
        apply AW.list
        apply Wk.ld (i := 3) 5 true ty24 rfl rfl (by conv => lhs; whnf) (lt_of_ble rfl)
        apply Wk.dat (scfgbX m0 w0 s0 t0 y0 h0) Tryd.func31 rfl rfl rfl rfl rfl (lt_of_ble rfl)
        apply Wk.un rfl (fun w => by simp [go_sem] <;> rfl) (lt_of_ble rfl)
        apply Wk.mv (by conv => lhs; whnf) (lt_of_ble rfl)
        apply Wk.gon 56 rfl rfl
        apply Wk.ld (i := 4) 4 true ty50 rfl rfl (by conv => lhs; whnf) (lt_of_ble rfl)
        apply Wk.gon 56 rfl rfl
        apply Wk.dat (scrxb false h1) Tryd.func25 rfl rfl rfl rfl rfl (lt_of_ble rfl)
        apply Wk.gon 56 rfl rfl
        apply Wk.un rfl (fun w => by simp [go_sem] <;> rfl) (lt_of_ble rfl)
        apply Wk.pckF rfl (by conv => lhs; whnf) (lt_of_ble rfl)
        apply Wk.mv (by conv => lhs; whnf) (lt_of_ble rfl)
        apply Wk.gon 61 rfl rfl
        apply Wk.ld (i := 5) 9 true ty31 rfl rfl (by conv => lhs; whnf) (lt_of_ble rfl)
        apply Wk.gon 61 rfl rfl
        apply Wk.dat (sfrmb k s c p f y g l fs h3) Tryd.func32 rfl rfl rfl rfl rfl (lt_of_ble rfl)
        apply Wk.gon 61 rfl rfl
        apply Wk.un rfl (fun w => by simp [go_sem] <;> rfl) (lt_of_ble rfl)
        apply Wk.pckF rfl (by conv => lhs; whnf) (lt_of_ble rfl)
        apply Wk.mv (by conv => lhs; whnf) (lt_of_ble rfl)
        apply Wk.gon 66 rfl rfl
        apply Wk.fad 0 0 false fd31_0 rfl (lt_of_ble rfl)
        apply Wk.gon 66 rfl rfl
        apply Wk.ld (i := 5) 1 false ty3 rfl rfl (by conv => lhs; whnf) (lt_of_ble rfl)
        apply Wk.gon 66 rfl rfl
        apply Wk.bin rfl rfl (r := .bool false) (fun w => by simp [go_sem, hk]) (lt_of_ble rfl)
        apply Wk.pckF rfl (by conv => lhs; whnf) (lt_of_ble rfl)
        refine Wk.nil ?_
        refine AW.cond rfl (fun hc => by cases hc) (fun _ => AW.skip (thenA_normal ?_))
        refine AW.seq (AW.seq ?_)
        apply AW.list
        apply Wk.fad 3 0 false fd50_2 rfl (lt_of_ble rfl)
        apply Wk.ld (i := 4) 1 false ty4 rfl rfl (by conv => lhs; whnf) (lt_of_ble rfl)
        refine Wk.nil ?_
        refine AW.cond rfl (fun hc => by cases hc) (fun _ => AW.skip (thenA_normal ?_))
        refine AW.seq (AW.seq ?_)
        apply AW.list
        apply Wk.fad 0 0 false fd50_0 rfl (lt_of_ble rfl)
        apply Wk.ld (i := 4) 1 false ty3 rfl rfl (by conv => lhs; whnf) (lt_of_ble rfl)
        apply Wk.bin rfl rfl (r := .bool true) (fun w => by simp [go_sem] <;> omega) (lt_of_ble rfl)
        apply Wk.mv (by conv => lhs; whnf) (lt_of_ble rfl)
        apply Wk.goff 95 (ok_faddr fd31_7) rfl rfl (by simp)
        apply Wk.goff 95 (ok_load 5 ty3) rfl rfl (by simp)
        apply Wk.goff 95 (ok_faddr fd24_3) rfl rfl (by simp)
        apply Wk.goff 95 (ok_load 3 ty3) rfl rfl (by simp)
        apply Wk.goff 95 (ok_bin _ _ _ _ _) rfl rfl (by simp)
        apply Wk.pckT rfl (by conv => lhs; whnf) (lt_of_ble rfl)
        apply Wk.mv (by conv => lhs; whnf) (lt_of_ble rfl)
        apply Wk.goff 102 (ok_faddr fd31_8) rfl rfl (by simp)
        apply Wk.goff 102 (ok_load 5 ty22) rfl rfl (by simp)
        apply Wk.goff 102 (ok_len un22) rfl rfl (by simp)
        apply Wk.goff 102 (ok_faddr fd24_2) rfl rfl (by simp)
        apply Wk.goff 102 (ok_load 3 ty3) rfl rfl (by simp)
        apply Wk.goff 102 (ok_bin _ _ _ _ _) rfl rfl (by simp)
        apply Wk.pckT rfl (by conv => lhs; whnf) (lt_of_ble rfl)
        refine Wk.nil ?_
        refine AW.cond rfl (fun _ => ?_) (fun hc => by cases hc)
        refine AW.seq ?_
        apply AW.list
        apply Wk.fad 3 0 false fd50_2 rfl (lt_of_ble rfl)
        apply Wk.ld (i := 6) 1 false ty4 rfl rfl (by conv => lhs; whnf) (lt_of_ble rfl)
        apply Wk.mv (by conv => lhs; whnf) (lt_of_ble rfl)
        apply Wk.gon 112 rfl rfl
        apply Wk.mv (by conv => lhs; whnf) (lt_of_ble rfl)
        apply Wk.gon 112 rfl rfl
        apply Wk.len un58 rfl (lt_of_ble rfl)
        apply Wk.gon 112 rfl rfl
        apply Wk.bin rfl rfl (r := .bool true) (fun w => by simp [go_sem]) (lt_of_ble rfl)
        apply Wk.pckT rfl (by conv => lhs; whnf) (lt_of_ble rfl)
        apply Wk.asg (by conv => lhs; whnf) (lt_of_ble rfl)
        refine Wk.nil (AW.ret ?_)
        repeat (first | refine thenA_ret ?_ | refine inBlockA_ret ?_)
        exact RetQ.ret [] (.cons rfl .nil) ⟨rfl, rfl⟩ none_kept
      · rfl
      · rfl
    by_cases c2 : t0 < l
    · skip
      refine AW.seq ?_
      apply AW.list
      apply Wk.ld (i := 3) 5 true ty24 rfl rfl (by conv => lhs; whnf) (lt_of_ble rfl)
      apply Wk.ld (i := 4) 4 true ty50 rfl rfl (by conv => lhs; whnf) (lt_of_ble rfl)
      apply Wk.ld (i := 5) 9 true ty31 rfl rfl (by conv => lhs; whnf) (lt_of_ble rfl)
      apply Wk.dav ci hX hV Tryd.func28 rfl rfl rfl rfl rfl (lt_of_ble rfl)
      apply Wk.mv (by conv => lhs; whnf) (lt_of_ble rfl)
      apply Wk.ext rfl rfl (lt_of_ble rfl)
      apply Wk.ext rfl rfl (lt_of_ble rfl)
      apply Wk.alc 6 [.int .i64 0, .int .i64 0, .slice none 0 0, .bool false] ze50 rfl rfl (lt_of_ble rfl)
      apply Wk.sto (i := 6) 4 true ty50 rfl rfl rfl rfl (Nat.le_of_ble_eq_true rfl) (lt_of_ble rfl)
      apply Wk.asg (by conv => lhs; whnf) (lt_of_ble rfl)
      refine Wk.nil ?_
      refine AW.seq ?_
      apply AW.list
      apply Wk.ld (i := 3) 5 true ty24 rfl rfl (by conv => lhs; whnf) (lt_of_ble rfl)
      apply Wk.ld (i := 4) 4 true ty50 rfl rfl (by conv => lhs; whnf) (lt_of_ble rfl)
      apply Wk.ld (i := 5) 9 true ty31 rfl rfl (by conv => lhs; whnf) (lt_of_ble rfl)
      apply Wk.dat cs Tryd.func29 rfl rfl rfl rfl rfl (lt_of_ble rfl)
      apply Wk.mv (by conv => lhs; whnf) (lt_of_ble rfl)
      apply Wk.ext rfl rfl (lt_of_ble rfl)
      apply Wk.ext rfl rfl (lt_of_ble rfl)
      apply Wk.alc 8 [.int .i64 0, .int .i64 0, .slice none 0 0, .bool false] ze50 rfl rfl (lt_of_ble rfl)
      apply Wk.sto (i := 8) 4 true ty50 rfl rfl rfl rfl (Nat.le_of_ble_eq_true rfl) (lt_of_ble rfl)
      apply Wk.asg (by conv => lhs; whnf) (lt_of_ble rfl)
      refine Wk.nil ?_
      refine AW.seq (AW.seq ?_)
      apply AW.draw (hm := hmix) (cs := _)
      · apply Wk.ld (i := 6) 4 true ty50 rfl rfl (by conv => lhs; whnf) (lt_of_ble rfl)
        apply Wk.ld (i := 8) 4 true ty50 rfl rfl (by conv => lhs; whnf) (lt_of_ble rfl)
        apply Wk.dat (liCrxE v m bs true) Tryd.func24 rfl rfl rfl rfl rfl (lt_of_ble rfl)
        apply Wk.un rfl (fun w => by simp [go_sem] <;> rfl) (lt_of_ble rfl)
        apply Wk.mv (by conv => lhs; whnf) (lt_of_ble rfl)
        apply Wk.gon 40 rfl rfl
        apply Wk.mv (by conv => lhs; whnf) (lt_of_ble rfl)
        apply Wk.gon 40 rfl rfl
        apply Wk.mv (by conv => lhs; whnf) (lt_of_ble rfl)
        apply Wk.gon 40 rfl rfl
        apply Wk.dat liS0 Tryd.func30 rfl rfl rfl rfl rfl (lt_of_ble rfl)
        apply Wk.gon 40 rfl rfl
        apply Wk.un rfl (fun w => by simp [go_sem] <;> rfl) (lt_of_ble rfl)
        apply Wk.pckF rfl (by conv => lhs; whnf) (lt_of_ble rfl)
        apply Wk.mv (by conv => lhs; whnf) (lt_of_ble rfl)
        apply Wk.gon 46 rfl rfl
        apply Wk.ld (i := 4) 4 true ty50 rfl rfl (by conv => lhs; whnf) (lt_of_ble rfl)
        apply Wk.gon 46 rfl rfl
        apply Wk.dat (icrxb false h1) Tryd.func26 rfl rfl rfl rfl rfl (lt_of_ble rfl)
        apply Wk.gon 46 rfl rfl
        apply Wk.ld (i := 4) 4 true ty50 rfl rfl (by conv => lhs; whnf) (lt_of_ble rfl)
        apply Wk.gon 46 rfl rfl
        apply Wk.dat (scrxb false h1) Tryd.func25 rfl rfl rfl rfl rfl (lt_of_ble rfl)
        apply Wk.gon 46 rfl rfl
        apply Wk.bin rfl rfl (r := .bool false) (fun w => by simp [go_sem]) (lt_of_ble rfl)
        apply Wk.pckF rfl (by conv => lhs; whnf) (lt_of_ble rfl)
        refine Wk.nil ?_
        refine AW.cond rfl (fun hc => by cases hc) (fun _ => AW.skip (thenA_normal ?_))
        refine AW.seq (AW.seq ?_)
        apply AW.list
        apply Wk.ld (i := 3) 5 true ty24 rfl rfl (by conv => lhs; whnf) (lt_of_ble rfl)
        apply Wk.dat (scfgbX m0 w0 s0 t0 y0 h0) Tryd.func31 rfl rfl rfl rfl rfl (lt_of_ble rfl)
        apply Wk.un rfl (fun w => by simp [go_sem] <;> rfl) (lt_of_ble rfl)
        apply Wk.mv (by conv => lhs; whnf) (lt_of_ble rfl)
        apply Wk.gon 56 rfl rfl
        apply Wk.ld (i := 4) 4 true ty50 rfl rfl (by conv => lhs; whnf) (lt_of_ble rfl)
        apply Wk.gon 56 rfl rfl
        apply Wk.dat (scrxb false h1) Tryd.func25 rfl rfl rfl rfl rfl (lt_of_ble rfl)
        apply Wk.gon 56 rfl rfl
        apply Wk.un rfl (fun w => by simp [go_sem] <;> rfl) (lt_of_ble rfl)
        apply Wk.pckF rfl (by conv => lhs; whnf) (lt_of_ble rfl)
        apply Wk.mv (by conv => lhs; whnf) (lt_of_ble rfl)
        apply Wk.gon 61 rfl rfl
        apply Wk.ld (i := 5) 9 true ty31 rfl rfl (by conv => lhs; whnf) (lt_of_ble rfl)
        apply Wk.gon 61 rfl rfl
        apply Wk.dat (sfrmb k s c p f y g l fs h3) Tryd.func32 rfl rfl rfl rfl rfl (lt_of_ble rfl)
        apply Wk.gon 61 rfl rfl
        apply Wk.un rfl (fun w => by simp [go_sem] <;> rfl) (lt_of_ble rfl)
        apply Wk.pckF rfl (by conv => lhs; whnf) (lt_of_ble rfl)
        apply Wk.mv (by conv => lhs; whnf) (lt_of_ble rfl)
        apply Wk.gon 66 rfl rfl
        apply Wk.fad 0 0 false fd31_0 rfl (lt_of_ble rfl)
        apply Wk.gon 66 rfl rfl
        apply Wk.ld (i := 5) 1 false ty3 rfl rfl (by conv => lhs; whnf) (lt_of_ble rfl)
        apply Wk.gon 66 rfl rfl
        apply Wk.bin rfl rfl (r := .bool false) (fun w => by simp [go_sem, hk]) (lt_of_ble rfl)
        apply Wk.pckF rfl (by conv => lhs; whnf) (lt_of_ble rfl)
        refine Wk.nil ?_
        refine AW.cond rfl (fun hc => by cases hc) (fun _ => AW.skip (thenA_normal ?_))
        refine AW.seq (AW.seq ?_)
        apply AW.list
        apply Wk.fad 3 0 false fd50_2 rfl (lt_of_ble rfl)
        apply Wk.ld (i := 4) 1 false ty4 rfl rfl (by conv => lhs; whnf) (lt_of_ble rfl)
        refine Wk.nil ?_
        refine AW.cond rfl (fun hc => by cases hc) (fun _ => AW.skip (thenA_normal ?_))
        refine AW.seq (AW.seq ?_)
        apply AW.list
        apply Wk.fad 0 0 false fd50_0 rfl (lt_of_ble rfl)
        apply Wk.ld (i := 4) 1 false ty3 rfl rfl (by conv => lhs; whnf) (lt_of_ble rfl)
        apply Wk.bin rfl rfl (r := .bool false) (fun w => by simp [go_sem] <;> omega) (lt_of_ble rfl)
        apply Wk.mv (by conv => lhs; whnf) (lt_of_ble rfl)
        apply Wk.gon 95 rfl rfl
        apply Wk.fad 7 0 false fd31_7 rfl (lt_of_ble rfl)
        apply Wk.gon 95 rfl rfl
        apply Wk.ld (i := 5) 1 false ty3 rfl rfl (by conv => lhs; whnf) (lt_of_ble rfl)
        apply Wk.gon 95 rfl rfl
        apply Wk.fad 3 0 false fd24_3 rfl (lt_of_ble rfl)
        apply Wk.gon 95 rfl rfl
        apply Wk.ld (i := 3) 1 false ty3 rfl rfl (by conv => lhs; whnf) (lt_of_ble rfl)
        apply Wk.gon 95 rfl rfl
        apply Wk.bin rfl rfl (r := .bool true) (fun w => by simp [go_sem] <;> omega) (lt_of_ble rfl)
        apply Wk.pckF rfl (by conv => lhs; whnf) (lt_of_ble rfl)
        apply Wk.mv (by conv => lhs; whnf) (lt_of_ble rfl)
        apply Wk.goff 102 (ok_faddr fd31_8) rfl rfl (by simp)
        apply Wk.goff 102 (ok_load 5 ty22) rfl rfl (by simp)
        apply Wk.goff 102 (ok_len un22) rfl rfl (by simp)
        apply Wk.goff 102 (ok_faddr fd24_2) rfl rfl (by simp)
        apply Wk.goff 102 (ok_load 3 ty3) rfl rfl (by simp)
        apply Wk.goff 102 (ok_bin _ _ _ _ _) rfl rfl (by simp)
        apply Wk.pckT rfl (by conv => lhs; whnf) (lt_of_ble rfl)
        refine Wk.nil ?_
        refine AW.cond rfl (fun _ => ?_) (fun hc => by cases hc)
        refine AW.seq ?_
        apply AW.list
        apply Wk.fad 3 0 false fd50_2 rfl (lt_of_ble rfl)
        apply Wk.ld (i := 6) 1 false ty4 rfl rfl (by conv => lhs; whnf) (lt_of_ble rfl)
        apply Wk.mv (by conv => lhs; whnf) (lt_of_ble rfl)
        apply Wk.gon 112 rfl rfl
        apply Wk.mv (by conv => lhs; whnf) (lt_of_ble rfl)
        apply Wk.gon 112 rfl rfl
        apply Wk.len un58 rfl (lt_of_ble rfl)
        apply Wk.gon 112 rfl rfl
        apply Wk.bin rfl rfl (r := .bool true) (fun w => by simp [go_sem]) (lt_of_ble rfl)
        apply Wk.pckT rfl (by conv => lhs; whnf) (lt_of_ble rfl)
        apply Wk.asg (by conv => lhs; whnf) (lt_of_ble rfl)
        refine Wk.nil (AW.ret ?_)
        repeat (first | refine thenA_ret ?_ | refine inBlockA_ret ?_)
        exact RetQ.ret [] (.cons rfl .nil) ⟨rfl, rfl⟩ none_kept
      · rfl
      · rfl
    have c3 : s0 < (fs.length : Int) := by
      rcases hi with h | h | h
      · exact absurd h c1
      · exact absurd h c2
      · exact h
    refine AW.seq ?_
    apply AW.list
    apply Wk.ld (i := 3) 5 true ty24 rfl rfl (by conv => lhs; whnf) (lt_of_ble rfl)
    apply Wk.ld (i := 4) 4 true ty50 rfl rfl (by conv => lhs; whnf) (lt_of_ble rfl)
    apply Wk.ld (i := 5) 9 true ty31 rfl rfl (by conv => lhs; whnf) (lt_of_ble rfl)
    apply Wk.dav ci hX hV Tryd.func28 rfl rfl rfl rfl rfl (lt_of_ble rfl)
    apply Wk.mv (by conv => lhs; whnf) (lt_of_ble rfl)
    apply Wk.ext rfl rfl (lt_of_ble rfl)
    apply Wk.ext rfl rfl (lt_of_ble rfl)
    apply Wk.alc 6 [.int .i64 0, .int .i64 0, .slice none 0 0, .bool false] ze50 rfl rfl (lt_of_ble rfl)
    apply Wk.sto (i := 6) 4 true ty50 rfl rfl rfl rfl (Nat.le_of_ble_eq_true rfl) (lt_of_ble rfl)
    apply Wk.asg (by conv => lhs; whnf) (lt_of_ble rfl)
    refine Wk.nil ?_
    refine AW.seq ?_
    apply AW.list
    apply Wk.ld (i := 3) 5 true ty24 rfl rfl (by conv => lhs; whnf) (lt_of_ble rfl)
    apply Wk.ld (i := 4) 4 true ty50 rfl rfl (by conv => lhs; whnf) (lt_of_ble rfl)
    apply Wk.ld (i := 5) 9 true ty31 rfl rfl (by conv => lhs; whnf) (lt_of_ble rfl)
    apply Wk.dat cs Tryd.func29 rfl rfl rfl rfl rfl (lt_of_ble rfl)
    apply Wk.mv (by conv => lhs; whnf) (lt_of_ble rfl)
    apply Wk.ext rfl rfl (lt_of_ble rfl)
    apply Wk.ext rfl rfl (lt_of_ble rfl)
    apply Wk.alc 8 [.int .i64 0, .int .i64 0, .slice none 0 0, .bool false] ze50 rfl rfl (lt_of_ble rfl)
    apply Wk.sto (i := 8) 4 true ty50 rfl rfl rfl rfl (Nat.le_of_ble_eq_true rfl) (lt_of_ble rfl)
    apply Wk.asg (by conv => lhs; whnf) (lt_of_ble rfl)
    refine Wk.nil ?_
    refine AW.seq (AW.seq ?_)
    apply AW.draw (hm := hmix) (cs := _)
    · apply Wk.ld (i := 6) 4 true ty50 rfl rfl (by conv => lhs; whnf) (lt_of_ble rfl)
      apply Wk.ld (i := 8) 4 true ty50 rfl rfl (by conv => lhs; whnf) (lt_of_ble rfl)
      apply Wk.dat (liCrxE v m bs true) Tryd.func24 rfl rfl rfl rfl rfl (lt_of_ble rfl)
      apply Wk.un rfl (fun w => by simp [go_sem] <;> rfl) (lt_of_ble rfl)
      apply Wk.mv (by conv => lhs; whnf) (lt_of_ble rfl)
      apply Wk.gon 40 rfl rfl
      apply Wk.mv (by conv => lhs; whnf) (lt_of_ble rfl)
      apply Wk.gon 40 rfl rfl
      apply Wk.mv (by conv => lhs; whnf) (lt_of_ble rfl)
      apply Wk.gon 40 rfl rfl
      apply Wk.dat liS0 Tryd.func30 rfl rfl rfl rfl rfl (lt_of_ble rfl)
      apply Wk.gon 40 rfl rfl
      apply Wk.un rfl (fun w => by simp [go_sem] <;> rfl) (lt_of_ble rfl)
      apply Wk.pckF rfl (by conv => lhs; whnf) (lt_of_ble rfl)
      apply Wk.mv (by conv => lhs; whnf) (lt_of_ble rfl)
      apply Wk.gon 46 rfl rfl
      apply Wk.ld (i := 4) 4 true ty50 rfl rfl (by conv => lhs; whnf) (lt_of_ble rfl)
      apply Wk.gon 46 rfl rfl
      apply Wk.dat (icrxb false h1) Tryd.func26 rfl rfl rfl rfl rfl (lt_of_ble rfl)
      apply Wk.gon 46 rfl rfl
      apply Wk.ld (i := 4) 4 true ty50 rfl rfl (by conv => lhs; whnf) (lt_of_ble rfl)
      apply Wk.gon 46 rfl rfl
      apply Wk.dat (scrxb false h1) Tryd.func25 rfl rfl rfl rfl rfl (lt_of_ble rfl)
      apply Wk.gon 46 rfl rfl
      apply Wk.bin rfl rfl (r := .bool false) (fun w => by simp [go_sem]) (lt_of_ble rfl)
      apply Wk.pckF rfl (by conv => lhs; whnf) (lt_of_ble rfl)
      refine Wk.nil ?_
      refine AW.cond rfl (fun hc => by cases hc) (fun _ => AW.skip (thenA_normal ?_))
      refine AW.seq (AW.seq ?_)
      apply AW.list
      apply Wk.ld (i := 3) 5 true ty24 rfl rfl (by conv => lhs; whnf) (lt_of_ble rfl)
      apply Wk.dat (scfgbX m0 w0 s0 t0 y0 h0) Tryd.func31 rfl rfl rfl rfl rfl (lt_of_ble rfl)
      apply Wk.un rfl (fun w => by simp [go_sem] <;> rfl) (lt_of_ble rfl)
      apply Wk.mv (by conv => lhs; whnf) (lt_of_ble rfl)
      apply Wk.gon 56 rfl rfl
      apply Wk.ld (i := 4) 4 true ty50 rfl rfl (by conv => lhs; whnf) (lt_of_ble rfl)
      apply Wk.gon 56 rfl rfl
      apply Wk.dat (scrxb false h1) Tryd.func25 rfl rfl rfl rfl rfl (lt_of_ble rfl)
      apply Wk.gon 56 rfl rfl
      apply Wk.un rfl (fun w => by simp [go_sem] <;> rfl) (lt_of_ble rfl)
      apply Wk.pckF rfl (by conv => lhs; whnf) (lt_of_ble rfl)
      apply Wk.mv (by conv => lhs; whnf) (lt_of_ble rfl)
      apply Wk.gon 61 rfl rfl
      apply Wk.ld (i := 5) 9 true ty31 rfl rfl (by conv => lhs; whnf) (lt_of_ble rfl)
      apply Wk.gon 61 rfl rfl
      apply Wk.dat (sfrmb k s c p f y g l fs h3) Tryd.func32 rfl rfl rfl rfl rfl (lt_of_ble rfl)
      apply Wk.gon 61 rfl rfl
      apply Wk.un rfl (fun w => by simp [go_sem] <;> rfl) (lt_of_ble rfl)
      apply Wk.pckF rfl (by conv => lhs; whnf) (lt_of_ble rfl)
      apply Wk.mv (by conv => lhs; whnf) (lt_of_ble rfl)
      apply Wk.gon 66 rfl rfl
      apply Wk.fad 0 0 false fd31_0 rfl (lt_of_ble rfl)
      apply Wk.gon 66 rfl rfl
      apply Wk.ld (i := 5) 1 false ty3 rfl rfl (by conv => lhs; whnf) (lt_of_ble rfl)
      apply Wk.gon 66 rfl rfl
      apply Wk.bin rfl rfl (r := .bool false) (fun w => by simp [go_sem, hk]) (lt_of_ble rfl)
      apply Wk.pckF rfl (by conv => lhs; whnf) (lt_of_ble rfl)
      refine Wk.nil ?_
      refine AW.cond rfl (fun hc => by cases hc) (fun _ => AW.skip (thenA_normal ?_))
      refine AW.seq (AW.seq ?_)
      apply AW.list
      apply Wk.fad 3 0 false fd50_2 rfl (lt_of_ble rfl)
      apply Wk.ld (i := 4) 1 false ty4 rfl rfl (by conv => lhs; whnf) (lt_of_ble rfl)
      refine Wk.nil ?_
      refine AW.cond rfl (fun hc => by cases hc) (fun _ => AW.skip (thenA_normal ?_))
      refine AW.seq (AW.seq ?_)
      apply AW.list
      apply Wk.fad 0 0 false fd50_0 rfl (lt_of_ble rfl)
      apply Wk.ld (i := 4) 1 false ty3 rfl rfl (by conv => lhs; whnf) (lt_of_ble rfl)
      apply Wk.bin rfl rfl (r := .bool false) (fun w => by simp [go_sem] <;> omega) (lt_of_ble rfl)
      apply Wk.mv (by conv => lhs; whnf) (lt_of_ble rfl)
      apply Wk.gon 95 rfl rfl
      apply Wk.fad 7 0 false fd31_7 rfl (lt_of_ble rfl)
      apply Wk.gon 95 rfl rfl
      apply Wk.ld (i := 5) 1 false ty3 rfl rfl (by conv => lhs; whnf) (lt_of_ble rfl)
      apply Wk.gon 95 rfl rfl
      apply Wk.fad 3 0 false fd24_3 rfl (lt_of_ble rfl)
      apply Wk.gon 95 rfl rfl
      apply Wk.ld (i := 3) 1 false ty3 rfl rfl (by conv => lhs; whnf) (lt_of_ble rfl)
      apply Wk.gon 95 rfl rfl
      apply Wk.bin rfl rfl (r := .bool false) (fun w => by simp [go_sem] <;> omega) (lt_of_ble rfl)
      apply Wk.pckF rfl (by conv => lhs; whnf) (lt_of_ble rfl)
      apply Wk.mv (by conv => lhs; whnf) (lt_of_ble rfl)
      apply Wk.gon 102 rfl rfl
      apply Wk.fad 8 0 false fd31_8 rfl (lt_of_ble rfl)
      apply Wk.gon 102 rfl rfl
      apply Wk.ld (i := 5) 1 false ty22 rfl rfl (by conv => lhs; whnf) (lt_of_ble rfl)
      apply Wk.gon 102 rfl rfl
      apply Wk.len un22 rfl (lt_of_ble rfl)
      apply Wk.gon 102 rfl rfl
      apply Wk.fad 2 0 false fd24_2 rfl (lt_of_ble rfl)
      apply Wk.gon 102 rfl rfl
      apply Wk.ld (i := 3) 1 false ty3 rfl rfl (by conv => lhs; whnf) (lt_of_ble rfl)
      apply Wk.gon 102 rfl rfl
      apply Wk.bin rfl rfl (r := .bool true) (fun w => by simp [go_sem] <;> omega) (lt_of_ble rfl)
      apply Wk.pckF rfl (by conv => lhs; whnf) (lt_of_ble rfl)
      refine Wk.nil ?_
      refine AW.cond rfl (fun _ => ?_) (fun hc => by cases hc)
      refine AW.seq ?_
      apply AW.list
      apply Wk.fad 3 0 false fd50_2 rfl (lt_of_ble rfl)
      apply Wk.ld (i := 6) 1 false ty4 rfl rfl (by conv => lhs; whnf) (lt_of_ble rfl)
      apply Wk.mv (by conv => lhs; whnf) (lt_of_ble rfl)
      apply Wk.gon 112 rfl rfl
      apply Wk.mv (by conv => lhs; whnf) (lt_of_ble rfl)
      apply Wk.gon 112 rfl rfl
      apply Wk.len un58 rfl (lt_of_ble rfl)
      apply Wk.gon 112 rfl rfl
      apply Wk.bin rfl rfl (r := .bool true) (fun w => by simp [go_sem]) (lt_of_ble rfl)
      apply Wk.pckT rfl (by conv => lhs; whnf) (lt_of_ble rfl)
      apply Wk.asg (by conv => lhs; whnf) (lt_of_ble rfl)
      refine Wk.nil (AW.ret ?_)
      repeat (first | refine thenA_ret ?_ | refine inBlockA_ret ?_)
      exact RetQ.ret [] (.cons rfl .nil) ⟨rfl, rfl⟩ none_kept
    · rfl
    · rfl
  simp only [not_or] at hi
  obtain ⟨c1, c2, c3⟩ := hi
  have ht : ¬ (t0 < l ∨ s0 < (fs.length : Int)) := by omega
  rcases putC_three (m := m) (n := bs.length) (g := g) (k := fs.length) with hC | hC | hC
  · have g2 := crx_more (v := v) (by omega) (by omega) hf.2 hp hC
    have ci := ihearCMore (V := V) m0 w0 s0 t0 y0 v m bs k s c p f y g l fs h0 h1 hk h3 hbl (by omega) hV0 c1 ht hC
    have cs := shearCMore m0 w0 s0 t0 y0 v m bs k s c p f y g l fs h0 h1 hk h3 hbl c1 ht hC
    refine AW.seq ?_
    apply AW.list
    apply Wk.ld (i := 3) 5 true ty24 rfl rfl (by conv => lhs; whnf) (lt_of_ble rfl)
    apply Wk.ld (i := 4) 4 true ty50 rfl rfl (by conv => lhs; whnf) (lt_of_ble rfl)
    apply Wk.ld (i := 5) 9 true ty31 rfl rfl (by conv => lhs; whnf) (lt_of_ble rfl)
    apply Wk.dav ci hX hV Tryd.func28 rfl rfl rfl rfl rfl (lt_of_ble rfl)
    apply Wk.mv (by conv => lhs; whnf) (lt_of_ble rfl)
    apply Wk.ext rfl rfl (lt_of_ble rfl)
    apply Wk.ext rfl rfl (lt_of_ble rfl)
    apply Wk.alc 6 [.int .i64 0, .int .i64 0, .slice none 0 0, .bool false] ze50 rfl rfl (lt_of_ble rfl)
    apply Wk.sto (i := 6) 4 true ty50 rfl rfl rfl rfl (Nat.le_of_ble_eq_true rfl) (lt_of_ble rfl)
    apply Wk.asg (by conv => lhs; whnf) (lt_of_ble rfl)
    refine Wk.nil ?_
    refine AW.seq ?_
    apply AW.list
    apply Wk.ld (i := 3) 5 true ty24 rfl rfl (by conv => lhs; whnf) (lt_of_ble rfl)
    apply Wk.ld (i := 4) 4 true ty50 rfl rfl (by conv => lhs; whnf) (lt_of_ble rfl)
    apply Wk.ld (i := 5) 9 true ty31 rfl rfl (by conv => lhs; whnf) (lt_of_ble rfl)
    apply Wk.dat cs Tryd.func29 rfl rfl rfl rfl rfl (lt_of_ble rfl)
    apply Wk.mv (by conv => lhs; whnf) (lt_of_ble rfl)
    apply Wk.ext rfl rfl (lt_of_ble rfl)
    apply Wk.ext rfl rfl (lt_of_ble rfl)
    apply Wk.alc 8 [.int .i64 0, .int .i64 0, .slice none 0 0, .bool false] ze50 rfl rfl (lt_of_ble rfl)
    apply Wk.sto (i := 8) 4 true ty50 rfl rfl rfl rfl (Nat.le_of_ble_eq_true rfl) (lt_of_ble rfl)
    apply Wk.asg (by conv => lhs; whnf) (lt_of_ble rfl)
    refine Wk.nil ?_
    refine AW.seq (AW.seq ?_)
    apply AW.draw (hm := hmix) (cs := _)
    · apply Wk.ld (i := 6) 4 true ty50 rfl rfl (by conv => lhs; whnf) (lt_of_ble rfl)
      apply Wk.ld (i := 8) 4 true ty50 rfl rfl (by conv => lhs; whnf) (lt_of_ble rfl)
      apply Wk.dat (liCrxE (v - 1) (if m = 0 then l else m) (bs ++ fs) false) Tryd.func24 rfl rfl rfl rfl rfl (lt_of_ble rfl)
      apply Wk.un rfl (fun w => by simp [go_sem] <;> rfl) (lt_of_ble rfl)
      apply Wk.mv (by conv => lhs; whnf) (lt_of_ble rfl)
      apply Wk.gon 40 rfl rfl
      apply Wk.mv (by conv => lhs; whnf) (lt_of_ble rfl)
      apply Wk.gon 40 rfl rfl
      apply Wk.mv (by conv => lhs; whnf) (lt_of_ble rfl)
      apply Wk.gon 40 rfl rfl
      apply Wk.dat liS0 Tryd.func30 rfl rfl rfl rfl rfl (lt_of_ble rfl)
      apply Wk.gon 40 rfl rfl
      apply Wk.un rfl (fun w => by simp [go_sem] <;> rfl) (lt_of_ble rfl)
      apply Wk.pckF rfl (by conv => lhs; whnf) (lt_of_ble rfl)
      apply Wk.mv (by conv => lhs; whnf) (lt_of_ble rfl)
      apply Wk.gon 46 rfl rfl
      apply Wk.ld (i := 4) 4 true ty50 rfl rfl (by conv => lhs; whnf) (lt_of_ble rfl)
      apply Wk.gon 46 rfl rfl
      apply Wk.dat (icrxb false h1) Tryd.func26 rfl rfl rfl rfl rfl (lt_of_ble rfl)
      apply Wk.gon 46 rfl rfl
      apply Wk.ld (i := 4) 4 true ty50 rfl rfl (by conv => lhs; whnf) (lt_of_ble rfl)
      apply Wk.gon 46 rfl rfl
      apply Wk.dat (scrxb false h1) Tryd.func25 rfl rfl rfl rfl rfl (lt_of_ble rfl)
      apply Wk.gon 46 rfl rfl
      apply Wk.bin rfl rfl (r := .bool false) (fun w => by simp [go_sem]) (lt_of_ble rfl)
      apply Wk.pckF rfl (by conv => lhs; whnf) (lt_of_ble rfl)
      refine Wk.nil ?_
      refine AW.cond rfl (fun hc => by cases hc) (fun _ => AW.skip (thenA_normal ?_))
      refine AW.seq (AW.seq ?_)
      apply AW.list
      apply Wk.ld (i := 3) 5 true ty24 rfl rfl (by conv => lhs; whnf) (lt_of_ble rfl)
      apply Wk.dat (scfgbX m0 w0 s0 t0 y0 h0) Tryd.func31 rfl rfl rfl rfl rfl (lt_of_ble rfl)
      apply Wk.un rfl (fun w => by simp [go_sem] <;> rfl) (lt_of_ble rfl)
      apply Wk.mv (by conv => lhs; whnf) (lt_of_ble rfl)
      apply Wk.gon 56 rfl rfl
      apply Wk.ld (i := 4) 4 true ty50 rfl rfl (by conv => lhs; whnf) (lt_of_ble rfl)
      apply Wk.gon 56 rfl rfl
      apply Wk.dat (scrxb false h1) Tryd.func25 rfl rfl rfl rfl rfl (lt_of_ble rfl)
      apply Wk.gon 56 rfl rfl
      apply Wk.un rfl (fun w => by simp [go_sem] <;> rfl) (lt_of_ble rfl)
      apply Wk.pckF rfl (by conv => lhs; whnf) (lt_of_ble rfl)
      apply Wk.mv (by conv => lhs; whnf) (lt_of_ble rfl)
      apply Wk.gon 61 rfl rfl
      apply Wk.ld (i := 5) 9 true ty31 rfl rfl (by conv => lhs; whnf) (lt_of_ble rfl)
      apply Wk.gon 61 rfl rfl
      apply Wk.dat (sfrmb k s c p f y g l fs h3) Tryd.func32 rfl rfl rfl rfl rfl (lt_of_ble rfl)
      apply Wk.gon 61 rfl rfl
      apply Wk.un rfl (fun w => by simp [go_sem] <;> rfl) (lt_of_ble rfl)
      apply Wk.pckF rfl (by conv => lhs; whnf) (lt_of_ble rfl)
      apply Wk.mv (by conv => lhs; whnf) (lt_of_ble rfl)
      apply Wk.gon 66 rfl rfl
      apply Wk.fad 0 0 false fd31_0 rfl (lt_of_ble rfl)
      apply Wk.gon 66 rfl rfl
      apply Wk.ld (i := 5) 1 false ty3 rfl rfl (by conv => lhs; whnf) (lt_of_ble rfl)
      apply Wk.gon 66 rfl rfl
      apply Wk.bin rfl rfl (r := .bool false) (fun w => by simp [go_sem, hk]) (lt_of_ble rfl)
      apply Wk.pckF rfl (by conv => lhs; whnf) (lt_of_ble rfl)
      refine Wk.nil ?_
      refine AW.cond rfl (fun hc => by cases hc) (fun _ => AW.skip (thenA_normal ?_))
      refine AW.seq (AW.seq ?_)
      apply AW.list
      apply Wk.fad 3 0 false fd50_2 rfl (lt_of_ble rfl)
      apply Wk.ld (i := 4) 1 false ty4 rfl rfl (by conv => lhs; whnf) (lt_of_ble rfl)
      refine Wk.nil ?_
      refine AW.cond rfl (fun hc => by cases hc) (fun _ => AW.skip (thenA_normal ?_))
      refine AW.seq (AW.seq ?_)
      apply AW.list
      apply Wk.fad 0 0 false fd50_0 rfl (lt_of_ble rfl)
      apply Wk.ld (i := 4) 1 false ty3 rfl rfl (by conv => lhs; whnf) (lt_of_ble rfl)
      apply Wk.bin rfl rfl (r := .bool false) (fun w => by simp [go_sem] <;> omega) (lt_of_ble rfl)
      apply Wk.mv (by conv => lhs; whnf) (lt_of_ble rfl)
      apply Wk.gon 95 rfl rfl
      apply Wk.fad 7 0 false fd31_7 rfl (lt_of_ble rfl)
      apply Wk.gon 95 rfl rfl
      apply Wk.ld (i := 5) 1 false ty3 rfl rfl (by conv => lhs; whnf) (lt_of_ble rfl)
      apply Wk.gon 95 rfl rfl
      apply Wk.fad 3 0 false fd24_3 rfl (lt_of_ble rfl)
      apply Wk.gon 95 rfl rfl
      apply Wk.ld (i := 3) 1 false ty3 rfl rfl (by conv => lhs; whnf) (lt_of_ble rfl)
      apply Wk.gon 95 rfl rfl
      apply Wk.bin rfl rfl (r := .bool false) (fun w => by simp [go_sem] <;> omega) (lt_of_ble rfl)
      apply Wk.pckF rfl (by conv => lhs; whnf) (lt_of_ble rfl)
      apply Wk.mv (by conv => lhs; whnf) (lt_of_ble rfl)
      apply Wk.gon 102 rfl rfl
      apply Wk.fad 8 0 false fd31_8 rfl (lt_of_ble rfl)
      apply Wk.gon 102 rfl rfl
      apply Wk.ld (i := 5) 1 false ty22 rfl rfl (by conv => lhs; whnf) (lt_of_ble rfl)
      apply Wk.gon 102 rfl rfl
      apply Wk.len un22 rfl (lt_of_ble rfl)
      apply Wk.gon 102 rfl rfl
      apply Wk.fad 2 0 false fd24_2 rfl (lt_of_ble rfl)
      apply Wk.gon 102 rfl rfl
      apply Wk.ld (i := 3) 1 false ty3 rfl rfl (by conv => lhs; whnf) (lt_of_ble rfl)
      apply Wk.gon 102 rfl rfl
      apply Wk.bin rfl rfl (r := .bool false) (fun w => by simp [go_sem] <;> omega) (lt_of_ble rfl)
      apply Wk.pckF rfl (by conv => lhs; whnf) (lt_of_ble rfl)
      refine Wk.nil ?_
      refine AW.cond rfl (fun hc => by cases hc) (fun _ => AW.skip (thenA_normal ?_))
      refine AW.seq ?_
      apply AW.list
      apply Wk.fad 1 1 true fd50_1 rfl (lt_of_ble rfl)
      apply Wk.ld (i := 4) 2 true ty48 rfl rfl (by conv => lhs; whnf) (lt_of_ble rfl)
      apply Wk.fad 6 0 false fd31_6 rfl (lt_of_ble rfl)
      apply Wk.ld (i := 5) 1 false ty3 rfl rfl (by conv => lhs; whnf) (lt_of_ble rfl)
      apply Wk.fad 7 0 false fd31_7 rfl (lt_of_ble rfl)
      apply Wk.ld (i := 5) 1 false ty3 rfl rfl (by conv => lhs; whnf) (lt_of_ble rfl)
      apply Wk.fad 8 0 false fd31_8 rfl (lt_of_ble rfl)
      apply Wk.ld (i := 5) 1 false ty22 rfl rfl (by conv => lhs; whnf) (lt_of_ble rfl)
      apply Wk.bld [.int .i64 0, .int .i64 0, .slice none 0 0] [(0, 1), (1, 1), (2, 1)] bl41 rfl (by conv => lhs; whnf) (lt_of_ble rfl)
      apply Wk.dat (iputb m bs g l fs (by omega) (by omega) (putA4_more hf.2 hp hC)) Tryd.func33 rfl rfl rfl rfl rfl (lt_of_ble rfl)
      apply Wk.mv (by conv => lhs; whnf) (lt_of_ble rfl)
      apply Wk.ext rfl rfl (lt_of_ble rfl)
      apply Wk.ext rfl rfl (lt_of_ble rfl)
      apply Wk.ext rfl rfl (lt_of_ble rfl)
      apply Wk.alc 10 [.int .i64 0, .slice none 0 0] ze48 rfl rfl (lt_of_ble rfl)
      apply Wk.sto (i := 10) 2 true ty48 rfl rfl rfl rfl (Nat.le_of_ble_eq_true rfl) (lt_of_ble rfl)
      apply Wk.asg (by conv => lhs; whnf) (lt_of_ble rfl)
      apply Wk.asg (by conv => lhs; whnf) (lt_of_ble rfl)
      refine Wk.nil ?_
      refine AW.seq (AW.seq ?_)
      apply AW.list
      apply Wk.fad 0 0 false fd50_0 rfl (lt_of_ble rfl)
      apply Wk.ld (i := 6) 1 false ty3 rfl rfl (by conv => lhs; whnf) (lt_of_ble rfl)
      apply Wk.fad 0 0 false fd50_0 rfl (lt_of_ble rfl)
      apply Wk.ld (i := 4) 1 false ty3 rfl rfl (by conv => lhs; whnf) (lt_of_ble rfl)
      apply Wk.subi rfl rfl (by omega) (lt_of_ble rfl)
      apply Wk.bin rfl rfl (r := .bool false) (fun w => by simp [go_sem]) (lt_of_ble rfl)
      apply Wk.mv (by conv => lhs; whnf) (lt_of_ble rfl)
      apply Wk.gon 137 rfl rfl
      apply Wk.fad 3 0 false fd50_2 rfl (lt_of_ble rfl)
      apply Wk.gon 137 rfl rfl
      apply Wk.ld (i := 6) 1 false ty4 rfl rfl (by conv => lhs; whnf) (lt_of_ble rfl)
      apply Wk.gon 137 rfl rfl
      apply Wk.mv (by conv => lhs; whnf) (lt_of_ble rfl)
      apply Wk.gon 137 rfl rfl
      apply Wk.bin rfl rfl (r := .bool false) (fun w => by simp [go_sem]) (lt_of_ble rfl)
      apply Wk.gon 137 rfl rfl
      apply Wk.bin rfl rfl (r := .bool false) (fun w => by simp [go_sem]) (lt_of_ble rfl)
      apply Wk.pckF rfl (by conv => lhs; whnf) (lt_of_ble rfl)
      apply Wk.mv (by conv => lhs; whnf) (lt_of_ble rfl)
      apply Wk.gon 144 rfl rfl
      apply Wk.fad 1 1 true fd50_1 rfl (lt_of_ble rfl)
      apply Wk.gon 144 rfl rfl
      apply Wk.ld (i := 6) 2 true ty48 rfl rfl (by conv => lhs; whnf) (lt_of_ble rfl)
      apply Wk.gon 144 rfl rfl
      apply Wk.ld (i := 10) 2 true ty48 rfl rfl (by conv => lhs; whnf) (lt_of_ble rfl)
      apply Wk.gon 144 rfl rfl
      apply Wk.dat (liJoin_ok (if m = 0 then l else m) (bs ++ fs)) Tryd.func34 rfl rfl rfl rfl rfl (lt_of_ble rfl)
      apply Wk.gon 144 rfl rfl
      apply Wk.un rfl (fun w => by simp [go_sem] <;> rfl) (lt_of_ble rfl)
      apply Wk.pckF rfl (by conv => lhs; whnf) (lt_of_ble rfl)
      apply Wk.mv (by conv => lhs; whnf) (lt_of_ble rfl)
      apply Wk.gon 151 rfl rfl
      apply Wk.ld (i := 6) 4 true ty50 rfl rfl (by conv => lhs; whnf) (lt_of_ble rfl)
      apply Wk.gon 151 rfl rfl
      apply Wk.dat (icrxb false g2) Tryd.func26 rfl rfl rfl rfl rfl (lt_of_ble rfl)
      apply Wk.gon 151 rfl rfl
      apply Wk.un rfl (fun w => by simp [go_sem] <;> rfl) (lt_of_ble rfl)
      apply Wk.pckF rfl (by conv => lhs; whnf) (lt_of_ble rfl)
      refine Wk.nil ?_
      refine AW.cond rfl (fun hc => by cases hc) (fun _ => AW.skip (thenA_normal ?_))
      refine AW.seq ?_
      apply AW.list
      apply Wk.mv (by conv => lhs; whnf) (lt_of_ble rfl)
      apply Wk.bin rfl rfl (r := .bool false) (fun w => by simp [go_sem]) (lt_of_ble rfl)
      apply Wk.mv (by conv => lhs; whnf) (lt_of_ble rfl)
      apply Wk.len un58 rfl (lt_of_ble rfl)
      apply Wk.bin rfl rfl (r := .bool false) (fun w => by simp [go_sem]) (lt_of_ble rfl)
      apply Wk.bin rfl rfl (r := .bool true) (fun w => by simp [go_sem]) (lt_of_ble rfl)
      apply Wk.mv (by conv => lhs; whnf) (lt_of_ble rfl)
      apply Wk.gon 162 rfl rfl
      apply Wk.mv (by conv => lhs; whnf) (lt_of_ble rfl)
      apply Wk.gon 162 rfl rfl
      apply Wk.len un58 rfl (lt_of_ble rfl)
      apply Wk.gon 162 rfl rfl
      apply Wk.bin rfl rfl (r := .bool true) (fun w => by simp [go_sem]) (lt_of_ble rfl)
      apply Wk.gon 162 rfl rfl
      apply Wk.mv (by conv => lhs; whnf) (lt_of_ble rfl)
      apply Wk.goff 166 (ok_move _) rfl rfl (by simp)
      apply Wk.goff 166 (ok_iaddr un58 ty22) rfl rfl (by simp)
      apply Wk.goff 166 (ok_loadr ty22) rfl rfl (by simp)
      apply Wk.goff 166 (ok_move _) rfl rfl (by simp)
      apply Wk.goff 166 (ok_datw ((liBytesE []).w rfl) Tryd.func35 rfl rfl) rfl rfl (by simp)
      apply Wk.gon 162 rfl rfl
      apply Wk.pckT rfl (by conv => lhs; whnf) (lt_of_ble rfl)
      apply Wk.pckT rfl (by conv => lhs; whnf) (lt_of_ble rfl)
      apply Wk.asg (by conv => lhs; whnf) (lt_of_ble rfl)
      refine Wk.nil (AW.ret ?_)
      repeat (first | refine thenA_ret ?_ | refine inBlockA_ret ?_)
      exact RetQ.ret [] (.cons rfl .nil) ⟨rfl, rfl⟩ none_kept
    · rfl
    · rfl
  · have g2 := crx_nil (v := v) (by omega) (by omega)
    have ci := ihearCAll (V := V) m0 w0 s0 t0 y0 v m bs k s c p f y g l fs h0 h1 hk h3 hbl (by omega) hV0 c1 ht hC
    have cs := shearCAll m0 w0 s0 t0 y0 v m bs k s c p f y g l fs h0 h1 hk h3 hbl c1 ht hC
    refine AW.seq ?_
    apply AW.list
    apply Wk.ld (i := 3) 5 true ty24 rfl rfl (by conv => lhs; whnf) (lt_of_ble rfl)
    apply Wk.ld (i := 4) 4 true ty50 rfl rfl (by conv => lhs; whnf) (lt_of_ble rfl)
    apply Wk.ld (i := 5) 9 true ty31 rfl rfl (by conv => lhs; whnf) (lt_of_ble rfl)
    apply Wk.dav ci hX hV Tryd.func28 rfl rfl rfl rfl rfl (lt_of_ble rfl)
    apply Wk.mv (by conv => lhs; whnf) (lt_of_ble rfl)
    apply Wk.ext rfl rfl (lt_of_ble rfl)
    apply Wk.ext rfl rfl (lt_of_ble rfl)
    apply Wk.alc 6 [.int .i64 0, .int .i64 0, .slice none 0 0, .bool false] ze50 rfl rfl (lt_of_ble rfl)
    apply Wk.sto (i := 6) 4 true ty50 rfl rfl rfl rfl (Nat.le_of_ble_eq_true rfl) (lt_of_ble rfl)
    apply Wk.asg (by conv => lhs; whnf) (lt_of_ble rfl)
    refine Wk.nil ?_
    refine AW.seq ?_
    apply AW.list
    apply Wk.ld (i := 3) 5 true ty24 rfl rfl (by conv => lhs; whnf) (lt_of_ble rfl)
    apply Wk.ld (i := 4) 4 true ty50 rfl rfl (by conv => lhs; whnf) (lt_of_ble rfl)
    apply Wk.ld (i := 5) 9 true ty31 rfl rfl (by conv => lhs; whnf) (lt_of_ble rfl)
    apply Wk.dat cs Tryd.func29 rfl rfl rfl rfl rfl (lt_of_ble rfl)
    apply Wk.mv (by conv => lhs; whnf) (lt_of_ble rfl)
    apply Wk.ext rfl rfl (lt_of_ble rfl)
    apply Wk.ext rfl rfl (lt_of_ble rfl)
    apply Wk.alc 8 [.int .i64 0, .int .i64 0, .slice none 0 0, .bool false] ze50 rfl rfl (lt_of_ble rfl)
    apply Wk.sto (i := 8) 4 true ty50 rfl rfl rfl rfl (Nat.le_of_ble_eq_true rfl) (lt_of_ble rfl)
    apply Wk.asg (by conv => lhs; whnf) (lt_of_ble rfl)
    refine Wk.nil ?_
    refine AW.seq (AW.seq ?_)
    apply AW.draw (hm := hmix) (cs := _)
    · apply Wk.ld (i := 6) 4 true ty50 rfl rfl (by conv => lhs; whnf) (lt_of_ble rfl)
      apply Wk.ld (i := 8) 4 true ty50 rfl rfl (by conv => lhs; whnf) (lt_of_ble rfl)
      apply Wk.dat (liCrxE (v - 1) 0 [] false) Tryd.func24 rfl rfl rfl rfl rfl (lt_of_ble rfl)
      apply Wk.un rfl (fun w => by simp [go_sem] <;> rfl) (lt_of_ble rfl)
      apply Wk.mv (by conv => lhs; whnf) (lt_of_ble rfl)
      apply Wk.gon 40 rfl rfl
      apply Wk.mv (by conv => lhs; whnf) (lt_of_ble rfl)
      apply Wk.gon 40 rfl rfl
      apply Wk.mv (by conv => lhs; whnf) (lt_of_ble rfl)
      apply Wk.gon 40 rfl rfl
      apply Wk.dat (liS1 (bs ++ fs)) Tryd.func30 rfl rfl rfl rfl rfl (lt_of_ble rfl)
      apply Wk.gon 40 rfl rfl
      apply Wk.un rfl (fun w => by simp [go_sem] <;> rfl) (lt_of_ble rfl)
      apply Wk.pckF rfl (by conv => lhs; whnf) (lt_of_ble rfl)
      apply Wk.mv (by conv => lhs; whnf) (lt_of_ble rfl)
      apply Wk.gon 46 rfl rfl
      apply Wk.ld (i := 4) 4 true ty50 rfl rfl (by conv => lhs; whnf) (lt_of_ble rfl)
      apply Wk.gon 46 rfl rfl
      apply Wk.dat (icrxb false h1) Tryd.func26 rfl rfl rfl rfl rfl (lt_of_ble rfl)
      apply Wk.gon 46 rfl rfl
      apply Wk.ld (i := 4) 4 true ty50 rfl rfl (by conv => lhs; whnf) (lt_of_ble rfl)
      apply Wk.gon 46 rfl rfl
      apply Wk.dat (scrxb false h1) Tryd.func25 rfl rfl rfl rfl rfl (lt_of_ble rfl)
      apply Wk.gon 46 rfl rfl
      apply Wk.bin rfl rfl (r := .bool false) (fun w => by simp [go_sem]) (lt_of_ble rfl)
      apply Wk.pckF rfl (by conv => lhs; whnf) (lt_of_ble rfl)
      refine Wk.nil ?_
      refine AW.cond rfl (fun hc => by cases hc) (fun _ => AW.skip (thenA_normal ?_))
      refine AW.seq (AW.seq ?_)
      apply AW.list
      apply Wk.ld (i := 3) 5 true ty24 rfl rfl (by conv => lhs; whnf) (lt_of_ble rfl)
      apply Wk.dat (scfgbX m0 w0 s0 t0 y0 h0) Tryd.func31 rfl rfl rfl rfl rfl (lt_of_ble rfl)
      apply Wk.un rfl (fun w => by simp [go_sem] <;> rfl) (lt_of_ble rfl)
      apply Wk.mv (by conv => lhs; whnf) (lt_of_ble rfl)
      apply Wk.gon 56 rfl rfl
      apply Wk.ld (i := 4) 4 true ty50 rfl rfl (by conv => lhs; whnf) (lt_of_ble rfl)
      apply Wk.gon 56 rfl rfl
      apply Wk.dat (scrxb false h1) Tryd.func25 rfl rfl rfl rfl rfl (lt_of_ble rfl)
      apply Wk.gon 56 rfl rfl
      apply Wk.un rfl (fun w => by simp [go_sem] <;> rfl) (lt_of_ble rfl)
      apply Wk.pckF rfl (by conv => lhs; whnf) (lt_of_ble rfl)
      apply Wk.mv (by conv => lhs; whnf) (lt_of_ble rfl)
      apply Wk.gon 61 rfl rfl
      apply Wk.ld (i := 5) 9 true ty31 rfl rfl (by conv => lhs; whnf) (lt_of_ble rfl)
      apply Wk.gon 61 rfl rfl
      apply Wk.dat (sfrmb k s c p f y g l fs h3) Tryd.func32 rfl rfl rfl rfl rfl (lt_of_ble rfl)
      apply Wk.gon 61 rfl rfl
      apply Wk.un rfl (fun w => by simp [go_sem] <;> rfl) (lt_of_ble rfl)
      apply Wk.pckF rfl (by conv => lhs; whnf) (lt_of_ble rfl)
      apply Wk.mv (by conv => lhs; whnf) (lt_of_ble rfl)
      apply Wk.gon 66 rfl rfl
      apply Wk.fad 0 0 false fd31_0 rfl (lt_of_ble rfl)
      apply Wk.gon 66 rfl rfl
      apply Wk.ld (i := 5) 1 false ty3 rfl rfl (by conv => lhs; whnf) (lt_of_ble rfl)
      apply Wk.gon 66 rfl rfl
      apply Wk.bin rfl rfl (r := .bool false) (fun w => by simp [go_sem, hk]) (lt_of_ble rfl)
      apply Wk.pckF rfl (by conv => lhs; whnf) (lt_of_ble rfl)
      refine Wk.nil ?_
      refine AW.cond rfl (fun hc => by cases hc) (fun _ => AW.skip (thenA_normal ?_))
      refine AW.seq (AW.seq ?_)
      apply AW.list
      apply Wk.fad 3 0 false fd50_2 rfl (lt_of_ble rfl)
      apply Wk.ld (i := 4) 1 false ty4 rfl rfl (by conv => lhs; whnf) (lt_of_ble rfl)
      refine Wk.nil ?_
      refine AW.cond rfl (fun hc => by cases hc) (fun _ => AW.skip (thenA_normal ?_))
      refine AW.seq (AW.seq ?_)
      apply AW.list
      apply Wk.fad 0 0 false fd50_0 rfl (lt_of_ble rfl)
      apply Wk.ld (i := 4) 1 false ty3 rfl rfl (by conv => lhs; whnf) (lt_of_ble rfl)
      apply Wk.bin rfl rfl (r := .bool false) (fun w => by simp [go_sem] <;> omega) (lt_of_ble rfl)
      apply Wk.mv (by conv => lhs; whnf) (lt_of_ble rfl)
      apply Wk.gon 95 rfl rfl
      apply Wk.fad 7 0 false fd31_7 rfl (lt_of_ble rfl)
      apply Wk.gon 95 rfl rfl
      apply Wk.ld (i := 5) 1 false ty3 rfl rfl (by conv => lhs; whnf) (lt_of_ble rfl)
      apply Wk.gon 95 rfl rfl
      apply Wk.fad 3 0 false fd24_3 rfl (lt_of_ble rfl)
      apply Wk.gon 95 rfl rfl
      apply Wk.ld (i := 3) 1 false ty3 rfl rfl (by conv => lhs; whnf) (lt_of_ble rfl)
      apply Wk.gon 95 rfl rfl
      apply Wk.bin rfl rfl (r := .bool false) (fun w => by simp [go_sem] <;> omega) (lt_of_ble rfl)
      apply Wk.pckF rfl (by conv => lhs; whnf) (lt_of_ble rfl)
      apply Wk.mv (by conv => lhs; whnf) (lt_of_ble rfl)
      apply Wk.gon 102 rfl rfl
      apply Wk.fad 8 0 false fd31_8 rfl (lt_of_ble rfl)
      apply Wk.gon 102 rfl rfl
      apply Wk.ld (i := 5) 1 false ty22 rfl rfl (by conv => lhs; whnf) (lt_of_ble rfl)
      apply Wk.gon 102 rfl rfl
      apply Wk.len un22 rfl (lt_of_ble rfl)
      apply Wk.gon 102 rfl rfl
      apply Wk.fad 2 0 false fd24_2 rfl (lt_of_ble rfl)
      apply Wk.gon 102 rfl rfl
      apply Wk.ld (i := 3) 1 false ty3 rfl rfl (by conv => lhs; whnf) (lt_of_ble rfl)
      apply Wk.gon 102 rfl rfl
      apply Wk.bin rfl rfl (r := .bool false) (fun w => by simp [go_sem] <;> omega) (lt_of_ble rfl)
      apply Wk.pckF rfl (by conv => lhs; whnf) (lt_of_ble rfl)
      refine Wk.nil ?_
      refine AW.cond rfl (fun hc => by cases hc) (fun _ => AW.skip (thenA_normal ?_))
      refine AW.seq ?_
      apply AW.list
      apply Wk.fad 1 1 true fd50_1 rfl (lt_of_ble rfl)
      apply Wk.ld (i := 4) 2 true ty48 rfl rfl (by conv => lhs; whnf) (lt_of_ble rfl)
      apply Wk.fad 6 0 false fd31_6 rfl (lt_of_ble rfl)
      apply Wk.ld (i := 5) 1 false ty3 rfl rfl (by conv => lhs; whnf) (lt_of_ble rfl)
      apply Wk.fad 7 0 false fd31_7 rfl (lt_of_ble rfl)
      apply Wk.ld (i := 5) 1 false ty3 rfl rfl (by conv => lhs; whnf) (lt_of_ble rfl)
      apply Wk.fad 8 0 false fd31_8 rfl (lt_of_ble rfl)
      apply Wk.ld (i := 5) 1 false ty22 rfl rfl (by conv => lhs; whnf) (lt_of_ble rfl)
      apply Wk.bld [.int .i64 0, .int .i64 0, .slice none 0 0] [(0, 1), (1, 1), (2, 1)] bl41 rfl (by conv => lhs; whnf) (lt_of_ble rfl)
      apply Wk.dat (iputb m bs g l fs (by omega) (by omega) (putA4_all hf.2 hp hC)) Tryd.func33 rfl rfl rfl rfl rfl (lt_of_ble rfl)
      apply Wk.mv (by conv => lhs; whnf) (lt_of_ble rfl)
      apply Wk.ext rfl rfl (lt_of_ble rfl)
      apply Wk.ext rfl rfl (lt_of_ble rfl)
      apply Wk.ext rfl rfl (lt_of_ble rfl)
      apply Wk.alc 10 [.int .i64 0, .slice none 0 0] ze48 rfl rfl (lt_of_ble rfl)
      apply Wk.sto (i := 10) 2 true ty48 rfl rfl rfl rfl (Nat.le_of_ble_eq_true rfl) (lt_of_ble rfl)
      apply Wk.asg (by conv => lhs; whnf) (lt_of_ble rfl)
      apply Wk.asg (by conv => lhs; whnf) (lt_of_ble rfl)
      refine Wk.nil ?_
      refine AW.seq (AW.seq ?_)
      apply AW.list
      apply Wk.fad 0 0 false fd50_0 rfl (lt_of_ble rfl)
      apply Wk.ld (i := 6) 1 false ty3 rfl rfl (by conv => lhs; whnf) (lt_of_ble rfl)
      apply Wk.fad 0 0 false fd50_0 rfl (lt_of_ble rfl)
      apply Wk.ld (i := 4) 1 false ty3 rfl rfl (by conv => lhs; whnf) (lt_of_ble rfl)
      apply Wk.subi rfl rfl (by omega) (lt_of_ble rfl)
      apply Wk.bin rfl rfl (r := .bool false) (fun w => by simp [go_sem]) (lt_of_ble rfl)
      apply Wk.mv (by conv => lhs; whnf) (lt_of_ble rfl)
      apply Wk.gon 137 rfl rfl
      apply Wk.fad 3 0 false fd50_2 rfl (lt_of_ble rfl)
      apply Wk.gon 137 rfl rfl
      apply Wk.ld (i := 6) 1 false ty4 rfl rfl (by conv => lhs; whnf) (lt_of_ble rfl)
      apply Wk.gon 137 rfl rfl
      apply Wk.mv (by conv => lhs; whnf) (lt_of_ble rfl)
      apply Wk.gon 137 rfl rfl
      apply Wk.bin rfl rfl (r := .bool false) (fun w => by simp [go_sem]) (lt_of_ble rfl)
      apply Wk.gon 137 rfl rfl
      apply Wk.bin rfl rfl (r := .bool false) (fun w => by simp [go_sem]) (lt_of_ble rfl)
      apply Wk.pckF rfl (by conv => lhs; whnf) (lt_of_ble rfl)
      apply Wk.mv (by conv => lhs; whnf) (lt_of_ble rfl)
      apply Wk.gon 144 rfl rfl
      apply Wk.fad 1 1 true fd50_1 rfl (lt_of_ble rfl)
      apply Wk.gon 144 rfl rfl
      apply Wk.ld (i := 6) 2 true ty48 rfl rfl (by conv => lhs; whnf) (lt_of_ble rfl)
      apply Wk.gon 144 rfl rfl
      apply Wk.ld (i := 10) 2 true ty48 rfl rfl (by conv => lhs; whnf) (lt_of_ble rfl)
      apply Wk.gon 144 rfl rfl
      apply Wk.dat (liJoin_ok 0 []) Tryd.func34 rfl rfl rfl rfl rfl (lt_of_ble rfl)
      apply Wk.gon 144 rfl rfl
      apply Wk.un rfl (fun w => by simp [go_sem] <;> rfl) (lt_of_ble rfl)
      apply Wk.pckF rfl (by conv => lhs; whnf) (lt_of_ble rfl)
      apply Wk.mv (by conv => lhs; whnf) (lt_of_ble rfl)
      apply Wk.gon 151 rfl rfl
      apply Wk.ld (i := 6) 4 true ty50 rfl rfl (by conv => lhs; whnf) (lt_of_ble rfl)
      apply Wk.gon 151 rfl rfl
      apply Wk.dat (icrxb false g2) Tryd.func26 rfl rfl rfl rfl rfl (lt_of_ble rfl)
      apply Wk.gon 151 rfl rfl
      apply Wk.un rfl (fun w => by simp [go_sem] <;> rfl) (lt_of_ble rfl)
      apply Wk.pckF rfl (by conv => lhs; whnf) (lt_of_ble rfl)
      refine Wk.nil ?_
      refine AW.cond rfl (fun hc => by cases hc) (fun _ => AW.skip (thenA_normal ?_))
      refine AW.seq ?_
      apply AW.list
      apply Wk.mv (by conv => lhs; whnf) (lt_of_ble rfl)
      apply Wk.bin rfl rfl (r := .bool true) (fun w => by simp [go_sem]) (lt_of_ble rfl)
      apply Wk.mv (by conv => lhs; whnf) (lt_of_ble rfl)
      apply Wk.len un58 rfl (lt_of_ble rfl)
      apply Wk.bin rfl rfl (r := .bool true) (fun w => by simp [go_sem]) (lt_of_ble rfl)
      apply Wk.bin rfl rfl (r := .bool true) (fun w => by simp [go_sem]) (lt_of_ble rfl)
      apply Wk.mv (by conv => lhs; whnf) (lt_of_ble rfl)
      apply Wk.gon 162 rfl rfl
      apply Wk.mv (by conv => lhs; whnf) (lt_of_ble rfl)
      apply Wk.gon 162 rfl rfl
      apply Wk.len un58 rfl (lt_of_ble rfl)
      apply Wk.gon 162 rfl rfl
      apply Wk.bin rfl rfl (r := .bool false) (fun w => by simp [go_sem]) (lt_of_ble rfl)
      apply Wk.gon 162 rfl rfl
      apply Wk.mv (by conv => lhs; whnf) (lt_of_ble rfl)
      apply Wk.gon 166 rfl rfl
      apply Wk.mv (by conv => lhs; whnf) (lt_of_ble rfl)
      apply Wk.gon 166 rfl rfl
      apply Wk.iad 1 false un58 ty22 rfl rfl (by simp) (all_len rfl) (lt_of_ble rfl)
      apply Wk.gon 166 rfl rfl
      apply Wk.ldr 1 false ty22 rfl rfl (by conv => lhs; whnf) (lt_of_ble rfl)
      apply Wk.gon 166 rfl rfl
      apply Wk.mv (by conv => lhs; whnf) (lt_of_ble rfl)
      apply Wk.gon 166 rfl rfl
      apply Wk.dat (liBytesE _) Tryd.func35 rfl rfl rfl rfl rfl (lt_of_ble rfl)
      apply Wk.gon 162 rfl rfl
      apply Wk.pckF rfl (by conv => lhs; whnf) (lt_of_ble rfl)
      apply Wk.pckT rfl (by conv => lhs; whnf) (lt_of_ble rfl)
      apply Wk.asg (by conv => lhs; whnf) (lt_of_ble rfl)
      refine Wk.nil (AW.ret ?_)
      repeat (first | refine thenA_ret ?_ | refine inBlockA_ret ?_)
      exact RetQ.ret [] (.cons rfl .nil) ⟨rfl, rfl⟩ none_kept
    · rfl
    · rfl
  · have g2 := crx_nil (v := v) (by omega) (by omega)
    have ci := ihearCBad (V := V) m0 w0 s0 t0 y0 v m bs k s c p f y g l fs h0 h1 hk h3 hbl (by omega) hV0 c1 ht hC
    have cs := shearCBad m0 w0 s0 t0 y0 v m bs k s c p f y g l fs h0 h1 hk h3 hbl c1 ht hC
    refine AW.seq ?_
    apply AW.list
    apply Wk.ld (i := 3) 5 true ty24 rfl rfl (by conv => lhs; whnf) (lt_of_ble rfl)
    apply Wk.ld (i := 4) 4 true ty50 rfl rfl (by conv => lhs; whnf) (lt_of_ble rfl)
    apply Wk.ld (i := 5) 9 true ty31 rfl rfl (by conv => lhs; whnf) (lt_of_ble rfl)
    apply Wk.dav ci hX hV Tryd.func28 rfl rfl rfl rfl rfl (lt_of_ble rfl)
    apply Wk.mv (by conv => lhs; whnf) (lt_of_ble rfl)
    apply Wk.ext rfl rfl (lt_of_ble rfl)
    apply Wk.ext rfl rfl (lt_of_ble rfl)
    apply Wk.alc 6 [.int .i64 0, .int .i64 0, .slice none 0 0, .bool false] ze50 rfl rfl (lt_of_ble rfl)
    apply Wk.sto (i := 6) 4 true ty50 rfl rfl rfl rfl (Nat.le_of_ble_eq_true rfl) (lt_of_ble rfl)
    apply Wk.asg (by conv => lhs; whnf) (lt_of_ble rfl)
    refine Wk.nil ?_
    refine AW.seq ?_
    apply AW.list
    apply Wk.ld (i := 3) 5 true ty24 rfl rfl (by conv => lhs; whnf) (lt_of_ble rfl)
    apply Wk.ld (i := 4) 4 true ty50 rfl rfl (by conv => lhs; whnf) (lt_of_ble rfl)
    apply Wk.ld (i := 5) 9 true ty31 rfl rfl (by conv => lhs; whnf) (lt_of_ble rfl)
    apply Wk.dat cs Tryd.func29 rfl rfl rfl rfl rfl (lt_of_ble rfl)
    apply Wk.mv (by conv => lhs; whnf) (lt_of_ble rfl)
    apply Wk.ext rfl rfl (lt_of_ble rfl)
    apply Wk.ext rfl rfl (lt_of_ble rfl)
    apply Wk.alc 8 [.int .i64 0, .int .i64 0, .slice none 0 0, .bool false] ze50 rfl rfl (lt_of_ble rfl)
    apply Wk.sto (i := 8) 4 true ty50 rfl rfl rfl rfl (Nat.le_of_ble_eq_true rfl) (lt_of_ble rfl)
    apply Wk.asg (by conv => lhs; whnf) (lt_of_ble rfl)
    refine Wk.nil ?_
    refine AW.seq (AW.seq ?_)
    apply AW.draw (hm := hmix) (cs := _)
    · apply Wk.ld (i := 6) 4 true ty50 rfl rfl (by conv => lhs; whnf) (lt_of_ble rfl)
      apply Wk.ld (i := 8) 4 true ty50 rfl rfl (by conv => lhs; whnf) (lt_of_ble rfl)
      apply Wk.dat (liCrxE (v - 1) 0 [] true) Tryd.func24 rfl rfl rfl rfl rfl (lt_of_ble rfl)
      apply Wk.un rfl (fun w => by simp [go_sem] <;> rfl) (lt_of_ble rfl)
      apply Wk.mv (by conv => lhs; whnf) (lt_of_ble rfl)
      apply Wk.gon 40 rfl rfl
      apply Wk.mv (by conv => lhs; whnf) (lt_of_ble rfl)
      apply Wk.gon 40 rfl rfl
      apply Wk.mv (by conv => lhs; whnf) (lt_of_ble rfl)
      apply Wk.gon 40 rfl rfl
      apply Wk.dat liS0 Tryd.func30 rfl rfl rfl rfl rfl (lt_of_ble rfl)
      apply Wk.gon 40 rfl rfl
      apply Wk.un rfl (fun w => by simp [go_sem] <;> rfl) (lt_of_ble rfl)
      apply Wk.pckF rfl (by conv => lhs; whnf) (lt_of_ble rfl)
      apply Wk.mv (by conv => lhs; whnf) (lt_of_ble rfl)
      apply Wk.gon 46 rfl rfl
      apply Wk.ld (i := 4) 4 true ty50 rfl rfl (by conv => lhs; whnf) (lt_of_ble rfl)
      apply Wk.gon 46 rfl rfl
      apply Wk.dat (icrxb false h1) Tryd.func26 rfl rfl rfl rfl rfl (lt_of_ble rfl)
      apply Wk.gon 46 rfl rfl
      apply Wk.ld (i := 4) 4 true ty50 rfl rfl (by conv => lhs; whnf) (lt_of_ble rfl)
      apply Wk.gon 46 rfl rfl
      apply Wk.dat (scrxb false h1) Tryd.func25 rfl rfl rfl rfl rfl (lt_of_ble rfl)
      apply Wk.gon 46 rfl rfl
      apply Wk.bin rfl rfl (r := .bool false) (fun w => by simp [go_sem]) (lt_of_ble rfl)
      apply Wk.pckF rfl (by conv => lhs; whnf) (lt_of_ble rfl)
      refine Wk.nil ?_
      refine AW.cond rfl (fun hc => by cases hc) (fun _ => AW.skip (thenA_normal ?_))
      refine AW.seq (AW.seq ?_)
      apply AW.list
      apply Wk.ld (i := 3) 5 true ty24 rfl rfl (by conv => lhs; whnf) (lt_of_ble rfl)
      apply Wk.dat (scfgbX m0 w0 s0 t0 y0 h0) Tryd.func31 rfl rfl rfl rfl rfl (lt_of_ble rfl)
      apply Wk.un rfl (fun w => by simp [go_sem] <;> rfl) (lt_of_ble rfl)
      apply Wk.mv (by conv => lhs; whnf) (lt_of_ble rfl)
      apply Wk.gon 56 rfl rfl
      apply Wk.ld (i := 4) 4 true ty50 rfl rfl (by conv => lhs; whnf) (lt_of_ble rfl)
      apply Wk.gon 56 rfl rfl
      apply Wk.dat (scrxb false h1) Tryd.func25 rfl rfl rfl rfl rfl (lt_of_ble rfl)
      apply Wk.gon 56 rfl rfl
      apply Wk.un rfl (fun w => by simp [go_sem] <;> rfl) (lt_of_ble rfl)
      apply Wk.pckF rfl (by conv => lhs; whnf) (lt_of_ble rfl)
      apply Wk.mv (by conv => lhs; whnf) (lt_of_ble rfl)
      apply Wk.gon 61 rfl rfl
      apply Wk.ld (i := 5) 9 true ty31 rfl rfl (by conv => lhs; whnf) (lt_of_ble rfl)
      apply Wk.gon 61 rfl rfl
      apply Wk.dat (sfrmb k s c p f y g l fs h3) Tryd.func32 rfl rfl rfl rfl rfl (lt_of_ble rfl)
      apply Wk.gon 61 rfl rfl
      apply Wk.un rfl (fun w => by simp [go_sem] <;> rfl) (lt_of_ble rfl)
      apply Wk.pckF rfl (by conv => lhs; whnf) (lt_of_ble rfl)
      apply Wk.mv (by conv => lhs; whnf) (lt_of_ble rfl)
      apply Wk.gon 66 rfl rfl
      apply Wk.fad 0 0 false fd31_0 rfl (lt_of_ble rfl)
      apply Wk.gon 66 rfl rfl
      apply Wk.ld (i := 5) 1 false ty3 rfl rfl (by conv => lhs; whnf) (lt_of_ble rfl)
      apply Wk.gon 66 rfl rfl
      apply Wk.bin rfl rfl (r := .bool false) (fun w => by simp [go_sem, hk]) (lt_of_ble rfl)
      apply Wk.pckF rfl (by conv => lhs; whnf) (lt_of_ble rfl)
      refine Wk.nil ?_
      refine AW.cond rfl (fun hc => by cases hc) (fun _ => AW.skip (thenA_normal ?_))
      refine AW.seq (AW.seq ?_)
      apply AW.list
      apply Wk.fad 3 0 false fd50_2 rfl (lt_of_ble rfl)
      apply Wk.ld (i := 4) 1 false ty4 rfl rfl (by conv => lhs; whnf) (lt_of_ble rfl)
      refine Wk.nil ?_
      refine AW.cond rfl (fun hc => by cases hc) (fun _ => AW.skip (thenA_normal ?_))
      refine AW.seq (AW.seq ?_)
      apply AW.list
      apply Wk.fad 0 0 false fd50_0 rfl (lt_of_ble rfl)
      apply Wk.ld (i := 4) 1 false ty3 rfl rfl (by conv => lhs; whnf) (lt_of_ble rfl)
      apply Wk.bin rfl rfl (r := .bool false) (fun w => by simp [go_sem] <;> omega) (lt_of_ble rfl)
      apply Wk.mv (by conv => lhs; whnf) (lt_of_ble rfl)
      apply Wk.gon 95 rfl rfl
      apply Wk.fad 7 0 false fd31_7 rfl (lt_of_ble rfl)
      apply Wk.gon 95 rfl rfl
      apply Wk.ld (i := 5) 1 false ty3 rfl rfl (by conv => lhs; whnf) (lt_of_ble rfl)
      apply Wk.gon 95 rfl rfl
      apply Wk.fad 3 0 false fd24_3 rfl (lt_of_ble rfl)
      apply Wk.gon 95 rfl rfl
      apply Wk.ld (i := 3) 1 false ty3 rfl rfl (by conv => lhs; whnf) (lt_of_ble rfl)
      apply Wk.gon 95 rfl rfl
      apply Wk.bin rfl rfl (r := .bool false) (fun w => by simp [go_sem] <;> omega) (lt_of_ble rfl)
      apply Wk.pckF rfl (by conv => lhs; whnf) (lt_of_ble rfl)
      apply Wk.mv (by conv => lhs; whnf) (lt_of_ble rfl)
      apply Wk.gon 102 rfl rfl
      apply Wk.fad 8 0 false fd31_8 rfl (lt_of_ble rfl)
      apply Wk.gon 102 rfl rfl
      apply Wk.ld (i := 5) 1 false ty22 rfl rfl (by conv => lhs; whnf) (lt_of_ble rfl)
      apply Wk.gon 102 rfl rfl
      apply Wk.len un22 rfl (lt_of_ble rfl)
      apply Wk.gon 102 rfl rfl
      apply Wk.fad 2 0 false fd24_2 rfl (lt_of_ble rfl)
      apply Wk.gon 102 rfl rfl
      apply Wk.ld (i := 3) 1 false ty3 rfl rfl (by conv => lhs; whnf) (lt_of_ble rfl)
      apply Wk.gon 102 rfl rfl
      apply Wk.bin rfl rfl (r := .bool false) (fun w => by simp [go_sem] <;> omega) (lt_of_ble rfl)
      apply Wk.pckF rfl (by conv => lhs; whnf) (lt_of_ble rfl)
      refine Wk.nil ?_
      refine AW.cond rfl (fun hc => by cases hc) (fun _ => AW.skip (thenA_normal ?_))
      refine AW.seq ?_
      apply AW.list
      apply Wk.fad 1 1 true fd50_1 rfl (lt_of_ble rfl)
      apply Wk.ld (i := 4) 2 true ty48 rfl rfl (by conv => lhs; whnf) (lt_of_ble rfl)
      apply Wk.fad 6 0 false fd31_6 rfl (lt_of_ble rfl)
      apply Wk.ld (i := 5) 1 false ty3 rfl rfl (by conv => lhs; whnf) (lt_of_ble rfl)
      apply Wk.fad 7 0 false fd31_7 rfl (lt_of_ble rfl)
      apply Wk.ld (i := 5) 1 false ty3 rfl rfl (by conv => lhs; whnf) (lt_of_ble rfl)
      apply Wk.fad 8 0 false fd31_8 rfl (lt_of_ble rfl)
      apply Wk.ld (i := 5) 1 false ty22 rfl rfl (by conv => lhs; whnf) (lt_of_ble rfl)
      apply Wk.bld [.int .i64 0, .int .i64 0, .slice none 0 0] [(0, 1), (1, 1), (2, 1)] bl41 rfl (by conv => lhs; whnf) (lt_of_ble rfl)
      apply Wk.dat (iputb m bs g l fs (by omega) (by omega) (putA4_bad hf.2 hp hC)) Tryd.func33 rfl rfl rfl rfl rfl (lt_of_ble rfl)
      apply Wk.mv (by conv => lhs; whnf) (lt_of_ble rfl)
      apply Wk.ext rfl rfl (lt_of_ble rfl)
      apply Wk.ext rfl rfl (lt_of_ble rfl)
      apply Wk.ext rfl rfl (lt_of_ble rfl)
      apply Wk.alc 10 [.int .i64 0, .slice none 0 0] ze48 rfl rfl (lt_of_ble rfl)
      apply Wk.sto (i := 10) 2 true ty48 rfl rfl rfl rfl (Nat.le_of_ble_eq_true rfl) (lt_of_ble rfl)
      apply Wk.asg (by conv => lhs; whnf) (lt_of_ble rfl)
      apply Wk.asg (by conv => lhs; whnf) (lt_of_ble rfl)
      refine Wk.nil ?_
      refine AW.seq (AW.seq ?_)
      apply AW.list
      apply Wk.fad 0 0 false fd50_0 rfl (lt_of_ble rfl)
      apply Wk.ld (i := 6) 1 false ty3 rfl rfl (by conv => lhs; whnf) (lt_of_ble rfl)
      apply Wk.fad 0 0 false fd50_0 rfl (lt_of_ble rfl)
      apply Wk.ld (i := 4) 1 false ty3 rfl rfl (by conv => lhs; whnf) (lt_of_ble rfl)
      apply Wk.subi rfl rfl (by omega) (lt_of_ble rfl)
      apply Wk.bin rfl rfl (r := .bool false) (fun w => by simp [go_sem]) (lt_of_ble rfl)
      apply Wk.mv (by conv => lhs; whnf) (lt_of_ble rfl)
      apply Wk.gon 137 rfl rfl
      apply Wk.fad 3 0 false fd50_2 rfl (lt_of_ble rfl)
      apply Wk.gon 137 rfl rfl
      apply Wk.ld (i := 6) 1 false ty4 rfl rfl (by conv => lhs; whnf) (lt_of_ble rfl)
      apply Wk.gon 137 rfl rfl
      apply Wk.mv (by conv => lhs; whnf) (lt_of_ble rfl)
      apply Wk.gon 137 rfl rfl
      apply Wk.bin rfl rfl (r := .bool true) (fun w => by simp [go_sem]) (lt_of_ble rfl)
      apply Wk.gon 137 rfl rfl
      apply Wk.bin rfl rfl (r := .bool false) (fun w => by simp [go_sem]) (lt_of_ble rfl)
      apply Wk.pckF rfl (by conv => lhs; whnf) (lt_of_ble rfl)
      apply Wk.mv (by conv => lhs; whnf) (lt_of_ble rfl)
      apply Wk.gon 144 rfl rfl
      apply Wk.fad 1 1 true fd50_1 rfl (lt_of_ble rfl)
      apply Wk.gon 144 rfl rfl
      apply Wk.ld (i := 6) 2 true ty48 rfl rfl (by conv => lhs; whnf) (lt_of_ble rfl)
      apply Wk.gon 144 rfl rfl
      apply Wk.ld (i := 10) 2 true ty48 rfl rfl (by conv => lhs; whnf) (lt_of_ble rfl)
      apply Wk.gon 144 rfl rfl
      apply Wk.dat (liJoin_ok 0 []) Tryd.func34 rfl rfl rfl rfl rfl (lt_of_ble rfl)
      apply Wk.gon 144 rfl rfl
      apply Wk.un rfl (fun w => by simp [go_sem] <;> rfl) (lt_of_ble rfl)
      apply Wk.pckF rfl (by conv => lhs; whnf) (lt_of_ble rfl)
      apply Wk.mv (by conv => lhs; whnf) (lt_of_ble rfl)
      apply Wk.gon 151 rfl rfl
      apply Wk.ld (i := 6) 4 true ty50 rfl rfl (by conv => lhs; whnf) (lt_of_ble rfl)
      apply Wk.gon 151 rfl rfl
      apply Wk.dat (icrxb true g2) Tryd.func26 rfl rfl rfl rfl rfl (lt_of_ble rfl)
      apply Wk.gon 151 rfl rfl
      apply Wk.un rfl (fun w => by simp [go_sem] <;> rfl) (lt_of_ble rfl)
      apply Wk.pckF rfl (by conv => lhs; whnf) (lt_of_ble rfl)
      refine Wk.nil ?_
      refine AW.cond rfl (fun hc => by cases hc) (fun _ => AW.skip (thenA_normal ?_))
      refine AW.seq ?_
      apply AW.list
      apply Wk.mv (by conv => lhs; whnf) (lt_of_ble rfl)
      apply Wk.bin rfl rfl (r := .bool false) (fun w => by simp [go_sem]) (lt_of_ble rfl)
      apply Wk.mv (by conv => lhs; whnf) (lt_of_ble rfl)
      apply Wk.len un58 rfl (lt_of_ble rfl)
      apply Wk.bin rfl rfl (r := .bool false) (fun w => by simp [go_sem]) (lt_of_ble rfl)
      apply Wk.bin rfl rfl (r := .bool true) (fun w => by simp [go_sem]) (lt_of_ble rfl)
      apply Wk.mv (by conv => lhs; whnf) (lt_of_ble rfl)
      apply Wk.gon 162 rfl rfl
      apply Wk.mv (by conv => lhs; whnf) (lt_of_ble rfl)
      apply Wk.gon 162 rfl rfl
      apply Wk.len un58 rfl (lt_of_ble rfl)
      apply Wk.gon 162 rfl rfl
      apply Wk.bin rfl rfl (r := .bool true) (fun w => by simp [go_sem]) (lt_of_ble rfl)
      apply Wk.gon 162 rfl rfl
      apply Wk.mv (by conv => lhs; whnf) (lt_of_ble rfl)
      apply Wk.goff 166 (ok_move _) rfl rfl (by simp)
      apply Wk.goff 166 (ok_iaddr un58 ty22) rfl rfl (by simp)
      apply Wk.goff 166 (ok_loadr ty22) rfl rfl (by simp)
      apply Wk.goff 166 (ok_move _) rfl rfl (by simp)
      apply Wk.goff 166 (ok_datw ((liBytesE []).w rfl) Tryd.func35 rfl rfl) rfl rfl (by simp)
      apply Wk.gon 162 rfl rfl
      apply Wk.pckT rfl (by conv => lhs; whnf) (lt_of_ble rfl)
      apply Wk.pckT rfl (by conv => lhs; whnf) (lt_of_ble rfl)
      apply Wk.asg (by conv => lhs; whnf) (lt_of_ble rfl)
      refine Wk.nil (AW.ret ?_)
      repeat (first | refine thenA_ret ?_ | refine inBlockA_ret ?_)
      exact RetQ.ret [] (.cons rfl .nil) ⟨rfl, rfl⟩ none_kept
    · rfl
    · rfl
namespace fnCrdHear
set_option maxRecDepth 100000 in
theorem walk (a0 : Option Addr) (len0 cap0 : Nat) (z0 : List Int) (w : World) (w0 : IsRow .u8 w a0 len0 cap0 z0) (a10 : Addr) (hE : VarsIn [(0, errV a10)] w) :
    Calls Tryd.prog 6 #[.slice a0 len0 cap0] w fun e w' => e = .returned (.bool true) ∧ Below w.heap.size w w' := by
  by_cases hs0 : (1048576 : Int) < (len0 : Int)
  · go_enter Tryd.func6, Tryd.ntmps6
    go_wp2
    go_ret
    exact ⟨rfl, Below.refl _ _⟩
  obtain ⟨cz, hR0, _⟩ := w0.rd (by omega)
  obtain ⟨zs, rfl⟩ := byt_fin hR0.1
  exact (lawCrdHear_ok zs (V := [(0, errV a10)]) (show (0, errV a10) ∈ ([(0, errV a10)] : List (Nat × Value)) by simp)).run hE hR0
end fnCrdHear
end Go.Proofs.YtejafihfbncaoaaDoor
