/- The law of RxAck, promise 37, returns true at every code. -/
import Derived.Test.YteaamhjacjgacaaAbsSay
import Derived.RowKit3
namespace Go.Proofs.Yteaamhjacjgacaa
open Go Go.RowKit
theorem iack0 {e c m : Int} {bs : List (Fin 256)} (a u d : Bool) (hb : rxB e c m bs.length = false) : DataOk Try.prog 5 [rxA e c m bs a u d] (frm0 0 0 0 false false 0 0 0) := by
  have h := iack_ok e c m bs a u d
  rwa [hb, if_neg (by decide)] at h
theorem iack1 {e c m : Int} {bs : List (Fin 256)} (a u d : Bool) (hb : rxB e c m bs.length = true) : DataOk Try.prog 5 [rxA e c m bs a u d] (frm0 2 0 e false false (sayOf u) 0 0) := by
  have h := iack_ok e c m bs a u d
  rwa [hb, if_pos rfl] at h
theorem sack0 {e c m : Int} {bs : List (Fin 256)} (a u d : Bool) (hb : rxB e c m bs.length = false) : DataOk Try.prog 7 [rxA e c m bs a u d] (frm0 0 0 0 false false 0 0 0) := by
  have h := sack_ok e c m bs a u d
  rwa [hb, if_neg (by decide)] at h
theorem sack1 {e c m : Int} {bs : List (Fin 256)} (a u d : Bool) (hb : rxB e c m bs.length = true) : DataOk Try.prog 7 [rxA e c m bs a u d] (frm0 2 0 e false false (sayOf u) 0 0) := by
  have h := sack_ok e c m bs a u d
  rwa [hb, if_pos rfl] at h
theorem srxb {e c m : Int} {bs : List (Fin 256)} {b : Bool} (a u d : Bool) (hb : rxB e c m bs.length = b) : DataOk Try.prog 8 [rxA e c m bs a u d] (.d (.v (.bool b))) := by
  have h := srx_ok e c m bs a u d
  rwa [hb] at h
theorem ifrm1 {e c m : Int} {n : Nat} (u : Bool) (hb : rxB e c m n = true) : DataOk Try.prog 10 [frmA 2 0 e false false (sayOf u) 0 0 []] (.d (.v (.bool true))) := by
  obtain ⟨hc, he, _⟩ : (0 ≤ c ∧ c ≤ 9999) ∧ c % 8 = e ∧ joinB m n = true := by
    simpa [rxB, inB_iff, and_assoc] using hb
  have h := ifrm_ok 2 0 e false false (sayOf u) 0 0 [] (by simp)
  have hf : frmB 2 0 e false false (sayOf u) 0 0 ([] : List (Fin 256)).length = true := by
    have h7 : 0 ≤ e ∧ e ≤ 7 := by omega
    cases u <;> simp [frmB, sayOf, h7]
  rwa [hf] at h
set_option maxRecDepth 100000 in
theorem lawRxAck_ok (zs : List (Fin 256)) : DataOk Try.prog 3 [.d (bytesD (zs.map (·.val)))] (.d (.v (.bool true))) := by
  refine Spec.intro (n := 58) (rv := [.tmp 2]) Try.func3 rfl rfl rfl (by simp) fun C hN hX => ?_
  refine AW.seq ?_
  apply AW.list
  apply Wk.asg (by conv => lhs; whnf) (lt_of_ble rfl)
  refine Wk.nil ?_
  refine AW.seq (AW.seq ?_)
  apply AW.list
  apply Wk.mv (by conv => lhs; whnf) (lt_of_ble rfl)
  apply Wk.len un22 rfl (lt_of_ble rfl)
  apply Wk.bin rfl rfl (fun w => by simp [go_sem] <;> rfl) (lt_of_ble rfl)
  refine Wk.nil ?_
  refine AW.cond rfl (fun hc => ?_) (fun hc => ?_)
  · refine AW.seq ?_
    apply AW.list
    apply Wk.asg (by conv => lhs; whnf) (lt_of_ble rfl)
    refine Wk.nil (AW.ret ?_)
    refine thenA_ret ?_
    exact RetQ.ret [] (.cons rfl .nil) ⟨rfl, rfl⟩ none_kept
  refine AW.skip (thenA_normal ?_)
  refine AW.seq ?_
  apply AW.list
  apply Wk.mv (by conv => lhs; whnf) (lt_of_ble rfl)
  apply Wk.datw (drawAck_ok zs) Try.func4 rfl rfl rfl rfl (lt_of_ble rfl)
  rintro _ ⟨e, c, m, bs, a, u, d, rfl, hr⟩
  apply Wk.alc 3 [.int .i64 0, .int .i64 0, .int .i64 0, .slice none 0 0, .bool false, .bool false, .bool false] ze26 rfl rfl (lt_of_ble rfl)
  apply Wk.sto (i := 3) 7 true ty26 rfl rfl rfl rfl (Nat.le_of_ble_eq_true rfl) (lt_of_ble rfl)
  refine Wk.nil ?_
  cases hb : rxB e c m bs.length
  · refine AW.seq ?_
    apply AW.list
    apply Wk.ld (i := 3) 7 true ty26 rfl rfl (by conv => lhs; whnf) (lt_of_ble rfl)
    apply Wk.dat (iack0 a u d hb) Try.func5 rfl rfl rfl rfl rfl (lt_of_ble rfl)
    apply Wk.alc 4 [.int .i64 0, .int .i64 0, .int .i64 0, .bool false, .bool false, .int .i64 0, .int .i64 0, .int .i64 0, .slice none 0 0] ze29 rfl rfl (lt_of_ble rfl)
    apply Wk.sto (i := 4) 9 true ty29 rfl rfl rfl rfl (Nat.le_of_ble_eq_true rfl) (lt_of_ble rfl)
    refine Wk.nil ?_
    refine AW.seq (AW.seq ?_)
    apply AW.draw (hm := hmix) (cs := _)
    · apply Wk.ld (i := 4) 9 true ty29 rfl rfl (by conv => lhs; whnf) (lt_of_ble rfl)
      apply Wk.ld (i := 3) 7 true ty26 rfl rfl (by conv => lhs; whnf) (lt_of_ble rfl)
      apply Wk.dat (sack0 a u d hb) Try.func7 rfl rfl rfl rfl rfl (lt_of_ble rfl)
      apply Wk.dat (liFrame_ok 0 0 0 false false 0 0 0 []) Try.func6 rfl rfl rfl rfl rfl (lt_of_ble rfl)
      apply Wk.un rfl (fun w => by simp [go_sem] <;> rfl) (lt_of_ble rfl)
      refine Wk.nil ?_
      refine AW.cond rfl (fun hc => by cases hc) (fun _ => AW.skip (thenA_normal ?_))
      refine AW.seq (AW.seq ?_)
      apply AW.list
      apply Wk.ld (i := 3) 7 true ty26 rfl rfl (by conv => lhs; whnf) (lt_of_ble rfl)
      apply Wk.dat (srxb a u d hb) Try.func8 rfl rfl rfl rfl rfl (lt_of_ble rfl)
      apply Wk.un rfl (fun w => by simp [go_sem] <;> rfl) (lt_of_ble rfl)
      refine Wk.nil ?_
      refine AW.cond rfl (fun _ => ?_) (fun hc => by cases hc)
      refine AW.seq ?_
      apply AW.list
      apply Wk.fad 0 0 false fd29_0 rfl (lt_of_ble rfl)
      apply Wk.ld (i := 4) 1 false ty3 rfl rfl (by conv => lhs; whnf) (lt_of_ble rfl)
      apply Wk.bin rfl rfl (r := .bool true) (fun w => by simp [go_sem]) (lt_of_ble rfl)
      apply Wk.mv (by conv => lhs; whnf) (lt_of_ble rfl)
      apply Wk.gon 23 rfl rfl
      apply Wk.dat liok_ok Try.func9 rfl rfl rfl rfl rfl (lt_of_ble rfl)
      apply Wk.pckT rfl (by conv => lhs; whnf) (lt_of_ble rfl)
      apply Wk.asg (by conv => lhs; whnf) (lt_of_ble rfl)
      refine Wk.nil (AW.ret ?_)
      refine thenA_ret ?_
      exact RetQ.ret [] (.cons rfl .nil) ⟨rfl, rfl⟩ none_kept
    · rfl
    · rfl
  · refine AW.seq ?_
    apply AW.list
    apply Wk.ld (i := 3) 7 true ty26 rfl rfl (by conv => lhs; whnf) (lt_of_ble rfl)
    apply Wk.dat (iack1 a u d hb) Try.func5 rfl rfl rfl rfl rfl (lt_of_ble rfl)
    apply Wk.alc 4 [.int .i64 0, .int .i64 0, .int .i64 0, .bool false, .bool false, .int .i64 0, .int .i64 0, .int .i64 0, .slice none 0 0] ze29 rfl rfl (lt_of_ble rfl)
    apply Wk.sto (i := 4) 9 true ty29 rfl rfl rfl rfl (Nat.le_of_ble_eq_true rfl) (lt_of_ble rfl)
    refine Wk.nil ?_
    refine AW.seq (AW.seq ?_)
    apply AW.draw (hm := hmix) (cs := _)
    · apply Wk.ld (i := 4) 9 true ty29 rfl rfl (by conv => lhs; whnf) (lt_of_ble rfl)
      apply Wk.ld (i := 3) 7 true ty26 rfl rfl (by conv => lhs; whnf) (lt_of_ble rfl)
      apply Wk.dat (sack1 a u d hb) Try.func7 rfl rfl rfl rfl rfl (lt_of_ble rfl)
      apply Wk.dat (liFrame_ok 2 0 e false false (sayOf u) 0 0 []) Try.func6 rfl rfl rfl rfl rfl (lt_of_ble rfl)
      apply Wk.un rfl (fun w => by simp [go_sem] <;> rfl) (lt_of_ble rfl)
      refine Wk.nil ?_
      refine AW.cond rfl (fun hc => by cases hc) (fun _ => AW.skip (thenA_normal ?_))
      refine AW.seq (AW.seq ?_)
      apply AW.list
      apply Wk.ld (i := 3) 7 true ty26 rfl rfl (by conv => lhs; whnf) (lt_of_ble rfl)
      apply Wk.dat (srxb a u d hb) Try.func8 rfl rfl rfl rfl rfl (lt_of_ble rfl)
      apply Wk.un rfl (fun w => by simp [go_sem] <;> rfl) (lt_of_ble rfl)
      refine Wk.nil ?_
      refine AW.cond rfl (fun hc => by cases hc) (fun _ => AW.skip (thenA_normal ?_))
      refine AW.seq ?_
      apply AW.list
      apply Wk.ld (i := 4) 9 true ty29 rfl rfl (by conv => lhs; whnf) (lt_of_ble rfl)
      apply Wk.dat (ifrm1 u hb) Try.func10 rfl rfl rfl rfl rfl (lt_of_ble rfl)
      apply Wk.mv (by conv => lhs; whnf) (lt_of_ble rfl)
      apply Wk.gon 28 rfl rfl
      apply Wk.fad 0 0 false fd29_0 rfl (lt_of_ble rfl)
      apply Wk.gon 28 rfl rfl
      apply Wk.ld (i := 4) 1 false ty3 rfl rfl (by conv => lhs; whnf) (lt_of_ble rfl)
      apply Wk.gon 28 rfl rfl
      apply Wk.bin rfl rfl (r := .bool true) (fun w => by simp [go_sem]) (lt_of_ble rfl)
      apply Wk.pckT rfl (by conv => lhs; whnf) (lt_of_ble rfl)
      apply Wk.mv (by conv => lhs; whnf) (lt_of_ble rfl)
      apply Wk.gon 33 rfl rfl
      apply Wk.fad 2 0 false fd29_2 rfl (lt_of_ble rfl)
      apply Wk.gon 33 rfl rfl
      apply Wk.ld (i := 4) 1 false ty3 rfl rfl (by conv => lhs; whnf) (lt_of_ble rfl)
      apply Wk.gon 33 rfl rfl
      apply Wk.fad 0 0 false fd26_0 rfl (lt_of_ble rfl)
      apply Wk.gon 33 rfl rfl
      apply Wk.ld (i := 3) 1 false ty3 rfl rfl (by conv => lhs; whnf) (lt_of_ble rfl)
      apply Wk.gon 33 rfl rfl
      apply Wk.bin rfl rfl (r := .bool true) (fun w => by simp [go_sem]) (lt_of_ble rfl)
      apply Wk.pckT rfl (by conv => lhs; whnf) (lt_of_ble rfl)
      apply Wk.mv (by conv => lhs; whnf) (lt_of_ble rfl)
      apply Wk.gon 40 rfl rfl
      apply Wk.fad 3 0 false fd29_3 rfl (lt_of_ble rfl)
      apply Wk.gon 40 rfl rfl
      apply Wk.ld (i := 4) 1 false ty4 rfl rfl (by conv => lhs; whnf) (lt_of_ble rfl)
      apply Wk.gon 40 rfl rfl
      apply Wk.un rfl (r := .bool true) (fun w => by simp [go_sem]) (lt_of_ble rfl)
      apply Wk.pckT rfl (by conv => lhs; whnf) (lt_of_ble rfl)
      apply Wk.mv (by conv => lhs; whnf) (lt_of_ble rfl)
      apply Wk.gon 45 rfl rfl
      apply Wk.fad 4 0 false fd29_4 rfl (lt_of_ble rfl)
      apply Wk.gon 45 rfl rfl
      apply Wk.ld (i := 4) 1 false ty4 rfl rfl (by conv => lhs; whnf) (lt_of_ble rfl)
      apply Wk.gon 45 rfl rfl
      apply Wk.un rfl (r := .bool true) (fun w => by simp [go_sem]) (lt_of_ble rfl)
      apply Wk.pckT rfl (by conv => lhs; whnf) (lt_of_ble rfl)
      apply Wk.mv (by conv => lhs; whnf) (lt_of_ble rfl)
      apply Wk.gon 50 rfl rfl
      apply Wk.fad 5 0 false fd29_5 rfl (lt_of_ble rfl)
      apply Wk.gon 50 rfl rfl
      apply Wk.ld (i := 4) 1 false ty3 rfl rfl (by conv => lhs; whnf) (lt_of_ble rfl)
      apply Wk.gon 50 rfl rfl
      apply Wk.bin rfl rfl (r := .bool u) (fun w => by cases u <;> simp [go_sem, sayOf]) (lt_of_ble rfl)
      apply Wk.gon 50 rfl rfl
      apply Wk.fad 5 0 false fd26_4 rfl (lt_of_ble rfl)
      apply Wk.gon 50 rfl rfl
      apply Wk.ld (i := 3) 1 false ty4 rfl rfl (by conv => lhs; whnf) (lt_of_ble rfl)
      apply Wk.gon 50 rfl rfl
      apply Wk.bin rfl rfl (r := .bool true) (fun w => by simp [go_sem]) (lt_of_ble rfl)
      apply Wk.pckT rfl (by conv => lhs; whnf) (lt_of_ble rfl)
      apply Wk.asg (by conv => lhs; whnf) (lt_of_ble rfl)
      refine Wk.nil (AW.ret ?_)
      exact RetQ.ret [] (.cons rfl .nil) ⟨rfl, rfl⟩ none_kept
    · rfl
    · rfl
namespace fnRxAck
set_option maxRecDepth 100000 in
theorem walk (a0 : Option Addr) (len0 cap0 : Nat) (z0 : List Int) (w : World) (w0 : IsRow .u8 w a0 len0 cap0 z0) :
    Calls Try.prog 3 #[.slice a0 len0 cap0] w fun e w' => e = .returned (.bool true) ∧ Below w.heap.size w w' := by
  by_cases hs0 : (1048576 : Int) < (len0 : Int)
  · go_enter Try.func3, Try.ntmps3
    go_wp2
    go_ret
    exact ⟨rfl, Below.refl _ _⟩
  obtain ⟨cz, hR0, _⟩ := w0.rd (by omega)
  obtain ⟨zs, rfl⟩ := byt_fin hR0.1
  exact (lawRxAck_ok zs).run hR0
end fnRxAck
end Go.Proofs.Yteaamhjacjgacaa
