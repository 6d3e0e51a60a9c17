/- The law of TxLeft, promise 33, returns true at every code. -/
import Derived.Test.YtpiihfogdjihdaaMa
import Derived.Test.YtpiihfogdjihdaaMb
import Derived.Test.YtpiihfogdjihdaaMc
import Derived.Test.YtpiihfogdjihdaaMd
import Derived.Test.YtpiihfogdjihdaaMe
import Derived.Test.YtpiihfogdjihdaaMf
import Derived.RowKit3
namespace Go.Proofs.Ytpiihfogdjihdaa
open Go Go.RowKit
set_option maxRecDepth 100000 in
theorem drawLeft_ok (zs : List (Fin 256)) : DataW Try.prog 7 [.d (bytesD (zs.map (·.val)))] (txPost []) := by
  refine ⟨?_, ⟨_, tx0, rfl, tx0_good.wide⟩, ?_⟩
  · refine id ?_
    refine Spec.intro (n := 10) (rv := [.cell 2 25]) Try.func7 rfl rfl rfl (by simp) fun C hN hX => ?_
    refine AW.seq ?_
    apply AW.list
    apply Wk.alc 2 [.int .i64 0, .int .i64 0, .slice none 0 0, .int .i64 0, .slice none 0 0, .bool false, .int .i64 0, .bool false, .int .i64 0, .bool false] ze25 rfl rfl (lt_of_ble rfl)
    refine Wk.nil ?_
    refine AW.seq ?_
    apply AW.list
    apply Wk.mv (by conv => lhs; whnf) (lt_of_ble rfl)
    apply Wk.opn open_ok Try.func23 rfl rfl rfl rfl (lt_of_ble rfl)
    rintro zs1
    apply Wk.asg (by conv => lhs; whnf) (lt_of_ble rfl)
    refine Wk.nil ?_
    refine AW.seq ?_
    apply AW.list
    apply Wk.mv (by conv => lhs; whnf) (lt_of_ble rfl)
    apply Wk.mv (by conv => lhs; whnf) (lt_of_ble rfl)
    apply Wk.drw 0 cfg_ok Try.func25 rfl rfl rfl rfl ⟨0, rfl, by omega, by omega⟩ (by omega) rfl (lt_of_ble rfl)
    rintro r2 zs2 p2 ⟨m, w, s, t, y, rfl, hb, _⟩ hp2
    apply Wk.drw 0 l20Tx_ok Try.func24 rfl rfl rfl rfl ⟨m, w, s, t, y, 6, rfl, hb, by omega, by omega⟩ (by omega) rfl (lt_of_ble rfl)
    rintro r3 zs3 p3 ⟨x, rfl, hx⟩ hp3
    apply Wk.sto (i := 2) 10 true ty25 rfl rfl rfl rfl (Nat.le_of_ble_eq_true rfl) (lt_of_ble rfl)
    refine Wk.nil (AW.ret ?_)
    exact RetQ.ret [] (.cons ⟨2, 0, _, _, _, rfl, rfl, ty25, rfl⟩ .nil) ⟨⟨x, rfl, hx⟩, rfl⟩ none_kept
  · rintro r ⟨x, rfl, _⟩; rfl
set_option maxRecDepth 100000 in
theorem lawTxLeft_ok (zs : List (Fin 256)) : DataOk Try.prog 3 [.d (bytesD (zs.map (·.val)))] (.d (.v (.bool true))) := by
  refine Spec.intro (n := 30) (rv := [.tmp 2]) Try.func3 rfl rfl rfl (by simp) fun C hN hX => ?_
  refine AW.seq ?_
  apply AW.list
  apply Wk.asg (by conv => lhs; whnf) (lt_of_ble rfl)
  refine Wk.nil ?_
  refine AW.seq (AW.seq ?_)
  apply AW.list
  apply Wk.mv (by conv => lhs; whnf) (lt_of_ble rfl)
  apply Wk.len un22 rfl (lt_of_ble rfl)
  apply Wk.bin rfl rfl (fun w => by simp [go_sem] <;> rfl) (lt_of_ble rfl)
  refine Wk.nil ?_
  refine AW.cond rfl (fun hc => ?_) (fun hc => ?_)
  · refine AW.seq ?_
    apply AW.list
    apply Wk.asg (by conv => lhs; whnf) (lt_of_ble rfl)
    refine Wk.nil (AW.ret ?_)
    refine thenA_ret ?_
    exact RetQ.ret [] (.cons rfl .nil) ⟨rfl, rfl⟩ none_kept
  refine AW.skip (thenA_normal ?_)
  refine AW.seq ?_
  apply AW.list
  apply Wk.mv (by conv => lhs; whnf) (lt_of_ble rfl)
  apply Wk.datw (drawLeft_ok zs) Try.func7 rfl rfl rfl rfl (lt_of_ble rfl)
  rintro _ ⟨x, rfl, hx⟩
  apply Wk.alc 3 [.int .i64 0, .int .i64 0, .slice none 0 0, .int .i64 0, .slice none 0 0, .bool false, .int .i64 0, .bool false, .int .i64 0, .bool false] ze25 rfl rfl (lt_of_ble rfl)
  apply Wk.sto (i := 3) 10 true ty25 rfl rfl rfl rfl (Nat.le_of_ble_eq_true rfl) (lt_of_ble rfl)
  refine Wk.nil ?_
  have h1 := hx.2.2.1.1
  have h2 := hx.2.2.2.2.1.1
  have e1 : (((x.fl.map datD).length : Nat) : Int) = (x.fl.length : Int) := by rw [List.length_map]
  have e2 : (((x.qu.map datD).length : Nat) : Int) = (x.qu.length : Int) := by rw [List.length_map]
  have ci := ileft_ok x (by omega) (by omega)
  have cs := sleft_ok x (by omega) (by omega)
  refine AW.seq ?_
  apply AW.list
  apply Wk.ld (i := 3) 10 true ty25 rfl rfl (by conv => lhs; whnf) (lt_of_ble rfl)
  apply Wk.dat ci Try.func8 rfl rfl rfl rfl rfl (lt_of_ble rfl)
  apply Wk.asg (by conv => lhs; whnf) (lt_of_ble rfl)
  refine Wk.nil ?_
  refine AW.seq ?_
  apply AW.list
  apply Wk.mv (by conv => lhs; whnf) (lt_of_ble rfl)
  apply Wk.ld (i := 3) 10 true ty25 rfl rfl (by conv => lhs; whnf) (lt_of_ble rfl)
  apply Wk.dat cs Try.func9 rfl rfl rfl rfl rfl (lt_of_ble rfl)
  apply Wk.bin rfl rfl (r := .bool true) (fun w => by simp [go_sem]) (lt_of_ble rfl)
  apply Wk.mv (by conv => lhs; whnf) (lt_of_ble rfl)
  apply Wk.gon 16 rfl rfl
  apply Wk.mv (by conv => lhs; whnf) (lt_of_ble rfl)
  apply Wk.gon 16 rfl rfl
  apply Wk.fad 2 0 false fd25_2 rfl (lt_of_ble rfl)
  apply Wk.gon 16 rfl rfl
  apply Wk.ld (i := 3) 1 false ty23 rfl rfl (by conv => lhs; whnf) (lt_of_ble rfl)
  apply Wk.gon 16 rfl rfl
  apply Wk.len un23 rfl (lt_of_ble rfl)
  apply Wk.gon 16 rfl rfl
  apply Wk.fad 4 0 false fd25_4 rfl (lt_of_ble rfl)
  apply Wk.gon 16 rfl rfl
  apply Wk.ld (i := 3) 1 false ty23 rfl rfl (by conv => lhs; whnf) (lt_of_ble rfl)
  apply Wk.gon 16 rfl rfl
  apply Wk.len un23 rfl (lt_of_ble rfl)
  apply Wk.gon 16 rfl rfl
  apply Wk.addi rfl rfl (by rw [e1, e2]; omega) (lt_of_ble rfl)
  apply Wk.gon 16 rfl rfl
  apply Wk.bin rfl rfl (r := .bool true) (fun w => by rw [e1, e2]; simp [go_sem]) (lt_of_ble rfl)
  apply Wk.pckT rfl (by conv => lhs; whnf) (lt_of_ble rfl)
  apply Wk.mv (by conv => lhs; whnf) (lt_of_ble rfl)
  apply Wk.gon 27 rfl rfl
  apply Wk.dat liok_ok Try.func10 rfl rfl rfl rfl rfl (lt_of_ble rfl)
  apply Wk.pckT rfl (by conv => lhs; whnf) (lt_of_ble rfl)
  apply Wk.asg (by conv => lhs; whnf) (lt_of_ble rfl)
  refine Wk.nil (AW.ret ?_)
  exact RetQ.ret [] (.cons rfl .nil) ⟨rfl, rfl⟩ none_kept
namespace fnTxLeft
set_option maxRecDepth 100000 in
theorem walk (a0 : Option Addr) (len0 cap0 : Nat) (z0 : List Int) (w : World) (w0 : IsRow .u8 w a0 len0 cap0 z0) :
    Calls Try.prog 3 #[.slice a0 len0 cap0] w fun e w' => e = .returned (.bool true) ∧ Below w.heap.size w w' := by
  by_cases hs0 : (1048576 : Int) < (len0 : Int)
  · go_enter Try.func3, Try.ntmps3
    go_wp2
    go_ret
    exact ⟨rfl, Below.refl _ _⟩
  obtain ⟨cz, hR0, _⟩ := w0.rd (by omega)
  obtain ⟨zs, rfl⟩ := byt_fin hR0.1
  exact (lawTxLeft_ok zs).run hR0
end fnTxLeft
end Go.Proofs.Ytpiihfogdjihdaa
