/- Who hears, drawn; over what values read as. -/
import Derived.Test.YtpdndapegiglcaaAbsJoin
namespace Go.Proofs.Ytpdndapegiglcaa
open Go
theorem nxt_ok (n : Nat) (hn : n ≤ 1000000) : DataOk Try.prog 32 [.d (.v (.int .i64 (n : Int)))] (.d (.v (.int .i64 (((n + 1) % 8 : Nat) : Int)))) := by
  refine Spec.intro (n := 6) (rv := [.tmp 2]) Try.func32 rfl rfl rfl (by simp) fun C hN hX => ?_
  refine AW.seq ?_
  apply AW.list
  apply Wk.asg (by conv => lhs; whnf) (lt_of_ble rfl)
  refine Wk.nil ?_
  refine AW.seq ?_
  apply AW.list
  apply Wk.mv (by conv => lhs; whnf) (lt_of_ble rfl)
  apply Wk.addn (b := 1) rfl rfl (by omega) (lt_of_ble rfl)
  apply Wk.remn (b := 8) rfl rfl (by decide) (lt_of_ble rfl)
  apply Wk.asg (by conv => lhs; whnf) (lt_of_ble rfl)
  refine Wk.nil (AW.ret ?_)
  exact RetQ.ret [] (.cons rfl .nil) ⟨rfl, rfl⟩ none_kept
def rxA (e c m : Int) (bs : List (Fin 256)) (a u d : Bool) : A := .agg [.d (.v (.int .i64 e)), .d (.v (.int .i64 c)), .d (.v (.int .i64 m)), .d (fbytes bs), .d (.v (.bool a)), .d (.v (.bool u)), .d (.v (.bool d))]
def rxPost (_ : List A) (r : A) : Prop := ∃ (e c m : Int) (bs : List (Fin 256)) (a u d : Bool), r = rxA e c m bs a u d ∧ -1 ≤ e ∧ e ≤ 8 ∧ -1 ≤ c ∧ c ≤ 10000 ∧ -1 ≤ m ∧ m ≤ 100 ∧ bs.length ≤ 1000
def rxZ : List A := [.d (.v (.int .i64 0)), .d (.v (.int .i64 0)), .d (.v (.int .i64 0)), .d (.v (.slice none 0 0)), .d (.v (.bool false)), .d (.v (.bool false)), .d (.v (.bool false))]
set_option maxRecDepth 100000 in
theorem rx_ok : DrawOk Try.prog 14 (fun rest => ∃ n : Int, rest = [.d (.v (.int .i64 n))] ∧ n ≤ 1000000 ∧ -1000000 ≤ n) rxPost 13000 := by
  refine DrawOk.zero ?_ ?_ ?_ ?_
  · rintro zs p rest ⟨n, rfl, hn, hn'⟩ hp
    refine Spec.intro (n := 55) (rv := [.cell 4 26]) Try.func14 rfl rfl rfl (by simp) fun C hN hX => ?_
    refine AW.seq ?_
    apply AW.list
    apply Wk.alc 4 [.int .i64 0, .int .i64 0, .int .i64 0, .slice none 0 0, .bool false, .bool false, .bool false] ze26 rfl rfl (lt_of_ble rfl)
    refine Wk.nil ?_
    refine AW.seq ?_
    apply AW.list
    apply Wk.mv (by conv => lhs; whnf) (lt_of_ble rfl)
    apply Wk.drw 0 pick_ok Try.func15 rfl rfl rfl rfl ⟨_, rfl, by omega⟩ (by omega) rfl (lt_of_ble rfl)
    rintro r1 zs1 p1 ⟨k1, rfl, hk1⟩ hp1
    replace hk1 := hk1 _ rfl
    apply Wk.asg (by conv => lhs; whnf) (lt_of_ble rfl)
    refine Wk.nil ?_
    refine AW.seq ?_
    apply AW.list
    apply Wk.mv (by conv => lhs; whnf) (lt_of_ble rfl)
    apply Wk.remn (b := 8) rfl rfl (by decide) (lt_of_ble rfl)
    apply Wk.mv (by conv => lhs; whnf) (lt_of_ble rfl)
    apply Wk.mv (by conv => lhs; whnf) (lt_of_ble rfl)
    apply Wk.drw 0 join_ok Try.func30 rfl rfl rfl rfl ⟨_, rfl, by omega⟩ (by omega) rfl (lt_of_ble rfl)
    rintro r2 zs2 p2 ⟨m, bs, rfl, hm1, hm2, hbs⟩ hp2
    apply Wk.mv (by conv => lhs; whnf) (lt_of_ble rfl)
    apply Wk.drw 0 pick_ok Try.func15 rfl rfl rfl rfl ⟨_, rfl, by omega⟩ (by omega) rfl (lt_of_ble rfl)
    rintro r3 zs3 p3 ⟨k3, rfl, _⟩ hp3
    apply Wk.bin rfl rfl (fun w => by simp [go_sem] <;> rfl) (lt_of_ble rfl)
    apply Wk.mv (by conv => lhs; whnf) (lt_of_ble rfl)
    apply Wk.drw 0 pick_ok Try.func15 rfl rfl rfl rfl ⟨_, rfl, by omega⟩ (by omega) rfl (lt_of_ble rfl)
    rintro r4 zs4 p4 ⟨k4, rfl, _⟩ hp4
    apply Wk.bin rfl rfl (fun w => by simp [go_sem] <;> rfl) (lt_of_ble rfl)
    apply Wk.mv (by conv => lhs; whnf) (lt_of_ble rfl)
    apply Wk.drw 0 pick_ok Try.func15 rfl rfl rfl rfl ⟨_, rfl, by omega⟩ (by omega) rfl (lt_of_ble rfl)
    rintro r5 zs5 p5 ⟨k5, rfl, _⟩ hp5
    apply Wk.bin rfl rfl (fun w => by simp [go_sem] <;> rfl) (lt_of_ble rfl)
    apply Wk.bld [.int .i64 0, .int .i64 0, .int .i64 0, .slice none 0 0, .bool false, .bool false, .bool false] [(0, 1), (1, 1), (2, 2), (4, 1), (5, 1), (6, 1)] bl26 rfl (by conv => lhs; whnf) (lt_of_ble rfl)
    apply Wk.alc 6 [.int .i64 0, .int .i64 0, .int .i64 0, .slice none 0 0, .bool false, .bool false, .bool false] ze26 rfl rfl (lt_of_ble rfl)
    apply Wk.sto (i := 6) 7 true ty26 rfl rfl rfl rfl (Nat.le_of_ble_eq_true rfl) (lt_of_ble rfl)
    refine Wk.nil ?_
    obtain ⟨a, ha⟩ : ∃ a : Bool, ((k3 : Int) == 0) = a := ⟨_, rfl⟩
    obtain ⟨u, hu⟩ : ∃ a : Bool, ((k4 : Int) == 0) = a := ⟨_, rfl⟩
    obtain ⟨d, hd⟩ : ∃ a : Bool, ((k5 : Int) == 0) = a := ⟨_, rfl⟩
    let inv : List (Fin 256) × Nat × Int × Int × Int × List (Fin 256) → St := fun x => St.of 55 [(0, .ptr 0 0), (1, .d (.v (.int .i64 n))), (4, .ptr 4 0), (6, .ptr 6 0)] [(0, rdr x.1 x.2.1), (4, .var rxZ), (6, .var [.d (.v (.int .i64 x.2.2.1)), .d (.v (.int .i64 x.2.2.2.1)), .d (.v (.int .i64 x.2.2.2.2.1)), .d (fbytes x.2.2.2.2.2), .d (.v (.bool a)), .d (.v (.bool u)), .d (.v (.bool d))])]
    have hk : k1 < 40 := by omega
    refine AW.keep (n := 55) (ts := [(0, .ptr 0 0), (1, .d (.v (.int .i64 n))), (4, .ptr 4 0), (6, .ptr 6 0)]) (bs := [(0, rdr zs5 p5), (4, .var rxZ), (6, .var [.d (.v (.int .i64 ((k1 % 8 : Nat) : Int))), .d (.v (.int .i64 (k1 : Int))), .d (.v (.int .i64 m)), .d (fbytes bs), .d (.v (.bool a)), .d (.v (.bool u)), .d (.v (.bool d))])]) ⟨rfl, .cons rfl rfl (.cons rfl rfl (.cons rfl rfl (.cons rfl rfl .nil))), .cons rfl rfl (.cons rfl rfl (.cons (by rw [← ha, ← hu, ← hd]; rfl) rfl .nil)), hN.mono (by simp [keys])⟩ ?_
    refine AW.via inv (fun x => x.2.1 ≤ p + 13000 ∧ (-1 ≤ x.2.2.1 ∧ x.2.2.1 ≤ 8) ∧ (-1 ≤ x.2.2.2.1 ∧ x.2.2.2.1 ≤ 10000) ∧ (-1 ≤ x.2.2.2.2.1 ∧ x.2.2.2.2.1 ≤ 100) ∧ x.2.2.2.2.2.length ≤ 1000) ?_ ?_
    · refine AW.seq ?_
      apply AW.list
      apply Wk.mv (by conv => lhs; whnf) (lt_of_ble rfl)
      apply Wk.mv (by conv => lhs; whnf) (lt_of_ble rfl)
      apply Wk.drw 0 odd_ok Try.func31 rfl rfl rfl rfl ⟨_, rfl, by omega⟩ (by omega) rfl (lt_of_ble rfl)
      rintro r6 zs6 p6 ⟨b6, rfl, _⟩ hp6
      refine Wk.nil ?_
      refine AW.cond rfl (fun hc => ?_) (fun hc => ?_)
      · refine AW.seq ?_
        apply AW.list
        apply Wk.mv (by conv => lhs; whnf) (lt_of_ble rfl)
        apply Wk.drw 0 pick_ok Try.func15 rfl rfl rfl rfl ⟨_, rfl, by omega⟩ (by omega) rfl (lt_of_ble rfl)
        rintro r7 zs7 p7 ⟨k7, rfl, _⟩ hp7
        refine Wk.nil (AW.block ?_)
        refine AW.seq ?_
        apply AW.list
        apply Wk.bin rfl rfl (fun w => by simp [go_sem] <;> rfl) (lt_of_ble rfl)
        apply Wk.asg (by conv => lhs; whnf) (lt_of_ble rfl)
        refine Wk.nil ?_
        refine AW.cond rfl (fun hc => ?_) (fun hc => ?_)
        · have hk8 : k1 % 8 < 8 := Nat.mod_lt _ (by decide)
          apply AW.list
          apply Wk.fad 0 0 false fd26_0 rfl (lt_of_ble rfl)
          apply Wk.ld (i := 6) 1 false ty3 rfl rfl (by conv => lhs; whnf) (lt_of_ble rfl)
          apply Wk.dat (nxt_ok (k1 % 8) (by omega)) Try.func32 rfl rfl rfl rfl rfl (lt_of_ble rfl)
          apply Wk.lst 37 1 false [.int .i64 0] un64 ty3 ze3 rfl rfl (by rfl) (by rfl) (by decide) (by decide) rfl rfl (all_len rfl) (lt_of_ble rfl)
          apply Wk.mv (by conv => lhs; whnf) (lt_of_ble rfl)
          apply Wk.drw 0 pick_ok Try.func15 rfl rfl rfl rfl ⟨_, rfl, by omega⟩ (by omega) rfl (lt_of_ble rfl)
          rintro r8 zs8 p8 ⟨k, rfl, hk⟩ hp8
          have hk' : k < 3 := by have := hk 3 rfl; omega
          obtain ⟨v, hv, hv1, hv2⟩ : ∃ v : Int, partA (List.flatten [[A.d (.v (.int .i64 (-1)))], [.d (.v (.int .i64 8))], [.d (.v (.int .i64 (((k1 % 8 + 1) % 8 : Nat) : Int)))]]) (k * 1) 1 false = some (.d (.v (.int .i64 v))) ∧ -1 ≤ v ∧ v ≤ 8 := by
            have h9 : (k1 % 8 + 1) % 8 < 8 := Nat.mod_lt _ (by decide)
            rcases (show k = 0 ∨ k = 1 ∨ k = 2 by omega) with rfl | rfl | rfl
            · exact ⟨_, rfl, by decide, by decide⟩
            · exact ⟨_, rfl, by decide, by decide⟩
            · exact ⟨_, rfl, by omega, by omega⟩
          apply Wk.iado 37 1 false un64 ty3 rfl rfl rfl hk' (lt_of_ble rfl)
          apply Wk.ldo (i := 37) 1 false ty3 rfl rfl hv (lt_of_ble rfl)
          apply Wk.fad 0 0 false fd26_0 rfl (lt_of_ble rfl)
          apply Wk.sto (i := 6) 1 false ty3 rfl rfl rfl rfl (Nat.le_of_ble_eq_true rfl) (lt_of_ble rfl)
          refine Wk.nil (inBlockA_normal (thenA_normal ?_))
          exact ⟨(zs8, p8, v, (k1 : Int), m, bs), ⟨by simp only; omega, ⟨hv1, hv2⟩, by simp only; omega, ⟨hm1, hm2⟩, hbs⟩, fun a w => Rel.keep ⟨rfl, .cons rfl rfl (.cons rfl rfl (.cons rfl rfl (.cons rfl rfl .nil))), .cons rfl rfl (.cons rfl rfl (.cons rfl rfl .nil)), hN.mono (by simp [keys])⟩⟩
        · refine AW.seq ?_
          apply AW.list
          apply Wk.bin rfl rfl (fun w => by simp [go_sem] <;> rfl) (lt_of_ble rfl)
          apply Wk.asg (by conv => lhs; whnf) (lt_of_ble rfl)
          refine Wk.nil ?_
          refine AW.cond rfl (fun hc => ?_) (fun hc => ?_)
          · apply AW.draw (hm := hmix) (cs := _)
            · apply Wk.fad 1 0 false fd26_1 rfl (lt_of_ble rfl)
              apply Wk.ld (i := 6) 1 false ty3 rfl rfl (by conv => lhs; whnf) (lt_of_ble rfl)
              apply Wk.addi rfl rfl (by omega) (lt_of_ble rfl)
              apply Wk.lst 48 1 false [.int .i64 0] un64 ty3 ze3 rfl rfl (by rfl) (by rfl) (by decide) (by decide) rfl rfl (all_len rfl) (lt_of_ble rfl)
              apply Wk.mv (by conv => lhs; whnf) (lt_of_ble rfl)
              apply Wk.drw 0 pick_ok Try.func15 rfl rfl rfl rfl ⟨_, rfl, by omega⟩ (by omega) rfl (lt_of_ble rfl)
              rintro r8 zs8 p8 ⟨k, rfl, hk⟩ hp8
              have hk' : k < 3 := by have := hk 3 rfl; omega
              obtain ⟨v, hv, hv1, hv2⟩ : ∃ v : Int, partA (List.flatten [[A.d (.v (.int .i64 (-1)))], [.d (.v (.int .i64 10000))], [.d (.v (.int .i64 ((k1 : Int) + 8)))]]) (k * 1) 1 false = some (.d (.v (.int .i64 v))) ∧ -1 ≤ v ∧ v ≤ 10000 := by
                rcases (show k = 0 ∨ k = 1 ∨ k = 2 by omega) with rfl | rfl | rfl
                · exact ⟨_, rfl, by decide, by decide⟩
                · exact ⟨_, rfl, by decide, by decide⟩
                · exact ⟨_, rfl, by omega, by omega⟩
              apply Wk.iado 48 1 false un64 ty3 rfl rfl rfl hk' (lt_of_ble rfl)
              apply Wk.ldo (i := 48) 1 false ty3 rfl rfl hv (lt_of_ble rfl)
              apply Wk.fad 1 0 false fd26_1 rfl (lt_of_ble rfl)
              apply Wk.sto (i := 6) 1 false ty3 rfl rfl rfl rfl (Nat.le_of_ble_eq_true rfl) (lt_of_ble rfl)
              refine Wk.nil (inBlockA_normal (thenA_normal ?_))
              exact ⟨(zs8, p8, ((k1 % 8 : Nat) : Int), v, m, bs), ⟨by simp only; omega, by simp only; omega, ⟨hv1, hv2⟩, ⟨hm1, hm2⟩, hbs⟩, fun a w => Rel.keep ⟨rfl, .cons rfl rfl (.cons rfl rfl (.cons rfl rfl (.cons rfl rfl .nil))), .cons rfl rfl (.cons rfl rfl (.cons rfl rfl .nil)), hN.mono (by simp [keys])⟩⟩
            · rfl
            · rfl
          · apply AW.list
            apply Wk.mv (by conv => lhs; whnf) (lt_of_ble rfl)
            apply Wk.drw 0 join_ok Try.func30 rfl rfl rfl rfl ⟨_, rfl, by omega⟩ (by omega) rfl (lt_of_ble rfl)
            rintro r8 zs8 p8 ⟨m8, bs8, rfl, hq1, hq2, hq3⟩ hp8
            apply Wk.fad 2 1 true fd26_2 rfl (lt_of_ble rfl)
            apply Wk.sto (i := 6) 2 true ty24 rfl rfl rfl rfl (Nat.le_of_ble_eq_true rfl) (lt_of_ble rfl)
            refine Wk.nil (inBlockA_normal (thenA_normal ?_))
            exact ⟨(zs8, p8, ((k1 % 8 : Nat) : Int), (k1 : Int), m8, bs8), ⟨by simp only; omega, by simp only; omega, by simp only; omega, ⟨hq1, hq2⟩, hq3⟩, fun a w => Rel.keep ⟨rfl, .cons rfl rfl (.cons rfl rfl (.cons rfl rfl (.cons rfl rfl .nil))), .cons rfl rfl (.cons rfl rfl (.cons rfl rfl .nil)), hN.mono (by simp [keys])⟩⟩
      · refine AW.skip (thenA_normal ?_)
        exact ⟨(zs6, p6, ((k1 % 8 : Nat) : Int), (k1 : Int), m, bs), ⟨by simp only; omega, by simp only; omega, by simp only; omega, ⟨hm1, hm2⟩, hbs⟩, fun a w => Rel.keep ⟨rfl, .cons rfl rfl (.cons rfl rfl (.cons rfl rfl (.cons rfl rfl .nil))), .cons rfl rfl (.cons rfl rfl (.cons rfl rfl .nil)), hN.mono (by simp [keys])⟩⟩
    · rintro ⟨zs8, p8, e, c, m8, bs8⟩ ⟨hp8, h1, h2, h3, h4⟩
      simp only at hp8 h1 h2 h3 h4
      show AW Try.prog C _ _ (St.of 55 [(0, .ptr 0 0), (1, .d (.v (.int .i64 n))), (4, .ptr 4 0), (6, .ptr 6 0)] [(0, rdr zs8 p8), (4, .var rxZ), (6, .var [.d (.v (.int .i64 e)), .d (.v (.int .i64 c)), .d (.v (.int .i64 m8)), .d (fbytes bs8), .d (.v (.bool a)), .d (.v (.bool u)), .d (.v (.bool d))])])
      refine AW.seq ?_
      apply AW.list
      apply Wk.ld (i := 6) 7 true ty26 rfl rfl (by conv => lhs; whnf) (lt_of_ble rfl)
      apply Wk.sto (i := 4) 7 true ty26 rfl rfl rfl rfl (Nat.le_of_ble_eq_true rfl) (lt_of_ble rfl)
      refine Wk.nil (AW.ret ?_)
      exact RetQ.ret [(0, rdr zs8 p8)] (.cons ⟨4, 0, _, _, _, rfl, rfl, ty26, rfl⟩ .nil) ⟨⟨e, c, m8, bs8, a, u, d, rfl, h1.1, h1.2, h2.1, h2.2, h3.1, h3.2, h4⟩, _, _, rfl, hp8⟩ (kept1 rfl)
  · rintro rest ⟨n, rfl, _⟩; rfl
  · rintro rest _; exact ⟨_, 0, 0, 0, [], false, false, false, rfl, by decide, by decide, by decide, by decide, by decide, by decide, by simp⟩
  · rintro rest r ⟨e, c, m, bs, a, u, d, rfl, _⟩; rfl
end Go.Proofs.Ytpdndapegiglcaa
