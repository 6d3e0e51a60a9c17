/- What has come of a message, drawn; over what values read as. -/
import Derived.Test.YtpdndapegiglcaaAbsOpen
namespace Go.Proofs.Ytpdndapegiglcaa
open Go
def joinA (m : Int) (bs : List (Fin 256)) : A := .agg [.d (.v (.int .i64 m)), .d (fbytes bs)]
def joinPost (_ : List A) (r : A) : Prop := ∃ (m : Int) (bs : List (Fin 256)), r = joinA m bs ∧ -1 ≤ m ∧ m ≤ 100 ∧ bs.length ≤ 1000
set_option maxRecDepth 100000 in
theorem join_ok : DrawOk Try.prog 30 (fun rest => ∃ n : Int, rest = [.d (.v (.int .i64 n))] ∧ n ≤ 1000000 ∧ -1000000 ≤ n) joinPost 6100 := by
  refine DrawOk.zero ?_ ?_ ?_ ?_
  · rintro zs p rest ⟨n, rfl, hn, hn'⟩ hp
    refine Spec.intro (n := 47) (rv := [.cell 4 24]) Try.func30 rfl rfl rfl (by simp) fun C hN hX => ?_
    refine AW.seq ?_
    apply AW.list
    apply Wk.alc 4 [.int .i64 0, .slice none 0 0] ze24 rfl rfl (lt_of_ble rfl)
    refine Wk.nil ?_
    refine AW.seq ?_
    apply AW.list
    apply Wk.bld [.int .i64 0, .slice none 0 0] [(0, 1), (1, 1)] bl24 rfl (by conv => lhs; whnf) (lt_of_ble rfl)
    apply Wk.alc 5 [.int .i64 0, .slice none 0 0] ze24 rfl rfl (lt_of_ble rfl)
    apply Wk.sto (i := 5) 2 true ty24 rfl rfl rfl rfl (Nat.le_of_ble_eq_true rfl) (lt_of_ble rfl)
    refine Wk.nil ?_
    refine AW.nrmb (j := 5) rfl ?_
    let inv : List (Fin 256) × Nat × Int × List (Fin 256) → St := fun x => St.of 47 [(0, .ptr 0 0), (1, .d (.v (.int .i64 n))), (4, .ptr 4 0), (5, .ptr 5 0)] [(0, rdr x.1 x.2.1), (4, .var [.d (.v (.int .i64 0)), .d (.v (.slice none 0 0))]), (5, .var [.d (.v (.int .i64 x.2.2.1)), .d (fbytes x.2.2.2)])]
    refine AW.via inv (fun x => x.2.1 ≤ p + 3004 ∧ -1 ≤ x.2.2.1 ∧ x.2.2.1 ≤ 100 ∧ x.2.2.2.length ≤ 1000) ?_ ?_
    · refine AW.seq ?_
      apply AW.list
      apply Wk.mv (by conv => lhs; whnf) (lt_of_ble rfl)
      apply Wk.drw 0 pick_ok Try.func15 rfl rfl rfl rfl ⟨_, rfl, by omega⟩ (by omega) rfl (lt_of_ble rfl)
      rintro r1 zs1 p1 ⟨k1, rfl, hk1⟩ hp1
      apply Wk.bin rfl rfl (fun w => by simp [go_sem] <;> rfl) (lt_of_ble rfl)
      refine Wk.nil ?_
      refine AW.cond rfl (fun hc => ?_) (fun hc => ?_)
      · refine AW.seq ?_
        apply AW.list
        apply Wk.mv (by conv => lhs; whnf) (lt_of_ble rfl)
        apply Wk.drw 0 pick_ok Try.func15 rfl rfl rfl rfl ⟨_, rfl, by omega⟩ (by omega) rfl (lt_of_ble rfl)
        rintro r2 zs2 p2 ⟨k2, rfl, hk2⟩ hp2
        replace hk2 := hk2 _ rfl
        apply Wk.addi rfl rfl (by omega) (lt_of_ble rfl)
        apply Wk.fad 0 0 false fd24_0 rfl (lt_of_ble rfl)
        apply Wk.sto (i := 5) 1 false ty3 rfl rfl rfl rfl (Nat.le_of_ble_eq_true rfl) (lt_of_ble rfl)
        refine Wk.nil ?_
        refine AW.seq ?_
        apply AW.list
        apply Wk.mv (by conv => lhs; whnf) (lt_of_ble rfl)
        apply Wk.fad 0 0 false fd24_0 rfl (lt_of_ble rfl)
        apply Wk.ld (i := 5) 1 false ty3 rfl rfl (by conv => lhs; whnf) (lt_of_ble rfl)
        apply Wk.subi rfl rfl (by omega) (lt_of_ble rfl)
        apply Wk.drw 0 bytes_ok Try.func37 rfl rfl rfl rfl ⟨_, rfl, by omega⟩ (by omega) rfl (lt_of_ble rfl)
        rintro r3 zs3 p3 ⟨bs, rfl, hbs⟩ hp3
        replace hbs := hbs _ rfl
        apply Wk.asg (by conv => lhs; whnf) (lt_of_ble rfl)
        refine Wk.nil ?_
        let inv6 : List (Fin 256) → St := fun bs => St.of 47 [(0, .ptr 0 0), (1, .d (.v (.int .i64 n))), (4, .ptr 4 0), (5, .ptr 5 0), (6, .d (fbytes bs))] [(0, rdr zs3 p3), (4, .var [.d (.v (.int .i64 0)), .d (.v (.slice none 0 0))]), (5, .var [.d (.v (.int .i64 (2 + (k2 : Int)))), .d (fbytes [])])]
        refine AW.via inv6 (fun bs => bs.length ≤ 1000) ?_ ?_
        · refine AW.seq ?_
          apply AW.list
          apply Wk.mv (by conv => lhs; whnf) (lt_of_ble rfl)
          apply Wk.len un22 rfl (lt_of_ble rfl)
          apply Wk.bin rfl rfl (fun w => by simp [go_sem] <;> rfl) (lt_of_ble rfl)
          refine Wk.nil ?_
          refine AW.cond rfl (fun hc => ?_) (fun hc => ?_)
          · apply AW.list
            apply Wk.lst 23 1 false [.int .u8 0] un22 ty5 ze5 rfl rfl (by rfl) (by rfl) (by decide) (by decide) rfl rfl (all_len rfl) (lt_of_ble rfl)
            apply Wk.asg (by conv => lhs; whnf) (lt_of_ble rfl)
            refine Wk.nil (thenA_normal ?_)
            exact ⟨[1], by simp, fun a w hR => Rel.keep ⟨rfl, .cons rfl rfl (.cons rfl rfl (.cons rfl rfl (.cons rfl rfl (.cons rfl rfl .nil)))), .cons rfl rfl (.cons rfl rfl (.cons rfl rfl .nil)), hN.mono (by simp [keys])⟩ (Rel.thaw (t := 6) (i := 23) (cellsD [1]) rfl rfl (by rfl) (hX.one (by decide) rfl) hR)⟩
          · refine AW.skip (thenA_normal ?_)
            have hb : bs.length ≤ 1000 := by
              rcases hbs with h | h
              · omega
              · rw [h]; simp
            exact ⟨bs, hb, fun a w => Rel.keep ⟨rfl, .cons rfl rfl (.cons rfl rfl (.cons rfl rfl (.cons rfl rfl (.cons rfl rfl .nil)))), .cons rfl rfl (.cons rfl rfl (.cons rfl rfl .nil)), hN.mono (by simp [keys])⟩⟩
        · intro ys hys
          show AW Try.prog C _ _ (St.of 47 [(0, .ptr 0 0), (1, .d (.v (.int .i64 n))), (4, .ptr 4 0), (5, .ptr 5 0), (6, .d (fbytes ys))] [(0, rdr zs3 p3), (4, .var [.d (.v (.int .i64 0)), .d (.v (.slice none 0 0))]), (5, .var [.d (.v (.int .i64 (2 + (k2 : Int)))), .d (fbytes [])])])
          apply AW.list
          apply Wk.mv (by conv => lhs; whnf) (lt_of_ble rfl)
          apply Wk.fad 1 0 false fd24_1 rfl (lt_of_ble rfl)
          apply Wk.sto (i := 5) 1 false ty22 rfl rfl rfl rfl (Nat.le_of_ble_eq_true rfl) (lt_of_ble rfl)
          refine Wk.nil (thenA_normal ?_)
          exact ⟨(zs3, p3, 2 + (k2 : Int), ys), ⟨by simp only; omega, by simp only; omega, by simp only; omega, hys⟩, fun a w => Rel.keep ⟨rfl, .cons rfl rfl (.cons rfl rfl (.cons rfl rfl (.cons rfl rfl .nil))), .cons rfl rfl (.cons rfl rfl (.cons rfl rfl .nil)), hN.mono (by simp [keys])⟩⟩
      · refine AW.skip (thenA_normal ?_)
        exact ⟨(zs1, p1, 0, []), ⟨by simp only; omega, by simp, by simp, by simp⟩, fun a w => Rel.keep ⟨rfl, .cons rfl rfl (.cons rfl rfl (.cons rfl rfl (.cons rfl rfl .nil))), .cons rfl rfl (.cons rfl rfl (.cons rfl rfl .nil)), hN.mono (by simp [keys])⟩⟩
    · rintro ⟨zs4, p4, m, bs⟩ ⟨hp4, hm1, hm2, hbs⟩
      simp only at hp4 hm1 hm2 hbs
      show AW Try.prog C _ _ (St.of 47 [(0, .ptr 0 0), (1, .d (.v (.int .i64 n))), (4, .ptr 4 0), (5, .ptr 5 0)] [(0, rdr zs4 p4), (4, .var [.d (.v (.int .i64 0)), .d (.v (.slice none 0 0))]), (5, .var [.d (.v (.int .i64 m)), .d (fbytes bs)])])
      refine AW.via inv (fun x => x.2.1 ≤ p + 6100 ∧ -1 ≤ x.2.2.1 ∧ x.2.2.1 ≤ 100 ∧ x.2.2.2.length ≤ 1000) ?_ ?_
      · refine AW.seq ?_
        apply AW.list
        apply Wk.mv (by conv => lhs; whnf) (lt_of_ble rfl)
        apply Wk.mv (by conv => lhs; whnf) (lt_of_ble rfl)
        apply Wk.drw 0 odd_ok Try.func31 rfl rfl rfl rfl ⟨_, rfl, by omega⟩ (by omega) rfl (lt_of_ble rfl)
        rintro r5 zs5 p5 ⟨b5, rfl, _⟩ hp5
        refine Wk.nil ?_
        refine AW.cond rfl (fun hc => ?_) (fun hc => ?_)
        · refine AW.seq ?_
          apply AW.list
          apply Wk.mv (by conv => lhs; whnf) (lt_of_ble rfl)
          apply Wk.drw 0 pick_ok Try.func15 rfl rfl rfl rfl ⟨_, rfl, by omega⟩ (by omega) rfl (lt_of_ble rfl)
          rintro r6 zs6 p6 ⟨k6, rfl, hk6⟩ hp6
          refine Wk.nil (AW.block ?_)
          refine AW.seq ?_
          apply AW.list
          apply Wk.bin rfl rfl (fun w => by simp [go_sem] <;> rfl) (lt_of_ble rfl)
          apply Wk.asg (by conv => lhs; whnf) (lt_of_ble rfl)
          refine Wk.nil ?_
          refine AW.cond rfl (fun hc => ?_) (fun hc => ?_)
          · apply AW.list
            apply Wk.lst 36 1 false [.int .i64 0] un64 ty3 ze3 rfl rfl (by rfl) (by rfl) (by decide) (by decide) rfl rfl (all_len rfl) (lt_of_ble rfl)
            apply Wk.mv (by conv => lhs; whnf) (lt_of_ble rfl)
            apply Wk.drw 0 pick_ok Try.func15 rfl rfl rfl rfl ⟨_, rfl, by omega⟩ (by omega) rfl (lt_of_ble rfl)
            rintro r7 zs7 p7 ⟨k7, rfl, hk7⟩ hp7
            have hk7' : k7 < 3 := by have := hk7 3 rfl; omega
            obtain ⟨v, hv, hv1, hv2⟩ : ∃ v : Int, partA (List.flatten [[A.d (.v (.int .i64 (-1)))], [.d (.v (.int .i64 1))], [.d (.v (.int .i64 25))]]) (k7 * 1) 1 false = some (.d (.v (.int .i64 v))) ∧ -1 ≤ v ∧ v ≤ 100 := by
              rcases (show k7 = 0 ∨ k7 = 1 ∨ k7 = 2 by omega) with rfl | rfl | rfl <;> exact ⟨_, rfl, by decide, by decide⟩
            apply Wk.iado 36 1 false un64 ty3 rfl rfl rfl hk7' (lt_of_ble rfl)
            apply Wk.ldo (i := 36) 1 false ty3 rfl rfl hv (lt_of_ble rfl)
            apply Wk.fad 0 0 false fd24_0 rfl (lt_of_ble rfl)
            apply Wk.sto (i := 5) 1 false ty3 rfl rfl rfl rfl (Nat.le_of_ble_eq_true rfl) (lt_of_ble rfl)
            refine Wk.nil (inBlockA_normal (thenA_normal ?_))
            exact ⟨(zs7, p7, v, bs), ⟨by simp only; omega, hv1, hv2, hbs⟩, fun a w => Rel.keep ⟨rfl, .cons rfl rfl (.cons rfl rfl (.cons rfl rfl (.cons rfl rfl .nil))), .cons rfl rfl (.cons rfl rfl (.cons rfl rfl .nil)), hN.mono (by simp [keys])⟩⟩
          · refine AW.seq ?_
            apply AW.list
            apply Wk.bin rfl rfl (fun w => by simp [go_sem] <;> rfl) (lt_of_ble rfl)
            apply Wk.asg (by conv => lhs; whnf) (lt_of_ble rfl)
            refine Wk.nil ?_
            refine AW.cond rfl (fun hc => ?_) (fun hc => ?_)
            · apply AW.list
              apply Wk.lst 44 1 false [.int .u8 0] un22 ty5 ze5 rfl rfl (by rfl) (by rfl) (by decide) (by decide) rfl rfl (all_len rfl) (lt_of_ble rfl)
              apply Wk.fad 1 0 false fd24_1 rfl (lt_of_ble rfl)
              apply Wk.sto (i := 5) 1 false ty22 rfl rfl rfl rfl (Nat.le_of_ble_eq_true rfl) (lt_of_ble rfl)
              refine Wk.nil (inBlockA_normal (thenA_normal ?_))
              refine ⟨(zs6, p6, m, []), ⟨by simp only; omega, hm1, hm2, by simp⟩, fun a w hR => ?_⟩
              have h := Rel.thawc (j := 5) (c := 1) (i := 44) [] rfl (by rfl) (by rfl) (by rfl) (hX.one (by decide) rfl) hR
              refine Rel.keep ?_ h
              exact ⟨rfl, .cons rfl rfl (.cons rfl rfl (.cons rfl rfl (.cons rfl rfl .nil))), .cons rfl rfl (.cons rfl rfl (.cons rfl rfl .nil)), hN.mono (by simp [keys])⟩
            · apply AW.list
              apply Wk.mv (by conv => lhs; whnf) (lt_of_ble rfl)
              apply Wk.drw 0 bytes_ok Try.func37 rfl rfl rfl rfl ⟨_, rfl, by omega⟩ (by omega) rfl (lt_of_ble rfl)
              rintro r7 zs7 p7 ⟨ys, rfl, hys⟩ hp7
              replace hys := hys _ rfl
              apply Wk.fad 1 0 false fd24_1 rfl (lt_of_ble rfl)
              apply Wk.sto (i := 5) 1 false ty22 rfl rfl rfl rfl (Nat.le_of_ble_eq_true rfl) (lt_of_ble rfl)
              refine Wk.nil (inBlockA_normal (thenA_normal ?_))
              have hy : ys.length ≤ 1000 := by
                rcases hys with h | h
                · omega
                · rw [h]; simp
              exact ⟨(zs7, p7, m, ys), ⟨by simp only; omega, hm1, hm2, hy⟩, fun a w => Rel.keep ⟨rfl, .cons rfl rfl (.cons rfl rfl (.cons rfl rfl (.cons rfl rfl .nil))), .cons rfl rfl (.cons rfl rfl (.cons rfl rfl .nil)), hN.mono (by simp [keys])⟩⟩
        · refine AW.skip (thenA_normal ?_)
          exact ⟨(zs5, p5, m, bs), ⟨by simp only; omega, hm1, hm2, hbs⟩, fun a w => Rel.keep ⟨rfl, .cons rfl rfl (.cons rfl rfl (.cons rfl rfl (.cons rfl rfl .nil))), .cons rfl rfl (.cons rfl rfl (.cons rfl rfl .nil)), hN.mono (by simp [keys])⟩⟩
      · rintro ⟨zs8, p8, m8, bs8⟩ ⟨hp8, h1, h2, h3⟩
        simp only at hp8 h1 h2 h3
        show AW Try.prog C _ _ (St.of 47 [(0, .ptr 0 0), (1, .d (.v (.int .i64 n))), (4, .ptr 4 0), (5, .ptr 5 0)] [(0, rdr zs8 p8), (4, .var [.d (.v (.int .i64 0)), .d (.v (.slice none 0 0))]), (5, .var [.d (.v (.int .i64 m8)), .d (fbytes bs8)])])
        refine AW.seq ?_
        apply AW.list
        apply Wk.ld (i := 5) 2 true ty24 rfl rfl (by conv => lhs; whnf) (lt_of_ble rfl)
        apply Wk.sto (i := 4) 2 true ty24 rfl rfl rfl rfl (Nat.le_of_ble_eq_true rfl) (lt_of_ble rfl)
        refine Wk.nil (AW.ret ?_)
        exact RetQ.ret [(0, rdr zs8 p8)] (.cons ⟨4, 0, _, _, _, rfl, rfl, ty24, rfl⟩ .nil) ⟨⟨m8, bs8, rfl, h1, h2, h3⟩, _, _, rfl, hp8⟩ (kept1 rfl)
  · rintro rest ⟨n, rfl, _⟩; rfl
  · rintro rest _; exact ⟨_, 0, [], rfl, by decide, by decide, by simp⟩
  · rintro rest r ⟨m, bs, rfl, _⟩; rfl
end Go.Proofs.Ytpdndapegiglcaa
