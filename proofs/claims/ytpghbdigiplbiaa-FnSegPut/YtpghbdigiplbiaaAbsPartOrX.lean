/- A piece, drawn, perhaps with something wrong; what has come of a message, and a piece; over what values read as. -/
import Derived.Test.YtpghbdigiplbiaaAbsPartX
import Derived.Test.YtpghbdigiplbiaaMa
import Derived.Test.YtpghbdigiplbiaaMb
import Derived.Test.YtpghbdigiplbiaaMc
import Derived.Test.YtpghbdigiplbiaaMd
import Derived.Test.YtpghbdigiplbiaaAbsMk8X
import Derived.Test.YtpghbdigiplbiaaAbsBorX
namespace Go.Proofs.Ytpghbdigiplbiaa
open Go Go.RowKit
def partPost (_ : List A) (r : A) : Prop := ∃ (sg ln : Int) (bs : List (Fin 256)), r = partA3 sg ln bs ∧ (-1 ≤ sg ∧ sg ≤ 4) ∧ (-1 ≤ ln ∧ ln ≤ 40) ∧ bs.length ≤ 16
set_option maxHeartbeats 4000000 in
set_option maxRecDepth 100000 in
theorem partOr_ok : DrawOk Try.prog 35 (fun rest => ∃ n : Int, rest = [.d (.v (.int .i64 n))] ∧ n ≤ 1000000 ∧ -1000000 ≤ n) partPost 3010 := by
 refine DrawOk.zero ?_ ?_ ?_ ?_
 · rintro zs p rest ⟨n, rfl, hn, hn'⟩ hp
   refine Spec.intro (n := 35) (rv := [.cell 4 34]) Try.func35 rfl rfl rfl (by simp) fun C hN hX => ?_
   let inv : List (Fin 256) × Nat × Int × Int × Nat × List (Fin 256) → St := fun x => St.of 35 [(0, .ptr 0 0), (4, .ptr 4 0), (5, .ptr 5 0)] [(0, rdr x.1 x.2.1), (4, .var [.d (.v (.int .i64 0)), .d (.v (.int .i64 0)), .d (.v (.slice none 0 0))]), (5, .var (partOA x.2.2.1 x.2.2.2.1 x.2.2.2.2.1)), (7, ownB x.2.2.2.2.1 x.2.2.2.2.2)]
   have fin : ∀ (zs : List (Fin 256)) (p : Nat) (sg ln : Int) (q : Nat) (bs : List (Fin 256)) (σ : St), σ.n = 35 → σ.t 0 = .ptr 0 0 → σ.t 4 = .ptr 4 0 → σ.t 5 = .ptr 5 0 → σ.b 0 = rdr zs p → σ.b 4 = .var [.d (.v (.int .i64 0)), .d (.v (.int .i64 0)), .d (.v (.slice none 0 0))] → σ.b 5 = .var (partOA sg ln q) → σ.b 7 = ownB q bs →
       ∀ a w, Rel C σ a w → Rel C (inv (zs, p, sg, ln, q, bs)) a w := fun zs p sg ln q bs σ h0 h1 h2 h3 h4 h5 h6 h7 a w => Rel.keep ⟨h0.symm, .cons h1 rfl (.cons h2 rfl (.cons h3 rfl .nil)), .cons h4 rfl (.cons h5 rfl (.cons h6 rfl (.cons h7 ownB_in .nil))), hN.mono (by simp [keys])⟩
   refine AW.seq ?_
   apply AW.list
   apply Wk.alc 4 [.int .i64 0, .int .i64 0, .slice none 0 0] ze34 rfl rfl (lt_of_ble rfl)
   refine Wk.nil ?_
   refine AW.seq ?_
   apply AW.list
   apply Wk.mv (by conv => lhs; whnf) (lt_of_ble rfl)
   apply Wk.drx [7] partO_ok Try.func42 rfl rfl rfl rfl rfl (by omega) rfl (by simp; rfl) (lt_of_ble rfl)
   rintro r2 zs2 p2 ex ⟨sg, ln, q, bs, rfl, rfl, hs1, hs2, hl1, hl2, hbl⟩ hp2
   apply Wk.alc 5 [.int .i64 0, .int .i64 0, .slice none 0 0] ze34 rfl rfl (lt_of_ble rfl)
   apply Wk.sto (i := 5) 3 true ty34 rfl rfl rfl rfl (Nat.le_of_ble_eq_true rfl) (lt_of_ble rfl)
   refine Wk.nil ?_
   refine AW.via inv (fun x => x.2.1 ≤ p + 3010 ∧ (-1 ≤ x.2.2.1 ∧ x.2.2.1 ≤ 4) ∧ (-1 ≤ x.2.2.2.1 ∧ x.2.2.2.1 ≤ 40) ∧ x.2.2.2.2.2.length ≤ 16) ?_ ?_
   · refine AW.seq ?_
     apply AW.list
     apply Wk.mv (by conv => lhs; whnf) (lt_of_ble rfl)
     apply Wk.mv (by conv => lhs; whnf) (lt_of_ble rfl)
     apply Wk.drw 0 odd_ok Try.func41 rfl rfl rfl rfl ⟨_, rfl, by omega⟩ (by omega) rfl (lt_of_ble rfl)
     rintro r3 zs3 p3 ⟨b3, rfl, _⟩ hp3
     refine Wk.nil ?_
     refine AW.cond rfl (fun hc => ?_) (fun hc => AW.skip (thenA_normal ?_))
     · refine AW.seq ?_
       apply AW.list
       apply Wk.mv (by conv => lhs; whnf) (lt_of_ble rfl)
       apply Wk.drw 0 pick_ok Try.func26 rfl rfl rfl rfl ⟨_, rfl, by omega⟩ (by omega) rfl (lt_of_ble rfl)
       rintro r4 zs4 p4 ⟨k4, rfl, hk4⟩ hp4
       refine Wk.nil (AW.block ?_)
       refine AW.seq ?_
       apply AW.list
       apply Wk.bin rfl rfl (fun w => by simp [go_sem] <;> rfl) (lt_of_ble rfl)
       apply Wk.asg (by conv => lhs; whnf) (lt_of_ble rfl)
       refine Wk.nil ?_
       refine AW.cond rfl (fun hc => ?_) (fun hc => ?_)
       · apply AW.list
         apply Wk.lst 20 1 false [.int .i64 0] un49 ty3 ze3 rfl rfl (by rfl) (by rfl) (by decide) (by decide) rfl rfl (all_len rfl) (lt_of_ble rfl)
         apply Wk.mv (by conv => lhs; whnf) (lt_of_ble rfl)
         apply Wk.drw 0 pick_ok Try.func26 rfl rfl rfl rfl ⟨_, rfl, by omega⟩ (by omega) rfl (lt_of_ble rfl)
         rintro r9 zs9 p9 ⟨k9, rfl, hk9⟩ hp9
         have hk9' : k9 < 3 := by have := hk9 3 rfl; omega
         obtain ⟨v, hv, hv1, hv2⟩ : ∃ v : Int, partA (List.flatten [[A.d (.v (.int .i64 (-1)))], [.d (.v (.int .i64 4))], [.d (.v (.int .i64 1))]]) (k9 * 1) 1 false = some (.d (.v (.int .i64 v))) ∧ -1 ≤ v ∧ v ≤ 4 := by
           rcases (show k9 = 0 ∨ k9 = 1 ∨ k9 = 2 by omega) with rfl | rfl | rfl
           · exact ⟨_, rfl, by omega, by omega⟩
           · exact ⟨_, rfl, by omega, by omega⟩
           · exact ⟨_, rfl, by omega, by omega⟩
         apply Wk.iado 20 1 false un49 ty3 rfl rfl rfl hk9' (lt_of_ble rfl)
         apply Wk.ldo (i := 20) 1 false ty3 rfl rfl hv (lt_of_ble rfl)
         apply Wk.fad 0 0 false fd34_0 rfl (lt_of_ble rfl)
         apply Wk.sto (i := 5) 1 false ty3 rfl rfl rfl rfl (Nat.le_of_ble_eq_true rfl) (lt_of_ble rfl)
         refine Wk.nil (inBlockA_normal (thenA_normal ?_))
         exact ⟨(zs9, p9, v, ln, q, bs), ⟨by simp only; omega, ⟨by simp only; omega, by simp only; omega⟩, ⟨by simp only; omega, by simp only; omega⟩, by simp only; omega⟩, fin _ _ _ _ _ _ _ rfl rfl rfl rfl rfl rfl rfl rfl⟩
       · refine AW.seq ?_
         apply AW.list
         apply Wk.bin rfl rfl (fun w => by simp [go_sem] <;> rfl) (lt_of_ble rfl)
         apply Wk.asg (by conv => lhs; whnf) (lt_of_ble rfl)
         refine Wk.nil ?_
         refine AW.cond rfl (fun hc => ?_) (fun hc => ?_)
         · apply AW.list
           apply Wk.lst 28 1 false [.int .i64 0] un49 ty3 ze3 rfl rfl (by rfl) (by rfl) (by decide) (by decide) rfl rfl (all_len rfl) (lt_of_ble rfl)
           apply Wk.mv (by conv => lhs; whnf) (lt_of_ble rfl)
           apply Wk.drw 0 pick_ok Try.func26 rfl rfl rfl rfl ⟨_, rfl, by omega⟩ (by omega) rfl (lt_of_ble rfl)
           rintro r9 zs9 p9 ⟨k9, rfl, hk9⟩ hp9
           have hk9' : k9 < 3 := by have := hk9 3 rfl; omega
           obtain ⟨v, hv, hv1, hv2⟩ : ∃ v : Int, partA (List.flatten [[A.d (.v (.int .i64 (-1)))], [.d (.v (.int .i64 25))], [.d (.v (.int .i64 3))]]) (k9 * 1) 1 false = some (.d (.v (.int .i64 v))) ∧ -1 ≤ v ∧ v ≤ 40 := by
             rcases (show k9 = 0 ∨ k9 = 1 ∨ k9 = 2 by omega) with rfl | rfl | rfl
             · exact ⟨_, rfl, by omega, by omega⟩
             · exact ⟨_, rfl, by omega, by omega⟩
             · exact ⟨_, rfl, by omega, by omega⟩
           apply Wk.iado 28 1 false un49 ty3 rfl rfl rfl hk9' (lt_of_ble rfl)
           apply Wk.ldo (i := 28) 1 false ty3 rfl rfl hv (lt_of_ble rfl)
           apply Wk.fad 1 0 false fd34_1 rfl (lt_of_ble rfl)
           apply Wk.sto (i := 5) 1 false ty3 rfl rfl rfl rfl (Nat.le_of_ble_eq_true rfl) (lt_of_ble rfl)
           refine Wk.nil (inBlockA_normal (thenA_normal ?_))
           exact ⟨(zs9, p9, sg, v, q, bs), ⟨by simp only; omega, ⟨by simp only; omega, by simp only; omega⟩, ⟨by simp only; omega, by simp only; omega⟩, by simp only; omega⟩, fin _ _ _ _ _ _ _ rfl rfl rfl rfl rfl rfl rfl rfl⟩
         · apply AW.list
           apply Wk.fad 2 0 false fd34_2 rfl (lt_of_ble rfl)
           apply Wk.ld (i := 5) 1 false ty22 rfl rfl (by conv => lhs; whnf) (lt_of_ble rfl)
           apply Wk.lst 15 1 false [.int .u8 0] un22 ty5 ze5 rfl rfl (by rfl) (by rfl) (by decide) (by decide) rfl rfl (all_len rfl) (lt_of_ble rfl)
           apply Wk.appOO 7 15 1 un22 ap5 rfl rfl rfl rfl (by decide) (all_len rfl) (one_cellsB bs) (by simp [cellsB]; omega) (lt_of_ble rfl)
           apply Wk.fad 2 0 false fd34_2 rfl (lt_of_ble rfl)
           apply Wk.sto (i := 5) 1 false ty22 rfl rfl rfl rfl (Nat.le_of_ble_eq_true rfl) (lt_of_ble rfl)
           refine Wk.nil (inBlockA_normal (thenA_normal ?_))
           have e9 : cellsB (bs ++ [1, 2, 3, 4, 5, 6, 7, 8]) = cellsB bs ++ cellsB [1, 2, 3, 4, 5, 6, 7, 8] := by simp [cellsB]
           exact ⟨(zs4, p4, sg, ln, q + 1, bs ++ [1, 2, 3, 4, 5, 6, 7, 8]), ⟨by simp only; omega, ⟨by simp only; omega, by simp only; omega⟩, ⟨by simp only; omega, by simp only; omega⟩, by simp; omega⟩, fin _ _ _ _ _ _ _ rfl rfl rfl rfl rfl rfl rfl (by unfold ownB; rw [e9]; rfl)⟩
     · exact ⟨(zs3, p3, sg, ln, q, bs), ⟨by simp only; omega, ⟨by simp only; omega, by simp only; omega⟩, ⟨by simp only; omega, by simp only; omega⟩, by simp only; omega⟩, fin _ _ _ _ _ _ _ rfl rfl rfl rfl rfl rfl rfl rfl⟩
   · rintro ⟨zs6, p6, s6, l6, q6, bs6⟩ ⟨hp6, hs6, hl6, hb6⟩
     simp only at hp6 hs6 hl6 hb6
     show AW Try.prog C _ _ (St.of 35 [(0, .ptr 0 0), (4, .ptr 4 0), (5, .ptr 5 0)] [(0, rdr zs6 p6), (4, .var [.d (.v (.int .i64 0)), .d (.v (.int .i64 0)), .d (.v (.slice none 0 0))]), (5, .var (partOA s6 l6 q6)), (7, ownB q6 bs6)])
     refine AW.thawc (j := 5) (c := 2) (i := 7) (cellsD bs6) rfl rfl (by rfl) (asData_cells bs6) (hX.one (by decide) rfl) ?_
     refine AW.seq ?_
     apply AW.list
     apply Wk.ld (i := 5) 3 true ty34 rfl rfl (by conv => lhs; whnf) (lt_of_ble rfl)
     apply Wk.sto (i := 4) 3 true ty34 rfl rfl rfl rfl (Nat.le_of_ble_eq_true rfl) (lt_of_ble rfl)
     refine Wk.nil (AW.ret ?_)
     exact RetQ.ret [(0, rdr zs6 p6)] (.cons ⟨4, 0, _, _, _, rfl, rfl, ty34, rfl⟩ .nil) ⟨⟨s6, l6, bs6, rfl, hs6, hl6, hb6⟩, _, _, rfl, hp6⟩ (kept1 rfl)
 · rintro rest ⟨n, rfl, _⟩; rfl
 · rintro rest _; exact ⟨_, 0, 0, [], rfl, by simp⟩
 · rintro rest r ⟨sg, ln, bs, rfl, _⟩; rfl
set_option maxHeartbeats 2000000 in
set_option maxRecDepth 100000 in
theorem drawPut_ok (zs : List (Fin 256)) : DataW Try.prog 17 [.d (bytesD (zs.map (·.val)))] (fun r => ∃ (m : Int) (bs : List (Fin 256)) (g l : Int) (fs : List (Fin 256)), r = .tup [joinA m bs, partA3 g l fs] ∧ -1 ≤ m ∧ m ≤ 100 ∧ bs.length ≤ 1000 ∧ (-1 ≤ g ∧ g ≤ 4) ∧ (-1 ≤ l ∧ l ≤ 40) ∧ fs.length ≤ 16) := by
  refine ⟨?_, ⟨_, 0, [], 0, 0, [], rfl, by simp⟩, ?_⟩
  · refine id ?_
    refine Spec.intro (n := 37) (rv := [.cell 2 30, .cell 3 34]) Try.func17 rfl rfl rfl (by simp) fun C hN hX => ?_
    refine AW.seq ?_
    apply AW.list
    apply Wk.alc 2 [.int .i64 0, .slice none 0 0] ze30 rfl rfl (lt_of_ble rfl)
    apply Wk.alc 3 [.int .i64 0, .int .i64 0, .slice none 0 0] ze34 rfl rfl (lt_of_ble rfl)
    refine Wk.nil ?_
    refine AW.seq ?_
    apply AW.list
    apply Wk.mv (by conv => lhs; whnf) (lt_of_ble rfl)
    apply Wk.opn open_ok Try.func24 rfl rfl rfl rfl (lt_of_ble rfl)
    rintro zs1
    apply Wk.asg (by conv => lhs; whnf) (lt_of_ble rfl)
    refine Wk.nil ?_
    refine AW.seq ?_
    apply AW.list
    apply Wk.mv (by conv => lhs; whnf) (lt_of_ble rfl)
    apply Wk.drw 0 join_ok Try.func34 rfl rfl rfl rfl ⟨_, rfl, by omega⟩ (by omega) rfl (lt_of_ble rfl)
    rintro r2 zs2 p2 ⟨m, bs, rfl, hm1, hm2, hbl⟩ hp2
    apply Wk.alc 50 [.int .i64 0, .slice none 0 0] ze30 rfl rfl (lt_of_ble rfl)
    apply Wk.sto (i := 50) 2 true ty30 rfl rfl rfl rfl (Nat.le_of_ble_eq_true rfl) (lt_of_ble rfl)
    refine Wk.nil ?_
    refine AW.seq ?_
    apply AW.list
    apply Wk.mv (by conv => lhs; whnf) (lt_of_ble rfl)
    apply Wk.drw 0 partOr_ok Try.func35 rfl rfl rfl rfl ⟨_, rfl, by omega⟩ (by omega) rfl (lt_of_ble rfl)
    rintro r3 zs3 p3 ⟨g, l, fs, rfl, hg, hl, hfl⟩ hp3
    apply Wk.alc 60 [.int .i64 0, .int .i64 0, .slice none 0 0] ze34 rfl rfl (lt_of_ble rfl)
    apply Wk.sto (i := 60) 3 true ty34 rfl rfl rfl rfl (Nat.le_of_ble_eq_true rfl) (lt_of_ble rfl)
    refine Wk.nil ?_
    let inv : Int × Int × List (Fin 256) → St := fun x => St.of 37 [(2, .ptr 2 0), (3, .ptr 3 0), (5, .ptr 50 0), (6, .ptr 60 0)] [(2, .var [.d (.v (.int .i64 0)), .d (.v (.slice none 0 0))]), (3, .var [.d (.v (.int .i64 0)), .d (.v (.int .i64 0)), .d (.v (.slice none 0 0))]), (50, .var [.d (.v (.int .i64 m)), .d (fbytes bs)]), (60, .var [.d (.v (.int .i64 x.1)), .d (.v (.int .i64 x.2.1)), .d (fbytes x.2.2)])]
    have fin : ∀ (g l : Int) (fs : List (Fin 256)) (σ : St), σ.n = 37 → σ.t 2 = .ptr 2 0 → σ.t 3 = .ptr 3 0 → σ.t 5 = .ptr 50 0 → σ.t 6 = .ptr 60 0 → σ.b 2 = .var [.d (.v (.int .i64 0)), .d (.v (.slice none 0 0))] → σ.b 3 = .var [.d (.v (.int .i64 0)), .d (.v (.int .i64 0)), .d (.v (.slice none 0 0))] → σ.b 50 = .var [.d (.v (.int .i64 m)), .d (fbytes bs)] → σ.b 60 = .var [.d (.v (.int .i64 g)), .d (.v (.int .i64 l)), .d (fbytes fs)] →
        ∀ a w, Rel C σ a w → Rel C (inv (g, l, fs)) a w := fun g l fs σ h0 h1 h2 h3 h4 h5 h6 h7 h8 a w => Rel.keep ⟨h0.symm, .cons h1 rfl (.cons h2 rfl (.cons h3 rfl (.cons h4 rfl .nil))), .cons h5 rfl (.cons h6 rfl (.cons h7 rfl (.cons h8 rfl .nil))), hN.mono (by simp [keys])⟩
    refine AW.via inv (fun x => (-1 ≤ x.1 ∧ x.1 ≤ 4) ∧ (-1 ≤ x.2.1 ∧ x.2.1 ≤ 40) ∧ x.2.2.length ≤ 16) ?_ ?_
    · refine AW.seq ?_
      by_cases hgt : (bs.length : Int) < m
      · apply AW.list
        apply Wk.mv (by conv => lhs; whnf) (lt_of_ble rfl)
        apply Wk.drw 0 pick_ok Try.func26 rfl rfl rfl rfl ⟨_, rfl, by omega⟩ (by omega) rfl (lt_of_ble rfl)
        rintro r4 zs4 p4 ⟨k4, rfl, _⟩ hp4
        apply Wk.bin rfl rfl (r := .bool ((k4 : Int) == 0)) (fun w => by simp [go_sem]) (lt_of_ble rfl)
        apply Wk.mv (by conv => lhs; whnf) (lt_of_ble rfl)
        generalize ((k4 : Int) == 0) = b5
        cases b5
        case' true =>
          apply Wk.gon 17 rfl rfl
          apply Wk.fad 0 0 false fd30_0 rfl (lt_of_ble rfl)
          apply Wk.gon 17 rfl rfl
          apply Wk.ld (i := 50) 1 false ty3 rfl rfl (by conv => lhs; whnf) (lt_of_ble rfl)
          apply Wk.gon 17 rfl rfl
          apply Wk.fad 1 0 false fd30_1 rfl (lt_of_ble rfl)
          apply Wk.gon 17 rfl rfl
          apply Wk.ld (i := 50) 1 false ty22 rfl rfl (by conv => lhs; whnf) (lt_of_ble rfl)
          apply Wk.gon 17 rfl rfl
          apply Wk.len un22 rfl (lt_of_ble rfl)
          apply Wk.gon 17 rfl rfl
          apply Wk.bin rfl rfl (r := .bool true) (fun w => by simp [go_sem] <;> omega) (lt_of_ble rfl)
          apply Wk.pckT rfl (by conv => lhs; whnf) (lt_of_ble rfl)
          refine Wk.nil ?_
        case' false =>
          apply Wk.goff 17 (ok_faddr fd30_0) rfl rfl (by decide)
          apply Wk.goff 17 (ok_load 50 ty3) rfl rfl (by decide)
          apply Wk.goff 17 (ok_faddr fd30_1) rfl rfl (by decide)
          apply Wk.goff 17 (ok_load 50 ty22) rfl rfl (by decide)
          apply Wk.goff 17 (ok_len un22) rfl rfl (by decide)
          apply Wk.goff 17 (ok_bin _ _ _ _ _) rfl rfl (by decide)
          apply Wk.pckF rfl (by conv => lhs; whnf) (lt_of_ble rfl)
          refine Wk.nil ?_
        · refine AW.cond rfl (fun hc => by cases hc) (fun _ => AW.skip (thenA_normal ?_))
          exact ⟨(g, l, fs), ⟨hg, hl, hfl⟩, fin _ _ _ _ rfl rfl rfl rfl rfl rfl rfl rfl rfl⟩
        · refine AW.cond rfl (fun _ => ?_) (fun hc => by cases hc)
          obtain ⟨mn, rfl⟩ := Int.eq_ofNat_of_zero_le (show 0 ≤ m by omega)
          refine AW.seq ?_
          apply AW.list
          apply Wk.fad 0 0 false fd30_0 rfl (lt_of_ble rfl)
          apply Wk.ld (i := 50) 1 false ty3 rfl rfl (by conv => lhs; whnf) (lt_of_ble rfl)
          apply Wk.fad 1 0 false fd30_1 rfl (lt_of_ble rfl)
          apply Wk.ld (i := 50) 1 false ty22 rfl rfl (by conv => lhs; whnf) (lt_of_ble rfl)
          apply Wk.len un22 rfl (lt_of_ble rfl)
          apply Wk.subn rfl rfl (by simp; omega) (by omega) (lt_of_ble rfl)
          apply Wk.asg (by conv => lhs; whnf) (lt_of_ble rfl)
          refine Wk.nil ?_
          obtain ⟨z, hz, hz8⟩ : ∃ z : Nat, (if (8 : Int) < ((mn - (List.map (fun z : Nat => [D.v (.int .u8 (z : Int))]) (bs.map (·.val))).length : Nat) : Int) then 8 else ((mn - (List.map (fun z : Nat => [D.v (.int .u8 (z : Int))]) (bs.map (·.val))).length : Nat) : Int)) = (z : Int) ∧ z ≤ 8 := by
            split
            · exact ⟨8, rfl, by decide⟩
            · exact ⟨_, rfl, by omega⟩
          apply AW.list
          apply Wk.mv (by conv => lhs; whnf) (lt_of_ble rfl)
          apply Wk.min2 rfl rfl hz (lt_of_ble rfl)
          apply Wk.mk8 33 z rfl rfl (by omega) (lt_of_ble rfl)
          apply Wk.thaw 33 33 (cellsD (List.replicate z (0 : Fin 256))) hX rfl (by rfl) (asData_zero8 z)
          apply Wk.bld [.int .i64 0, .int .i64 0, .slice none 0 0] [(0, 1), (1, 1), (2, 1)] bl34 rfl (by conv => lhs; whnf) (lt_of_ble rfl)
          apply Wk.sto (i := 60) 3 true ty34 rfl rfl rfl rfl (Nat.le_of_ble_eq_true rfl) (lt_of_ble rfl)
          refine Wk.nil (thenA_normal ?_)
          exact ⟨(3, 0, List.replicate z 0), ⟨by simp, by simp, by simp; omega⟩, fin _ _ _ _ rfl rfl rfl rfl rfl rfl rfl rfl rfl⟩
      · apply AW.list
        apply Wk.mv (by conv => lhs; whnf) (lt_of_ble rfl)
        apply Wk.drw 0 pick_ok Try.func26 rfl rfl rfl rfl ⟨_, rfl, by omega⟩ (by omega) rfl (lt_of_ble rfl)
        rintro r4 zs4 p4 ⟨k4, rfl, _⟩ hp4
        apply Wk.bin rfl rfl (r := .bool ((k4 : Int) == 0)) (fun w => by simp [go_sem]) (lt_of_ble rfl)
        apply Wk.mv (by conv => lhs; whnf) (lt_of_ble rfl)
        generalize ((k4 : Int) == 0) = b5
        cases b5
        case' true =>
          apply Wk.gon 17 rfl rfl
          apply Wk.fad 0 0 false fd30_0 rfl (lt_of_ble rfl)
          apply Wk.gon 17 rfl rfl
          apply Wk.ld (i := 50) 1 false ty3 rfl rfl (by conv => lhs; whnf) (lt_of_ble rfl)
          apply Wk.gon 17 rfl rfl
          apply Wk.fad 1 0 false fd30_1 rfl (lt_of_ble rfl)
          apply Wk.gon 17 rfl rfl
          apply Wk.ld (i := 50) 1 false ty22 rfl rfl (by conv => lhs; whnf) (lt_of_ble rfl)
          apply Wk.gon 17 rfl rfl
          apply Wk.len un22 rfl (lt_of_ble rfl)
          apply Wk.gon 17 rfl rfl
          apply Wk.bin rfl rfl (r := .bool false) (fun w => by simp [go_sem] <;> omega) (lt_of_ble rfl)
          apply Wk.pckT rfl (by conv => lhs; whnf) (lt_of_ble rfl)
          refine Wk.nil ?_
        case' false =>
          apply Wk.goff 17 (ok_faddr fd30_0) rfl rfl (by decide)
          apply Wk.goff 17 (ok_load 50 ty3) rfl rfl (by decide)
          apply Wk.goff 17 (ok_faddr fd30_1) rfl rfl (by decide)
          apply Wk.goff 17 (ok_load 50 ty22) rfl rfl (by decide)
          apply Wk.goff 17 (ok_len un22) rfl rfl (by decide)
          apply Wk.goff 17 (ok_bin _ _ _ _ _) rfl rfl (by decide)
          apply Wk.pckF rfl (by conv => lhs; whnf) (lt_of_ble rfl)
          refine Wk.nil ?_
        all_goals
          refine AW.cond rfl (fun hc => by cases hc) (fun _ => AW.skip (thenA_normal ?_))
          exact ⟨(g, l, fs), ⟨hg, hl, hfl⟩, fin _ _ _ _ rfl rfl rfl rfl rfl rfl rfl rfl rfl⟩
    · rintro ⟨g2, l2, fs2⟩ ⟨hg2, hl2, hf2⟩
      simp only at hg2 hl2 hf2
      show AW Try.prog C _ _ (St.of 37 [(2, .ptr 2 0), (3, .ptr 3 0), (5, .ptr 50 0), (6, .ptr 60 0)] [(2, .var [.d (.v (.int .i64 0)), .d (.v (.slice none 0 0))]), (3, .var [.d (.v (.int .i64 0)), .d (.v (.int .i64 0)), .d (.v (.slice none 0 0))]), (50, .var [.d (.v (.int .i64 m)), .d (fbytes bs)]), (60, .var [.d (.v (.int .i64 g2)), .d (.v (.int .i64 l2)), .d (fbytes fs2)])])
      refine AW.seq ?_
      apply AW.draw (hm := hmix) (cs := _)
      · apply Wk.ld (i := 50) 2 true ty30 rfl rfl (by conv => lhs; whnf) (lt_of_ble rfl)
        apply Wk.ld (i := 60) 3 true ty34 rfl rfl (by conv => lhs; whnf) (lt_of_ble rfl)
        apply Wk.sto (i := 2) 2 true ty30 rfl rfl rfl rfl (Nat.le_of_ble_eq_true rfl) (lt_of_ble rfl)
        apply Wk.sto (i := 3) 3 true ty34 rfl rfl rfl rfl (Nat.le_of_ble_eq_true rfl) (lt_of_ble rfl)
        refine Wk.nil (AW.ret ?_)
        exact RetQ.ret [] (.cons ⟨2, 0, _, _, _, rfl, rfl, ty30, rfl⟩ (.cons ⟨3, 0, _, _, _, rfl, rfl, ty34, rfl⟩ .nil)) ⟨⟨m, bs, g2, l2, fs2, rfl, hm1, hm2, hbl, hg2, hl2, hf2⟩, rfl⟩ none_kept
      · rfl
      · rfl
  · rintro r ⟨m, bs, g, l, fs, rfl, _⟩; rfl
end Go.Proofs.Ytpghbdigiplbiaa
