/- A piece, drawn, whose bytes are a list of the call's own; over what values read as. -/
import Derived.Test.YtpghbdigiplbiaaMa
import Derived.Test.YtpghbdigiplbiaaMb
import Derived.Test.YtpghbdigiplbiaaMc
import Derived.Test.YtpghbdigiplbiaaMd
import Derived.Test.YtpghbdigiplbiaaAbsFnvX
import Derived.Test.YtpghbdigiplbiaaAbsRenX
namespace Go.Proofs.Ytpghbdigiplbiaa
open Go
def ownB (q : Nat) (bs : List (Fin 256)) : Bx := .own q 5 1 (cellsB bs)
theorem ownB_in {q : Nat} {bs : List (Fin 256)} {K : List Nat} : (ownB q bs).within K = true := within_cellsB bs
/-- Bytes, drawn, that are a list of the call's own. -/
def bytesOPost (rest : List A) (r : A) (ex : List (Nat × Bx)) : Prop := ∃ q bs, r = .own 7 q ∧ ex = [(7, ownB q bs)] ∧ ∀ n : Nat, rest = [.d (.v (.int .i64 (n : Int)))] → bs.length ≤ n
set_option maxRecDepth 100000 in
theorem bytesO_ok : DrawX Try.prog 25 (fun rest => ∃ n : Nat, rest = [.d (.v (.int .i64 (n : Int)))] ∧ n ≤ 1000) bytesOPost 3001 [7] := by
 refine ⟨?_, ?_, ?_⟩
 · rintro zs p rest ⟨n, rfl, hn⟩ hp
   refine Spec.intro (n := 30) (rv := [.tmp 4]) Try.func25 rfl rfl rfl (by simp) fun C hN hX => ?_
   refine AW.seq ?_
   apply AW.list
   apply Wk.asg (by conv => lhs; whnf) (lt_of_ble rfl)
   refine Wk.nil ?_
   refine AW.seq ?_
   apply AW.list
   apply Wk.lst 7 1 false [.int .u8 0] un22 ty5 ze5 rfl rfl (by rfl) (by rfl) (by decide) (by decide) rfl rfl (all_len rfl) (lt_of_ble rfl)
   apply Wk.asg (by conv => lhs; whnf) (lt_of_ble rfl)
   refine Wk.nil ?_
   refine AW.seq (AW.seq ?_)
   apply AW.list
   apply Wk.mv (by conv => lhs; whnf) (lt_of_ble rfl)
   apply Wk.mv (by conv => lhs; whnf) (lt_of_ble rfl)
   apply Wk.addi rfl rfl (by omega) (lt_of_ble rfl)
   apply Wk.drw 0 pick_ok Try.func26 rfl rfl rfl rfl ⟨(n : Int) + 1, rfl, by omega⟩ (by omega) rfl (lt_of_ble rfl)
   rintro r zs1 p1 ⟨k, rfl, hk⟩ hp1
   replace hk := hk _ rfl
   apply Wk.asg (by conv => lhs; whnf) (lt_of_ble rfl)
   refine Wk.nil ?_
   refine AW.block ?_
   let inv : Nat × Nat × List (Fin 256) × Nat × List (Fin 256) → St := fun x => St.of 30 [(0, .ptr 0 0), (5, .own 7 x.2.1), (6, .d (.v (.int .i64 (x.1 : Int))))] [(0, rdr x.2.2.1 x.2.2.2.1), (7, .own x.2.1 5 1 (cellsB x.2.2.2.2))]
   refine AW.loop inv (fun x => x.1 ≤ k ∧ x.2.2.2.1 + 3 * x.1 ≤ p + 1 + 3 * k ∧ x.2.2.2.2.length + x.1 ≤ k) (fun x => x.1) (k, 0, zs1, p1, []) ⟨Nat.le_refl _, by simp only; omega, by simp⟩ ?_ ?_
   · exact fun a w => Rel.keep ⟨rfl, .cons rfl rfl (.cons rfl rfl (.cons rfl rfl .nil)), .cons rfl rfl (.cons rfl rfl .nil), ⟨fun i b hb => by have := hN.1 i b hb; simp [keys] at this ⊢; exact .inl this, fun i q v hv => by have := hN.2 i q v hv; simp [keys] at this ⊢; exact .inl this⟩⟩
   · rintro ⟨m, q, zs2, p2, bs⟩ ⟨h1, h2, h3⟩
     simp only at h1 h2 h3
     show AW Try.prog C _ _ (St.of 30 [(0, .ptr 0 0), (5, .own 7 q), (6, .d (.v (.int .i64 (m : Int))))] [(0, rdr zs2 p2), (7, .own q 5 1 (cellsB bs))])
     refine AW.seq (AW.seq ?_)
     apply AW.list
     apply Wk.mv (by conv => lhs; whnf) (lt_of_ble rfl)
     apply Wk.bin rfl rfl (fun w => by simp [go_sem] <;> rfl) (lt_of_ble rfl)
     refine Wk.nil ?_
     refine AW.cond rfl (fun hc => ?_) (fun hc => ?_)
     · have hm : 0 < m := by simpa using hc
       refine AW.skip (thenA_normal ?_)
       refine AW.seq (AW.block ?_)
       apply AW.list
       apply Wk.mv (by conv => lhs; whnf) (lt_of_ble rfl)
       apply Wk.mv (by conv => lhs; whnf) (lt_of_ble rfl)
       apply Wk.drw 0 pick_ok Try.func26 rfl rfl rfl rfl ⟨_, rfl, by omega⟩ (by omega) rfl (lt_of_ble rfl)
       rintro r1 zs3 p3 ⟨k1, rfl, hk1⟩ hp3
       apply Wk.mv (by conv => lhs; whnf) (lt_of_ble rfl)
       apply Wk.drw 0 pick_ok Try.func26 rfl rfl rfl rfl ⟨_, rfl, by omega⟩ (by omega) rfl (lt_of_ble rfl)
       rintro r2 zs4 p4 ⟨k2, rfl, hk2⟩ hp4
       apply Wk.lst 21 1 false [.int .i64 0] un49 ty3 ze3 rfl rfl (by rfl) (by rfl) (by decide) (by decide) rfl rfl (all_len rfl) (lt_of_ble rfl)
       apply Wk.mv (by conv => lhs; whnf) (lt_of_ble rfl)
       apply Wk.drw 0 pick_ok Try.func26 rfl rfl rfl rfl ⟨_, rfl, by omega⟩ (by omega) rfl (lt_of_ble rfl)
       rintro r3 zs5 p5 ⟨k3, rfl, hk3⟩ hp5
       have hk3 : k3 < 3 := by have := hk3 3 rfl; omega
       obtain ⟨v, hv⟩ : ∃ v : Int, partA (List.flatten [[A.d (.v (.int .i64 (k1 : Int)))], [.d (.v (.int .i64 (k2 : Int)))], [.d (.v (.int .i64 255))]]) (k3 * 1) 1 false = some (.d (.v (.int .i64 v))) := by
         rcases (show k3 = 0 ∨ k3 = 1 ∨ k3 = 2 by omega) with rfl | rfl | rfl <;> exact ⟨_, rfl⟩
       apply Wk.iado 21 1 false un49 ty3 rfl rfl rfl hk3 (lt_of_ble rfl)
       apply Wk.ldo (i := 21) 1 false ty3 rfl rfl hv (lt_of_ble rfl)
       apply Wk.convb rfl ui3 ui5 (lt_of_ble rfl)
       intro z
       apply Wk.lst 27 1 false [.int .u8 0] un22 ty5 ze5 rfl rfl (by rfl) (by rfl) (by decide) (by decide) rfl rfl (all_len rfl) (lt_of_ble rfl)
       apply Wk.appOO 7 27 1 un22 ap5 rfl rfl rfl rfl (by decide) (all_len rfl) (one_cellsB bs) (by simp [cellsB]; omega) (lt_of_ble rfl)
       apply Wk.asg (by conv => lhs; whnf) (lt_of_ble rfl)
       refine Wk.nil (inBlockA_normal (thenA_normal ?_))
       apply AW.list
       apply Wk.mv (by conv => lhs; whnf) (lt_of_ble rfl)
       apply Wk.subn (b := 1) rfl rfl (by omega) (by omega) (lt_of_ble rfl)
       apply Wk.asg (by conv => lhs; whnf) (lt_of_ble rfl)
       refine Wk.nil ?_
       refine ⟨(m - 1, q + 1, zs5, p5, bs ++ [z]), ⟨by simp only; omega, by simp only; omega, by simp; omega⟩, by simp only; omega, ?_⟩
       refine fun a w => Rel.keep ⟨rfl, .cons rfl rfl (.cons rfl rfl (.cons rfl rfl .nil)), .cons rfl rfl (.cons ?_ ?_ .nil), ⟨fun i b hb => by have := hN.1 i b hb; simp [keys] at this ⊢; exact .inl this, fun i q v hv => by have := hN.2 i q v hv; simp [keys] at this ⊢; exact .inl this⟩⟩
       · simp only [cellsB, List.map_append]
         rfl
       · exact within_cellsB _
     · have hm : m = 0 := by simpa using hc
       refine AW.exit ?_
       repeat (first | refine inBlockA_same ?_ | refine thenA_exit ?_)
       refine thenA_normal ?_
       refine AW.seq ?_
       apply AW.list
       apply Wk.mv (by conv => lhs; whnf) (lt_of_ble rfl)
       apply Wk.asg (by conv => lhs; whnf) (lt_of_ble rfl)
       refine Wk.nil (AW.ret ?_)
       refine RetQ.ret [(0, rdr zs2 p2), (7, ownB q bs)] (.cons rfl .nil) ⟨zs2, p2, _, rfl, by omega, q, bs, rfl, rfl, fun n' e => ?_⟩ (kept2 rfl rfl)
       simp only [List.cons.injEq, A.d.injEq, D.v.injEq, Value.int.injEq, true_and, and_true] at e
       omega
 · rintro rest ⟨n, rfl, _⟩; exact ⟨_, _, 0, [], rfl, rfl, fun n e => by simp⟩
 · rintro rest r ex ⟨q, bs, rfl, rfl, _⟩; exact ⟨rfl, by simp [ownB_in]⟩

/-- A piece: its bytes the call's own, by the name 7. -/
def partOA (sg ln : Int) (q : Nat) : List A := [.d (.v (.int .i64 sg)), .d (.v (.int .i64 ln)), .own 7 q]
def partOPost (_ : List A) (r : A) (ex : List (Nat × Bx)) : Prop := ∃ sg ln q bs, r = .agg (partOA sg ln q) ∧ ex = [(7, ownB q bs)] ∧ 0 ≤ sg ∧ sg ≤ 3 ∧ 0 ≤ ln ∧ ln ≤ 40 ∧ bs.length ≤ 8
set_option maxRecDepth 100000 in
theorem partO_ok : DrawX Try.prog 42 (fun rest => rest = []) partOPost 3003 [7] := by
 refine ⟨?_, ?_, ?_⟩
 · rintro zs p rest rfl hp
   refine Spec.intro (n := 43) (rv := [.cell 2 34]) Try.func42 rfl rfl rfl (by simp) fun C hN hX => ?_
   refine AW.seq ?_
   apply AW.list
   apply Wk.alc 2 [.int .i64 0, .int .i64 0, .slice none 0 0] ze34 rfl rfl (lt_of_ble rfl)
   refine Wk.nil ?_
   refine AW.seq ?_
   apply AW.list
   apply Wk.mv (by conv => lhs; whnf) (lt_of_ble rfl)
   apply Wk.drw 0 pick_ok Try.func26 rfl rfl rfl rfl ⟨_, rfl, by omega⟩ (by omega) rfl (lt_of_ble rfl)
   rintro r1 zs1 p1 ⟨k1, rfl, hk1⟩ hp1
   apply Wk.mv (by conv => lhs; whnf) (lt_of_ble rfl)
   apply Wk.drx [7] bytesO_ok Try.func25 rfl rfl rfl rfl ⟨8, rfl, by decide⟩ (by omega) rfl (by simp; rfl) (lt_of_ble rfl)
   rintro r zs2 p2 ex ⟨q, bs, rfl, rfl, hbl⟩ hp2
   replace hbl := hbl 8 rfl
   apply Wk.bld [.int .i64 0, .int .i64 0, .slice none 0 0] [(0, 1), (1, 1), (2, 1)] bl34 rfl (by conv => lhs; whnf) (lt_of_ble rfl)
   apply Wk.alc 3 [.int .i64 0, .int .i64 0, .slice none 0 0] ze34 rfl rfl (lt_of_ble rfl)
   apply Wk.sto (i := 3) 3 true ty34 rfl rfl rfl rfl (Nat.le_of_ble_eq_true rfl) (lt_of_ble rfl)
   refine Wk.nil ?_
   have hk1' : k1 < 4 := by have := hk1 4 rfl; omega
   let inv : List (Fin 256) × Nat × Int × Nat × List (Fin 256) → St := fun x => St.of 43 [(0, .ptr 0 0), (2, .ptr 2 0), (3, .ptr 3 0)] [(0, rdr x.1 x.2.1), (2, .var [.d (.v (.int .i64 0)), .d (.v (.int .i64 0)), .d (.v (.slice none 0 0))]), (3, .var (partOA (k1 : Int) x.2.2.1 x.2.2.2.1)), (7, ownB x.2.2.2.1 x.2.2.2.2)]
   let ok : Nat → List (Fin 256) × Nat × Int × Nat × List (Fin 256) → Prop := fun m x => x.2.1 ≤ p + m ∧ 0 ≤ x.2.2.1 ∧ x.2.2.1 ≤ 40 ∧ x.2.2.2.2.length ≤ 8
   have fin : ∀ (zs : List (Fin 256)) (p : Nat) (ln : Int) (q : Nat) (bs : List (Fin 256)) (σ : St), σ.n = 43 → σ.t 0 = .ptr 0 0 → σ.t 2 = .ptr 2 0 → σ.t 3 = .ptr 3 0 → σ.b 0 = rdr zs p → σ.b 2 = .var [.d (.v (.int .i64 0)), .d (.v (.int .i64 0)), .d (.v (.slice none 0 0))] → σ.b 3 = .var (partOA (k1 : Int) ln q) → σ.b 7 = ownB q bs →
       ∀ a w, Rel C σ a w → Rel C (inv (zs, p, ln, q, bs)) a w := fun zs p ln q bs σ h0 h1 h2 h3 h4 h5 h6 h7 a w => Rel.keep ⟨h0.symm, .cons h1 rfl (.cons h2 rfl (.cons h3 rfl .nil)), .cons h4 rfl (.cons h5 rfl (.cons h6 rfl (.cons h7 ownB_in .nil))), hN.mono (by simp [keys])⟩
   refine AW.via inv (ok 3002) ?_ ?_
   · refine AW.seq ?_
     by_cases h1 : k1 = 0
     · subst h1
       apply AW.list
       apply Wk.fad 0 0 false fd34_0 rfl (lt_of_ble rfl)
       apply Wk.ld (i := 3) 1 false ty3 rfl rfl (by conv => lhs; whnf) (lt_of_ble rfl)
       apply Wk.bin rfl rfl (r := .bool false) (fun w => by simp [go_sem]) (lt_of_ble rfl)
       apply Wk.mv (by conv => lhs; whnf) (lt_of_ble rfl)
       apply Wk.goff 12 (ok_faddr fd34_2) rfl rfl (by decide)
       apply Wk.goff 12 (ok_load 3 ty22) rfl rfl (by decide)
       apply Wk.goff 12 (ok_leno 7 un22) rfl rfl (by decide)
       apply Wk.goff 12 (ok_bin _ _ _ _ _) rfl rfl (by decide)
       apply Wk.pckF rfl (by conv => lhs; whnf) (lt_of_ble rfl)
       refine Wk.nil ?_
       refine AW.cond rfl (fun hc => by cases hc) (fun _ => AW.skip (thenA_normal ?_))
       exact ⟨(zs2, p2, 0, q, bs), ⟨by simp only; omega, by simp only; omega, by simp only; omega, hbl⟩, fin _ _ _ _ _ _ rfl rfl rfl rfl rfl rfl rfl rfl⟩
     · apply AW.list
       apply Wk.fad 0 0 false fd34_0 rfl (lt_of_ble rfl)
       apply Wk.ld (i := 3) 1 false ty3 rfl rfl (by conv => lhs; whnf) (lt_of_ble rfl)
       apply Wk.bin rfl rfl (r := .bool true) (fun w => by simp [go_sem, h1]) (lt_of_ble rfl)
       apply Wk.mv (by conv => lhs; whnf) (lt_of_ble rfl)
       apply Wk.gon 12 rfl rfl
       apply Wk.fad 2 0 false fd34_2 rfl (lt_of_ble rfl)
       apply Wk.gon 12 rfl rfl
       apply Wk.ld (i := 3) 1 false ty22 rfl rfl (by conv => lhs; whnf) (lt_of_ble rfl)
       apply Wk.gon 12 rfl rfl
       apply Wk.leno (i := 7) un22 rfl rfl (lt_of_ble rfl)
       apply Wk.gon 12 rfl rfl
       apply Wk.bin rfl rfl (fun w => by simp [go_sem] <;> rfl) (lt_of_ble rfl)
       apply Wk.pckT rfl (by conv => lhs; whnf) (lt_of_ble rfl)
       refine Wk.nil ?_
       refine AW.cond rfl (fun hc => ?_) (fun hc => AW.skip (thenA_normal ?_))
       · apply AW.list
         apply Wk.lst 18 1 false [.int .u8 0] un22 ty5 ze5 rfl rfl (by rfl) (by rfl) (by decide) (by decide) rfl rfl (all_len rfl) (lt_of_ble rfl)
         apply Wk.fad 2 0 false fd34_2 rfl (lt_of_ble rfl)
         apply Wk.sto (i := 3) 1 false ty22 rfl rfl rfl rfl (Nat.le_of_ble_eq_true rfl) (lt_of_ble rfl)
         refine Wk.nil (thenA_normal ?_)
         refine ⟨(zs2, p2, 0, q + 1, [7]), ⟨by simp only; omega, by simp only; omega, by simp only; omega, by simp⟩, fun a w hR => ?_⟩
         have h := Rel.renc (j := 3) (c := 2) (i := 18) (i' := 7) (k' := q + 1) rfl rfl (by rfl) (.inr ⟨_, _, _, _, rfl, rfl⟩) (by decide) hR
         exact fin _ _ _ _ _ _ rfl rfl rfl rfl rfl rfl rfl rfl a w h
       · exact ⟨(zs2, p2, 0, q, bs), ⟨by simp only; omega, by simp only; omega, by simp only; omega, hbl⟩, fin _ _ _ _ _ _ rfl rfl rfl rfl rfl rfl rfl rfl⟩
   · rintro ⟨zs3, p3, l3, q3, bs3⟩ ⟨hp3, hl1, hl2, hb3⟩
     simp only at hp3 hl1 hl2 hb3
     show AW Try.prog C _ _ (St.of 43 [(0, .ptr 0 0), (2, .ptr 2 0), (3, .ptr 3 0)] [(0, rdr zs3 p3), (2, .var [.d (.v (.int .i64 0)), .d (.v (.int .i64 0)), .d (.v (.slice none 0 0))]), (3, .var (partOA (k1 : Int) l3 q3)), (7, ownB q3 bs3)])
     refine AW.via inv (ok 3002) ?_ ?_
     · refine AW.seq ?_
       apply AW.list
       apply Wk.fad 0 0 false fd34_0 rfl (lt_of_ble rfl)
       apply Wk.ld (i := 3) 1 false ty3 rfl rfl (by conv => lhs; whnf) (lt_of_ble rfl)
       apply Wk.bin rfl rfl (fun w => by simp [go_sem] <;> rfl) (lt_of_ble rfl)
       refine Wk.nil ?_
       refine AW.cond rfl (fun hc => ?_) (fun hc => AW.skip (thenA_normal ?_))
       · apply AW.list
         apply Wk.fad 2 0 false fd34_2 rfl (lt_of_ble rfl)
         apply Wk.ld (i := 3) 1 false ty22 rfl rfl (by conv => lhs; whnf) (lt_of_ble rfl)
         apply Wk.leno (i := 7) un22 rfl rfl (lt_of_ble rfl)
         apply Wk.fad 1 0 false fd34_1 rfl (lt_of_ble rfl)
         apply Wk.sto (i := 3) 1 false ty3 rfl rfl rfl rfl (Nat.le_of_ble_eq_true rfl) (lt_of_ble rfl)
         refine Wk.nil (thenA_normal ?_)
         have e5 : (cellsB bs3).length = bs3.length := by simp [cellsB]
         refine ⟨(zs3, p3, ((cellsB bs3).length : Int), q3, bs3), ⟨hp3, by simp only; omega, by simp only; omega, hb3⟩, fin _ _ _ _ _ _ rfl rfl rfl rfl rfl rfl rfl rfl⟩
       · exact ⟨(zs3, p3, l3, q3, bs3), ⟨hp3, hl1, hl2, hb3⟩, fin _ _ _ _ _ _ rfl rfl rfl rfl rfl rfl rfl rfl⟩
     · rintro ⟨zs4, p4, l4, q4, bs4⟩ ⟨hp4, hl3, hl4, hb4⟩
       simp only at hp4 hl3 hl4 hb4
       show AW Try.prog C _ _ (St.of 43 [(0, .ptr 0 0), (2, .ptr 2 0), (3, .ptr 3 0)] [(0, rdr zs4 p4), (2, .var [.d (.v (.int .i64 0)), .d (.v (.int .i64 0)), .d (.v (.slice none 0 0))]), (3, .var (partOA (k1 : Int) l4 q4)), (7, ownB q4 bs4)])
       have e5 : (cellsB bs4).length = bs4.length := by simp [cellsB]
       refine AW.via inv (ok 3003) ?_ ?_
       · refine AW.seq ?_
         apply AW.list
         apply Wk.fad 0 0 false fd34_0 rfl (lt_of_ble rfl)
         apply Wk.ld (i := 3) 1 false ty3 rfl rfl (by conv => lhs; whnf) (lt_of_ble rfl)
         apply Wk.bin rfl rfl (fun w => by simp [go_sem] <;> rfl) (lt_of_ble rfl)
         refine Wk.nil ?_
         refine AW.cond rfl (fun hc => ?_) (fun hc => AW.skip (thenA_normal ?_))
         · apply AW.draw (hm := hmix) (cs := _)
           · apply Wk.fad 2 0 false fd34_2 rfl (lt_of_ble rfl)
             apply Wk.ld (i := 3) 1 false ty22 rfl rfl (by conv => lhs; whnf) (lt_of_ble rfl)
             apply Wk.leno (i := 7) un22 rfl rfl (lt_of_ble rfl)
             apply Wk.addi rfl rfl (by omega) (lt_of_ble rfl)
             apply Wk.mv (by conv => lhs; whnf) (lt_of_ble rfl)
             apply Wk.fad 2 0 false fd34_2 rfl (lt_of_ble rfl)
             apply Wk.ld (i := 3) 1 false ty22 rfl rfl (by conv => lhs; whnf) (lt_of_ble rfl)
             apply Wk.leno (i := 7) un22 rfl rfl (lt_of_ble rfl)
             apply Wk.subi rfl rfl (by omega) (lt_of_ble rfl)
             apply Wk.drw 0 pick_ok Try.func26 rfl rfl rfl rfl ⟨_, rfl, by omega⟩ (by omega) rfl (lt_of_ble rfl)
             rintro r9 zs9 p9 ⟨k9, rfl, hk9⟩ hp9
             replace hk9 := hk9 _ rfl
             apply Wk.addi rfl rfl (by omega) (lt_of_ble rfl)
             apply Wk.fad 1 0 false fd34_1 rfl (lt_of_ble rfl)
             apply Wk.sto (i := 3) 1 false ty3 rfl rfl rfl rfl (Nat.le_of_ble_eq_true rfl) (lt_of_ble rfl)
             refine Wk.nil (thenA_normal ?_)
             refine ⟨(zs9, p9, ((cellsB bs4).length : Int) + 1 + (k9 : Int), q4, bs4), ⟨by simp only; omega, by simp only; omega, by simp only; omega, hb4⟩, fin _ _ _ _ _ _ rfl rfl rfl rfl rfl rfl rfl rfl⟩
           · rfl
           · rfl
         · exact ⟨(zs4, p4, l4, q4, bs4), ⟨by simp only; omega, hl3, hl4, hb4⟩, fin _ _ _ _ _ _ rfl rfl rfl rfl rfl rfl rfl rfl⟩
       · rintro ⟨zs5, p5, l5, q5, bs5⟩ ⟨hp5, hl5, hl6, hb5⟩
         simp only at hp5 hl5 hl6 hb5
         show AW Try.prog C _ _ (St.of 43 [(0, .ptr 0 0), (2, .ptr 2 0), (3, .ptr 3 0)] [(0, rdr zs5 p5), (2, .var [.d (.v (.int .i64 0)), .d (.v (.int .i64 0)), .d (.v (.slice none 0 0))]), (3, .var (partOA (k1 : Int) l5 q5)), (7, ownB q5 bs5)])
         refine AW.seq ?_
         apply AW.list
         apply Wk.ld (i := 3) 3 true ty34 rfl rfl (by conv => lhs; whnf) (lt_of_ble rfl)
         apply Wk.sto (i := 2) 3 true ty34 rfl rfl rfl rfl (Nat.le_of_ble_eq_true rfl) (lt_of_ble rfl)
         refine Wk.nil (AW.ret ?_)
         exact RetQ.ret [(0, rdr zs5 p5), (7, ownB q5 bs5)] (.cons ⟨2, 0, _, _, _, rfl, rfl, ty34, rfl⟩ .nil) ⟨_, _, _, rfl, by omega, (k1 : Int), l5, q5, bs5, rfl, rfl, by omega, by omega, hl5, hl6, hb5⟩ (kept2 rfl rfl)
 · rintro rest rfl; exact ⟨_, _, 0, 0, 0, [], rfl, rfl, by simp⟩
 · rintro rest r ex ⟨sg, ln, q, bs, rfl, rfl, _⟩; exact ⟨rfl, by simp [ownB_in]⟩
end Go.Proofs.Ytpghbdigiplbiaa
