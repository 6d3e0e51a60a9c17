/- Laws and contracts that the proof stands on: AbsCrx, AbsPart, AbsFrame, HearF, AbsLift, AbsHr, AbsHr2, AbsSr, AbsMk8, AbsPartOr1, AbsPartD. -/
import Derived.Test.YtejafihfbncaoaaDoorMa
import Derived.Test.YtejafihfbncaoaaDoorMb
import Derived.Test.YtejafihfbncaoaaDoorMc
import Derived.Test.YtejafihfbncaoaaDoorMd
import Derived.Test.YtejafihfbncaoaaDoorMe
import Derived.Test.YtejafihfbncaoaaDoorMf
import Derived.Laws.OwnMore
/- Who grants credits, over what values read as. Written by tools/mk_AbsCrx.py. -/
namespace Go.Proofs.YtejafihfbncaoaaDoor
open Go Go.RowKit
def crA (v m : Int) (bs : List (Fin 256)) (d : Bool) : A := .agg [.d (.v (.int .i64 v)), .d (.v (.int .i64 m)), .d (fbytes bs), .d (.v (.bool d))]
def crN : List A := [.d (.v (.int .i64 0)), .d (.v (.int .i64 0)), .d (.v (.slice none 0 0)), .d (.v (.bool false))]
def crNil : A := .agg [.d (.v (.int .i64 0)), .d (.v (.int .i64 0)), .d (.v (.slice none 0 0)), .d (.v (.bool false))]
def crxB (v m : Int) (n : Nat) : Bool := inB v 0 255 && joinB m n
theorem ijoinA {m : Int} {bs : List (Fin 256)} {t : Bool} (h : joinB m bs.length = t) : DataOk Tryd.prog 59 [joinA m bs] (.d (.v (.bool t))) := by
  subst h
  refine DataOk.lift fun w F E H args _ hs hd => ?_
  obtain ⟨v, rfl, hv⟩ := arg1 hs hd
  obtain ⟨cs, rfl, hs', _, h⟩ := den_agg hv
  have hs2 : cs.toList.length = 2 := by simpa using hs'
  match hl' : cs.toList, hs2 with
  | [x0, x1], _ =>
    obtain rfl : cs = #[x0, x1] := by rw [← Array.toArray_toList (xs := cs), hl']
    obtain rfl := den_v (h 0 _ rfl)
    obtain ⟨g, n, cap, rfl, hn⟩ := den_row (den_d (h 1 _ rfl))
    simp only [List.length_map] at hn
    subst hn
    exact impl_join _ _ _ _ _
theorem sjoinA {m : Int} {bs : List (Fin 256)} {t : Bool} (h : joinB m bs.length = t) : DataOk Tryd.prog 58 [joinA m bs] (.d (.v (.bool t))) := by
  subst h
  refine DataOk.lift fun w F E H args _ hs hd => ?_
  obtain ⟨v, rfl, hv⟩ := arg1 hs hd
  obtain ⟨cs, rfl, hs', _, h⟩ := den_agg hv
  have hs2 : cs.toList.length = 2 := by simpa using hs'
  match hl' : cs.toList, hs2 with
  | [x0, x1], _ =>
    obtain rfl : cs = #[x0, x1] := by rw [← Array.toArray_toList (xs := cs), hl']
    obtain rfl := den_v (h 0 _ rfl)
    obtain ⟨g, n, cap, rfl, hn⟩ := den_row (den_d (h 1 _ rfl))
    simp only [List.length_map] at hn
    subst hn
    exact spec_join _ _ _ _ _
theorem icrx_ok (v m : Int) (bs : List (Fin 256)) (d : Bool) : DataOk Tryd.prog 26 [crA v m bs d] (.d (.v (.bool (crxB v m bs.length)))) := by
  unfold crxB
  cases k : inB v 0 255
  · skip
    refine Spec.intro (n := 11) (rv := [.tmp 2]) Tryd.func26 rfl rfl rfl (by simp) fun C hN hX => ?_
    refine AW.seq ?_
    apply AW.list
    apply Wk.bx 1 rfl rfl (lt_of_ble rfl)
    apply Wk.asg (by conv => lhs; whnf) (lt_of_ble rfl)
    refine Wk.nil ?_
    refine AW.seq ?_
    apply AW.list
    apply Wk.fad 0 0 false fd50_0 rfl (lt_of_ble rfl)
    apply Wk.ld (i := 1) 1 false ty3 rfl rfl (by conv => lhs; whnf) (lt_of_ble rfl)
    apply Wk.dat (inoneb k) Tryd.func48 rfl rfl rfl rfl rfl (lt_of_ble rfl)
    apply Wk.mv (by conv => lhs; whnf) (lt_of_ble rfl)
    apply Wk.goff 6 (ok_faddr fd50_1) rfl rfl (by decide)
    apply Wk.goff 6 (ok_load 1 ty48) rfl rfl (by decide)
    apply Wk.goff 6 (ok_datw ((ijoinA (m := 0) (bs := []) rfl).w rfl) Tryd.func59 rfl rfl) rfl rfl (by decide)
    apply Wk.pckF rfl (by conv => lhs; whnf) (lt_of_ble rfl)
    apply Wk.asg (by conv => lhs; whnf) (lt_of_ble rfl)
    refine Wk.nil (AW.ret ?_)
    exact RetQ.ret [] (.cons rfl .nil) ⟨rfl, rfl⟩ none_kept
  · skip
    refine Spec.intro (n := 11) (rv := [.tmp 2]) Tryd.func26 rfl rfl rfl (by simp) fun C hN hX => ?_
    refine AW.seq ?_
    apply AW.list
    apply Wk.bx 1 rfl rfl (lt_of_ble rfl)
    apply Wk.asg (by conv => lhs; whnf) (lt_of_ble rfl)
    refine Wk.nil ?_
    refine AW.seq ?_
    apply AW.list
    apply Wk.fad 0 0 false fd50_0 rfl (lt_of_ble rfl)
    apply Wk.ld (i := 1) 1 false ty3 rfl rfl (by conv => lhs; whnf) (lt_of_ble rfl)
    apply Wk.dat (inoneb k) Tryd.func48 rfl rfl rfl rfl rfl (lt_of_ble rfl)
    apply Wk.mv (by conv => lhs; whnf) (lt_of_ble rfl)
    apply Wk.gon 6 rfl rfl
    apply Wk.fad 1 1 true fd50_1 rfl (lt_of_ble rfl)
    apply Wk.gon 6 rfl rfl
    apply Wk.ld (i := 1) 2 true ty48 rfl rfl (by conv => lhs; whnf) (lt_of_ble rfl)
    apply Wk.gon 6 rfl rfl
    apply Wk.dat (ijoinA rfl) Tryd.func59 rfl rfl rfl rfl rfl (lt_of_ble rfl)
    apply Wk.pckT rfl (by conv => lhs; whnf) (lt_of_ble rfl)
    apply Wk.asg (by conv => lhs; whnf) (lt_of_ble rfl)
    refine Wk.nil (AW.ret ?_)
    exact RetQ.ret [] (.cons rfl .nil) ⟨rfl, rfl⟩ none_kept
theorem scrx_ok (v m : Int) (bs : List (Fin 256)) (d : Bool) : DataOk Tryd.prog 25 [crA v m bs d] (.d (.v (.bool (crxB v m bs.length)))) := by
  unfold crxB
  cases k : inB v 0 255
  · skip
    refine Spec.intro (n := 11) (rv := [.tmp 2]) Tryd.func25 rfl rfl rfl (by simp) fun C hN hX => ?_
    refine AW.seq ?_
    apply AW.list
    apply Wk.bx 1 rfl rfl (lt_of_ble rfl)
    apply Wk.asg (by conv => lhs; whnf) (lt_of_ble rfl)
    refine Wk.nil ?_
    refine AW.seq ?_
    apply AW.list
    apply Wk.fad 0 0 false fd50_0 rfl (lt_of_ble rfl)
    apply Wk.ld (i := 1) 1 false ty3 rfl rfl (by conv => lhs; whnf) (lt_of_ble rfl)
    apply Wk.dat (sinb k) Tryd.func45 rfl rfl rfl rfl rfl (lt_of_ble rfl)
    apply Wk.mv (by conv => lhs; whnf) (lt_of_ble rfl)
    apply Wk.goff 6 (ok_faddr fd50_1) rfl rfl (by decide)
    apply Wk.goff 6 (ok_load 1 ty48) rfl rfl (by decide)
    apply Wk.goff 6 (ok_datw ((sjoinA (m := 0) (bs := []) rfl).w rfl) Tryd.func58 rfl rfl) rfl rfl (by decide)
    apply Wk.pckF rfl (by conv => lhs; whnf) (lt_of_ble rfl)
    apply Wk.asg (by conv => lhs; whnf) (lt_of_ble rfl)
    refine Wk.nil (AW.ret ?_)
    exact RetQ.ret [] (.cons rfl .nil) ⟨rfl, rfl⟩ none_kept
  · skip
    refine Spec.intro (n := 11) (rv := [.tmp 2]) Tryd.func25 rfl rfl rfl (by simp) fun C hN hX => ?_
    refine AW.seq ?_
    apply AW.list
    apply Wk.bx 1 rfl rfl (lt_of_ble rfl)
    apply Wk.asg (by conv => lhs; whnf) (lt_of_ble rfl)
    refine Wk.nil ?_
    refine AW.seq ?_
    apply AW.list
    apply Wk.fad 0 0 false fd50_0 rfl (lt_of_ble rfl)
    apply Wk.ld (i := 1) 1 false ty3 rfl rfl (by conv => lhs; whnf) (lt_of_ble rfl)
    apply Wk.dat (sinb k) Tryd.func45 rfl rfl rfl rfl rfl (lt_of_ble rfl)
    apply Wk.mv (by conv => lhs; whnf) (lt_of_ble rfl)
    apply Wk.gon 6 rfl rfl
    apply Wk.fad 1 1 true fd50_1 rfl (lt_of_ble rfl)
    apply Wk.gon 6 rfl rfl
    apply Wk.ld (i := 1) 2 true ty48 rfl rfl (by conv => lhs; whnf) (lt_of_ble rfl)
    apply Wk.gon 6 rfl rfl
    apply Wk.dat (sjoinA rfl) Tryd.func58 rfl rfl rfl rfl rfl (lt_of_ble rfl)
    apply Wk.pckT rfl (by conv => lhs; whnf) (lt_of_ble rfl)
    apply Wk.asg (by conv => lhs; whnf) (lt_of_ble rfl)
    refine Wk.nil (AW.ret ?_)
    exact RetQ.ret [] (.cons rfl .nil) ⟨rfl, rfl⟩ none_kept
theorem icrxb {v m : Int} {bs : List (Fin 256)} {t : Bool} (d : Bool) (h : crxB v m bs.length = t) : DataOk Tryd.prog 26 [crA v m bs d] (.d (.v (.bool t))) := h ▸ icrx_ok v m bs d
theorem scrxb {v m : Int} {bs : List (Fin 256)} {t : Bool} (d : Bool) (h : crxB v m bs.length = t) : DataOk Tryd.prog 25 [crA v m bs d] (.d (.v (.bool t))) := h ▸ scrx_ok v m bs d
theorem crx_facts {v m : Int} {n : Nat} (h : crxB v m n = true) : (0 ≤ v ∧ v ≤ 255) ∧ joinB m n = true := by
  simp only [crxB, Bool.and_eq_true] at h
  exact ⟨(inB_iff _ _ _).1 h.1, h.2⟩
theorem sl8r_ok (v m : Int) (bs : List (Fin 256)) (d : Bool) (hl : bs.length ≤ 1000) : DataOk Tryd.prog 57 [crA v m bs d] (crA v m bs d) := by
  refine Spec.intro (n := 13) (rv := [.cell 2 50]) Tryd.func57 rfl rfl rfl (by simp) fun C hN hX => ?_
  refine AW.seq ?_
  apply AW.list
  apply Wk.bx 1 rfl rfl (lt_of_ble rfl)
  apply Wk.alc 2 [.int .i64 0, .int .i64 0, .slice none 0 0, .bool false] ze50 rfl rfl (lt_of_ble rfl)
  refine Wk.nil ?_
  refine AW.seq ?_
  apply AW.list
  apply Wk.ld (i := 1) 4 true ty50 rfl rfl (by conv => lhs; whnf) (lt_of_ble rfl)
  apply Wk.alc 3 [.int .i64 0, .int .i64 0, .slice none 0 0, .bool false] ze50 rfl rfl (lt_of_ble rfl)
  apply Wk.sto (i := 3) 4 true ty50 rfl rfl rfl rfl (Nat.le_of_ble_eq_true rfl) (lt_of_ble rfl)
  refine Wk.nil ?_
  refine AW.seq ?_
  apply AW.list
  apply Wk.lst 5 1 false [.int .u8 0] un22 ty5 ze5 rfl rfl (by rfl) (by rfl) (by decide) (by decide) rfl rfl (all_len rfl) (lt_of_ble rfl)
  apply Wk.fad 1 1 true fd50_1 rfl (lt_of_ble rfl)
  apply Wk.fad 1 0 false fd48_1 rfl (lt_of_ble rfl)
  apply Wk.ld (i := 1) 1 false ty22 rfl rfl (by conv => lhs; whnf) (lt_of_ble rfl)
  apply Wk.appOR 5 1000 1 un22 ap5 rfl rfl rfl (.inr rfl) (by decide) (one_bytes _) (by simp) (by simp; omega) (lt_of_ble rfl)
  apply Wk.fad 1 1 true fd50_1 rfl (lt_of_ble rfl)
  apply Wk.fad 1 0 false fd48_1 rfl (lt_of_ble rfl)
  apply Wk.sto (i := 3) 1 false ty22 rfl rfl rfl rfl (Nat.le_of_ble_eq_true rfl) (lt_of_ble rfl)
  refine Wk.nil (thenA_normal ?_)
  refine AW.thawc (j := 3) (c := 2) (i := 5) (cellsD bs) rfl rfl rfl (asData_cd bs) hX.none ?_
  refine AW.seq ?_
  apply AW.list
  apply Wk.ld (i := 3) 4 true ty50 rfl rfl (by conv => lhs; whnf) (lt_of_ble rfl)
  apply Wk.sto (i := 2) 4 true ty50 rfl rfl rfl rfl (Nat.le_of_ble_eq_true rfl) (lt_of_ble rfl)
  refine Wk.nil (AW.ret ?_)
  exact RetQ.ret [] (.cons ⟨2, 0, _, _, _, rfl, rfl, ty50, rfl⟩ .nil) ⟨rfl, rfl⟩ none_kept
def crPost (_ : List A) (r : A) : Prop := ∃ (v m : Int) (bs : List (Fin 256)) (d : Bool), r = crA v m bs d ∧ (-1 ≤ v ∧ v ≤ 256) ∧ (-1 ≤ m ∧ m ≤ 100) ∧ bs.length ≤ 1000
set_option maxRecDepth 100000 in
theorem l20Crx_ok : DrawOk Tryd.prog 54 (fun rest => ∃ n : Int, rest = [.d (.v (.int .i64 n))] ∧ n ≤ 1000000 ∧ -1000000 ≤ n) crPost 13000 := by
  refine DrawOk.zero ?_ ?_ ?_ ?_
  · rintro zs p rest ⟨n, rfl, hn, hn'⟩ hp
    refine Spec.intro (n := 30) (rv := [.cell 4 50]) Tryd.func54 rfl rfl rfl (by simp) fun C hN hX => ?_
    refine AW.seq ?_
    apply AW.list
    apply Wk.alc 4 [.int .i64 0, .int .i64 0, .slice none 0 0, .bool false] ze50 rfl rfl (lt_of_ble rfl)
    refine Wk.nil ?_
    refine AW.seq ?_
    apply AW.list
    apply Wk.mv (by conv => lhs; whnf) (lt_of_ble rfl)
    apply Wk.drw 0 pick_ok Tryd.func52 rfl rfl rfl rfl ⟨_, rfl, by omega⟩ (by omega) rfl (lt_of_ble rfl)
    rintro r1 zs1 p1 ⟨k1, rfl, hk1⟩ hp1
    replace hk1 := hk1 _ rfl
    apply Wk.mv (by conv => lhs; whnf) (lt_of_ble rfl)
    apply Wk.drw 0 join_ok Tryd.func81 rfl rfl rfl rfl ⟨_, rfl, by omega⟩ (by omega) rfl (lt_of_ble rfl)
    rintro r2 zs2 p2 ⟨m, bs, rfl, hm1, hm2, hbs⟩ hp2
    apply Wk.mv (by conv => lhs; whnf) (lt_of_ble rfl)
    apply Wk.drw 0 pick_ok Tryd.func52 rfl rfl rfl rfl ⟨_, rfl, by omega⟩ (by omega) rfl (lt_of_ble rfl)
    rintro r3 zs3 p3 ⟨k3, rfl, _⟩ hp3
    apply Wk.bin rfl rfl (fun w => by simp [go_sem] <;> rfl) (lt_of_ble rfl)
    apply Wk.bld [.int .i64 0, .int .i64 0, .slice none 0 0, .bool false] [(0, 1), (1, 2), (3, 1)] bl50 rfl (by conv => lhs; whnf) (lt_of_ble rfl)
    apply Wk.alc 5 [.int .i64 0, .int .i64 0, .slice none 0 0, .bool false] ze50 rfl rfl (lt_of_ble rfl)
    apply Wk.sto (i := 5) 4 true ty50 rfl rfl rfl rfl (Nat.le_of_ble_eq_true rfl) (lt_of_ble rfl)
    refine Wk.nil ?_
    obtain ⟨d, hd⟩ : ∃ a : Bool, ((k3 : Int) == 0) = a := ⟨_, rfl⟩
    have hk : k1 < 7 := by omega
    let inv : List (Fin 256) × Nat × Int × Int × List (Fin 256) → St := fun x => St.of 30 [(0, .ptr 0 0), (4, .ptr 4 0), (5, .ptr 5 0)] [(0, rdr x.1 x.2.1), (4, .var crN), (5, .var [.d (.v (.int .i64 x.2.2.1)), .d (.v (.int .i64 x.2.2.2.1)), .d (fbytes x.2.2.2.2), .d (.v (.bool d))])]
    refine AW.keep (n := 30) (ts := [(0, .ptr 0 0), (1, .d (.v (.int .i64 n))), (4, .ptr 4 0), (5, .ptr 5 0)]) (bs := [(0, rdr zs3 p3), (4, .var crN), (5, .var [.d (.v (.int .i64 (k1 : Int))), .d (.v (.int .i64 m)), .d (fbytes bs), .d (.v (.bool d))])]) ⟨rfl, .cons rfl rfl (.cons rfl rfl (.cons rfl rfl (.cons rfl rfl .nil))), .cons rfl rfl (.cons rfl rfl (.cons (by rw [← hd]; rfl) rfl .nil)), hN.mono (by simp [keys])⟩ ?_
    refine AW.via inv (fun x => x.2.1 ≤ p + 13000 ∧ (-1 ≤ x.2.2.1 ∧ x.2.2.1 ≤ 256) ∧ (-1 ≤ x.2.2.2.1 ∧ x.2.2.2.1 ≤ 100) ∧ x.2.2.2.2.length ≤ 1000) ?_ ?_
    · refine AW.seq ?_
      apply AW.list
      apply Wk.mv (by conv => lhs; whnf) (lt_of_ble rfl)
      apply Wk.mv (by conv => lhs; whnf) (lt_of_ble rfl)
      apply Wk.drw 0 odd_ok Tryd.func61 rfl rfl rfl rfl ⟨_, rfl, by omega⟩ (by omega) rfl (lt_of_ble rfl)
      rintro r6 zs6 p6 ⟨b6, rfl, _⟩ hp6
      refine Wk.nil ?_
      refine AW.cond rfl (fun hc => ?_) (fun hc => ?_)
      · refine AW.seq ?_
        apply AW.list
        apply Wk.mv (by conv => lhs; whnf) (lt_of_ble rfl)
        apply Wk.drw 0 pick_ok Tryd.func52 rfl rfl rfl rfl ⟨_, rfl, by omega⟩ (by omega) rfl (lt_of_ble rfl)
        rintro r7 zs7 p7 ⟨k7, rfl, _⟩ hp7
        apply Wk.bin rfl rfl (fun w => by simp [go_sem] <;> rfl) (lt_of_ble rfl)
        refine Wk.nil ?_
        refine AW.cond rfl (fun hc => ?_) (fun hc => ?_)
        · apply AW.list
          apply Wk.lst 20 1 false [.int .i64 0] un89 ty3 ze3 rfl rfl (by rfl) (by rfl) (by decide) (by decide) rfl rfl (all_len rfl) (lt_of_ble rfl)
          apply Wk.mv (by conv => lhs; whnf) (lt_of_ble rfl)
          apply Wk.drw 0 pick_ok Tryd.func52 rfl rfl rfl rfl ⟨_, rfl, by omega⟩ (by omega) rfl (lt_of_ble rfl)
          rintro r8 zs8 p8 ⟨k, rfl, hk9⟩ hp8
          have hk' : k < 3 := by have := hk9 3 rfl; omega
          obtain ⟨v, hv, hv1, hv2⟩ : ∃ v : Int, partA (List.flatten [[A.d (.v (.int .i64 (-1)))], [.d (.v (.int .i64 256))], [.d (.v (.int .i64 255))]]) (k * 1) 1 false = some (.d (.v (.int .i64 v))) ∧ -1 ≤ v ∧ v ≤ 256 := by
            rcases (show k = 0 ∨ k = 1 ∨ k = 2 by omega) with rfl | rfl | rfl
            · exact ⟨_, rfl, by decide, by decide⟩
            · exact ⟨_, rfl, by decide, by decide⟩
            · exact ⟨_, rfl, by decide, by decide⟩
          apply Wk.iado 20 1 false un89 ty3 rfl rfl rfl hk' (lt_of_ble rfl)
          apply Wk.ldo (i := 20) 1 false ty3 rfl rfl hv (lt_of_ble rfl)
          apply Wk.fad 0 0 false fd50_0 rfl (lt_of_ble rfl)
          apply Wk.sto (i := 5) 1 false ty3 rfl rfl rfl rfl (Nat.le_of_ble_eq_true rfl) (lt_of_ble rfl)
          refine Wk.nil (thenA_normal ?_)
          exact ⟨(zs8, p8, v, m, bs), ⟨by simp only; omega, ⟨hv1, hv2⟩, ⟨hm1, hm2⟩, hbs⟩, fun a w => Rel.keep ⟨rfl, .cons rfl rfl (.cons rfl rfl (.cons rfl rfl .nil)), .cons rfl rfl (.cons rfl rfl (.cons rfl rfl .nil)), hN.mono (by simp [keys])⟩⟩
        · apply AW.list
          apply Wk.mv (by conv => lhs; whnf) (lt_of_ble rfl)
          apply Wk.drw 0 join_ok Tryd.func81 rfl rfl rfl rfl ⟨_, rfl, by omega⟩ (by omega) rfl (lt_of_ble rfl)
          rintro r8 zs8 p8 ⟨m8, bs8, rfl, hq1, hq2, hq3⟩ hp8
          apply Wk.fad 1 1 true fd50_1 rfl (lt_of_ble rfl)
          apply Wk.sto (i := 5) 2 true ty48 rfl rfl rfl rfl (Nat.le_of_ble_eq_true rfl) (lt_of_ble rfl)
          refine Wk.nil (thenA_normal ?_)
          exact ⟨(zs8, p8, (k1 : Int), m8, bs8), ⟨by simp only; omega, by simp only; omega, ⟨hq1, hq2⟩, hq3⟩, fun a w => Rel.keep ⟨rfl, .cons rfl rfl (.cons rfl rfl (.cons rfl rfl .nil)), .cons rfl rfl (.cons rfl rfl (.cons rfl rfl .nil)), hN.mono (by simp [keys])⟩⟩
      · refine AW.skip (thenA_normal ?_)
        exact ⟨(zs6, p6, (k1 : Int), m, bs), ⟨by simp only; omega, by simp only; omega, ⟨hm1, hm2⟩, hbs⟩, fun a w => Rel.keep ⟨rfl, .cons rfl rfl (.cons rfl rfl (.cons rfl rfl .nil)), .cons rfl rfl (.cons rfl rfl (.cons rfl rfl .nil)), hN.mono (by simp [keys])⟩⟩
    · rintro ⟨zs8, p8, v, m8, bs8⟩ ⟨hp8, h1, h2, h3⟩
      simp only at hp8 h1 h2 h3
      show AW Tryd.prog C _ _ (St.of 30 [(0, .ptr 0 0), (4, .ptr 4 0), (5, .ptr 5 0)] [(0, rdr zs8 p8), (4, .var crN), (5, .var [.d (.v (.int .i64 v)), .d (.v (.int .i64 m8)), .d (fbytes bs8), .d (.v (.bool d))])])
      refine AW.seq ?_
      apply AW.list
      apply Wk.ld (i := 5) 4 true ty50 rfl rfl (by conv => lhs; whnf) (lt_of_ble rfl)
      apply Wk.sto (i := 4) 4 true ty50 rfl rfl rfl rfl (Nat.le_of_ble_eq_true rfl) (lt_of_ble rfl)
      refine Wk.nil (AW.ret ?_)
      exact RetQ.ret [(0, rdr zs8 p8)] (.cons ⟨4, 0, _, _, _, rfl, rfl, ty50, rfl⟩ .nil) ⟨⟨v, m8, bs8, d, rfl, h1, h2, h3⟩, _, _, rfl, hp8⟩ (kept1 rfl)
  · rintro rest ⟨n, rfl, _⟩; rfl
  · rintro rest _; exact ⟨_, 0, 0, [], false, rfl, by omega, by omega, by simp⟩
  · rintro rest r ⟨v, m, bs, d, rfl, _⟩; rfl
/-! The grant. -/
def idleG (v : Int) (d : Bool) : Prop := d = true ∨ 6 ≤ v
set_option maxHeartbeats 8000000 in
set_option maxRecDepth 100000 in
theorem scgrantNo (v m : Int) (bs : List (Fin 256)) (d : Bool) (hok : crxB v m bs.length = false) : DataOk Tryd.prog 23 [crA v m bs d] (.tup [crNil, frmNo, .d (.v (.bool false))]) := by
  refine Spec.intro (n := 28) (rv := [.cell 2 50, .cell 3 31, .tmp 4]) Tryd.func23 rfl rfl rfl (by simp) fun C hN hX => ?_
  refine AW.seq ?_
  apply AW.list
  apply Wk.bx 1 rfl rfl (lt_of_ble rfl)
  apply Wk.alc 2 [.int .i64 0, .int .i64 0, .slice none 0 0, .bool false] ze50 rfl rfl (lt_of_ble rfl)
  apply Wk.alc 3 [.int .i64 0, .int .i64 0, .int .i64 0, .bool false, .bool false, .int .i64 0, .int .i64 0, .int .i64 0, .slice none 0 0] ze31 rfl rfl (lt_of_ble rfl)
  apply Wk.asg (by conv => lhs; whnf) (lt_of_ble rfl)
  refine Wk.nil ?_
  refine AW.seq (AW.seq ?_)
  apply AW.list
  apply Wk.ld (i := 1) 4 true ty50 rfl rfl (by conv => lhs; whnf) (lt_of_ble rfl)
  apply Wk.dat (scrxb d hok) Tryd.func25 rfl rfl rfl rfl rfl (lt_of_ble rfl)
  apply Wk.un rfl (fun w => by simp [go_sem] <;> rfl) (lt_of_ble rfl)
  refine Wk.nil ?_
  refine AW.cond rfl (fun _ => ?_) (fun hc => by cases hc)
  refine AW.seq ?_
  apply AW.list
  apply Wk.bld [.int .i64 0, .int .i64 0, .slice none 0 0, .bool false] [(0, 1), (1, 2), (3, 1)] bl50 rfl (by conv => lhs; whnf) (lt_of_ble rfl)
  apply Wk.bld [.int .i64 0, .int .i64 0, .int .i64 0, .bool false, .bool false, .int .i64 0, .int .i64 0, .int .i64 0, .slice none 0 0] [(0, 1), (1, 1), (2, 1), (3, 1), (4, 1), (5, 1), (6, 1), (7, 1), (8, 1)] bl31 rfl (by conv => lhs; whnf) (lt_of_ble rfl)
  apply Wk.sto (i := 2) 4 true ty50 rfl rfl rfl rfl (Nat.le_of_ble_eq_true rfl) (lt_of_ble rfl)
  apply Wk.sto (i := 3) 9 true ty31 rfl rfl rfl rfl (Nat.le_of_ble_eq_true rfl) (lt_of_ble rfl)
  apply Wk.asg (by conv => lhs; whnf) (lt_of_ble rfl)
  refine Wk.nil (AW.ret ?_)
  repeat (first | refine thenA_ret ?_ | refine inBlockA_ret ?_)
  exact RetQ.ret [] (.cons ⟨2, 0, _, _, _, rfl, rfl, ty50, rfl⟩ (.cons ⟨3, 0, _, _, _, rfl, rfl, ty31, rfl⟩ (.cons rfl .nil))) ⟨rfl, rfl⟩ none_kept
set_option maxHeartbeats 8000000 in
set_option maxRecDepth 100000 in
theorem scgrantIdle (v m : Int) (bs : List (Fin 256)) (d : Bool) (hok : crxB v m bs.length = true) (hl : bs.length ≤ 1000) (hi : idleG v d) : DataOk Tryd.prog 23 [crA v m bs d] (.tup [crA v m bs d, frmNo, .d (.v (.bool false))]) := by
  simp only [idleG] at hi
  refine Spec.intro (n := 28) (rv := [.cell 2 50, .cell 3 31, .tmp 4]) Tryd.func23 rfl rfl rfl (by simp) fun C hN hX => ?_
  refine AW.seq ?_
  apply AW.list
  apply Wk.bx 1 rfl rfl (lt_of_ble rfl)
  apply Wk.alc 2 [.int .i64 0, .int .i64 0, .slice none 0 0, .bool false] ze50 rfl rfl (lt_of_ble rfl)
  apply Wk.alc 3 [.int .i64 0, .int .i64 0, .int .i64 0, .bool false, .bool false, .int .i64 0, .int .i64 0, .int .i64 0, .slice none 0 0] ze31 rfl rfl (lt_of_ble rfl)
  apply Wk.asg (by conv => lhs; whnf) (lt_of_ble rfl)
  refine Wk.nil ?_
  refine AW.seq (AW.seq ?_)
  apply AW.list
  apply Wk.ld (i := 1) 4 true ty50 rfl rfl (by conv => lhs; whnf) (lt_of_ble rfl)
  apply Wk.dat (scrxb d hok) Tryd.func25 rfl rfl rfl rfl rfl (lt_of_ble rfl)
  apply Wk.un rfl (fun w => by simp [go_sem] <;> rfl) (lt_of_ble rfl)
  refine Wk.nil ?_
  refine AW.cond rfl (fun hc => by cases hc) (fun _ => AW.skip (thenA_normal ?_))
  refine AW.seq ?_
  apply AW.list
  apply Wk.ld (i := 1) 4 true ty50 rfl rfl (by conv => lhs; whnf) (lt_of_ble rfl)
  apply Wk.dat (sl8r_ok v m bs d hl) Tryd.func57 rfl rfl rfl rfl rfl (lt_of_ble rfl)
  apply Wk.alc 5 [.int .i64 0, .int .i64 0, .slice none 0 0, .bool false] ze50 rfl rfl (lt_of_ble rfl)
  apply Wk.sto (i := 5) 4 true ty50 rfl rfl rfl rfl (Nat.le_of_ble_eq_true rfl) (lt_of_ble rfl)
  refine Wk.nil ?_
  refine AW.seq (AW.seq ?_)
  cases d
  · skip
    have hi : 6 ≤ v := by simpa using hi
    apply AW.list
    apply Wk.fad 3 0 false fd50_2 rfl (lt_of_ble rfl)
    apply Wk.ld (i := 1) 1 false ty4 rfl rfl (by conv => lhs; whnf) (lt_of_ble rfl)
    apply Wk.mv (by conv => lhs; whnf) (lt_of_ble rfl)
    apply Wk.gon 15 rfl rfl
    apply Wk.fad 0 0 false fd50_0 rfl (lt_of_ble rfl)
    apply Wk.gon 15 rfl rfl
    apply Wk.ld (i := 1) 1 false ty3 rfl rfl (by conv => lhs; whnf) (lt_of_ble rfl)
    apply Wk.gon 15 rfl rfl
    apply Wk.bin rfl rfl (r := .bool true) (fun w => by simp [go_sem] <;> omega) (lt_of_ble rfl)
    apply Wk.pckF rfl (by conv => lhs; whnf) (lt_of_ble rfl)
    refine Wk.nil ?_
    refine AW.cond rfl (fun _ => ?_) (fun hc => by cases hc)
    refine AW.seq ?_
    apply AW.list
    apply Wk.ld (i := 5) 4 true ty50 rfl rfl (by conv => lhs; whnf) (lt_of_ble rfl)
    apply Wk.bld [.int .i64 0, .int .i64 0, .int .i64 0, .bool false, .bool false, .int .i64 0, .int .i64 0, .int .i64 0, .slice none 0 0] [(0, 1), (1, 1), (2, 1), (3, 1), (4, 1), (5, 1), (6, 1), (7, 1), (8, 1)] bl31 rfl (by conv => lhs; whnf) (lt_of_ble rfl)
    apply Wk.sto (i := 2) 4 true ty50 rfl rfl rfl rfl (Nat.le_of_ble_eq_true rfl) (lt_of_ble rfl)
    apply Wk.sto (i := 3) 9 true ty31 rfl rfl rfl rfl (Nat.le_of_ble_eq_true rfl) (lt_of_ble rfl)
    apply Wk.asg (by conv => lhs; whnf) (lt_of_ble rfl)
    refine Wk.nil (AW.ret ?_)
    repeat (first | refine thenA_ret ?_ | refine inBlockA_ret ?_)
    exact RetQ.ret [] (.cons ⟨2, 0, _, _, _, rfl, rfl, ty50, rfl⟩ (.cons ⟨3, 0, _, _, _, rfl, rfl, ty31, rfl⟩ (.cons rfl .nil))) ⟨rfl, rfl⟩ none_kept
  · skip
    apply AW.list
    apply Wk.fad 3 0 false fd50_2 rfl (lt_of_ble rfl)
    apply Wk.ld (i := 1) 1 false ty4 rfl rfl (by conv => lhs; whnf) (lt_of_ble rfl)
    apply Wk.mv (by conv => lhs; whnf) (lt_of_ble rfl)
    apply Wk.goff 15 (ok_faddr fd50_0) rfl rfl (by simp)
    apply Wk.goff 15 (ok_load 1 ty3) rfl rfl (by simp)
    apply Wk.goff 15 (ok_bin _ _ _ _ _) rfl rfl (by simp)
    apply Wk.pckT rfl (by conv => lhs; whnf) (lt_of_ble rfl)
    refine Wk.nil ?_
    refine AW.cond rfl (fun _ => ?_) (fun hc => by cases hc)
    refine AW.seq ?_
    apply AW.list
    apply Wk.ld (i := 5) 4 true ty50 rfl rfl (by conv => lhs; whnf) (lt_of_ble rfl)
    apply Wk.bld [.int .i64 0, .int .i64 0, .int .i64 0, .bool false, .bool false, .int .i64 0, .int .i64 0, .int .i64 0, .slice none 0 0] [(0, 1), (1, 1), (2, 1), (3, 1), (4, 1), (5, 1), (6, 1), (7, 1), (8, 1)] bl31 rfl (by conv => lhs; whnf) (lt_of_ble rfl)
    apply Wk.sto (i := 2) 4 true ty50 rfl rfl rfl rfl (Nat.le_of_ble_eq_true rfl) (lt_of_ble rfl)
    apply Wk.sto (i := 3) 9 true ty31 rfl rfl rfl rfl (Nat.le_of_ble_eq_true rfl) (lt_of_ble rfl)
    apply Wk.asg (by conv => lhs; whnf) (lt_of_ble rfl)
    refine Wk.nil (AW.ret ?_)
    repeat (first | refine thenA_ret ?_ | refine inBlockA_ret ?_)
    exact RetQ.ret [] (.cons ⟨2, 0, _, _, _, rfl, rfl, ty50, rfl⟩ (.cons ⟨3, 0, _, _, _, rfl, rfl, ty31, rfl⟩ (.cons rfl .nil))) ⟨rfl, rfl⟩ none_kept
set_option maxHeartbeats 8000000 in
set_option maxRecDepth 100000 in
theorem scgrantOn (v m : Int) (bs : List (Fin 256)) (hok : crxB v m bs.length = true) (hl : bs.length ≤ 1000) (hv : v < 6) : DataOk Tryd.prog 23 [crA v m bs false] (.tup [crA 6 m bs false, frmZ 4 0 0 false false 0 0 (6 - v) (.v (.slice none 0 0)), .d (.v (.bool true))]) := by
  have hf := crx_facts hok
  refine Spec.intro (n := 28) (rv := [.cell 2 50, .cell 3 31, .tmp 4]) Tryd.func23 rfl rfl rfl (by simp) fun C hN hX => ?_
  refine AW.seq ?_
  apply AW.list
  apply Wk.bx 1 rfl rfl (lt_of_ble rfl)
  apply Wk.alc 2 [.int .i64 0, .int .i64 0, .slice none 0 0, .bool false] ze50 rfl rfl (lt_of_ble rfl)
  apply Wk.alc 3 [.int .i64 0, .int .i64 0, .int .i64 0, .bool false, .bool false, .int .i64 0, .int .i64 0, .int .i64 0, .slice none 0 0] ze31 rfl rfl (lt_of_ble rfl)
  apply Wk.asg (by conv => lhs; whnf) (lt_of_ble rfl)
  refine Wk.nil ?_
  refine AW.seq (AW.seq ?_)
  apply AW.list
  apply Wk.ld (i := 1) 4 true ty50 rfl rfl (by conv => lhs; whnf) (lt_of_ble rfl)
  apply Wk.dat (scrxb false hok) Tryd.func25 rfl rfl rfl rfl rfl (lt_of_ble rfl)
  apply Wk.un rfl (fun w => by simp [go_sem] <;> rfl) (lt_of_ble rfl)
  refine Wk.nil ?_
  refine AW.cond rfl (fun hc => by cases hc) (fun _ => AW.skip (thenA_normal ?_))
  refine AW.seq ?_
  apply AW.list
  apply Wk.ld (i := 1) 4 true ty50 rfl rfl (by conv => lhs; whnf) (lt_of_ble rfl)
  apply Wk.dat (sl8r_ok v m bs false hl) Tryd.func57 rfl rfl rfl rfl rfl (lt_of_ble rfl)
  apply Wk.alc 5 [.int .i64 0, .int .i64 0, .slice none 0 0, .bool false] ze50 rfl rfl (lt_of_ble rfl)
  apply Wk.sto (i := 5) 4 true ty50 rfl rfl rfl rfl (Nat.le_of_ble_eq_true rfl) (lt_of_ble rfl)
  refine Wk.nil ?_
  refine AW.seq (AW.seq ?_)
  apply AW.list
  apply Wk.fad 3 0 false fd50_2 rfl (lt_of_ble rfl)
  apply Wk.ld (i := 1) 1 false ty4 rfl rfl (by conv => lhs; whnf) (lt_of_ble rfl)
  apply Wk.mv (by conv => lhs; whnf) (lt_of_ble rfl)
  apply Wk.gon 15 rfl rfl
  apply Wk.fad 0 0 false fd50_0 rfl (lt_of_ble rfl)
  apply Wk.gon 15 rfl rfl
  apply Wk.ld (i := 1) 1 false ty3 rfl rfl (by conv => lhs; whnf) (lt_of_ble rfl)
  apply Wk.gon 15 rfl rfl
  apply Wk.bin rfl rfl (r := .bool false) (fun w => by simp [go_sem] <;> omega) (lt_of_ble rfl)
  apply Wk.pckF rfl (by conv => lhs; whnf) (lt_of_ble rfl)
  refine Wk.nil ?_
  refine AW.cond rfl (fun hc => by cases hc) (fun _ => AW.skip (thenA_normal ?_))
  refine AW.seq ?_
  apply AW.list
  apply Wk.fad 0 0 false fd50_0 rfl (lt_of_ble rfl)
  apply Wk.sto (i := 5) 1 false ty3 rfl rfl rfl rfl (Nat.le_of_ble_eq_true rfl) (lt_of_ble rfl)
  refine Wk.nil ?_
  refine AW.seq ?_
  apply AW.draw (hm := hmix) (cs := _)
  · apply Wk.ld (i := 5) 4 true ty50 rfl rfl (by conv => lhs; whnf) (lt_of_ble rfl)
    apply Wk.fad 0 0 false fd50_0 rfl (lt_of_ble rfl)
    apply Wk.ld (i := 1) 1 false ty3 rfl rfl (by conv => lhs; whnf) (lt_of_ble rfl)
    apply Wk.subi rfl rfl (by omega) (lt_of_ble rfl)
    apply Wk.bld [.int .i64 0, .int .i64 0, .int .i64 0, .bool false, .bool false, .int .i64 0, .int .i64 0, .int .i64 0, .slice none 0 0] [(0, 1), (1, 1), (2, 1), (3, 1), (4, 1), (5, 1), (6, 1), (7, 1), (8, 1)] bl31 rfl (by conv => lhs; whnf) (lt_of_ble rfl)
    apply Wk.sto (i := 2) 4 true ty50 rfl rfl rfl rfl (Nat.le_of_ble_eq_true rfl) (lt_of_ble rfl)
    apply Wk.sto (i := 3) 9 true ty31 rfl rfl rfl rfl (Nat.le_of_ble_eq_true rfl) (lt_of_ble rfl)
    apply Wk.asg (by conv => lhs; whnf) (lt_of_ble rfl)
    refine Wk.nil (AW.ret ?_)
    repeat (first | refine thenA_ret ?_ | refine inBlockA_ret ?_)
    exact RetQ.ret [] (.cons ⟨2, 0, _, _, _, rfl, rfl, ty50, rfl⟩ (.cons ⟨3, 0, _, _, _, rfl, rfl, ty31, rfl⟩ (.cons rfl .nil))) ⟨rfl, rfl⟩ none_kept
  · rfl
  · rfl
section
variable {V : List (Nat × Value)} {a : Addr}
theorem imisNo (n : Int) (hn : 6 ≤ n) (h0 : (3, errV a) ∈ V) : DataV Tryd.prog V 56 [.d (.v (.int .i64 n))] (.tup [.d (.v (.int .i64 0)), .d (.v (errV a))]) := by
  refine DataV.intro (n := 9) (rv := [.tmp 2, .tmp 3]) Tryd.func56 rfl rfl rfl (by simp) fun C hV hN hX => ?_
  refine AW.seq ?_
  apply AW.list
  apply Wk.asg (by conv => lhs; whnf) (lt_of_ble rfl)
  apply Wk.asg (by conv => lhs; whnf) (lt_of_ble rfl)
  refine Wk.nil ?_
  refine AW.seq (AW.seq ?_)
  apply AW.list
  apply Wk.mv (by conv => lhs; whnf) (lt_of_ble rfl)
  apply Wk.bin rfl rfl (r := .bool true) (fun w => by simp [go_sem] <;> omega) (lt_of_ble rfl)
  refine Wk.nil ?_
  refine AW.cond rfl (fun _ => ?_) (fun hc => by cases hc)
  refine AW.seq ?_
  apply AW.draw (hm := hmix) (cs := _)
  · apply Wk.ldv hX hV tyErr h0 (lt_of_ble rfl)
    apply Wk.asg (by conv => lhs; whnf) (lt_of_ble rfl)
    apply Wk.asg (by conv => lhs; whnf) (lt_of_ble rfl)
    refine Wk.nil (AW.ret ?_)
    repeat (first | refine thenA_ret ?_ | refine inBlockA_ret ?_)
    exact RetQ.ret [] (.cons rfl (.cons rfl .nil)) ⟨rfl, rfl⟩ none_kept
  · rfl
  · rfl
theorem imisOn (n : Int) (hn : n < 6) (hn2 : 0 ≤ n) : DataV Tryd.prog V 56 [.d (.v (.int .i64 n))] (.tup [.d (.v (.int .i64 (6 - n))), .d (.v .nilIface)]) := by
  refine DataV.intro (n := 9) (rv := [.tmp 2, .tmp 3]) Tryd.func56 rfl rfl rfl (by simp) fun C hV hN hX => ?_
  refine AW.seq ?_
  apply AW.list
  apply Wk.asg (by conv => lhs; whnf) (lt_of_ble rfl)
  apply Wk.asg (by conv => lhs; whnf) (lt_of_ble rfl)
  refine Wk.nil ?_
  refine AW.seq (AW.seq ?_)
  apply AW.list
  apply Wk.mv (by conv => lhs; whnf) (lt_of_ble rfl)
  apply Wk.bin rfl rfl (r := .bool false) (fun w => by simp [go_sem] <;> omega) (lt_of_ble rfl)
  refine Wk.nil ?_
  refine AW.cond rfl (fun hc => by cases hc) (fun _ => AW.skip (thenA_normal ?_))
  refine AW.seq ?_
  apply AW.list
  apply Wk.mv (by conv => lhs; whnf) (lt_of_ble rfl)
  apply Wk.subi rfl rfl (by omega) (lt_of_ble rfl)
  apply Wk.asg (by conv => lhs; whnf) (lt_of_ble rfl)
  apply Wk.asg (by conv => lhs; whnf) (lt_of_ble rfl)
  refine Wk.nil (AW.ret ?_)
  exact RetQ.ret [] (.cons rfl (.cons rfl .nil)) ⟨rfl, rfl⟩ none_kept
set_option maxHeartbeats 8000000 in
set_option maxRecDepth 100000 in
theorem icgrantNo (v m : Int) (bs : List (Fin 256)) (d : Bool) (hok : crxB v m bs.length = false) : DataV Tryd.prog V 22 [crA v m bs d] (.tup [crNil, frmNo, .d (.v (.bool false))]) := by
  refine DataV.intro (n := 35) (rv := [.cell 2 50, .cell 3 31, .tmp 4]) Tryd.func22 rfl rfl rfl (by simp) fun C hV hN hX => ?_
  refine AW.seq ?_
  apply AW.list
  apply Wk.bx 1 rfl rfl (lt_of_ble rfl)
  apply Wk.alc 2 [.int .i64 0, .int .i64 0, .slice none 0 0, .bool false] ze50 rfl rfl (lt_of_ble rfl)
  apply Wk.alc 3 [.int .i64 0, .int .i64 0, .int .i64 0, .bool false, .bool false, .int .i64 0, .int .i64 0, .int .i64 0, .slice none 0 0] ze31 rfl rfl (lt_of_ble rfl)
  apply Wk.asg (by conv => lhs; whnf) (lt_of_ble rfl)
  refine Wk.nil ?_
  refine AW.seq (AW.seq ?_)
  apply AW.list
  apply Wk.ld (i := 1) 4 true ty50 rfl rfl (by conv => lhs; whnf) (lt_of_ble rfl)
  apply Wk.dat (icrxb d hok) Tryd.func26 rfl rfl rfl rfl rfl (lt_of_ble rfl)
  apply Wk.un rfl (fun w => by simp [go_sem] <;> rfl) (lt_of_ble rfl)
  refine Wk.nil ?_
  refine AW.cond rfl (fun _ => ?_) (fun hc => by cases hc)
  refine AW.seq ?_
  apply AW.list
  apply Wk.bld [.int .i64 0, .int .i64 0, .slice none 0 0, .bool false] [(0, 1), (1, 2), (3, 1)] bl50 rfl (by conv => lhs; whnf) (lt_of_ble rfl)
  apply Wk.bld [.int .i64 0, .int .i64 0, .int .i64 0, .bool false, .bool false, .int .i64 0, .int .i64 0, .int .i64 0, .slice none 0 0] [(0, 1), (1, 1), (2, 1), (3, 1), (4, 1), (5, 1), (6, 1), (7, 1), (8, 1)] bl31 rfl (by conv => lhs; whnf) (lt_of_ble rfl)
  apply Wk.sto (i := 2) 4 true ty50 rfl rfl rfl rfl (Nat.le_of_ble_eq_true rfl) (lt_of_ble rfl)
  apply Wk.sto (i := 3) 9 true ty31 rfl rfl rfl rfl (Nat.le_of_ble_eq_true rfl) (lt_of_ble rfl)
  apply Wk.asg (by conv => lhs; whnf) (lt_of_ble rfl)
  refine Wk.nil (AW.ret ?_)
  repeat (first | refine thenA_ret ?_ | refine inBlockA_ret ?_)
  exact RetQ.ret [] (.cons ⟨2, 0, _, _, _, rfl, rfl, ty50, rfl⟩ (.cons ⟨3, 0, _, _, _, rfl, rfl, ty31, rfl⟩ (.cons rfl .nil))) ⟨rfl, rfl⟩ none_kept
set_option maxHeartbeats 8000000 in
set_option maxRecDepth 100000 in
theorem icgrantIdle (v m : Int) (bs : List (Fin 256)) (d : Bool) (hok : crxB v m bs.length = true) (hl : bs.length ≤ 1000) (hi : idleG v d) (h0 : (3, errV a) ∈ V) : DataV Tryd.prog V 22 [crA v m bs d] (.tup [crA v m bs d, frmNo, .d (.v (.bool false))]) := by
  have hf := crx_facts hok
  have hsm := (isSame_ok a).v (V := V)
  have hsn := (isNil_ok a).v (V := V)
  by_cases hv : 6 ≤ v
  · have hm := imisNo (V := V) v hv h0
    cases d
    · skip
      refine DataV.intro (n := 35) (rv := [.cell 2 50, .cell 3 31, .tmp 4]) Tryd.func22 rfl rfl rfl (by simp) fun C hV hN hX => ?_
      refine AW.seq ?_
      apply AW.list
      apply Wk.bx 1 rfl rfl (lt_of_ble rfl)
      apply Wk.alc 2 [.int .i64 0, .int .i64 0, .slice none 0 0, .bool false] ze50 rfl rfl (lt_of_ble rfl)
      apply Wk.alc 3 [.int .i64 0, .int .i64 0, .int .i64 0, .bool false, .bool false, .int .i64 0, .int .i64 0, .int .i64 0, .slice none 0 0] ze31 rfl rfl (lt_of_ble rfl)
      apply Wk.asg (by conv => lhs; whnf) (lt_of_ble rfl)
      refine Wk.nil ?_
      refine AW.seq (AW.seq ?_)
      apply AW.list
      apply Wk.ld (i := 1) 4 true ty50 rfl rfl (by conv => lhs; whnf) (lt_of_ble rfl)
      apply Wk.dat (icrxb false hok) Tryd.func26 rfl rfl rfl rfl rfl (lt_of_ble rfl)
      apply Wk.un rfl (fun w => by simp [go_sem] <;> rfl) (lt_of_ble rfl)
      refine Wk.nil ?_
      refine AW.cond rfl (fun hc => by cases hc) (fun _ => AW.skip (thenA_normal ?_))
      refine AW.seq ?_
      apply AW.list
      apply Wk.fad 1 1 true fd50_1 rfl (lt_of_ble rfl)
      apply Wk.ld (i := 1) 2 true ty48 rfl rfl (by conv => lhs; whnf) (lt_of_ble rfl)
      apply Wk.dat (copyJoin_ok m bs hl) Tryd.func55 rfl rfl rfl rfl rfl (lt_of_ble rfl)
      apply Wk.fad 1 1 true fd50_1 rfl (lt_of_ble rfl)
      apply Wk.sto (i := 1) 2 true ty48 rfl rfl rfl rfl (Nat.le_of_ble_eq_true rfl) (lt_of_ble rfl)
      refine Wk.nil ?_
      refine AW.seq ?_
      apply AW.list
      apply Wk.fad 0 0 false fd50_0 rfl (lt_of_ble rfl)
      apply Wk.ld (i := 1) 1 false ty3 rfl rfl (by conv => lhs; whnf) (lt_of_ble rfl)
      apply Wk.dav hm hX hV Tryd.func56 rfl rfl rfl rfl rfl (lt_of_ble rfl)
      apply Wk.mv (by conv => lhs; whnf) (lt_of_ble rfl)
      apply Wk.ext rfl rfl (lt_of_ble rfl)
      apply Wk.ext rfl rfl (lt_of_ble rfl)
      apply Wk.asg (by conv => lhs; whnf) (lt_of_ble rfl)
      apply Wk.asg (by conv => lhs; whnf) (lt_of_ble rfl)
      refine Wk.nil ?_
      refine AW.seq (AW.seq ?_)
      apply AW.list
      apply Wk.fad 3 0 false fd50_2 rfl (lt_of_ble rfl)
      apply Wk.ld (i := 1) 1 false ty4 rfl rfl (by conv => lhs; whnf) (lt_of_ble rfl)
      apply Wk.mv (by conv => lhs; whnf) (lt_of_ble rfl)
      apply Wk.gon 24 rfl rfl
      apply Wk.mv (by conv => lhs; whnf) (lt_of_ble rfl)
      apply Wk.gon 24 rfl rfl
      apply Wk.ldv hX hV tyErr h0 (lt_of_ble rfl)
      apply Wk.gon 24 rfl rfl
      apply Wk.dav hsm hX hV Tryd.func40 rfl rfl rfl rfl rfl (lt_of_ble rfl)
      apply Wk.pckF rfl (by conv => lhs; whnf) (lt_of_ble rfl)
      refine Wk.nil ?_
      refine AW.cond rfl (fun _ => ?_) (fun hc => by cases hc)
      refine AW.seq ?_
      apply AW.list
      apply Wk.ld (i := 1) 4 true ty50 rfl rfl (by conv => lhs; whnf) (lt_of_ble rfl)
      apply Wk.bld [.int .i64 0, .int .i64 0, .int .i64 0, .bool false, .bool false, .int .i64 0, .int .i64 0, .int .i64 0, .slice none 0 0] [(0, 1), (1, 1), (2, 1), (3, 1), (4, 1), (5, 1), (6, 1), (7, 1), (8, 1)] bl31 rfl (by conv => lhs; whnf) (lt_of_ble rfl)
      apply Wk.sto (i := 2) 4 true ty50 rfl rfl rfl rfl (Nat.le_of_ble_eq_true rfl) (lt_of_ble rfl)
      apply Wk.sto (i := 3) 9 true ty31 rfl rfl rfl rfl (Nat.le_of_ble_eq_true rfl) (lt_of_ble rfl)
      apply Wk.asg (by conv => lhs; whnf) (lt_of_ble rfl)
      refine Wk.nil (AW.ret ?_)
      repeat (first | refine thenA_ret ?_ | refine inBlockA_ret ?_)
      exact RetQ.ret [] (.cons ⟨2, 0, _, _, _, rfl, rfl, ty50, rfl⟩ (.cons ⟨3, 0, _, _, _, rfl, rfl, ty31, rfl⟩ (.cons rfl .nil))) ⟨rfl, rfl⟩ none_kept
    · skip
      refine DataV.intro (n := 35) (rv := [.cell 2 50, .cell 3 31, .tmp 4]) Tryd.func22 rfl rfl rfl (by simp) fun C hV hN hX => ?_
      refine AW.seq ?_
      apply AW.list
      apply Wk.bx 1 rfl rfl (lt_of_ble rfl)
      apply Wk.alc 2 [.int .i64 0, .int .i64 0, .slice none 0 0, .bool false] ze50 rfl rfl (lt_of_ble rfl)
      apply Wk.alc 3 [.int .i64 0, .int .i64 0, .int .i64 0, .bool false, .bool false, .int .i64 0, .int .i64 0, .int .i64 0, .slice none 0 0] ze31 rfl rfl (lt_of_ble rfl)
      apply Wk.asg (by conv => lhs; whnf) (lt_of_ble rfl)
      refine Wk.nil ?_
      refine AW.seq (AW.seq ?_)
      apply AW.list
      apply Wk.ld (i := 1) 4 true ty50 rfl rfl (by conv => lhs; whnf) (lt_of_ble rfl)
      apply Wk.dat (icrxb true hok) Tryd.func26 rfl rfl rfl rfl rfl (lt_of_ble rfl)
      apply Wk.un rfl (fun w => by simp [go_sem] <;> rfl) (lt_of_ble rfl)
      refine Wk.nil ?_
      refine AW.cond rfl (fun hc => by cases hc) (fun _ => AW.skip (thenA_normal ?_))
      refine AW.seq ?_
      apply AW.list
      apply Wk.fad 1 1 true fd50_1 rfl (lt_of_ble rfl)
      apply Wk.ld (i := 1) 2 true ty48 rfl rfl (by conv => lhs; whnf) (lt_of_ble rfl)
      apply Wk.dat (copyJoin_ok m bs hl) Tryd.func55 rfl rfl rfl rfl rfl (lt_of_ble rfl)
      apply Wk.fad 1 1 true fd50_1 rfl (lt_of_ble rfl)
      apply Wk.sto (i := 1) 2 true ty48 rfl rfl rfl rfl (Nat.le_of_ble_eq_true rfl) (lt_of_ble rfl)
      refine Wk.nil ?_
      refine AW.seq ?_
      apply AW.list
      apply Wk.fad 0 0 false fd50_0 rfl (lt_of_ble rfl)
      apply Wk.ld (i := 1) 1 false ty3 rfl rfl (by conv => lhs; whnf) (lt_of_ble rfl)
      apply Wk.dav hm hX hV Tryd.func56 rfl rfl rfl rfl rfl (lt_of_ble rfl)
      apply Wk.mv (by conv => lhs; whnf) (lt_of_ble rfl)
      apply Wk.ext rfl rfl (lt_of_ble rfl)
      apply Wk.ext rfl rfl (lt_of_ble rfl)
      apply Wk.asg (by conv => lhs; whnf) (lt_of_ble rfl)
      apply Wk.asg (by conv => lhs; whnf) (lt_of_ble rfl)
      refine Wk.nil ?_
      refine AW.seq (AW.seq ?_)
      apply AW.list
      apply Wk.fad 3 0 false fd50_2 rfl (lt_of_ble rfl)
      apply Wk.ld (i := 1) 1 false ty4 rfl rfl (by conv => lhs; whnf) (lt_of_ble rfl)
      apply Wk.mv (by conv => lhs; whnf) (lt_of_ble rfl)
      apply Wk.goff 24 (ok_move _) rfl rfl (by simp)
      apply Wk.goff 24 (ok_ldv hX hV tyErr h0) rfl rfl (by simp)
      apply Wk.goff 24 (ok_dav hsm rfl hX hV Tryd.func40 rfl rfl) rfl rfl (by simp)
      apply Wk.pckT rfl (by conv => lhs; whnf) (lt_of_ble rfl)
      refine Wk.nil ?_
      refine AW.cond rfl (fun _ => ?_) (fun hc => by cases hc)
      refine AW.seq ?_
      apply AW.list
      apply Wk.ld (i := 1) 4 true ty50 rfl rfl (by conv => lhs; whnf) (lt_of_ble rfl)
      apply Wk.bld [.int .i64 0, .int .i64 0, .int .i64 0, .bool false, .bool false, .int .i64 0, .int .i64 0, .int .i64 0, .slice none 0 0] [(0, 1), (1, 1), (2, 1), (3, 1), (4, 1), (5, 1), (6, 1), (7, 1), (8, 1)] bl31 rfl (by conv => lhs; whnf) (lt_of_ble rfl)
      apply Wk.sto (i := 2) 4 true ty50 rfl rfl rfl rfl (Nat.le_of_ble_eq_true rfl) (lt_of_ble rfl)
      apply Wk.sto (i := 3) 9 true ty31 rfl rfl rfl rfl (Nat.le_of_ble_eq_true rfl) (lt_of_ble rfl)
      apply Wk.asg (by conv => lhs; whnf) (lt_of_ble rfl)
      refine Wk.nil (AW.ret ?_)
      repeat (first | refine thenA_ret ?_ | refine inBlockA_ret ?_)
      exact RetQ.ret [] (.cons ⟨2, 0, _, _, _, rfl, rfl, ty50, rfl⟩ (.cons ⟨3, 0, _, _, _, rfl, rfl, ty31, rfl⟩ (.cons rfl .nil))) ⟨rfl, rfl⟩ none_kept
  · obtain rfl : d = true := by rcases hi with h | h <;> first | exact h | exact absurd h hv
    have hm := imisOn (V := V) v (by omega) (by omega)
    refine DataV.intro (n := 35) (rv := [.cell 2 50, .cell 3 31, .tmp 4]) Tryd.func22 rfl rfl rfl (by simp) fun C hV hN hX => ?_
    refine AW.seq ?_
    apply AW.list
    apply Wk.bx 1 rfl rfl (lt_of_ble rfl)
    apply Wk.alc 2 [.int .i64 0, .int .i64 0, .slice none 0 0, .bool false] ze50 rfl rfl (lt_of_ble rfl)
    apply Wk.alc 3 [.int .i64 0, .int .i64 0, .int .i64 0, .bool false, .bool false, .int .i64 0, .int .i64 0, .int .i64 0, .slice none 0 0] ze31 rfl rfl (lt_of_ble rfl)
    apply Wk.asg (by conv => lhs; whnf) (lt_of_ble rfl)
    refine Wk.nil ?_
    refine AW.seq (AW.seq ?_)
    apply AW.list
    apply Wk.ld (i := 1) 4 true ty50 rfl rfl (by conv => lhs; whnf) (lt_of_ble rfl)
    apply Wk.dat (icrxb true hok) Tryd.func26 rfl rfl rfl rfl rfl (lt_of_ble rfl)
    apply Wk.un rfl (fun w => by simp [go_sem] <;> rfl) (lt_of_ble rfl)
    refine Wk.nil ?_
    refine AW.cond rfl (fun hc => by cases hc) (fun _ => AW.skip (thenA_normal ?_))
    refine AW.seq ?_
    apply AW.list
    apply Wk.fad 1 1 true fd50_1 rfl (lt_of_ble rfl)
    apply Wk.ld (i := 1) 2 true ty48 rfl rfl (by conv => lhs; whnf) (lt_of_ble rfl)
    apply Wk.dat (copyJoin_ok m bs hl) Tryd.func55 rfl rfl rfl rfl rfl (lt_of_ble rfl)
    apply Wk.fad 1 1 true fd50_1 rfl (lt_of_ble rfl)
    apply Wk.sto (i := 1) 2 true ty48 rfl rfl rfl rfl (Nat.le_of_ble_eq_true rfl) (lt_of_ble rfl)
    refine Wk.nil ?_
    refine AW.seq ?_
    apply AW.list
    apply Wk.fad 0 0 false fd50_0 rfl (lt_of_ble rfl)
    apply Wk.ld (i := 1) 1 false ty3 rfl rfl (by conv => lhs; whnf) (lt_of_ble rfl)
    apply Wk.dav hm hX hV Tryd.func56 rfl rfl rfl rfl rfl (lt_of_ble rfl)
    apply Wk.mv (by conv => lhs; whnf) (lt_of_ble rfl)
    apply Wk.ext rfl rfl (lt_of_ble rfl)
    apply Wk.ext rfl rfl (lt_of_ble rfl)
    apply Wk.asg (by conv => lhs; whnf) (lt_of_ble rfl)
    apply Wk.asg (by conv => lhs; whnf) (lt_of_ble rfl)
    refine Wk.nil ?_
    refine AW.seq (AW.seq ?_)
    apply AW.list
    apply Wk.fad 3 0 false fd50_2 rfl (lt_of_ble rfl)
    apply Wk.ld (i := 1) 1 false ty4 rfl rfl (by conv => lhs; whnf) (lt_of_ble rfl)
    apply Wk.mv (by conv => lhs; whnf) (lt_of_ble rfl)
    apply Wk.goff 24 (ok_move _) rfl rfl (by simp)
    apply Wk.goff 24 (ok_ldv hX hV tyErr h0) rfl rfl (by simp)
    apply Wk.goff 24 (ok_dav hsn rfl hX hV Tryd.func40 rfl rfl) rfl rfl (by simp)
    apply Wk.pckT rfl (by conv => lhs; whnf) (lt_of_ble rfl)
    refine Wk.nil ?_
    refine AW.cond rfl (fun _ => ?_) (fun hc => by cases hc)
    refine AW.seq ?_
    apply AW.list
    apply Wk.ld (i := 1) 4 true ty50 rfl rfl (by conv => lhs; whnf) (lt_of_ble rfl)
    apply Wk.bld [.int .i64 0, .int .i64 0, .int .i64 0, .bool false, .bool false, .int .i64 0, .int .i64 0, .int .i64 0, .slice none 0 0] [(0, 1), (1, 1), (2, 1), (3, 1), (4, 1), (5, 1), (6, 1), (7, 1), (8, 1)] bl31 rfl (by conv => lhs; whnf) (lt_of_ble rfl)
    apply Wk.sto (i := 2) 4 true ty50 rfl rfl rfl rfl (Nat.le_of_ble_eq_true rfl) (lt_of_ble rfl)
    apply Wk.sto (i := 3) 9 true ty31 rfl rfl rfl rfl (Nat.le_of_ble_eq_true rfl) (lt_of_ble rfl)
    apply Wk.asg (by conv => lhs; whnf) (lt_of_ble rfl)
    refine Wk.nil (AW.ret ?_)
    repeat (first | refine thenA_ret ?_ | refine inBlockA_ret ?_)
    exact RetQ.ret [] (.cons ⟨2, 0, _, _, _, rfl, rfl, ty50, rfl⟩ (.cons ⟨3, 0, _, _, _, rfl, rfl, ty31, rfl⟩ (.cons rfl .nil))) ⟨rfl, rfl⟩ none_kept
set_option maxHeartbeats 8000000 in
set_option maxRecDepth 100000 in
theorem icgrantOn (v m : Int) (bs : List (Fin 256)) (hok : crxB v m bs.length = true) (hl : bs.length ≤ 1000) (hv : v < 6) (h0 : (3, errV a) ∈ V) : DataV Tryd.prog V 22 [crA v m bs false] (.tup [crA 6 m bs false, frmZ 4 0 0 false false 0 0 (6 - v) (.v (.slice none 0 0)), .d (.v (.bool true))]) := by
  have hf := crx_facts hok
  have hsn := (isNil_ok a).v (V := V)
  have hm := imisOn (V := V) v hv (by omega)
  refine DataV.intro (n := 35) (rv := [.cell 2 50, .cell 3 31, .tmp 4]) Tryd.func22 rfl rfl rfl (by simp) fun C hV hN hX => ?_
  refine AW.seq ?_
  apply AW.list
  apply Wk.bx 1 rfl rfl (lt_of_ble rfl)
  apply Wk.alc 2 [.int .i64 0, .int .i64 0, .slice none 0 0, .bool false] ze50 rfl rfl (lt_of_ble rfl)
  apply Wk.alc 3 [.int .i64 0, .int .i64 0, .int .i64 0, .bool false, .bool false, .int .i64 0, .int .i64 0, .int .i64 0, .slice none 0 0] ze31 rfl rfl (lt_of_ble rfl)
  apply Wk.asg (by conv => lhs; whnf) (lt_of_ble rfl)
  refine Wk.nil ?_
  refine AW.seq (AW.seq ?_)
  apply AW.list
  apply Wk.ld (i := 1) 4 true ty50 rfl rfl (by conv => lhs; whnf) (lt_of_ble rfl)
  apply Wk.dat (icrxb false hok) Tryd.func26 rfl rfl rfl rfl rfl (lt_of_ble rfl)
  apply Wk.un rfl (fun w => by simp [go_sem] <;> rfl) (lt_of_ble rfl)
  refine Wk.nil ?_
  refine AW.cond rfl (fun hc => by cases hc) (fun _ => AW.skip (thenA_normal ?_))
  refine AW.seq ?_
  apply AW.list
  apply Wk.fad 1 1 true fd50_1 rfl (lt_of_ble rfl)
  apply Wk.ld (i := 1) 2 true ty48 rfl rfl (by conv => lhs; whnf) (lt_of_ble rfl)
  apply Wk.dat (copyJoin_ok m bs hl) Tryd.func55 rfl rfl rfl rfl rfl (lt_of_ble rfl)
  apply Wk.fad 1 1 true fd50_1 rfl (lt_of_ble rfl)
  apply Wk.sto (i := 1) 2 true ty48 rfl rfl rfl rfl (Nat.le_of_ble_eq_true rfl) (lt_of_ble rfl)
  refine Wk.nil ?_
  refine AW.seq ?_
  apply AW.list
  apply Wk.fad 0 0 false fd50_0 rfl (lt_of_ble rfl)
  apply Wk.ld (i := 1) 1 false ty3 rfl rfl (by conv => lhs; whnf) (lt_of_ble rfl)
  apply Wk.dav hm hX hV Tryd.func56 rfl rfl rfl rfl rfl (lt_of_ble rfl)
  apply Wk.mv (by conv => lhs; whnf) (lt_of_ble rfl)
  apply Wk.ext rfl rfl (lt_of_ble rfl)
  apply Wk.ext rfl rfl (lt_of_ble rfl)
  apply Wk.asg (by conv => lhs; whnf) (lt_of_ble rfl)
  apply Wk.asg (by conv => lhs; whnf) (lt_of_ble rfl)
  refine Wk.nil ?_
  refine AW.seq (AW.seq ?_)
  apply AW.list
  apply Wk.fad 3 0 false fd50_2 rfl (lt_of_ble rfl)
  apply Wk.ld (i := 1) 1 false ty4 rfl rfl (by conv => lhs; whnf) (lt_of_ble rfl)
  apply Wk.mv (by conv => lhs; whnf) (lt_of_ble rfl)
  apply Wk.gon 24 rfl rfl
  apply Wk.mv (by conv => lhs; whnf) (lt_of_ble rfl)
  apply Wk.gon 24 rfl rfl
  apply Wk.ldv hX hV tyErr h0 (lt_of_ble rfl)
  apply Wk.gon 24 rfl rfl
  apply Wk.dav hsn hX hV Tryd.func40 rfl rfl rfl rfl rfl (lt_of_ble rfl)
  apply Wk.pckF rfl (by conv => lhs; whnf) (lt_of_ble rfl)
  refine Wk.nil ?_
  refine AW.cond rfl (fun hc => by cases hc) (fun _ => AW.skip (thenA_normal ?_))
  refine AW.seq ?_
  apply AW.list
  apply Wk.fad 0 0 false fd50_0 rfl (lt_of_ble rfl)
  apply Wk.sto (i := 1) 1 false ty3 rfl rfl rfl rfl (Nat.le_of_ble_eq_true rfl) (lt_of_ble rfl)
  refine Wk.nil ?_
  refine AW.seq ?_
  apply AW.list
  apply Wk.ld (i := 1) 4 true ty50 rfl rfl (by conv => lhs; whnf) (lt_of_ble rfl)
  apply Wk.mv (by conv => lhs; whnf) (lt_of_ble rfl)
  apply Wk.bld [.int .i64 0, .int .i64 0, .int .i64 0, .bool false, .bool false, .int .i64 0, .int .i64 0, .int .i64 0, .slice none 0 0] [(0, 1), (1, 1), (2, 1), (3, 1), (4, 1), (5, 1), (6, 1), (7, 1), (8, 1)] bl31 rfl (by conv => lhs; whnf) (lt_of_ble rfl)
  apply Wk.sto (i := 2) 4 true ty50 rfl rfl rfl rfl (Nat.le_of_ble_eq_true rfl) (lt_of_ble rfl)
  apply Wk.sto (i := 3) 9 true ty31 rfl rfl rfl rfl (Nat.le_of_ble_eq_true rfl) (lt_of_ble rfl)
  apply Wk.asg (by conv => lhs; whnf) (lt_of_ble rfl)
  refine Wk.nil (AW.ret ?_)
  repeat (first | refine thenA_ret ?_ | refine inBlockA_ret ?_)
  exact RetQ.ret [] (.cons ⟨2, 0, _, _, _, rfl, rfl, ty50, rfl⟩ (.cons ⟨3, 0, _, _, _, rfl, rfl, ty31, rfl⟩ (.cons rfl .nil))) ⟨rfl, rfl⟩ none_kept
end
end Go.Proofs.YtejafihfbncaoaaDoor

/- A piece, drawn, whose bytes are a list of the call's own; over what values read as. -/
namespace Go.Proofs.YtejafihfbncaoaaDoor
open Go
def ownB (q : Nat) (bs : List (Fin 256)) : Bx := .own q 5 1 (cellsB bs)
theorem ownB_in {q : Nat} {bs : List (Fin 256)} {K : List Nat} : (ownB q bs).within K = true := within_cellsB bs
/-- Bytes, drawn, that are a list of the call's own. -/
def bytesOPost (rest : List A) (r : A) (ex : List (Nat × Bx)) : Prop := ∃ q bs, r = .own 7 q ∧ ex = [(7, ownB q bs)] ∧ ∀ n : Nat, rest = [.d (.v (.int .i64 (n : Int)))] → bs.length ≤ n
set_option maxRecDepth 100000 in
theorem bytesO_ok : DrawX Tryd.prog 72 (fun rest => ∃ n : Nat, rest = [.d (.v (.int .i64 (n : Int)))] ∧ n ≤ 1000) bytesOPost 3001 [7] := by
 refine ⟨?_, ?_, ?_⟩
 · rintro zs p rest ⟨n, rfl, hn⟩ hp
   refine Spec.intro (n := 30) (rv := [.tmp 4]) Tryd.func72 rfl rfl rfl (by simp) fun C hN hX => ?_
   refine AW.seq ?_
   apply AW.list
   apply Wk.asg (by conv => lhs; whnf) (lt_of_ble rfl)
   refine Wk.nil ?_
   refine AW.seq ?_
   apply AW.list
   apply Wk.lst 7 1 false [.int .u8 0] un22 ty5 ze5 rfl rfl (by rfl) (by rfl) (by decide) (by decide) rfl rfl (all_len rfl) (lt_of_ble rfl)
   apply Wk.asg (by conv => lhs; whnf) (lt_of_ble rfl)
   refine Wk.nil ?_
   refine AW.seq (AW.seq ?_)
   apply AW.list
   apply Wk.mv (by conv => lhs; whnf) (lt_of_ble rfl)
   apply Wk.mv (by conv => lhs; whnf) (lt_of_ble rfl)
   apply Wk.addi rfl rfl (by omega) (lt_of_ble rfl)
   apply Wk.drw 0 pick_ok Tryd.func52 rfl rfl rfl rfl ⟨(n : Int) + 1, rfl, by omega⟩ (by omega) rfl (lt_of_ble rfl)
   rintro r zs1 p1 ⟨k, rfl, hk⟩ hp1
   replace hk := hk _ rfl
   apply Wk.asg (by conv => lhs; whnf) (lt_of_ble rfl)
   refine Wk.nil ?_
   refine AW.block ?_
   let inv : Nat × Nat × List (Fin 256) × Nat × List (Fin 256) → St := fun x => St.of 30 [(0, .ptr 0 0), (5, .own 7 x.2.1), (6, .d (.v (.int .i64 (x.1 : Int))))] [(0, rdr x.2.2.1 x.2.2.2.1), (7, .own x.2.1 5 1 (cellsB x.2.2.2.2))]
   refine AW.loop inv (fun x => x.1 ≤ k ∧ x.2.2.2.1 + 3 * x.1 ≤ p + 1 + 3 * k ∧ x.2.2.2.2.length + x.1 ≤ k) (fun x => x.1) (k, 0, zs1, p1, []) ⟨Nat.le_refl _, by simp only; omega, by simp⟩ ?_ ?_
   · exact fun a w => Rel.keep ⟨rfl, .cons rfl rfl (.cons rfl rfl (.cons rfl rfl .nil)), .cons rfl rfl (.cons rfl rfl .nil), ⟨fun i b hb => by have := hN.1 i b hb; simp [keys] at this ⊢; exact .inl this, fun i q v hv => by have := hN.2 i q v hv; simp [keys] at this ⊢; exact .inl this⟩⟩
   · rintro ⟨m, q, zs2, p2, bs⟩ ⟨h1, h2, h3⟩
     simp only at h1 h2 h3
     show AW Tryd.prog C _ _ (St.of 30 [(0, .ptr 0 0), (5, .own 7 q), (6, .d (.v (.int .i64 (m : Int))))] [(0, rdr zs2 p2), (7, .own q 5 1 (cellsB bs))])
     refine AW.seq (AW.seq ?_)
     apply AW.list
     apply Wk.mv (by conv => lhs; whnf) (lt_of_ble rfl)
     apply Wk.bin rfl rfl (fun w => by simp [go_sem] <;> rfl) (lt_of_ble rfl)
     refine Wk.nil ?_
     refine AW.cond rfl (fun hc => ?_) (fun hc => ?_)
     · have hm : 0 < m := by simpa using hc
       refine AW.skip (thenA_normal ?_)
       refine AW.seq (AW.block ?_)
       apply AW.list
       apply Wk.mv (by conv => lhs; whnf) (lt_of_ble rfl)
       apply Wk.mv (by conv => lhs; whnf) (lt_of_ble rfl)
       apply Wk.drw 0 pick_ok Tryd.func52 rfl rfl rfl rfl ⟨_, rfl, by omega⟩ (by omega) rfl (lt_of_ble rfl)
       rintro r1 zs3 p3 ⟨k1, rfl, hk1⟩ hp3
       apply Wk.mv (by conv => lhs; whnf) (lt_of_ble rfl)
       apply Wk.drw 0 pick_ok Tryd.func52 rfl rfl rfl rfl ⟨_, rfl, by omega⟩ (by omega) rfl (lt_of_ble rfl)
       rintro r2 zs4 p4 ⟨k2, rfl, hk2⟩ hp4
       apply Wk.lst 21 1 false [.int .i64 0] un89 ty3 ze3 rfl rfl (by rfl) (by rfl) (by decide) (by decide) rfl rfl (all_len rfl) (lt_of_ble rfl)
       apply Wk.mv (by conv => lhs; whnf) (lt_of_ble rfl)
       apply Wk.drw 0 pick_ok Tryd.func52 rfl rfl rfl rfl ⟨_, rfl, by omega⟩ (by omega) rfl (lt_of_ble rfl)
       rintro r3 zs5 p5 ⟨k3, rfl, hk3⟩ hp5
       have hk3 : k3 < 3 := by have := hk3 3 rfl; omega
       obtain ⟨v, hv⟩ : ∃ v : Int, partA (List.flatten [[A.d (.v (.int .i64 (k1 : Int)))], [.d (.v (.int .i64 (k2 : Int)))], [.d (.v (.int .i64 255))]]) (k3 * 1) 1 false = some (.d (.v (.int .i64 v))) := by
         rcases (show k3 = 0 ∨ k3 = 1 ∨ k3 = 2 by omega) with rfl | rfl | rfl <;> exact ⟨_, rfl⟩
       apply Wk.iado 21 1 false un89 ty3 rfl rfl rfl hk3 (lt_of_ble rfl)
       apply Wk.ldo (i := 21) 1 false ty3 rfl rfl hv (lt_of_ble rfl)
       apply Wk.convb rfl ui3 ui5 (lt_of_ble rfl)
       intro z
       apply Wk.lst 27 1 false [.int .u8 0] un22 ty5 ze5 rfl rfl (by rfl) (by rfl) (by decide) (by decide) rfl rfl (all_len rfl) (lt_of_ble rfl)
       apply Wk.appOO 7 27 1 un22 ap5 rfl rfl rfl rfl (by decide) (all_len rfl) (one_cellsB bs) (by simp [cellsB]; omega) (lt_of_ble rfl)
       apply Wk.asg (by conv => lhs; whnf) (lt_of_ble rfl)
       refine Wk.nil (inBlockA_normal (thenA_normal ?_))
       apply AW.list
       apply Wk.mv (by conv => lhs; whnf) (lt_of_ble rfl)
       apply Wk.subn (b := 1) rfl rfl (by omega) (by omega) (lt_of_ble rfl)
       apply Wk.asg (by conv => lhs; whnf) (lt_of_ble rfl)
       refine Wk.nil ?_
       refine ⟨(m - 1, q + 1, zs5, p5, bs ++ [z]), ⟨by simp only; omega, by simp only; omega, by simp; omega⟩, by simp only; omega, ?_⟩
       refine fun a w => Rel.keep ⟨rfl, .cons rfl rfl (.cons rfl rfl (.cons rfl rfl .nil)), .cons rfl rfl (.cons ?_ ?_ .nil), ⟨fun i b hb => by have := hN.1 i b hb; simp [keys] at this ⊢; exact .inl this, fun i q v hv => by have := hN.2 i q v hv; simp [keys] at this ⊢; exact .inl this⟩⟩
       · simp only [cellsB, List.map_append]
         rfl
       · exact within_cellsB _
     · have hm : m = 0 := by simpa using hc
       refine AW.exit ?_
       repeat (first | refine inBlockA_same ?_ | refine thenA_exit ?_)
       refine thenA_normal ?_
       refine AW.seq ?_
       apply AW.list
       apply Wk.mv (by conv => lhs; whnf) (lt_of_ble rfl)
       apply Wk.asg (by conv => lhs; whnf) (lt_of_ble rfl)
       refine Wk.nil (AW.ret ?_)
       refine RetQ.ret [(0, rdr zs2 p2), (7, ownB q bs)] (.cons rfl .nil) ⟨zs2, p2, _, rfl, by omega, q, bs, rfl, rfl, fun n' e => ?_⟩ (kept2 rfl rfl)
       simp only [List.cons.injEq, A.d.injEq, D.v.injEq, Value.int.injEq, true_and, and_true] at e
       omega
 · rintro rest ⟨n, rfl, _⟩; exact ⟨_, _, 0, [], rfl, rfl, fun n e => by simp⟩
 · rintro rest r ex ⟨q, bs, rfl, rfl, _⟩; exact ⟨rfl, by simp [ownB_in]⟩

/-- A piece: its bytes the call's own, by the name 7. -/
def partOA (sg ln : Int) (q : Nat) : List A := [.d (.v (.int .i64 sg)), .d (.v (.int .i64 ln)), .own 7 q]
def partOPost (_ : List A) (r : A) (ex : List (Nat × Bx)) : Prop := ∃ sg ln q bs, r = .agg (partOA sg ln q) ∧ ex = [(7, ownB q bs)] ∧ 0 ≤ sg ∧ sg ≤ 3 ∧ 0 ≤ ln ∧ ln ≤ 40 ∧ bs.length ≤ 8
set_option maxRecDepth 100000 in
theorem partO_ok : DrawX Tryd.prog 60 (fun rest => rest = []) partOPost 3003 [7] := by
 refine ⟨?_, ?_, ?_⟩
 · rintro zs p rest rfl hp
   refine Spec.intro (n := 43) (rv := [.cell 2 41]) Tryd.func60 rfl rfl rfl (by simp) fun C hN hX => ?_
   refine AW.seq ?_
   apply AW.list
   apply Wk.alc 2 [.int .i64 0, .int .i64 0, .slice none 0 0] ze41 rfl rfl (lt_of_ble rfl)
   refine Wk.nil ?_
   refine AW.seq ?_
   apply AW.list
   apply Wk.mv (by conv => lhs; whnf) (lt_of_ble rfl)
   apply Wk.drw 0 pick_ok Tryd.func52 rfl rfl rfl rfl ⟨_, rfl, by omega⟩ (by omega) rfl (lt_of_ble rfl)
   rintro r1 zs1 p1 ⟨k1, rfl, hk1⟩ hp1
   apply Wk.mv (by conv => lhs; whnf) (lt_of_ble rfl)
   apply Wk.drx [7] bytesO_ok Tryd.func72 rfl rfl rfl rfl ⟨8, rfl, by decide⟩ (by omega) rfl (by simp; rfl) (lt_of_ble rfl)
   rintro r zs2 p2 ex ⟨q, bs, rfl, rfl, hbl⟩ hp2
   replace hbl := hbl 8 rfl
   apply Wk.bld [.int .i64 0, .int .i64 0, .slice none 0 0] [(0, 1), (1, 1), (2, 1)] bl41 rfl (by conv => lhs; whnf) (lt_of_ble rfl)
   apply Wk.alc 3 [.int .i64 0, .int .i64 0, .slice none 0 0] ze41 rfl rfl (lt_of_ble rfl)
   apply Wk.sto (i := 3) 3 true ty41 rfl rfl rfl rfl (Nat.le_of_ble_eq_true rfl) (lt_of_ble rfl)
   refine Wk.nil ?_
   have hk1' : k1 < 4 := by have := hk1 4 rfl; omega
   let inv : List (Fin 256) × Nat × Int × Nat × List (Fin 256) → St := fun x => St.of 43 [(0, .ptr 0 0), (2, .ptr 2 0), (3, .ptr 3 0)] [(0, rdr x.1 x.2.1), (2, .var [.d (.v (.int .i64 0)), .d (.v (.int .i64 0)), .d (.v (.slice none 0 0))]), (3, .var (partOA (k1 : Int) x.2.2.1 x.2.2.2.1)), (7, ownB x.2.2.2.1 x.2.2.2.2)]
   let ok : Nat → List (Fin 256) × Nat × Int × Nat × List (Fin 256) → Prop := fun m x => x.2.1 ≤ p + m ∧ 0 ≤ x.2.2.1 ∧ x.2.2.1 ≤ 40 ∧ x.2.2.2.2.length ≤ 8
   have fin : ∀ (zs : List (Fin 256)) (p : Nat) (ln : Int) (q : Nat) (bs : List (Fin 256)) (σ : St), σ.n = 43 → σ.t 0 = .ptr 0 0 → σ.t 2 = .ptr 2 0 → σ.t 3 = .ptr 3 0 → σ.b 0 = rdr zs p → σ.b 2 = .var [.d (.v (.int .i64 0)), .d (.v (.int .i64 0)), .d (.v (.slice none 0 0))] → σ.b 3 = .var (partOA (k1 : Int) ln q) → σ.b 7 = ownB q bs →
       ∀ a w, Rel C σ a w → Rel C (inv (zs, p, ln, q, bs)) a w := fun zs p ln q bs σ h0 h1 h2 h3 h4 h5 h6 h7 a w => Rel.keep ⟨h0.symm, .cons h1 rfl (.cons h2 rfl (.cons h3 rfl .nil)), .cons h4 rfl (.cons h5 rfl (.cons h6 rfl (.cons h7 ownB_in .nil))), hN.mono (by simp [keys])⟩
   refine AW.via inv (ok 3002) ?_ ?_
   · refine AW.seq ?_
     by_cases h1 : k1 = 0
     · subst h1
       apply AW.list
       apply Wk.fad 0 0 false fd41_0 rfl (lt_of_ble rfl)
       apply Wk.ld (i := 3) 1 false ty3 rfl rfl (by conv => lhs; whnf) (lt_of_ble rfl)
       apply Wk.bin rfl rfl (r := .bool false) (fun w => by simp [go_sem]) (lt_of_ble rfl)
       apply Wk.mv (by conv => lhs; whnf) (lt_of_ble rfl)
       apply Wk.goff 12 (ok_faddr fd41_2) rfl rfl (by decide)
       apply Wk.goff 12 (ok_load 3 ty22) rfl rfl (by decide)
       apply Wk.goff 12 (ok_leno 7 un22) rfl rfl (by decide)
       apply Wk.goff 12 (ok_bin _ _ _ _ _) rfl rfl (by decide)
       apply Wk.pckF rfl (by conv => lhs; whnf) (lt_of_ble rfl)
       refine Wk.nil ?_
       refine AW.cond rfl (fun hc => by cases hc) (fun _ => AW.skip (thenA_normal ?_))
       exact ⟨(zs2, p2, 0, q, bs), ⟨by simp only; omega, by simp only; omega, by simp only; omega, hbl⟩, fin _ _ _ _ _ _ rfl rfl rfl rfl rfl rfl rfl rfl⟩
     · apply AW.list
       apply Wk.fad 0 0 false fd41_0 rfl (lt_of_ble rfl)
       apply Wk.ld (i := 3) 1 false ty3 rfl rfl (by conv => lhs; whnf) (lt_of_ble rfl)
       apply Wk.bin rfl rfl (r := .bool true) (fun w => by simp [go_sem, h1]) (lt_of_ble rfl)
       apply Wk.mv (by conv => lhs; whnf) (lt_of_ble rfl)
       apply Wk.gon 12 rfl rfl
       apply Wk.fad 2 0 false fd41_2 rfl (lt_of_ble rfl)
       apply Wk.gon 12 rfl rfl
       apply Wk.ld (i := 3) 1 false ty22 rfl rfl (by conv => lhs; whnf) (lt_of_ble rfl)
       apply Wk.gon 12 rfl rfl
       apply Wk.leno (i := 7) un22 rfl rfl (lt_of_ble rfl)
       apply Wk.gon 12 rfl rfl
       apply Wk.bin rfl rfl (fun w => by simp [go_sem] <;> rfl) (lt_of_ble rfl)
       apply Wk.pckT rfl (by conv => lhs; whnf) (lt_of_ble rfl)
       refine Wk.nil ?_
       refine AW.cond rfl (fun hc => ?_) (fun hc => AW.skip (thenA_normal ?_))
       · apply AW.list
         apply Wk.lst 18 1 false [.int .u8 0] un22 ty5 ze5 rfl rfl (by rfl) (by rfl) (by decide) (by decide) rfl rfl (all_len rfl) (lt_of_ble rfl)
         apply Wk.fad 2 0 false fd41_2 rfl (lt_of_ble rfl)
         apply Wk.sto (i := 3) 1 false ty22 rfl rfl rfl rfl (Nat.le_of_ble_eq_true rfl) (lt_of_ble rfl)
         refine Wk.nil (thenA_normal ?_)
         refine ⟨(zs2, p2, 0, q + 1, [7]), ⟨by simp only; omega, by simp only; omega, by simp only; omega, by simp⟩, fun a w hR => ?_⟩
         have h := Rel.renc (j := 3) (c := 2) (i := 18) (i' := 7) (k' := q + 1) rfl rfl (by rfl) (.inr ⟨_, _, _, _, rfl, rfl⟩) (by decide) hR
         exact fin _ _ _ _ _ _ rfl rfl rfl rfl rfl rfl rfl rfl a w h
       · exact ⟨(zs2, p2, 0, q, bs), ⟨by simp only; omega, by simp only; omega, by simp only; omega, hbl⟩, fin _ _ _ _ _ _ rfl rfl rfl rfl rfl rfl rfl rfl⟩
   · rintro ⟨zs3, p3, l3, q3, bs3⟩ ⟨hp3, hl1, hl2, hb3⟩
     simp only at hp3 hl1 hl2 hb3
     show AW Tryd.prog C _ _ (St.of 43 [(0, .ptr 0 0), (2, .ptr 2 0), (3, .ptr 3 0)] [(0, rdr zs3 p3), (2, .var [.d (.v (.int .i64 0)), .d (.v (.int .i64 0)), .d (.v (.slice none 0 0))]), (3, .var (partOA (k1 : Int) l3 q3)), (7, ownB q3 bs3)])
     refine AW.via inv (ok 3002) ?_ ?_
     · refine AW.seq ?_
       apply AW.list
       apply Wk.fad 0 0 false fd41_0 rfl (lt_of_ble rfl)
       apply Wk.ld (i := 3) 1 false ty3 rfl rfl (by conv => lhs; whnf) (lt_of_ble rfl)
       apply Wk.bin rfl rfl (fun w => by simp [go_sem] <;> rfl) (lt_of_ble rfl)
       refine Wk.nil ?_
       refine AW.cond rfl (fun hc => ?_) (fun hc => AW.skip (thenA_normal ?_))
       · apply AW.list
         apply Wk.fad 2 0 false fd41_2 rfl (lt_of_ble rfl)
         apply Wk.ld (i := 3) 1 false ty22 rfl rfl (by conv => lhs; whnf) (lt_of_ble rfl)
         apply Wk.leno (i := 7) un22 rfl rfl (lt_of_ble rfl)
         apply Wk.fad 1 0 false fd41_1 rfl (lt_of_ble rfl)
         apply Wk.sto (i := 3) 1 false ty3 rfl rfl rfl rfl (Nat.le_of_ble_eq_true rfl) (lt_of_ble rfl)
         refine Wk.nil (thenA_normal ?_)
         have e5 : (cellsB bs3).length = bs3.length := by simp [cellsB]
         refine ⟨(zs3, p3, ((cellsB bs3).length : Int), q3, bs3), ⟨hp3, by simp only; omega, by simp only; omega, hb3⟩, fin _ _ _ _ _ _ rfl rfl rfl rfl rfl rfl rfl rfl⟩
       · exact ⟨(zs3, p3, l3, q3, bs3), ⟨hp3, hl1, hl2, hb3⟩, fin _ _ _ _ _ _ rfl rfl rfl rfl rfl rfl rfl rfl⟩
     · rintro ⟨zs4, p4, l4, q4, bs4⟩ ⟨hp4, hl3, hl4, hb4⟩
       simp only at hp4 hl3 hl4 hb4
       show AW Tryd.prog C _ _ (St.of 43 [(0, .ptr 0 0), (2, .ptr 2 0), (3, .ptr 3 0)] [(0, rdr zs4 p4), (2, .var [.d (.v (.int .i64 0)), .d (.v (.int .i64 0)), .d (.v (.slice none 0 0))]), (3, .var (partOA (k1 : Int) l4 q4)), (7, ownB q4 bs4)])
       have e5 : (cellsB bs4).length = bs4.length := by simp [cellsB]
       refine AW.via inv (ok 3003) ?_ ?_
       · refine AW.seq ?_
         apply AW.list
         apply Wk.fad 0 0 false fd41_0 rfl (lt_of_ble rfl)
         apply Wk.ld (i := 3) 1 false ty3 rfl rfl (by conv => lhs; whnf) (lt_of_ble rfl)
         apply Wk.bin rfl rfl (fun w => by simp [go_sem] <;> rfl) (lt_of_ble rfl)
         refine Wk.nil ?_
         refine AW.cond rfl (fun hc => ?_) (fun hc => AW.skip (thenA_normal ?_))
         · apply AW.draw (hm := hmix) (cs := _)
           · apply Wk.fad 2 0 false fd41_2 rfl (lt_of_ble rfl)
             apply Wk.ld (i := 3) 1 false ty22 rfl rfl (by conv => lhs; whnf) (lt_of_ble rfl)
             apply Wk.leno (i := 7) un22 rfl rfl (lt_of_ble rfl)
             apply Wk.addi rfl rfl (by omega) (lt_of_ble rfl)
             apply Wk.mv (by conv => lhs; whnf) (lt_of_ble rfl)
             apply Wk.fad 2 0 false fd41_2 rfl (lt_of_ble rfl)
             apply Wk.ld (i := 3) 1 false ty22 rfl rfl (by conv => lhs; whnf) (lt_of_ble rfl)
             apply Wk.leno (i := 7) un22 rfl rfl (lt_of_ble rfl)
             apply Wk.subi rfl rfl (by omega) (lt_of_ble rfl)
             apply Wk.drw 0 pick_ok Tryd.func52 rfl rfl rfl rfl ⟨_, rfl, by omega⟩ (by omega) rfl (lt_of_ble rfl)
             rintro r9 zs9 p9 ⟨k9, rfl, hk9⟩ hp9
             replace hk9 := hk9 _ rfl
             apply Wk.addi rfl rfl (by omega) (lt_of_ble rfl)
             apply Wk.fad 1 0 false fd41_1 rfl (lt_of_ble rfl)
             apply Wk.sto (i := 3) 1 false ty3 rfl rfl rfl rfl (Nat.le_of_ble_eq_true rfl) (lt_of_ble rfl)
             refine Wk.nil (thenA_normal ?_)
             refine ⟨(zs9, p9, ((cellsB bs4).length : Int) + 1 + (k9 : Int), q4, bs4), ⟨by simp only; omega, by simp only; omega, by simp only; omega, hb4⟩, fin _ _ _ _ _ _ rfl rfl rfl rfl rfl rfl rfl rfl⟩
           · rfl
           · rfl
         · exact ⟨(zs4, p4, l4, q4, bs4), ⟨by simp only; omega, hl3, hl4, hb4⟩, fin _ _ _ _ _ _ rfl rfl rfl rfl rfl rfl rfl rfl⟩
       · rintro ⟨zs5, p5, l5, q5, bs5⟩ ⟨hp5, hl5, hl6, hb5⟩
         simp only at hp5 hl5 hl6 hb5
         show AW Tryd.prog C _ _ (St.of 43 [(0, .ptr 0 0), (2, .ptr 2 0), (3, .ptr 3 0)] [(0, rdr zs5 p5), (2, .var [.d (.v (.int .i64 0)), .d (.v (.int .i64 0)), .d (.v (.slice none 0 0))]), (3, .var (partOA (k1 : Int) l5 q5)), (7, ownB q5 bs5)])
         refine AW.seq ?_
         apply AW.list
         apply Wk.ld (i := 3) 3 true ty41 rfl rfl (by conv => lhs; whnf) (lt_of_ble rfl)
         apply Wk.sto (i := 2) 3 true ty41 rfl rfl rfl rfl (Nat.le_of_ble_eq_true rfl) (lt_of_ble rfl)
         refine Wk.nil (AW.ret ?_)
         exact RetQ.ret [(0, rdr zs5 p5), (7, ownB q5 bs5)] (.cons ⟨2, 0, _, _, _, rfl, rfl, ty41, rfl⟩ .nil) ⟨_, _, _, rfl, by omega, (k1 : Int), l5, q5, bs5, rfl, rfl, by omega, by omega, hl5, hl6, hb5⟩ (kept2 rfl rfl)
 · rintro rest rfl; exact ⟨_, _, 0, 0, 0, [], rfl, rfl, by simp⟩
 · rintro rest r ex ⟨sg, ln, q, bs, rfl, rfl, _⟩; exact ⟨rfl, by simp [ownB_in]⟩
end Go.Proofs.YtejafihfbncaoaaDoor

/- A frame, drawn; over what values read as. -/
namespace Go.Proofs.YtejafihfbncaoaaDoor
open Go
/-- A frame, drawn: its bytes a list of the call's own, by the name 7. -/
structure FO where
  zs : List (Fin 256)
  p : Nat
  k : Int
  s : Int
  c : Int
  pl : Bool
  f : Bool
  y : Int
  g : Int
  l : Int
  q : Nat
  bs : List (Fin 256)
def Sm (x : Int) : Prop := -1000 ≤ x ∧ x ≤ 1000
def frmO (k s c : Int) (p f : Bool) (y g l : Int) (a : A) : List A := [.d (.v (.int .i64 k)), .d (.v (.int .i64 s)), .d (.v (.int .i64 c)), .d (.v (.bool p)), .d (.v (.bool f)), .d (.v (.int .i64 y)), .d (.v (.int .i64 g)), .d (.v (.int .i64 l)), a]
def frmZ0 : List A := frmO 0 0 0 false false 0 0 0 (.d (.v (.slice none 0 0)))
def frmA9 (k s c : Int) (p f : Bool) (y g l : Int) (bs : List (Fin 256)) : A := .agg (frmO k s c p f y g l (.d (fbytes bs)))
def frmPost (_ : List A) (r : A) : Prop := ∃ (k s c : Int) (p f : Bool) (y g l : Int) (bs : List (Fin 256)), r = frmA9 k s c p f y g l bs ∧ Sm k ∧ Sm s ∧ Sm c ∧ Sm y ∧ Sm g ∧ Sm l ∧ bs.length ≤ 17
def FO.ok (p m n : Nat) (x : FO) : Prop := x.p ≤ p + m ∧ Sm x.k ∧ Sm x.s ∧ Sm x.c ∧ Sm x.y ∧ Sm x.g ∧ Sm x.l ∧ x.bs.length ≤ n
def FO.inv (n : Int) (x : FO) : St := St.of 136 [(0, .ptr 0 0), (1, .d (.v (.int .i64 n))), (4, .ptr 4 0), (5, .ptr 5 0)] [(0, rdr x.zs x.p), (4, .var frmZ0), (5, .var (frmO x.k x.s x.c x.pl x.f x.y x.g x.l (.own 7 x.q))), (7, ownB x.q x.bs)]
set_option maxHeartbeats 4000000 in
set_option maxRecDepth 100000 in
theorem frame_ok : DrawOk Tryd.prog 62 (fun rest => ∃ n : Int, rest = [.d (.v (.int .i64 n))] ∧ n ≤ 1000000 ∧ -1000000 ≤ n) frmPost 3020 := by
  refine DrawOk.zero ?_ ?_ ?_ ?_
  · rintro zs p rest ⟨n, rfl, hn, hn'⟩ hp
    refine Spec.intro (n := 136) (rv := [.cell 4 31]) Tryd.func62 rfl rfl rfl (by simp) fun C hN hX => ?_
    have fin : ∀ (x : FO) (σ : St), σ.n = 136 → σ.t 0 = .ptr 0 0 → σ.t 1 = .d (.v (.int .i64 n)) → σ.t 4 = .ptr 4 0 → σ.t 5 = .ptr 5 0 → σ.b 0 = rdr x.zs x.p → σ.b 4 = .var frmZ0 → σ.b 5 = .var (frmO x.k x.s x.c x.pl x.f x.y x.g x.l (.own 7 x.q)) → σ.b 7 = ownB x.q x.bs →
        ∀ a w, Rel C σ a w → Rel C (x.inv n) a w := fun x σ h0 h1 h2 h3 h4 h5 h6 h7 h8 a w => Rel.keep ⟨h0.symm, .cons h1 rfl (.cons h2 rfl (.cons h3 rfl (.cons h4 rfl .nil))), .cons h5 rfl (.cons h6 rfl (.cons h7 rfl (.cons h8 ownB_in .nil))), hN.mono (by simp [keys])⟩
    refine AW.seq ?_
    apply AW.list
    apply Wk.alc 4 [.int .i64 0, .int .i64 0, .int .i64 0, .bool false, .bool false, .int .i64 0, .int .i64 0, .int .i64 0, .slice none 0 0] ze31 rfl rfl (lt_of_ble rfl)
    refine Wk.nil ?_
    refine AW.seq ?_
    apply AW.list
    apply Wk.mv (by conv => lhs; whnf) (lt_of_ble rfl)
    apply Wk.drw 0 pick_ok Tryd.func52 rfl rfl rfl rfl ⟨_, rfl, by omega⟩ (by omega) rfl (lt_of_ble rfl)
    rintro r1 zs1 p1 ⟨k1, rfl, hk1⟩ hp1
    replace hk1 := hk1 _ rfl
    apply Wk.addi rfl rfl (by omega) (lt_of_ble rfl)
    apply Wk.bld [.int .i64 0, .int .i64 0, .int .i64 0, .bool false, .bool false, .int .i64 0, .int .i64 0, .int .i64 0, .slice none 0 0] [(0, 1), (1, 1), (2, 1), (3, 1), (4, 1), (5, 1), (6, 1), (7, 1), (8, 1)] bl31 rfl (by conv => lhs; whnf) (lt_of_ble rfl)
    apply Wk.alc 5 [.int .i64 0, .int .i64 0, .int .i64 0, .bool false, .bool false, .int .i64 0, .int .i64 0, .int .i64 0, .slice none 0 0] ze31 rfl rfl (lt_of_ble rfl)
    apply Wk.sto (i := 5) 9 true ty31 rfl rfl rfl rfl (Nat.le_of_ble_eq_true rfl) (lt_of_ble rfl)
    refine Wk.nil ?_
    have hk1' : k1 < 4 := by omega
    refine AW.via (FO.inv n) (FO.ok p 3010 8) ?_ ?_
    · refine AW.seq ?_
      apply AW.list
      apply Wk.fad 0 0 false fd31_0 rfl (lt_of_ble rfl)
      apply Wk.ld (i := 5) 1 false ty3 rfl rfl (by conv => lhs; whnf) (lt_of_ble rfl)
      refine Wk.nil (AW.block ?_)
      refine AW.seq ?_
      apply AW.list
      apply Wk.bin rfl rfl (fun w => by simp [go_sem] <;> rfl) (lt_of_ble rfl)
      apply Wk.asg (by conv => lhs; whnf) (lt_of_ble rfl)
      refine Wk.nil ?_
      refine AW.cond rfl (fun hc => ?_) (fun hc => ?_)
      · refine AW.seq ?_
        apply AW.list
        apply Wk.mv (by conv => lhs; whnf) (lt_of_ble rfl)
        apply Wk.drx [7] partO_ok Tryd.func60 rfl rfl rfl rfl rfl (by omega) rfl (by simp; rfl) (lt_of_ble rfl)
        rintro r2 zs2 p2 ex ⟨sg, ln, q, bs, rfl, rfl, hs1, hs2, hl1, hl2, hbl⟩ hp2
        apply Wk.alc 6 [.int .i64 0, .int .i64 0, .slice none 0 0] ze41 rfl rfl (lt_of_ble rfl)
        apply Wk.sto (i := 6) 3 true ty41 rfl rfl rfl rfl (Nat.le_of_ble_eq_true rfl) (lt_of_ble rfl)
        refine Wk.nil ?_
        apply AW.draw (hm := hmix) (cs := _)
        · apply Wk.mv (by conv => lhs; whnf) (lt_of_ble rfl)
          apply Wk.drw 0 pick_ok Tryd.func52 rfl rfl rfl rfl ⟨_, rfl, by omega⟩ (by omega) rfl (lt_of_ble rfl)
          rintro r3 zs3 p3 ⟨k3, rfl, hk3⟩ hp3
          replace hk3 := hk3 _ rfl
          apply Wk.mv (by conv => lhs; whnf) (lt_of_ble rfl)
          apply Wk.drw 0 pick_ok Tryd.func52 rfl rfl rfl rfl ⟨_, rfl, by omega⟩ (by omega) rfl (lt_of_ble rfl)
          rintro r4 zs4 p4 ⟨k4, rfl, hk4⟩ hp4
          replace hk4 := hk4 _ rfl
          apply Wk.mv (by conv => lhs; whnf) (lt_of_ble rfl)
          apply Wk.drw 0 pick_ok Tryd.func52 rfl rfl rfl rfl ⟨_, rfl, by omega⟩ (by omega) rfl (lt_of_ble rfl)
          rintro r5 zs5 p5 ⟨k5, rfl, hk5⟩ hp5
          apply Wk.bin rfl rfl (fun w => by simp [go_sem] <;> rfl) (lt_of_ble rfl)
          apply Wk.fad 0 0 false fd41_0 rfl (lt_of_ble rfl)
          apply Wk.ld (i := 6) 1 false ty3 rfl rfl (by conv => lhs; whnf) (lt_of_ble rfl)
          apply Wk.fad 1 0 false fd41_1 rfl (lt_of_ble rfl)
          apply Wk.ld (i := 6) 1 false ty3 rfl rfl (by conv => lhs; whnf) (lt_of_ble rfl)
          apply Wk.fad 2 0 false fd41_2 rfl (lt_of_ble rfl)
          apply Wk.ld (i := 6) 1 false ty22 rfl rfl (by conv => lhs; whnf) (lt_of_ble rfl)
          apply Wk.bld [.int .i64 0, .int .i64 0, .int .i64 0, .bool false, .bool false, .int .i64 0, .int .i64 0, .int .i64 0, .slice none 0 0] [(0, 1), (1, 1), (2, 1), (3, 1), (4, 1), (5, 1), (6, 1), (7, 1), (8, 1)] bl31 rfl (by conv => lhs; whnf) (lt_of_ble rfl)
          apply Wk.sto (i := 5) 9 true ty31 rfl rfl rfl rfl (Nat.le_of_ble_eq_true rfl) (lt_of_ble rfl)
          refine Wk.nil (inBlockA_normal (thenA_normal ?_))
          exact ⟨⟨zs5, p5, 1, (k3 : Int), (k4 : Int), false, ((k5 : Int) == 0), 0, sg, ln, q, bs⟩, ⟨by simp only; omega, ⟨by simp only; omega, by simp only; omega⟩, ⟨by simp only; omega, by simp only; omega⟩, ⟨by simp only; omega, by simp only; omega⟩, ⟨by simp only; omega, by simp only; omega⟩, ⟨by simp only; omega, by simp only; omega⟩, ⟨by simp only; omega, by simp only; omega⟩, by simp only; omega⟩, fin _ _ rfl rfl rfl rfl rfl rfl rfl rfl rfl⟩
        · rfl
        · rfl
      · refine AW.seq ?_
        apply AW.list
        apply Wk.bin rfl rfl (fun w => by simp [go_sem] <;> rfl) (lt_of_ble rfl)
        apply Wk.asg (by conv => lhs; whnf) (lt_of_ble rfl)
        refine Wk.nil ?_
        refine AW.cond rfl (fun hc => ?_) (fun hc => ?_)
        · refine AW.seq ?_
          apply AW.list
          apply Wk.mv (by conv => lhs; whnf) (lt_of_ble rfl)
          apply Wk.drw 0 pick_ok Tryd.func52 rfl rfl rfl rfl ⟨_, rfl, by omega⟩ (by omega) rfl (lt_of_ble rfl)
          rintro r2 zs2 p2 ⟨k2, rfl, hk2⟩ hp2
          replace hk2 := hk2 _ rfl
          apply Wk.fad 2 0 false fd31_2 rfl (lt_of_ble rfl)
          apply Wk.sto (i := 5) 1 false ty3 rfl rfl rfl rfl (Nat.le_of_ble_eq_true rfl) (lt_of_ble rfl)
          refine Wk.nil ?_
          refine AW.seq ?_
          apply AW.list
          apply Wk.mv (by conv => lhs; whnf) (lt_of_ble rfl)
          apply Wk.drw 0 pick_ok Tryd.func52 rfl rfl rfl rfl ⟨_, rfl, by omega⟩ (by omega) rfl (lt_of_ble rfl)
          rintro r3 zs3 p3 ⟨k3, rfl, hk3⟩ hp3
          apply Wk.bin rfl rfl (fun w => by simp [go_sem] <;> rfl) (lt_of_ble rfl)
          apply Wk.fad 3 0 false fd31_3 rfl (lt_of_ble rfl)
          apply Wk.sto (i := 5) 1 false ty4 rfl rfl rfl rfl (Nat.le_of_ble_eq_true rfl) (lt_of_ble rfl)
          refine Wk.nil ?_
          refine AW.seq ?_
          cases hpl : ((k3 : Int) == 0)
          · apply AW.list
            apply Wk.fad 3 0 false fd31_3 rfl (lt_of_ble rfl)
            apply Wk.ld (i := 5) 1 false ty4 rfl rfl (by conv => lhs; whnf) (lt_of_ble rfl)
            apply Wk.un rfl (r := .bool true) (fun w => by simp [go_sem]) (lt_of_ble rfl)
            apply Wk.mv (by conv => lhs; whnf) (lt_of_ble rfl)
            apply Wk.gon 53 rfl rfl
            apply Wk.mv (by conv => lhs; whnf) (lt_of_ble rfl)
            apply Wk.gon 53 rfl rfl
            apply Wk.drw 0 pick_ok Tryd.func52 rfl rfl rfl rfl ⟨_, rfl, by omega⟩ (by omega) rfl (lt_of_ble rfl)
            rintro r4 zs4 p4 ⟨k4, rfl, hk4⟩ hp4
            apply Wk.gon 53 rfl rfl
            apply Wk.bin rfl rfl (fun w => by simp [go_sem] <;> rfl) (lt_of_ble rfl)
            apply Wk.pckT rfl (by conv => lhs; whnf) (lt_of_ble rfl)
            apply Wk.fad 4 0 false fd31_4 rfl (lt_of_ble rfl)
            apply Wk.sto (i := 5) 1 false ty4 rfl rfl rfl rfl (Nat.le_of_ble_eq_true rfl) (lt_of_ble rfl)
            refine Wk.nil ?_
            apply AW.list
            apply Wk.mv (by conv => lhs; whnf) (lt_of_ble rfl)
            apply Wk.drw 0 pick_ok Tryd.func52 rfl rfl rfl rfl ⟨_, rfl, by omega⟩ (by omega) rfl (lt_of_ble rfl)
            rintro r5 zs5 p5 ⟨k5, rfl, hk5⟩ hp5
            replace hk5 := hk5 _ rfl
            apply Wk.fad 5 0 false fd31_5 rfl (lt_of_ble rfl)
            apply Wk.sto (i := 5) 1 false ty3 rfl rfl rfl rfl (Nat.le_of_ble_eq_true rfl) (lt_of_ble rfl)
            refine Wk.nil (inBlockA_normal (thenA_normal ?_))
            exact ⟨⟨zs5, p5, 1 + (k1 : Int), 0, (k2 : Int), false, ((k4 : Int) == 0), (k5 : Int), 0, 0, 0, []⟩, ⟨by simp only; omega, ⟨by simp only; omega, by simp only; omega⟩, ⟨by simp only; omega, by simp only; omega⟩, ⟨by simp only; omega, by simp only; omega⟩, ⟨by simp only; omega, by simp only; omega⟩, ⟨by simp only; omega, by simp only; omega⟩, ⟨by simp only; omega, by simp only; omega⟩, by simp⟩, (fun a w hR => fin _ _ rfl rfl rfl rfl rfl rfl rfl rfl rfl a w (Rel.nilc (j := 5) (c := 8) (i' := 7) 5 1 rfl rfl rfl hR))⟩
          · apply AW.list
            apply Wk.fad 3 0 false fd31_3 rfl (lt_of_ble rfl)
            apply Wk.ld (i := 5) 1 false ty4 rfl rfl (by conv => lhs; whnf) (lt_of_ble rfl)
            apply Wk.un rfl (r := .bool false) (fun w => by simp [go_sem]) (lt_of_ble rfl)
            apply Wk.mv (by conv => lhs; whnf) (lt_of_ble rfl)
            apply Wk.goff 53 (ok_move _) rfl rfl (by decide)
            apply Wk.goff 53 (ok_drw 0 pick_ok Tryd.func52 rfl rfl) rfl rfl (by decide)
            apply Wk.goff 53 (ok_bin _ _ _ _ _) rfl rfl (by decide)
            apply Wk.pckF rfl (by conv => lhs; whnf) (lt_of_ble rfl)
            apply Wk.fad 4 0 false fd31_4 rfl (lt_of_ble rfl)
            apply Wk.sto (i := 5) 1 false ty4 rfl rfl rfl rfl (Nat.le_of_ble_eq_true rfl) (lt_of_ble rfl)
            refine Wk.nil ?_
            apply AW.list
            apply Wk.mv (by conv => lhs; whnf) (lt_of_ble rfl)
            apply Wk.drw 0 pick_ok Tryd.func52 rfl rfl rfl rfl ⟨_, rfl, by omega⟩ (by omega) rfl (lt_of_ble rfl)
            rintro r5 zs5 p5 ⟨k5, rfl, hk5⟩ hp5
            replace hk5 := hk5 _ rfl
            apply Wk.fad 5 0 false fd31_5 rfl (lt_of_ble rfl)
            apply Wk.sto (i := 5) 1 false ty3 rfl rfl rfl rfl (Nat.le_of_ble_eq_true rfl) (lt_of_ble rfl)
            refine Wk.nil (inBlockA_normal (thenA_normal ?_))
            exact ⟨⟨zs5, p5, 1 + (k1 : Int), 0, (k2 : Int), true, false, (k5 : Int), 0, 0, 0, []⟩, ⟨by simp only; omega, ⟨by simp only; omega, by simp only; omega⟩, ⟨by simp only; omega, by simp only; omega⟩, ⟨by simp only; omega, by simp only; omega⟩, ⟨by simp only; omega, by simp only; omega⟩, ⟨by simp only; omega, by simp only; omega⟩, ⟨by simp only; omega, by simp only; omega⟩, by simp⟩, (fun a w hR => fin _ _ rfl rfl rfl rfl rfl rfl rfl rfl rfl a w (Rel.nilc (j := 5) (c := 8) (i' := 7) 5 1 rfl rfl rfl hR))⟩
        · refine AW.seq ?_
          apply AW.list
          apply Wk.bin rfl rfl (fun w => by simp [go_sem] <;> rfl) (lt_of_ble rfl)
          apply Wk.asg (by conv => lhs; whnf) (lt_of_ble rfl)
          refine Wk.nil ?_
          refine AW.cond rfl (fun hc => ?_) (fun hc => ?_)
          · refine AW.seq ?_
            apply AW.list
            apply Wk.mv (by conv => lhs; whnf) (lt_of_ble rfl)
            apply Wk.drx [7] partO_ok Tryd.func60 rfl rfl rfl rfl rfl (by omega) rfl (by simp; rfl) (lt_of_ble rfl)
            rintro r2 zs2 p2 ex ⟨sg, ln, q, bs, rfl, rfl, hs1, hs2, hl1, hl2, hbl⟩ hp2
            apply Wk.alc 70 [.int .i64 0, .int .i64 0, .slice none 0 0] ze41 rfl rfl (lt_of_ble rfl)
            apply Wk.sto (i := 70) 3 true ty41 rfl rfl rfl rfl (Nat.le_of_ble_eq_true rfl) (lt_of_ble rfl)
            refine Wk.nil ?_
            apply AW.list
            apply Wk.fad 0 0 false fd41_0 rfl (lt_of_ble rfl)
            apply Wk.ld (i := 70) 1 false ty3 rfl rfl (by conv => lhs; whnf) (lt_of_ble rfl)
            apply Wk.fad 1 0 false fd41_1 rfl (lt_of_ble rfl)
            apply Wk.ld (i := 70) 1 false ty3 rfl rfl (by conv => lhs; whnf) (lt_of_ble rfl)
            apply Wk.fad 2 0 false fd41_2 rfl (lt_of_ble rfl)
            apply Wk.ld (i := 70) 1 false ty22 rfl rfl (by conv => lhs; whnf) (lt_of_ble rfl)
            apply Wk.bld [.int .i64 0, .int .i64 0, .int .i64 0, .bool false, .bool false, .int .i64 0, .int .i64 0, .int .i64 0, .slice none 0 0] [(0, 1), (1, 1), (2, 1), (3, 1), (4, 1), (5, 1), (6, 1), (7, 1), (8, 1)] bl31 rfl (by conv => lhs; whnf) (lt_of_ble rfl)
            apply Wk.sto (i := 5) 9 true ty31 rfl rfl rfl rfl (Nat.le_of_ble_eq_true rfl) (lt_of_ble rfl)
            refine Wk.nil (inBlockA_normal (thenA_normal ?_))
            exact ⟨⟨zs2, p2, 3, 0, 0, false, false, 0, sg, ln, q, bs⟩, ⟨by simp only; omega, ⟨by simp only; omega, by simp only; omega⟩, ⟨by simp only; omega, by simp only; omega⟩, ⟨by simp only; omega, by simp only; omega⟩, ⟨by simp only; omega, by simp only; omega⟩, ⟨by simp only; omega, by simp only; omega⟩, ⟨by simp only; omega, by simp only; omega⟩, by simp only; omega⟩, fin _ _ rfl rfl rfl rfl rfl rfl rfl rfl rfl⟩
          · apply AW.list
            apply Wk.mv (by conv => lhs; whnf) (lt_of_ble rfl)
            apply Wk.drw 0 pick_ok Tryd.func52 rfl rfl rfl rfl ⟨_, rfl, by omega⟩ (by omega) rfl (lt_of_ble rfl)
            rintro r2 zs2 p2 ⟨k2, rfl, hk2⟩ hp2
            replace hk2 := hk2 _ rfl
            apply Wk.addi rfl rfl (by omega) (lt_of_ble rfl)
            apply Wk.lst 17 1 false [.int .i64 0] un89 ty3 ze3 rfl rfl (by rfl) (by rfl) (by decide) (by decide) rfl rfl (all_len rfl) (lt_of_ble rfl)
            apply Wk.mv (by conv => lhs; whnf) (lt_of_ble rfl)
            apply Wk.drw 0 pick_ok Tryd.func52 rfl rfl rfl rfl ⟨_, rfl, by omega⟩ (by omega) rfl (lt_of_ble rfl)
            rintro r3 zs3 p3 ⟨k3, rfl, hk3⟩ hp3
            have hk3' : k3 < 2 := by have := hk3 2 rfl; omega
            obtain ⟨v, hv, hv1, hv2⟩ : ∃ v : Int, partA (List.flatten [[A.d (.v (.int .i64 (1 + (k2 : Int))))], [.d (.v (.int .i64 255))]]) (k3 * 1) 1 false = some (.d (.v (.int .i64 v))) ∧ -1000 ≤ v ∧ v ≤ 1000 := by
              rcases (show k3 = 0 ∨ k3 = 1 by omega) with rfl | rfl
              · exact ⟨_, rfl, by omega, by omega⟩
              · exact ⟨_, rfl, by omega, by omega⟩
            apply Wk.iado 17 1 false un89 ty3 rfl rfl rfl hk3' (lt_of_ble rfl)
            apply Wk.ldo (i := 17) 1 false ty3 rfl rfl hv (lt_of_ble rfl)
            apply Wk.fad 7 0 false fd31_7 rfl (lt_of_ble rfl)
            apply Wk.sto (i := 5) 1 false ty3 rfl rfl rfl rfl (Nat.le_of_ble_eq_true rfl) (lt_of_ble rfl)
            refine Wk.nil (inBlockA_normal (thenA_normal ?_))
            exact ⟨⟨zs3, p3, 1 + (k1 : Int), 0, 0, false, false, 0, 0, v, 0, []⟩, ⟨by simp only; omega, ⟨by simp only; omega, by simp only; omega⟩, ⟨by simp only; omega, by simp only; omega⟩, ⟨by simp only; omega, by simp only; omega⟩, ⟨by simp only; omega, by simp only; omega⟩, ⟨by simp only; omega, by simp only; omega⟩, ⟨by simp only; omega, by simp only; omega⟩, by simp⟩, (fun a w hR => fin _ _ rfl rfl rfl rfl rfl rfl rfl rfl rfl a w (Rel.nilc (j := 5) (c := 8) (i' := 7) 5 1 rfl rfl rfl hR))⟩
    · rintro ⟨zs6, p6, k, s, c, pl, f, y, g, l, q, bs⟩ ⟨hp6, ⟨a1, a2⟩, ⟨a3, a4⟩, ⟨a5, a6⟩, ⟨a7, a8⟩, ⟨a9, a10⟩, ⟨a11, a12⟩, hb6⟩
      simp only at hp6 a1 a2 a3 a4 a5 a6 a7 a8 a9 a10 a11 a12 hb6
      show AW Tryd.prog C _ _ (St.of 136 [(0, .ptr 0 0), (1, .d (.v (.int .i64 n))), (4, .ptr 4 0), (5, .ptr 5 0)] [(0, rdr zs6 p6), (4, .var frmZ0), (5, .var (frmO k s c pl f y g l (.own 7 q))), (7, ownB q bs)])
      refine AW.via (FO.inv n) (FO.ok p 3020 17) ?_ ?_
      · refine AW.seq ?_
        apply AW.list
        apply Wk.mv (by conv => lhs; whnf) (lt_of_ble rfl)
        apply Wk.mv (by conv => lhs; whnf) (lt_of_ble rfl)
        apply Wk.drw 0 odd_ok Tryd.func61 rfl rfl rfl rfl ⟨_, rfl, by omega⟩ (by omega) rfl (lt_of_ble rfl)
        rintro r7 zs7 p7 ⟨b7, rfl, _⟩ hp7
        refine Wk.nil ?_
        refine AW.cond rfl (fun hc => ?_) (fun hc => AW.skip (thenA_normal ?_))
        · refine AW.seq ?_
          apply AW.list
          apply Wk.mv (by conv => lhs; whnf) (lt_of_ble rfl)
          apply Wk.drw 0 pick_ok Tryd.func52 rfl rfl rfl rfl ⟨_, rfl, by omega⟩ (by omega) rfl (lt_of_ble rfl)
          rintro r8 zs8 p8 ⟨k8, rfl, hk8⟩ hp8
          refine Wk.nil (AW.block ?_)
          refine AW.seq ?_
          apply AW.list
          apply Wk.bin rfl rfl (fun w => by simp [go_sem] <;> rfl) (lt_of_ble rfl)
          apply Wk.asg (by conv => lhs; whnf) (lt_of_ble rfl)
          refine Wk.nil ?_
          refine AW.cond rfl (fun hc => ?_) (fun hc => ?_)
          · apply AW.list
            apply Wk.lst 86 1 false [.int .i64 0] un89 ty3 ze3 rfl rfl (by rfl) (by rfl) (by decide) (by decide) rfl rfl (all_len rfl) (lt_of_ble rfl)
            apply Wk.mv (by conv => lhs; whnf) (lt_of_ble rfl)
            apply Wk.drw 0 pick_ok Tryd.func52 rfl rfl rfl rfl ⟨_, rfl, by omega⟩ (by omega) rfl (lt_of_ble rfl)
            rintro r9 zs9 p9 ⟨k9, rfl, hk9⟩ hp9
            have hk9' : k9 < 2 := by have := hk9 2 rfl; omega
            obtain ⟨v, hv, hv1, hv2⟩ : ∃ v : Int, partA (List.flatten [[A.d (.v (.int .i64 0))], [.d (.v (.int .i64 5))]]) (k9 * 1) 1 false = some (.d (.v (.int .i64 v))) ∧ -1000 ≤ v ∧ v ≤ 1000 := by
              rcases (show k9 = 0 ∨ k9 = 1 by omega) with rfl | rfl
              · exact ⟨_, rfl, by omega, by omega⟩
              · exact ⟨_, rfl, by omega, by omega⟩
            apply Wk.iado 86 1 false un89 ty3 rfl rfl rfl hk9' (lt_of_ble rfl)
            apply Wk.ldo (i := 86) 1 false ty3 rfl rfl hv (lt_of_ble rfl)
            apply Wk.fad 0 0 false fd31_0 rfl (lt_of_ble rfl)
            apply Wk.sto (i := 5) 1 false ty3 rfl rfl rfl rfl (Nat.le_of_ble_eq_true rfl) (lt_of_ble rfl)
            refine Wk.nil (inBlockA_normal (thenA_normal ?_))
            exact ⟨⟨zs9, p9, v, s, c, pl, f, y, g, l, q, bs⟩, ⟨by simp only; omega, ⟨by simp only; omega, by simp only; omega⟩, ⟨by simp only; omega, by simp only; omega⟩, ⟨by simp only; omega, by simp only; omega⟩, ⟨by simp only; omega, by simp only; omega⟩, ⟨by simp only; omega, by simp only; omega⟩, ⟨by simp only; omega, by simp only; omega⟩, by simp only; omega⟩, fin _ _ rfl rfl rfl rfl rfl rfl rfl rfl rfl⟩
          · refine AW.seq ?_
            apply AW.list
            apply Wk.bin rfl rfl (fun w => by simp [go_sem] <;> rfl) (lt_of_ble rfl)
            apply Wk.asg (by conv => lhs; whnf) (lt_of_ble rfl)
            refine Wk.nil ?_
            refine AW.cond rfl (fun hc => ?_) (fun hc => ?_)
            · apply AW.list
              apply Wk.lst 94 1 false [.int .i64 0] un89 ty3 ze3 rfl rfl (by rfl) (by rfl) (by decide) (by decide) rfl rfl (all_len rfl) (lt_of_ble rfl)
              apply Wk.mv (by conv => lhs; whnf) (lt_of_ble rfl)
              apply Wk.drw 0 pick_ok Tryd.func52 rfl rfl rfl rfl ⟨_, rfl, by omega⟩ (by omega) rfl (lt_of_ble rfl)
              rintro r9 zs9 p9 ⟨k9, rfl, hk9⟩ hp9
              have hk9' : k9 < 3 := by have := hk9 3 rfl; omega
              obtain ⟨v, hv, hv1, hv2⟩ : ∃ v : Int, partA (List.flatten [[A.d (.v (.int .i64 (-1)))], [.d (.v (.int .i64 8))], [.d (.v (.int .i64 1))]]) (k9 * 1) 1 false = some (.d (.v (.int .i64 v))) ∧ -1000 ≤ v ∧ v ≤ 1000 := by
                rcases (show k9 = 0 ∨ k9 = 1 ∨ k9 = 2 by omega) with rfl | rfl | rfl
                · exact ⟨_, rfl, by omega, by omega⟩
                · exact ⟨_, rfl, by omega, by omega⟩
                · exact ⟨_, rfl, by omega, by omega⟩
              apply Wk.iado 94 1 false un89 ty3 rfl rfl rfl hk9' (lt_of_ble rfl)
              apply Wk.ldo (i := 94) 1 false ty3 rfl rfl hv (lt_of_ble rfl)
              apply Wk.fad 1 0 false fd31_1 rfl (lt_of_ble rfl)
              apply Wk.sto (i := 5) 1 false ty3 rfl rfl rfl rfl (Nat.le_of_ble_eq_true rfl) (lt_of_ble rfl)
              refine Wk.nil (inBlockA_normal (thenA_normal ?_))
              exact ⟨⟨zs9, p9, k, v, c, pl, f, y, g, l, q, bs⟩, ⟨by simp only; omega, ⟨by simp only; omega, by simp only; omega⟩, ⟨by simp only; omega, by simp only; omega⟩, ⟨by simp only; omega, by simp only; omega⟩, ⟨by simp only; omega, by simp only; omega⟩, ⟨by simp only; omega, by simp only; omega⟩, ⟨by simp only; omega, by simp only; omega⟩, by simp only; omega⟩, fin _ _ rfl rfl rfl rfl rfl rfl rfl rfl rfl⟩
            · refine AW.seq ?_
              apply AW.list
              apply Wk.bin rfl rfl (fun w => by simp [go_sem] <;> rfl) (lt_of_ble rfl)
              apply Wk.asg (by conv => lhs; whnf) (lt_of_ble rfl)
              refine Wk.nil ?_
              refine AW.cond rfl (fun hc => ?_) (fun hc => ?_)
              · apply AW.list
                apply Wk.lst 102 1 false [.int .i64 0] un89 ty3 ze3 rfl rfl (by rfl) (by rfl) (by decide) (by decide) rfl rfl (all_len rfl) (lt_of_ble rfl)
                apply Wk.mv (by conv => lhs; whnf) (lt_of_ble rfl)
                apply Wk.drw 0 pick_ok Tryd.func52 rfl rfl rfl rfl ⟨_, rfl, by omega⟩ (by omega) rfl (lt_of_ble rfl)
                rintro r9 zs9 p9 ⟨k9, rfl, hk9⟩ hp9
                have hk9' : k9 < 3 := by have := hk9 3 rfl; omega
                obtain ⟨v, hv, hv1, hv2⟩ : ∃ v : Int, partA (List.flatten [[A.d (.v (.int .i64 (-1)))], [.d (.v (.int .i64 8))], [.d (.v (.int .i64 1))]]) (k9 * 1) 1 false = some (.d (.v (.int .i64 v))) ∧ -1000 ≤ v ∧ v ≤ 1000 := by
                  rcases (show k9 = 0 ∨ k9 = 1 ∨ k9 = 2 by omega) with rfl | rfl | rfl
                  · exact ⟨_, rfl, by omega, by omega⟩
                  · exact ⟨_, rfl, by omega, by omega⟩
                  · exact ⟨_, rfl, by omega, by omega⟩
                apply Wk.iado 102 1 false un89 ty3 rfl rfl rfl hk9' (lt_of_ble rfl)
                apply Wk.ldo (i := 102) 1 false ty3 rfl rfl hv (lt_of_ble rfl)
                apply Wk.fad 2 0 false fd31_2 rfl (lt_of_ble rfl)
                apply Wk.sto (i := 5) 1 false ty3 rfl rfl rfl rfl (Nat.le_of_ble_eq_true rfl) (lt_of_ble rfl)
                refine Wk.nil (inBlockA_normal (thenA_normal ?_))
                exact ⟨⟨zs9, p9, k, s, v, pl, f, y, g, l, q, bs⟩, ⟨by simp only; omega, ⟨by simp only; omega, by simp only; omega⟩, ⟨by simp only; omega, by simp only; omega⟩, ⟨by simp only; omega, by simp only; omega⟩, ⟨by simp only; omega, by simp only; omega⟩, ⟨by simp only; omega, by simp only; omega⟩, ⟨by simp only; omega, by simp only; omega⟩, by simp only; omega⟩, fin _ _ rfl rfl rfl rfl rfl rfl rfl rfl rfl⟩
              · refine AW.seq ?_
                apply AW.list
                apply Wk.bin rfl rfl (fun w => by simp [go_sem] <;> rfl) (lt_of_ble rfl)
                apply Wk.asg (by conv => lhs; whnf) (lt_of_ble rfl)
                refine Wk.nil ?_
                refine AW.cond rfl (fun hc => ?_) (fun hc => ?_)
                · refine AW.seq ?_
                  apply AW.list
                  apply Wk.fad 3 0 false fd31_3 rfl (lt_of_ble rfl)
                  apply Wk.sto (i := 5) 1 false ty4 rfl rfl rfl rfl (Nat.le_of_ble_eq_true rfl) (lt_of_ble rfl)
                  refine Wk.nil ?_
                  apply AW.list
                  apply Wk.fad 4 0 false fd31_4 rfl (lt_of_ble rfl)
                  apply Wk.sto (i := 5) 1 false ty4 rfl rfl rfl rfl (Nat.le_of_ble_eq_true rfl) (lt_of_ble rfl)
                  refine Wk.nil (inBlockA_normal (thenA_normal ?_))
                  exact ⟨⟨zs8, p8, k, s, c, true, true, y, g, l, q, bs⟩, ⟨by simp only; omega, ⟨by simp only; omega, by simp only; omega⟩, ⟨by simp only; omega, by simp only; omega⟩, ⟨by simp only; omega, by simp only; omega⟩, ⟨by simp only; omega, by simp only; omega⟩, ⟨by simp only; omega, by simp only; omega⟩, ⟨by simp only; omega, by simp only; omega⟩, by simp only; omega⟩, fin _ _ rfl rfl rfl rfl rfl rfl rfl rfl rfl⟩
                · refine AW.seq ?_
                  apply AW.list
                  apply Wk.bin rfl rfl (fun w => by simp [go_sem] <;> rfl) (lt_of_ble rfl)
                  apply Wk.asg (by conv => lhs; whnf) (lt_of_ble rfl)
                  refine Wk.nil ?_
                  refine AW.cond rfl (fun hc => ?_) (fun hc => ?_)
                  · apply AW.list
                    apply Wk.lst 114 1 false [.int .i64 0] un89 ty3 ze3 rfl rfl (by rfl) (by rfl) (by decide) (by decide) rfl rfl (all_len rfl) (lt_of_ble rfl)
                    apply Wk.mv (by conv => lhs; whnf) (lt_of_ble rfl)
                    apply Wk.drw 0 pick_ok Tryd.func52 rfl rfl rfl rfl ⟨_, rfl, by omega⟩ (by omega) rfl (lt_of_ble rfl)
                    rintro r9 zs9 p9 ⟨k9, rfl, hk9⟩ hp9
                    have hk9' : k9 < 3 := by have := hk9 3 rfl; omega
                    obtain ⟨v, hv, hv1, hv2⟩ : ∃ v : Int, partA (List.flatten [[A.d (.v (.int .i64 (-1)))], [.d (.v (.int .i64 3))], [.d (.v (.int .i64 1))]]) (k9 * 1) 1 false = some (.d (.v (.int .i64 v))) ∧ -1000 ≤ v ∧ v ≤ 1000 := by
                      rcases (show k9 = 0 ∨ k9 = 1 ∨ k9 = 2 by omega) with rfl | rfl | rfl
                      · exact ⟨_, rfl, by omega, by omega⟩
                      · exact ⟨_, rfl, by omega, by omega⟩
                      · exact ⟨_, rfl, by omega, by omega⟩
                    apply Wk.iado 114 1 false un89 ty3 rfl rfl rfl hk9' (lt_of_ble rfl)
                    apply Wk.ldo (i := 114) 1 false ty3 rfl rfl hv (lt_of_ble rfl)
                    apply Wk.fad 5 0 false fd31_5 rfl (lt_of_ble rfl)
                    apply Wk.sto (i := 5) 1 false ty3 rfl rfl rfl rfl (Nat.le_of_ble_eq_true rfl) (lt_of_ble rfl)
                    refine Wk.nil (inBlockA_normal (thenA_normal ?_))
                    exact ⟨⟨zs9, p9, k, s, c, pl, f, v, g, l, q, bs⟩, ⟨by simp only; omega, ⟨by simp only; omega, by simp only; omega⟩, ⟨by simp only; omega, by simp only; omega⟩, ⟨by simp only; omega, by simp only; omega⟩, ⟨by simp only; omega, by simp only; omega⟩, ⟨by simp only; omega, by simp only; omega⟩, ⟨by simp only; omega, by simp only; omega⟩, by simp only; omega⟩, fin _ _ rfl rfl rfl rfl rfl rfl rfl rfl rfl⟩
                  · refine AW.seq ?_
                    apply AW.list
                    apply Wk.bin rfl rfl (fun w => by simp [go_sem] <;> rfl) (lt_of_ble rfl)
                    apply Wk.asg (by conv => lhs; whnf) (lt_of_ble rfl)
                    refine Wk.nil ?_
                    refine AW.cond rfl (fun hc => ?_) (fun hc => ?_)
                    · apply AW.list
                      apply Wk.lst 122 1 false [.int .i64 0] un89 ty3 ze3 rfl rfl (by rfl) (by rfl) (by decide) (by decide) rfl rfl (all_len rfl) (lt_of_ble rfl)
                      apply Wk.mv (by conv => lhs; whnf) (lt_of_ble rfl)
                      apply Wk.drw 0 pick_ok Tryd.func52 rfl rfl rfl rfl ⟨_, rfl, by omega⟩ (by omega) rfl (lt_of_ble rfl)
                      rintro r9 zs9 p9 ⟨k9, rfl, hk9⟩ hp9
                      have hk9' : k9 < 4 := by have := hk9 4 rfl; omega
                      obtain ⟨v, hv, hv1, hv2⟩ : ∃ v : Int, partA (List.flatten [[A.d (.v (.int .i64 (-1)))], [.d (.v (.int .i64 0))], [.d (.v (.int .i64 256))], [.d (.v (.int .i64 30))]]) (k9 * 1) 1 false = some (.d (.v (.int .i64 v))) ∧ -1000 ≤ v ∧ v ≤ 1000 := by
                        rcases (show k9 = 0 ∨ k9 = 1 ∨ k9 = 2 ∨ k9 = 3 by omega) with rfl | rfl | rfl | rfl
                        · exact ⟨_, rfl, by omega, by omega⟩
                        · exact ⟨_, rfl, by omega, by omega⟩
                        · exact ⟨_, rfl, by omega, by omega⟩
                        · exact ⟨_, rfl, by omega, by omega⟩
                      apply Wk.iado 122 1 false un89 ty3 rfl rfl rfl hk9' (lt_of_ble rfl)
                      apply Wk.ldo (i := 122) 1 false ty3 rfl rfl hv (lt_of_ble rfl)
                      apply Wk.fad 7 0 false fd31_7 rfl (lt_of_ble rfl)
                      apply Wk.sto (i := 5) 1 false ty3 rfl rfl rfl rfl (Nat.le_of_ble_eq_true rfl) (lt_of_ble rfl)
                      refine Wk.nil (inBlockA_normal (thenA_normal ?_))
                      exact ⟨⟨zs9, p9, k, s, c, pl, f, y, g, v, q, bs⟩, ⟨by simp only; omega, ⟨by simp only; omega, by simp only; omega⟩, ⟨by simp only; omega, by simp only; omega⟩, ⟨by simp only; omega, by simp only; omega⟩, ⟨by simp only; omega, by simp only; omega⟩, ⟨by simp only; omega, by simp only; omega⟩, ⟨by simp only; omega, by simp only; omega⟩, by simp only; omega⟩, fin _ _ rfl rfl rfl rfl rfl rfl rfl rfl rfl⟩
                    · refine AW.seq ?_
                      apply AW.list
                      apply Wk.bin rfl rfl (fun w => by simp [go_sem] <;> rfl) (lt_of_ble rfl)
                      apply Wk.asg (by conv => lhs; whnf) (lt_of_ble rfl)
                      refine Wk.nil ?_
                      refine AW.cond rfl (fun hc => ?_) (fun hc => ?_)
                      · apply AW.list
                        apply Wk.fad 8 0 false fd31_8 rfl (lt_of_ble rfl)
                        apply Wk.ld (i := 5) 1 false ty22 rfl rfl (by conv => lhs; whnf) (lt_of_ble rfl)
                        apply Wk.lst 132 1 false [.int .u8 0] un22 ty5 ze5 rfl rfl (by rfl) (by rfl) (by decide) (by decide) rfl rfl (all_len rfl) (lt_of_ble rfl)
                        apply Wk.appOO 7 132 1 un22 ap5 rfl rfl rfl rfl (by decide) (all_len rfl) (one_cellsB bs) (by simp [cellsB]; omega) (lt_of_ble rfl)
                        apply Wk.fad 8 0 false fd31_8 rfl (lt_of_ble rfl)
                        apply Wk.sto (i := 5) 1 false ty22 rfl rfl rfl rfl (Nat.le_of_ble_eq_true rfl) (lt_of_ble rfl)
                        refine Wk.nil (inBlockA_normal (thenA_normal ?_))
                        have e9 : cellsB (bs ++ [1, 2, 3, 4, 5, 6, 7, 8, 9]) = cellsB bs ++ cellsB [1, 2, 3, 4, 5, 6, 7, 8, 9] := by simp [cellsB]
                        exact ⟨⟨zs8, p8, k, s, c, pl, f, y, g, l, (q + 1), (bs ++ [1, 2, 3, 4, 5, 6, 7, 8, 9])⟩, ⟨by simp only; omega, ⟨by simp only; omega, by simp only; omega⟩, ⟨by simp only; omega, by simp only; omega⟩, ⟨by simp only; omega, by simp only; omega⟩, ⟨by simp only; omega, by simp only; omega⟩, ⟨by simp only; omega, by simp only; omega⟩, ⟨by simp only; omega, by simp only; omega⟩, by simp; omega⟩, fin _ _ rfl rfl rfl rfl rfl rfl rfl rfl (by unfold ownB; rw [e9]; rfl)⟩
                      · apply AW.list
                        apply Wk.lst 78 1 false [.int .i64 0] un89 ty3 ze3 rfl rfl (by rfl) (by rfl) (by decide) (by decide) rfl rfl (all_len rfl) (lt_of_ble rfl)
                        apply Wk.mv (by conv => lhs; whnf) (lt_of_ble rfl)
                        apply Wk.drw 0 pick_ok Tryd.func52 rfl rfl rfl rfl ⟨_, rfl, by omega⟩ (by omega) rfl (lt_of_ble rfl)
                        rintro r9 zs9 p9 ⟨k9, rfl, hk9⟩ hp9
                        have hk9' : k9 < 3 := by have := hk9 3 rfl; omega
                        obtain ⟨v, hv, hv1, hv2⟩ : ∃ v : Int, partA (List.flatten [[A.d (.v (.int .i64 (-1)))], [.d (.v (.int .i64 4))], [.d (.v (.int .i64 2))]]) (k9 * 1) 1 false = some (.d (.v (.int .i64 v))) ∧ -1000 ≤ v ∧ v ≤ 1000 := by
                          rcases (show k9 = 0 ∨ k9 = 1 ∨ k9 = 2 by omega) with rfl | rfl | rfl
                          · exact ⟨_, rfl, by omega, by omega⟩
                          · exact ⟨_, rfl, by omega, by omega⟩
                          · exact ⟨_, rfl, by omega, by omega⟩
                        apply Wk.iado 78 1 false un89 ty3 rfl rfl rfl hk9' (lt_of_ble rfl)
                        apply Wk.ldo (i := 78) 1 false ty3 rfl rfl hv (lt_of_ble rfl)
                        apply Wk.fad 6 0 false fd31_6 rfl (lt_of_ble rfl)
                        apply Wk.sto (i := 5) 1 false ty3 rfl rfl rfl rfl (Nat.le_of_ble_eq_true rfl) (lt_of_ble rfl)
                        refine Wk.nil (inBlockA_normal (thenA_normal ?_))
                        exact ⟨⟨zs9, p9, k, s, c, pl, f, y, v, l, q, bs⟩, ⟨by simp only; omega, ⟨by simp only; omega, by simp only; omega⟩, ⟨by simp only; omega, by simp only; omega⟩, ⟨by simp only; omega, by simp only; omega⟩, ⟨by simp only; omega, by simp only; omega⟩, ⟨by simp only; omega, by simp only; omega⟩, ⟨by simp only; omega, by simp only; omega⟩, by simp only; omega⟩, fin _ _ rfl rfl rfl rfl rfl rfl rfl rfl rfl⟩
        · exact ⟨⟨zs7, p7, k, s, c, pl, f, y, g, l, q, bs⟩, ⟨by simp only; omega, ⟨by simp only; omega, by simp only; omega⟩, ⟨by simp only; omega, by simp only; omega⟩, ⟨by simp only; omega, by simp only; omega⟩, ⟨by simp only; omega, by simp only; omega⟩, ⟨by simp only; omega, by simp only; omega⟩, ⟨by simp only; omega, by simp only; omega⟩, by simp only; omega⟩, fin _ _ rfl rfl rfl rfl rfl rfl rfl rfl rfl⟩
      · rintro ⟨zs6, p6, k, s, c, pl, f, y, g, l, q, bs⟩ ⟨hp6, hk, hs, hcc, hy, hg, hl, hb6⟩
        show AW Tryd.prog C _ _ (St.of 136 [(0, .ptr 0 0), (1, .d (.v (.int .i64 n))), (4, .ptr 4 0), (5, .ptr 5 0)] [(0, rdr zs6 p6), (4, .var frmZ0), (5, .var (frmO k s c pl f y g l (.own 7 q))), (7, ownB q bs)])
        refine AW.thawc (j := 5) (c := 8) (i := 7) (cellsD bs) rfl rfl (by rfl) (asData_cells bs) (hX.one (by decide) rfl) ?_
        refine AW.seq ?_
        apply AW.list
        apply Wk.ld (i := 5) 9 true ty31 rfl rfl (by conv => lhs; whnf) (lt_of_ble rfl)
        apply Wk.sto (i := 4) 9 true ty31 rfl rfl rfl rfl (Nat.le_of_ble_eq_true rfl) (lt_of_ble rfl)
        refine Wk.nil (AW.ret ?_)
        exact RetQ.ret [(0, rdr zs6 p6)] (.cons ⟨4, 0, _, _, _, rfl, rfl, ty31, rfl⟩ .nil) ⟨⟨k, s, c, pl, f, y, g, l, bs, rfl, hk, hs, hcc, hy, hg, hl, hb6⟩, _, _, rfl, hp6⟩ (kept1 rfl)
  · rintro rest ⟨n, rfl, _⟩; rfl
  · rintro rest _; exact ⟨_, 0, 0, 0, false, false, 0, 0, 0, [], rfl, by simp [Sm]⟩
  · rintro rest r ⟨k, s, c, pl, f, y, g, l, bs, rfl, _⟩; rfl
end Go.Proofs.YtejafihfbncaoaaDoor

/- What comes of a frame that is heard, as a function; what is true of it. -/
namespace Go.Proofs.YtejafihfbncaoaaDoor
open Go
/-- What both use, who hears, a frame; and what comes of it: who hears then, the message, what is said. -/
structure CF where
  m : Int
  w : Int
  s : Int
  t : Int
  y : Int
structure RX where
  e : Int
  c : Int
  m : Int
  bs : List (Fin 256)
  a : Bool
  u : Bool
  d : Bool
structure FR where
  k : Int
  s : Int
  c : Int
  p : Bool
  f : Bool
  y : Int
  g : Int
  l : Int
  bs : List (Fin 256)
structure HO where
  x : RX
  sd : Option (List (Fin 256))
  sy : Option (Int × Bool × Int)
def CF.ok (q : CF) : Bool := Opt.ok ⟨q.m, q.w, q.s, q.t, q.y⟩
def RX.ok (x : RX) : Bool := rxB x.e x.c x.m x.bs.length
def FR.ok (f : FR) : Bool := frmB f.k f.s f.c f.p f.f f.y f.g f.l f.bs.length
def RX.zero : RX := ⟨0, 0, 0, [], false, false, false⟩
/-- The piece that comes next. -/
def takeF (q : CF) (x : RX) (f : FR) : HO :=
  if q.t < f.l ∨ q.s < (f.bs.length : Int) ∨ x.c = 9999 then ⟨⟨x.e, x.c, x.m, x.bs, x.a, x.u, true⟩, none, none⟩
  else if putC x.m x.bs.length f.g f.bs.length = 3 then ⟨⟨x.e, x.c, 0, [], x.a, x.u, true⟩, none, none⟩
  else if putC x.m x.bs.length f.g f.bs.length = 2 then ⟨⟨(x.e + 1) % 8, x.c + 1, 0, [], false, x.u, x.d⟩, some (x.bs ++ f.bs), none⟩
  else ⟨⟨(x.e + 1) % 8, x.c + 1, if x.m = 0 then f.l else x.m, x.bs ++ f.bs, false, x.u, x.d⟩, none, none⟩
/-- All is as it may be. -/
def goesB (q : CF) (x : RX) (f : FR) : Bool := q.ok && x.ok && f.ok && (f.k == 1 || f.k == 2)
def hearF (q : CF) (x : RX) (f : FR) : HO :=
  if goesB q x f = false then ⟨RX.zero, none, none⟩
  else if x.d = true then ⟨x, none, none⟩
  else if f.k = 2 then (if f.p = true then ⟨⟨x.e, x.c, x.m, x.bs, false, x.u, x.d⟩, none, some (x.e, true, sayOf x.u)⟩ else ⟨x, none, none⟩)
  else if x.u = true then ⟨x, none, some (x.e, false, 2)⟩
  else if f.s = x.e then takeF q x f
  else if x.a = true ∨ q.w ≤ farF x.e f.s then ⟨x, none, none⟩
  else ⟨⟨x.e, x.c, x.m, x.bs, true, x.u, x.d⟩, none, some (x.e, false, 1)⟩

theorem RX.ok_iff {x : RX} : x.ok = true ↔ (0 ≤ x.c ∧ x.c ≤ 9999) ∧ x.c % 8 = x.e ∧ joinB x.m x.bs.length = true := by
  simp only [RX.ok, rxB, Bool.and_eq_true, inB_iff, beq_iff_eq]
  constructor
  · rintro ⟨⟨h1, h2⟩, h3⟩; exact ⟨h1, h2, h3⟩
  · rintro ⟨h1, h2, h3⟩; exact ⟨⟨h1, h2⟩, h3⟩
theorem putC_cases (m : Int) (n : Nat) (g : Int) (k : Nat) : putC m n g k = 1 ∨ putC m n g k = 2 ∨ putC m n g k = 3 := by
  unfold putC
  repeat' split
  all_goals simp
theorem join_more {m : Int} {n : Nat} {g l : Int} {k : Nat} (hj : joinB m n = true) (hp : pieceB g l k = true) (h : putC m n g k = 1) : joinB (if m = 0 then l else m) (n + k) = true := by
  simp only [joinB, pieceB, decide_eq_true_eq] at hj hp ⊢
  unfold putC at h
  split at h
  · rename_i h0
    rw [if_pos h0]
    repeat' split at h
    all_goals first | omega | simp at h
  · rename_i h0
    rw [if_neg h0]
    repeat' split at h
    all_goals first | omega | simp at h
/-- The three ways of a piece that comes next. -/
theorem take_cases (q : CF) (x : RX) (f : FR) (hx : x.ok = true) (hp : pieceB f.g f.l f.bs.length = true) :
    ((q.t < f.l ∨ q.s < (f.bs.length : Int) ∨ x.c = 9999) ∧ takeF q x f = ⟨⟨x.e, x.c, x.m, x.bs, x.a, x.u, true⟩, none, none⟩) ∨
    (¬ (q.t < f.l ∨ q.s < (f.bs.length : Int) ∨ x.c = 9999) ∧ (
      (putC x.m x.bs.length f.g f.bs.length = 3 ∧ takeF q x f = ⟨⟨x.e, x.c, 0, [], x.a, x.u, true⟩, none, none⟩) ∨
      (putC x.m x.bs.length f.g f.bs.length = 2 ∧ takeF q x f = ⟨⟨(x.e + 1) % 8, x.c + 1, 0, [], false, x.u, x.d⟩, some (x.bs ++ f.bs), none⟩ ∧ (RX.ok ⟨(x.e + 1) % 8, x.c + 1, 0, [], false, x.u, x.d⟩ = true)) ∨
      (putC x.m x.bs.length f.g f.bs.length = 1 ∧ takeF q x f = ⟨⟨(x.e + 1) % 8, x.c + 1, if x.m = 0 then f.l else x.m, x.bs ++ f.bs, false, x.u, x.d⟩, none, none⟩ ∧ (RX.ok ⟨(x.e + 1) % 8, x.c + 1, if x.m = 0 then f.l else x.m, x.bs ++ f.bs, false, x.u, x.d⟩ = true)))) := by
  obtain ⟨h1, h2, h3⟩ := RX.ok_iff.1 hx
  by_cases hl : q.t < f.l ∨ q.s < (f.bs.length : Int) ∨ x.c = 9999
  · exact .inl ⟨hl, by rw [takeF, if_pos hl]⟩
  · refine .inr ⟨hl, ?_⟩
    rcases putC_cases x.m x.bs.length f.g f.bs.length with h | h | h
    · refine .inr (.inr ⟨h, by rw [takeF, if_neg hl, if_neg (by omega), if_neg (by omega)], ?_⟩)
      have h4 := join_more h3 hp h
      rw [RX.ok_iff]
      simp only [List.length_append]
      exact ⟨by omega, by omega, h4⟩
    · refine .inr (.inl ⟨h, by rw [takeF, if_neg hl, if_neg (by omega), if_pos h], ?_⟩)
      rw [RX.ok_iff]
      simp only
      exact ⟨by omega, by omega, by rfl⟩
    · exact .inl ⟨h, by rw [takeF, if_neg hl, if_pos h]⟩
theorem goes_iff {q : CF} {x : RX} {f : FR} : goesB q x f = true ↔ q.ok = true ∧ x.ok = true ∧ f.ok = true ∧ (f.k = 1 ∨ f.k = 2) := by
  simp only [goesB, Bool.and_eq_true, Bool.or_eq_true, beq_iff_eq, and_assoc]
theorem FR.data {f : FR} (h : f.ok = true) (hk : f.k = 1) : (0 ≤ f.s ∧ f.s ≤ 7) ∧ (0 ≤ f.c ∧ f.c ≤ 7) ∧ f.p = false ∧ f.y = 0 ∧ pieceB f.g f.l f.bs.length = true := by
  simp only [FR.ok, frmB, decide_eq_true_eq, hk] at h
  rcases h with h | h | h | h
  · exact h.2
  · exact absurd h.1 (by decide)
  · exact absurd h.1 (by decide)
  · exact absurd h.1 (by decide)
/-- A piece, not dead, not busy. -/
theorem hearF_data {q : CF} {x : RX} {f : FR} (hg : goesB q x f = true) (hk : f.k = 1) (hd : x.d = false) (hu : x.u = false) :
    hearF q x f = if f.s = x.e then takeF q x f else if x.a = true ∨ q.w ≤ farF x.e f.s then ⟨x, none, none⟩ else ⟨⟨x.e, x.c, x.m, x.bs, true, x.u, x.d⟩, none, some (x.e, false, 1)⟩ := by
  rw [hearF, if_neg (by simp [hg]), if_neg (by simp [hd]), if_neg (by omega), if_neg (by simp [hu])]
/-- What does not come next leaves what has come. -/
theorem hearF_other {q : CF} {x : RX} {f : FR} (hg : goesB q x f = true) (h : ¬ (f.k = 1 ∧ f.s = x.e ∧ x.u = false ∧ x.d = false)) :
    (hearF q x f).x.e = x.e ∧ (hearF q x f).x.c = x.c ∧ (hearF q x f).x.m = x.m ∧ (hearF q x f).x.bs = x.bs ∧ (hearF q x f).x.u = x.u ∧ (hearF q x f).x.d = x.d ∧ (hearF q x f).sd = none := by
  have hk := (goes_iff.1 hg).2.2.2
  unfold hearF
  rw [if_neg (by simp [hg])]
  split
  · simp
  rename_i hd
  split
  · split <;> simp
  rename_i hk2
  split
  · simp
  rename_i hu
  split
  · rename_i hs
    exact absurd ⟨by omega, hs, by simpa using hu, by simpa using hd⟩ h
  · split <;> simp
theorem hearF_twice {q : CF} {x : RX} {f : FR} (hq : q.ok = true) (hx : x.ok = true) (hf : f.ok = true) (hk : f.k = 1) (h : (hearF q x f).x.c = x.c + 1) :
    (hearF q (hearF q x f).x f).x.c = (hearF q x f).x.c ∧ (hearF q (hearF q x f).x f).sd = none ∧ (hearF q (hearF q x f).x f).x.m = (hearF q x f).x.m ∧ (hearF q (hearF q x f).x f).x.bs = (hearF q x f).x.bs ∧ (hearF q (hearF q x f).x f).x.d = false := by
  have hg : goesB q x f = true := goes_iff.2 ⟨hq, hx, hf, .inl hk⟩
  have hn : f.k = 1 ∧ f.s = x.e ∧ x.u = false ∧ x.d = false := Classical.byContradiction fun hn => by
    have := (hearF_other hg hn).2.1
    omega
  obtain ⟨_, hs, hu, hd⟩ := hn
  have e0 : hearF q x f = takeF q x f := by rw [hearF_data hg hk hd hu, if_pos hs]
  rw [e0] at h ⊢
  have hx' := RX.ok_iff.1 hx
  have key : ∀ y : RX, y.ok = true → y.e = (x.e + 1) % 8 → y.u = false → y.d = false → (hearF q y f).x.c = y.c ∧ (hearF q y f).sd = none ∧ (hearF q y f).x.m = y.m ∧ (hearF q y f).x.bs = y.bs ∧ (hearF q y f).x.d = false := by
    intro y hy he hu' hd'
    have := hearF_other (q := q) (x := y) (f := f) (goes_iff.2 ⟨hq, hy, hf, .inl hk⟩) (by rintro ⟨_, h2, _⟩; omega)
    exact ⟨this.2.1, this.2.2.2.2.2.2, this.2.2.1, this.2.2.2.1, this.2.2.2.2.2.1.trans hd'⟩
  rcases take_cases q x f hx (FR.data hf hk).2.2.2.2 with ⟨_, e⟩ | ⟨_, ⟨_, e⟩ | ⟨_, e, h3⟩ | ⟨_, e, h3⟩⟩
  · rw [e] at h; simp only at h; omega
  · rw [e] at h; simp only at h; omega
  · rw [e]; exact key _ h3 rfl hu hd
  · rw [e]; exact key _ h3 rfl hu hd
end Go.Proofs.YtejafihfbncaoaaDoor

/- Contracts over memory whose answers are lists of their own, over what values read as. -/
namespace Go.Proofs.YtejafihfbncaoaaDoor
open Go Go.RowKit
theorem cfg_argsL {w : World} {F : Nat → Prop} {E : Nat → Option Nat} {H : Nat → Nat → Option Value} {m n s t y : Int} {v : Value} (h : Den w F E H (cfgA m n s t y) v) : v = .agg #[.int .i64 m, .int .i64 n, .int .i64 s, .int .i64 t, .int .i64 y] := by
  obtain ⟨cs, rfl, hs, _, h⟩ := den_agg h
  have hs' : cs.toList.length = 5 := by simpa using hs
  match hl : cs.toList, hs' with
  | [x0, x1, x2, x3, x4], _ =>
    obtain rfl : cs = #[x0, x1, x2, x3, x4] := by rw [← Array.toArray_toList (xs := cs), hl]
    obtain rfl := den_v (h 0 _ rfl)
    obtain rfl := den_v (h 1 _ rfl)
    obtain rfl := den_v (h 2 _ rfl)
    obtain rfl := den_v (h 3 _ rfl)
    obtain rfl := den_v (h 4 _ rfl)
    rfl
theorem icfg_ok (m n s t y : Int) : DataOk Tryd.prog 47 [cfgA m n s t y] (.d (.v (.bool (Opt.ok ⟨m, n, s, t, y⟩)))) := by
  refine DataOk.lift fun w F E H args _ hs hd => ?_
  obtain ⟨v, rfl, hv⟩ := arg1 hs hd
  obtain rfl := cfg_argsL hv
  exact impl_cfg_v _ _ _ _ _ w
theorem scfg_ok (m n s t y : Int) : DataOk Tryd.prog 31 [cfgA m n s t y] (.d (.v (.bool (Opt.ok ⟨m, n, s, t, y⟩)))) := by
  refine DataOk.lift fun w F E H args _ hs hd => ?_
  obtain ⟨v, rfl, hv⟩ := arg1 hs hd
  obtain rfl := cfg_argsL hv
  exact spec_cfg_v _ _ _ _ _ w
end Go.Proofs.YtejafihfbncaoaaDoor

/- Who hears, of the program; over what values read as. Written by tools/mk_AbsHr.py. -/
namespace Go.Proofs.YtejafihfbncaoaaDoor
open Go
def nilA : A := .d (.v (.slice none 0 0))
def rowE : A := .d (.row [])
def rxC (e c m : Int) (bs : List (Fin 256)) (a u d : Bool) : List A := [.d (.v (.int .i64 e)), .d (.v (.int .i64 c)), .d (.v (.int .i64 m)), .d (fbytes bs), .d (.v (.bool a)), .d (.v (.bool u)), .d (.v (.bool d))]
def frmC (k s c : Int) (p f : Bool) (y g l : Int) (bs : List (Fin 256)) : List A := [.d (.v (.int .i64 k)), .d (.v (.int .i64 s)), .d (.v (.int .i64 c)), .d (.v (.bool p)), .d (.v (.bool f)), .d (.v (.int .i64 y)), .d (.v (.int .i64 g)), .d (.v (.int .i64 l)), .d (fbytes bs)]
def frmDL (k s c : Int) (p f : Bool) (y g l : Int) (bs : List (Fin 256)) : List D := [.v (.int .i64 k), .v (.int .i64 s), .v (.int .i64 c), .v (.bool p), .v (.bool f), .v (.int .i64 y), .v (.int .i64 g), .v (.int .i64 l), fbytes bs]
/-- What is said, in the list that the callback fills. -/
def sayB : Option (Int × Bool × Int) → List (Nat × Bx) → List (Nat × Bx)
  | none, r => (9, .var [nilA]) :: r
  | some (e, f, y), r => (9, .var [.own 77 0]) :: (77, .own 0 31 9 [frmC 2 0 e false f y 0 0 []]) :: r
/-- The messages told. -/
def sdD : Option (List (Fin 256)) → D
  | none => .v (.slice none 0 0)
  | some bs => .row [[fbytes bs]]
theorem XB.two {C : Ctx} {i q r : Nat} {σ : St} {cs0 cs cs1 cs2 : List A} (h : XB C [(q, .var cs0), (r, .var cs1)]) (hne : q ≠ i) (hne' : r ≠ i) (hb : σ.b q = .var cs) (hb' : σ.b r = .var cs2) : ∀ b, C.X b → ∃ j cs, j ≠ i ∧ C.E0 j = some b ∧ σ.b j = .var cs := fun b hx => by
  obtain ⟨j, x, hx, hbk⟩ := h b hx
  rw [List.lookup_cons] at hx
  split at hx
  · rename_i he
    obtain rfl := eq_of_beq he
    obtain rfl := Option.some.inj hx
    exact ⟨j, cs, hne, hbk, hb⟩
  · rw [List.lookup_cons] at hx
    split at hx
    · rename_i he
      obtain rfl := eq_of_beq he
      obtain rfl := Option.some.inj hx
      exact ⟨j, cs2, hne', hbk, hb'⟩
    · cases hx
theorem in_tell (k s c : Int) (p f : Bool) (y g l : Int) (bs : List (Fin 256)) : PostIn ([9] ++ [77]) (fun r bs' => r = .tup [] ∧ bs' = [(9, .var [.own 77 0]), (77, .own 0 31 9 [frmC k s c p f y g l bs])]) := by
  rintro r bs' ⟨rfl, rfl⟩
  exact ⟨rfl, inAll rfl⟩
theorem itl_ok (m n s t y : Int) (k q c : Int) (p f : Bool) (z g l : Int) (bs : List (Fin 256)) : DataOk Tryd.prog 63 [cfgA m n s t y, frmA k q c p f z g l bs] (.d (.v (.bool (decide (t < l ∨ s < (bs.length : Int)))))) := by
  refine Spec.intro (n := 18) (rv := [.tmp 4]) Tryd.func63 rfl rfl rfl (by simp) fun C hN hX => ?_
  refine AW.seq ?_
  apply AW.list
  apply Wk.bx 2 rfl rfl (lt_of_ble rfl)
  apply Wk.bx 3 rfl rfl (lt_of_ble rfl)
  apply Wk.asg (by conv => lhs; whnf) (lt_of_ble rfl)
  refine Wk.nil ?_
  refine AW.seq ?_
  by_cases h : t < l
  · rw [show decide (t < l ∨ s < (bs.length : Int)) = true by simp [h]]
    apply AW.list
    apply Wk.fad 7 0 false fd31_7 rfl (lt_of_ble rfl)
    apply Wk.ld (i := 3) 1 false ty3 rfl rfl (by conv => lhs; whnf) (lt_of_ble rfl)
    apply Wk.fad 3 0 false fd24_3 rfl (lt_of_ble rfl)
    apply Wk.ld (i := 2) 1 false ty3 rfl rfl (by conv => lhs; whnf) (lt_of_ble rfl)
    apply Wk.bin rfl rfl (r := .bool true) (fun w => by simp [go_sem, h]) (lt_of_ble rfl)
    apply Wk.mv (by conv => lhs; whnf) (lt_of_ble rfl)
    apply Wk.goff 10 (ok_faddr fd31_8) rfl rfl (by decide)
    apply Wk.goff 10 (ok_load 3 ty22) rfl rfl (by decide)
    apply Wk.goff 10 (ok_len un22) rfl rfl (by decide)
    apply Wk.goff 10 (ok_faddr fd24_2) rfl rfl (by decide)
    apply Wk.goff 10 (ok_load 2 ty3) rfl rfl (by decide)
    apply Wk.goff 10 (ok_bin _ _ _ _ _) rfl rfl (by decide)
    apply Wk.pckT rfl (by conv => lhs; whnf) (lt_of_ble rfl)
    apply Wk.asg (by conv => lhs; whnf) (lt_of_ble rfl)
    refine Wk.nil (AW.ret ?_)
    exact RetQ.ret [] (.cons rfl .nil) ⟨rfl, rfl⟩ none_kept
  · rw [show decide (t < l ∨ s < (bs.length : Int)) = decide (s < (bs.length : Int)) by simp [h]]
    apply AW.list
    apply Wk.fad 7 0 false fd31_7 rfl (lt_of_ble rfl)
    apply Wk.ld (i := 3) 1 false ty3 rfl rfl (by conv => lhs; whnf) (lt_of_ble rfl)
    apply Wk.fad 3 0 false fd24_3 rfl (lt_of_ble rfl)
    apply Wk.ld (i := 2) 1 false ty3 rfl rfl (by conv => lhs; whnf) (lt_of_ble rfl)
    apply Wk.bin rfl rfl (r := .bool false) (fun w => by simp [go_sem, h]) (lt_of_ble rfl)
    apply Wk.mv (by conv => lhs; whnf) (lt_of_ble rfl)
    apply Wk.gon 10 rfl rfl
    apply Wk.fad 8 0 false fd31_8 rfl (lt_of_ble rfl)
    apply Wk.gon 10 rfl rfl
    apply Wk.ld (i := 3) 1 false ty22 rfl rfl (by conv => lhs; whnf) (lt_of_ble rfl)
    apply Wk.gon 10 rfl rfl
    apply Wk.len un22 rfl (lt_of_ble rfl)
    apply Wk.gon 10 rfl rfl
    apply Wk.fad 2 0 false fd24_2 rfl (lt_of_ble rfl)
    apply Wk.gon 10 rfl rfl
    apply Wk.ld (i := 2) 1 false ty3 rfl rfl (by conv => lhs; whnf) (lt_of_ble rfl)
    apply Wk.gon 10 rfl rfl
    apply Wk.bin rfl rfl (r := .bool (decide (s < (bs.length : Int)))) (fun w => by simp [go_sem]) (lt_of_ble rfl)
    apply Wk.pckF rfl (by conv => lhs; whnf) (lt_of_ble rfl)
    apply Wk.asg (by conv => lhs; whnf) (lt_of_ble rfl)
    refine Wk.nil (AW.ret ?_)
    exact RetQ.ret [] (.cons rfl .nil) ⟨rfl, rfl⟩ none_kept
theorem car_ok (k q c : Int) (p f : Bool) (z g l : Int) (bs : List (Fin 256)) : DataOk Tryd.prog 64 [frmA k q c p f z g l bs] (partA3 g l bs) := by
  refine Spec.intro (n := 10) (rv := [.cell 2 41]) Tryd.func64 rfl rfl rfl (by simp) fun C hN hX => ?_
  refine AW.seq ?_
  apply AW.list
  apply Wk.bx 1 rfl rfl (lt_of_ble rfl)
  apply Wk.alc 2 [.int .i64 0, .int .i64 0, .slice none 0 0] ze41 rfl rfl (lt_of_ble rfl)
  refine Wk.nil ?_
  refine AW.seq ?_
  apply AW.list
  apply Wk.fad 6 0 false fd31_6 rfl (lt_of_ble rfl)
  apply Wk.ld (i := 1) 1 false ty3 rfl rfl (by conv => lhs; whnf) (lt_of_ble rfl)
  apply Wk.fad 7 0 false fd31_7 rfl (lt_of_ble rfl)
  apply Wk.ld (i := 1) 1 false ty3 rfl rfl (by conv => lhs; whnf) (lt_of_ble rfl)
  apply Wk.fad 8 0 false fd31_8 rfl (lt_of_ble rfl)
  apply Wk.ld (i := 1) 1 false ty22 rfl rfl (by conv => lhs; whnf) (lt_of_ble rfl)
  apply Wk.bld [.int .i64 0, .int .i64 0, .slice none 0 0] [(0, 1), (1, 1), (2, 1)] bl41 rfl (by conv => lhs; whnf) (lt_of_ble rfl)
  apply Wk.sto (i := 2) 3 true ty41 rfl rfl rfl rfl (Nat.le_of_ble_eq_true rfl) (lt_of_ble rfl)
  refine Wk.nil (AW.ret ?_)
  exact RetQ.ret [] (.cons ⟨2, 0, _, _, _, rfl, rfl, ty41, rfl⟩ .nil) ⟨rfl, rfl⟩ none_kept
theorem itlb (m n s t y : Int) (k q c : Int) (p f : Bool) (z g l : Int) (bs : List (Fin 256)) {b : Bool} (h : decide (t < l ∨ s < (bs.length : Int)) = b) : DataOk Tryd.prog 63 [cfgA m n s t y, frmA k q c p f z g l bs] (.d (.v (.bool b))) := h ▸ itl_ok m n s t y k q c p f z g l bs
theorem iputb (m : Int) (bs : List (Fin 256)) (g l : Int) (fs : List (Fin 256)) (h1 : bs.length ≤ 2000000) (h2 : fs.length ≤ 2000000) {r : A} (h : putA4 m bs g l fs = r) : DataOk Tryd.prog 33 [joinA m bs, partA3 g l fs] r := h ▸ iput_ok m bs g l fs h1 h2
end Go.Proofs.YtejafihfbncaoaaDoor

/- RxHear of the program; over what values read as. Written by tools/mk_AbsHr2.py. -/
namespace Go.Proofs.YtejafihfbncaoaaDoor
open Go
theorem icfgbX (m n s t y : Int) {b : Bool} (h : Opt.ok ⟨m, n, s, t, y⟩ = b) : DataOk Tryd.prog 47 [cfgA m n s t y] (.d (.v (.bool b))) := h ▸ icfg_ok m n s t y
def rxN : A := .agg [.d (.v (.int .i64 0)), .d (.v (.int .i64 0)), .d (.v (.int .i64 0)), nilA, .d (.v (.bool false)), .d (.v (.bool false)), .d (.v (.bool false))]
/-- What was said. -/
def syN : Option (Int × Bool × Int) → A
  | none => nilA
  | some (e, f, y) => .d (.row [frmDL 2 0 e false f y 0 0 []])
/-- The answer: who hears then, what was told, what was said. -/
def sdR : Option (List (Fin 256)) → D
  | none => .row []
  | some bs => .row [[fbytes bs]]
def syR : Option (Int × Bool × Int) → D
  | none => .row []
  | some (e, f, y) => .row [frmDL 2 0 e false f y 0 0 []]
def CF.A (q : CF) : A := cfgA q.m q.w q.s q.t q.y
def RX.A (x : RX) : A := rxA x.e x.c x.m x.bs x.a x.u x.d
def FR.A (f : FR) : A := frmA f.k f.s f.c f.p f.f f.y f.g f.l f.bs
def resH (h : HO) : A := .tup [h.x.A, .d (sdR h.sd), .d (syR h.sy)]
theorem nrm_res (x : RX) (sd : Option (List (Fin 256))) (sy : Option (Int × Bool × Int)) : nrm (.tup [rxA x.e x.c x.m x.bs x.a x.u x.d, .d (sdD sd), syN sy]) = resH ⟨x, sd, sy⟩ := by
  rcases sd with _ | bs <;> rcases sy with _ | ⟨e, f, y⟩ <;> rfl
end Go.Proofs.YtejafihfbncaoaaDoor

/- RxHear of the specification; over what values read as. Written by tools/mk_AbsSr.py. -/
namespace Go.Proofs.YtejafihfbncaoaaDoor
open Go
theorem sl4b (m : Int) (bs : List (Fin 256)) (g l : Int) (fs : List (Fin 256)) (h1 : joinB m bs.length = true) (h2 : pieceB g l fs.length = true) {r : A} (h : putA4 m bs g l fs = r) : DataOk Tryd.prog 65 [joinA m bs, partA3 g l fs] r := h ▸ sl4_ok m bs g l fs h1 h2
theorem scfgbX (m n s t y : Int) {b : Bool} (h : Opt.ok ⟨m, n, s, t, y⟩ = b) : DataOk Tryd.prog 31 [cfgA m n s t y] (.d (.v (.bool b))) := h ▸ scfg_ok m n s t y
theorem sfrmb (k s c : Int) (p f : Bool) (y g l : Int) (bs : List (Fin 256)) {b : Bool} (h : frmB k s c p f y g l bs.length = b) : DataOk Tryd.prog 32 [frmA k s c p f y g l bs] (.d (.v (.bool b))) := h ▸ sfrm_ok k s c p f y g l bs
set_option maxHeartbeats 2000000 in
set_option maxRecDepth 100000 in
theorem sdus0_ok : DataOk Tryd.prog 66 [rowE] rowE := by
  refine Spec.intro (n := 22) (rv := [.tmp 2]) Tryd.func66 rfl rfl rfl (by simp) fun C hN hX => ?_
  refine AW.seq ?_
  apply AW.list
  apply Wk.asg (by conv => lhs; whnf) (lt_of_ble rfl)
  refine Wk.nil ?_
  refine AW.seq ?_
  apply AW.list
  apply Wk.lst 5 1 false [.slice none 0 0] un58 ty22 ze22 rfl rfl (by rfl) (by rfl) (by decide) (by decide) rfl rfl (all_len rfl) (lt_of_ble rfl)
  apply Wk.asg (by conv => lhs; whnf) (lt_of_ble rfl)
  refine Wk.nil ?_
  refine AW.seq (AW.seq ?_)
  apply AW.list
  apply Wk.asg (by conv => lhs; whnf) (lt_of_ble rfl)
  refine Wk.nil (AW.block ?_)
  refine AW.loop (fun k : Nat => St.of 22 [(0, rowE), (3, .own 5 0), (4, .d (.v (.int .i64 (k : Int))))] [(5, .own 0 22 1 [])]) (fun k => k = 0) (fun k => k) 0 rfl ?_ (fun k hk => ?_)
  · exact fun a w => Rel.keep ⟨rfl, .cons rfl rfl (.cons rfl rfl (.cons rfl rfl .nil)), .cons rfl rfl .nil, hN.mono (by simp [keys])⟩
  subst hk
  refine AW.seq (AW.seq ?_)
  apply AW.list
  apply Wk.mv (by conv => lhs; whnf) (lt_of_ble rfl)
  apply Wk.mv (by conv => lhs; whnf) (lt_of_ble rfl)
  apply Wk.len un58 rfl (lt_of_ble rfl)
  apply Wk.bin rfl rfl (fun w => by simp [go_sem] <;> rfl) (lt_of_ble rfl)
  refine Wk.nil ?_
  refine AW.cond rfl (fun hc => by simp at hc) (fun hc => ?_)
  refine AW.exit ?_
  repeat (first | refine inBlockA_same ?_ | refine thenA_exit ?_)
  repeat (first | refine thenA_normal ?_ | refine inBlockA_normal ?_)
  refine AW.seq ?_
  apply AW.list
  apply Wk.mv (by conv => lhs; whnf) (lt_of_ble rfl)
  apply Wk.asg (by conv => lhs; whnf) (lt_of_ble rfl)
  refine Wk.nil ?_
  refine AW.thaw (t := 2) (i := 5) [] rfl rfl rfl hX.none ?_
  refine AW.ret ?_
  repeat (first | refine thenA_ret ?_ | refine inBlockA_ret ?_)
  exact RetQ.ret [] (.cons rfl .nil) ⟨rfl, rfl⟩ none_kept
set_option maxHeartbeats 2000000 in
set_option maxRecDepth 100000 in
theorem sdus1_ok (bs : List (Fin 256)) (hl : bs.length ≤ 100000) : DataOk Tryd.prog 66 [.d (.row [[fbytes bs]])] (.d (.row [[fbytes bs]])) := by
  refine Spec.intro (n := 22) (rv := [.tmp 2]) Tryd.func66 rfl rfl rfl (by simp) fun C hN hX => ?_
  refine AW.seq ?_
  apply AW.list
  apply Wk.asg (by conv => lhs; whnf) (lt_of_ble rfl)
  refine Wk.nil ?_
  refine AW.seq ?_
  apply AW.list
  apply Wk.lst 5 1 false [.slice none 0 0] un58 ty22 ze22 rfl rfl (by rfl) (by rfl) (by decide) (by decide) rfl rfl (all_len rfl) (lt_of_ble rfl)
  apply Wk.asg (by conv => lhs; whnf) (lt_of_ble rfl)
  refine Wk.nil ?_
  refine AW.seq (AW.seq ?_)
  apply AW.list
  apply Wk.asg (by conv => lhs; whnf) (lt_of_ble rfl)
  refine Wk.nil (AW.block ?_)
  refine AW.loop (fun k : Nat => St.of 22 [(0, .d (.row [[fbytes bs]])), (3, .own 5 k), (4, .d (.v (.int .i64 (k : Int))))] [(5, .own k 22 1 (if k = 0 then [] else [[.d (fbytes bs)]]))]) (fun k => k ≤ 1) (fun k => 1 - k) 0 (by omega) ?_ (fun k hk => ?_)
  · exact fun a w => Rel.keep ⟨rfl, .cons rfl rfl (.cons rfl rfl (.cons rfl rfl .nil)), .cons rfl rfl .nil, hN.mono (by simp [keys])⟩
  refine AW.seq (AW.seq ?_)
  apply AW.list
  apply Wk.mv (by conv => lhs; whnf) (lt_of_ble rfl)
  apply Wk.mv (by conv => lhs; whnf) (lt_of_ble rfl)
  apply Wk.len un58 rfl (lt_of_ble rfl)
  apply Wk.bin rfl rfl (fun w => by simp [go_sem] <;> rfl) (lt_of_ble rfl)
  refine Wk.nil ?_
  refine AW.cond rfl (fun hc => ?_) (fun hc => ?_)
  · obtain rfl : k = 0 := by
      simp at hc
      omega
    refine AW.skip ?_
    repeat (first | refine thenA_normal ?_ | refine inBlockA_normal ?_)
    refine AW.seq (AW.block ?_)
    apply AW.list
    apply Wk.mv (by conv => lhs; whnf) (lt_of_ble rfl)
    apply Wk.lst 13 1 false [.int .u8 0] un22 ty5 ze5 rfl rfl (by rfl) (by rfl) (by decide) (by decide) rfl rfl (all_len rfl) (lt_of_ble rfl)
    apply Wk.mv (by conv => lhs; whnf) (lt_of_ble rfl)
    apply Wk.mv (by conv => lhs; whnf) (lt_of_ble rfl)
    apply Wk.iad 1 false un58 ty22 rfl rfl (k := 0) (by exact Nat.succ_pos _) (all_len rfl) (lt_of_ble rfl)
    apply Wk.ldr 1 false ty22 rfl rfl (by conv => lhs; whnf) (lt_of_ble rfl)
    apply Wk.appOR 13 1000 1 un22 ap5 rfl rfl rfl (.inr rfl) (by decide) (one_bytes _) (by simp) (by simp; omega) (lt_of_ble rfl)
    apply Wk.lst 19 1 false [.slice none 0 0] un58 ty22 ze22 rfl rfl (by rfl) (by rfl) (by decide) (by decide) rfl rfl (all_len rfl) (lt_of_ble rfl)
    apply Wk.appOO 5 19 1 un58 ap22 rfl rfl rfl rfl (by decide) (all_len rfl) (all_len rfl) (by simp) (lt_of_ble rfl)
    apply Wk.asg (by conv => lhs; whnf) (lt_of_ble rfl)
    refine Wk.nil ?_
    repeat (first | refine thenA_normal ?_ | refine inBlockA_normal ?_)
    apply AW.list
    apply Wk.mv (by conv => lhs; whnf) (lt_of_ble rfl)
    apply Wk.addi rfl rfl (by omega) (lt_of_ble rfl)
    apply Wk.asg (by conv => lhs; whnf) (lt_of_ble rfl)
    refine Wk.nil ?_
    refine ⟨1, by omega, by omega, fun a w hR => ?_⟩
    have h := Rel.thawe (j := 5) (n := 0) (i := 13) (es' := [[.d (fbytes bs)]]) (cellsD bs) rfl (by rfl) (by rfl) (asData_cd bs) (by decide) (by rfl) (by rfl) (by exact all_len rfl) hX.none hR
    exact Rel.keep ⟨rfl, .cons rfl rfl (.cons rfl rfl (.cons rfl rfl .nil)), .cons rfl rfl .nil, hN.mono (by simp [keys])⟩ h
  · obtain rfl : k = 1 := by
      simp at hc
      omega
    refine AW.exit ?_
    repeat (first | refine inBlockA_same ?_ | refine thenA_exit ?_)
    repeat (first | refine thenA_normal ?_ | refine inBlockA_normal ?_)
    refine AW.seq ?_
    apply AW.list
    apply Wk.mv (by conv => lhs; whnf) (lt_of_ble rfl)
    apply Wk.asg (by conv => lhs; whnf) (lt_of_ble rfl)
    refine Wk.nil ?_
    refine AW.thaw (t := 2) (i := 5) [[fbytes bs]] rfl rfl rfl hX.none ?_
    refine AW.ret ?_
    repeat (first | refine thenA_ret ?_ | refine inBlockA_ret ?_)
    exact RetQ.ret [] (.cons rfl .nil) ⟨rfl, rfl⟩ none_kept
def rxN0 : A := .agg [.d (.v (.int .i64 0)), .d (.v (.int .i64 0)), .d (.v (.int .i64 0)), nilA, .d (.v (.bool false)), .d (.v (.bool false)), .d (.v (.bool false))]
theorem sdusR_ok (sd : Option (List (Fin 256))) (hl : ∀ bs, sd = some bs → bs.length ≤ 100000) : DataOk Tryd.prog 66 [.d (sdR sd)] (.d (sdR sd)) := by
  rcases sd with _ | bs
  · exact sdus0_ok
  · exact sdus1_ok bs (hl bs rfl)
theorem hear_small {q : CF} {x : RX} {f : FR} (hg : goesB q x f = true) (hb : x.bs.length ≤ 1000) : (hearF q x f).x.bs.length ≤ 1000 ∧ ∀ bs, (hearF q x f).sd = some bs → bs.length ≤ 100000 := by
  obtain ⟨_, h2, h4, _⟩ := goes_iff.1 hg
  by_cases hn : f.k = 1 ∧ f.s = x.e ∧ x.u = false ∧ x.d = false
  · have e0 : hearF q x f = takeF q x f := by rw [hearF_data hg hn.1 hn.2.2.2 hn.2.2.1, if_pos hn.2.1]
    have hp := (FR.data h4 hn.1).2.2.2.2
    have hl1 := joinB_small (RX.ok_iff.1 h2).2.2
    have hl2 := pieceB_small hp
    rw [e0]
    rcases take_cases q x f h2 hp with ⟨_, e⟩ | ⟨_, ⟨_, e⟩ | ⟨_, e, _⟩ | ⟨_, e, _⟩⟩
    · rw [e]; exact ⟨hb, fun bs h => by cases h⟩
    · rw [e]; exact ⟨by simp, fun bs h => by cases h⟩
    · rw [e]; exact ⟨by simp, fun bs h => by obtain rfl := Option.some.inj h; simp only [List.length_append]; omega⟩
    · rw [e]; exact ⟨by simp only [List.length_append]; omega, fun bs h => by cases h⟩
  · have := hearF_other hg hn
    rw [this.2.2.2.1, this.2.2.2.2.2.2]
    exact ⟨hb, fun bs h => by cases h⟩
end Go.Proofs.YtejafihfbncaoaaDoor

/- Lists of zero bytes are made; the lesser of two numbers; over what values read as. -/
namespace Go.Proofs.YtejafihfbncaoaaDoor
open Go Go.RowKit
section
variable {C : Ctx} {ops : Array Oper} {os : List Oper} {cs : List Cert} {σ : St} {K : St → Prop} {d : Nat} {ty : TypeId} {pos : String} {af : Array Edge}
def zero8 (n : Nat) : List (List A) := List.replicate n [A.d (.v (.int .u8 0))]
def rMk8 (x : Operand) (i : Nat) (e : TypeId) (σ : St) : Option (List V) :=
  match aev σ x, σ.b i with
  | .d (.v (.int .i64 n)), .fresh => if 0 ≤ n ∧ n ≤ 1000 then some [.a (.own i 0), .b (.own 0 e 1 (zero8 n.toNat))] else none
  | _, _ => none
set_option maxRecDepth 100000 in
theorem ok_mk8 {x : Operand} (i : Nat) : OpOk Tryd.prog C ops ⟨some d, .makeSlice 22 x x, ty, pos, af, none⟩ ⟨kof x ++ [B i], [T d, B i], behs (rMk8 x i 5) d⟩ :=
  OpOk.turn rfl (by simp [dstIn]) (fun σ => by unfold rMk8; rw [aev_mask fun k hk => List.mem_append_left _ hk, bx_mask (by simp)]) fun σ a w F E H K Q us hR hd h hK => by
    unfold rMk8 at h
    split at h
    · rename_i n hx hb
      split at h
      · rename_i hn
        obtain rfl := Option.some.inj h
        obtain ⟨m, rfl⟩ := Int.eq_ofNat_of_zero_le hn.1
        have hm : m ≤ 1000 := by omega
        have hv : a.eval x = .int .i64 (m : Int) := by
          have := hR.ev x
          rw [hx] at this
          exact den_v this
        obtain ⟨i0, hi, hz0, hz1, hz2⟩ := info_parts Tryd.infoB
        obtain ⟨w', hr, ho, hg⟩ := run_makeSlice_full (P := Tryd.prog) w 0 22 5 i0 _ 1 Tryd.underlying22 hi hz0 hz1 .i64 .i64 m (by omega) (by rw [hz2]; omega) (by unfold maxLen; omega) (Nat.zero_le _)
        have hfr := hR.env.box i
        rw [hb] at hfr
        have hlen : (zero8 m).length = m := by simp [zero8]
        have hflat : (zero8 m).flatten = List.replicate m (A.d (.v (.int .u8 0))) := by
          simp only [zero8]
          clear hR hK h hb hx hv hr ho hn hm hfr hlen
          induction m with
          | zero => rfl
          | succ m ih => rw [List.replicate_succ, List.flatten_cons, ih, List.replicate_succ]; rfl
        have hset := hR.setown (i := i) (k := 0) (sz := 1) (e := 5) (es := zero8 m) (v := .slice (some ⟨w.heap.size, 0, none⟩) m m) (w' := w') (fun b hbk => by rw [hb] at hbk; cases hbk) (fun q _ => hfr.2 q) (by rw [hb]; exact hg)
          (by rw [hlen]; exact ho) (by intro c hc; rw [(List.mem_replicate.1 hc).2]; rfl) (by
            rw [hflat]
            have hl1 := ho.1
            refine ⟨by rw [List.length_replicate, hl1]; omega, fun j q u hq hu => ?_⟩
            obtain rfl := (List.mem_replicate.1 (List.mem_of_getElem? hq)).2
            have hu0 : u = .int .u8 0 := by
              simp only [madeCells, Array.toList_map, Array.toList_range, List.getElem?_map, Option.map_eq_some_iff] at hu
              obtain ⟨y, _, rfl⟩ := hu
              simp [Value.cells, Nat.mod_one]
            rw [hu0]
            exact ⟨rfl, .d _ _ (.v _)⟩) (.inr (.inr rfl))
        unfold Oper.wp
        have hrun : (execOp a.eval ⟨some d, .makeSlice 22 x x, ty, pos, af, none⟩).run Tryd.prog w = .ok (.value (.slice (some ⟨w.heap.size, 0, none⟩) m m)) w' := by simp only [execOp, Sem.run_bind, hv, hr, Result.andThen_ok, Sem.run_pure]
        rw [hrun, Oper.upon_value]
        refine hK _ _ ?_
        exact (RelE.put (d := d) (r := .own i 0) hset hd (.own i 0 _ (upd2_same _ _ _ _) rfl)).r
      · cases h
    · cases h
set_option maxRecDepth 100000 in
theorem Wk.mk8 {x : Operand} (i n : Nat) (hx : aev σ x = .d (.v (.int .i64 (n : Int)))) (hb : σ.b i = .fresh) (hn : n ≤ 1000) (hd : d < σ.n) (h : Wk Tryd.prog C ops os cs ((σ.put (T d) (.a (.own i 0))).put (B i) (.b (.own 0 5 1 (zero8 n)))) K) :
    Wk Tryd.prog C ops (⟨some d, .makeSlice 22 x x, ty, pos, af, none⟩ :: os) (⟨kof x ++ [B i], [T d, B i], behs (rMk8 x i 5) d⟩ :: cs) σ K :=
  Wk.turn (ok_mk8 i) [.a (.own i 0), .b (.own 0 5 1 (zero8 n))] hd (by simp only [rMk8, hx, hb]; rw [if_pos ⟨by omega, by omega⟩]; simp) h
set_option maxRecDepth 100000 in
theorem asData_zero8 (n : Nat) : asData (zero8 n) ((List.replicate n (0 : Fin 256)).map (fun z => z.val) |>.map fun z : Nat => [D.v (.int .u8 (z : Int))]) := by
  simp [asData, zero8, nrms, nrm]
variable {P : Program}
def rMin (x y : Operand) (σ : St) : Option A := (sc (aev σ x)).bind fun u => (sc (aev σ y)).bind fun v => match u, v with | .int k a, .int _ b => some (.d (.v (.int k (if b < a then b else a)))) | _, _ => none
set_option maxRecDepth 100000 in
theorem ok_min (x y : Operand) {at_ : Array TypeId} : OpOk P C ops ⟨some d, .call { callee := .builtin .min, args := #[x, y], argTypes := at_ }, ty, pos, af, none⟩ ⟨kof x ++ kof y, [T d], beh1 (rMin x y) d⟩ :=
  OpOk.read rfl rfl (fun σ => by unfold rMin; rw [aev_mask (fun k h => List.mem_append_left _ h), aev_mask (fun k h => List.mem_append_right _ h)]) fun σ a w F E H r hR h => by
    simp only [rMin, Option.bind_eq_some_iff] at h
    obtain ⟨u, hu, v, hv, h⟩ := h
    have e1 := den_sc hu (hR.ev x)
    have e2 := den_sc hv (hR.ev y)
    split at h
    · obtain rfl := Option.some.inj h
      refine ⟨_, ?_, .d _ _ (.v _)⟩
      simp [execOp, resolve, invoke, builtin, e1, e2, Builtin.min_, Builtin.min2]
    · cases h
set_option maxRecDepth 100000 in
theorem Wk.min2 {x y : Operand} {at_ : Array TypeId} {k k' : IntKind} {u v r : Int} (hx : aev σ x = .d (.v (.int k u))) (hy : aev σ y = .d (.v (.int k' v))) (hr : (if v < u then v else u) = r) (hd : d < σ.n)
    (h : Wk P C ops os cs (σ.put (T d) (.a (.d (.v (.int k r))))) K) : Wk P C ops (⟨some d, .call { callee := .builtin .min, args := #[x, y], argTypes := at_ }, ty, pos, af, none⟩ :: os) (⟨kof x ++ kof y, [T d], beh1 (rMin x y) d⟩ :: cs) σ K :=
  Wk.read (ok_min x y) _ hd (by simp only [rMin, hx, hy, sc, Option.bind_some, hr]) h
end
end Go.Proofs.YtejafihfbncaoaaDoor

/- A piece, drawn, perhaps with something wrong; over what values read as. -/
namespace Go.Proofs.YtejafihfbncaoaaDoor
open Go Go.RowKit
def partPost (_ : List A) (r : A) : Prop := ∃ (sg ln : Int) (bs : List (Fin 256)), r = partA3 sg ln bs ∧ (-1 ≤ sg ∧ sg ≤ 4) ∧ (-1 ≤ ln ∧ ln ≤ 40) ∧ bs.length ≤ 16
set_option maxHeartbeats 4000000 in
set_option maxRecDepth 100000 in
theorem partOr_ok : DrawOk Tryd.prog 73 (fun rest => ∃ n : Int, rest = [.d (.v (.int .i64 n))] ∧ n ≤ 1000000 ∧ -1000000 ≤ n) partPost 3010 := by
 refine DrawOk.zero ?_ ?_ ?_ ?_
 · rintro zs p rest ⟨n, rfl, hn, hn'⟩ hp
   refine Spec.intro (n := 35) (rv := [.cell 4 41]) Tryd.func73 rfl rfl rfl (by simp) fun C hN hX => ?_
   let inv : List (Fin 256) × Nat × Int × Int × Nat × List (Fin 256) → St := fun x => St.of 35 [(0, .ptr 0 0), (4, .ptr 4 0), (5, .ptr 5 0)] [(0, rdr x.1 x.2.1), (4, .var [.d (.v (.int .i64 0)), .d (.v (.int .i64 0)), .d (.v (.slice none 0 0))]), (5, .var (partOA x.2.2.1 x.2.2.2.1 x.2.2.2.2.1)), (7, ownB x.2.2.2.2.1 x.2.2.2.2.2)]
   have fin : ∀ (zs : List (Fin 256)) (p : Nat) (sg ln : Int) (q : Nat) (bs : List (Fin 256)) (σ : St), σ.n = 35 → σ.t 0 = .ptr 0 0 → σ.t 4 = .ptr 4 0 → σ.t 5 = .ptr 5 0 → σ.b 0 = rdr zs p → σ.b 4 = .var [.d (.v (.int .i64 0)), .d (.v (.int .i64 0)), .d (.v (.slice none 0 0))] → σ.b 5 = .var (partOA sg ln q) → σ.b 7 = ownB q bs →
       ∀ a w, Rel C σ a w → Rel C (inv (zs, p, sg, ln, q, bs)) a w := fun zs p sg ln q bs σ h0 h1 h2 h3 h4 h5 h6 h7 a w => Rel.keep ⟨h0.symm, .cons h1 rfl (.cons h2 rfl (.cons h3 rfl .nil)), .cons h4 rfl (.cons h5 rfl (.cons h6 rfl (.cons h7 ownB_in .nil))), hN.mono (by simp [keys])⟩
   refine AW.seq ?_
   apply AW.list
   apply Wk.alc 4 [.int .i64 0, .int .i64 0, .slice none 0 0] ze41 rfl rfl (lt_of_ble rfl)
   refine Wk.nil ?_
   refine AW.seq ?_
   apply AW.list
   apply Wk.mv (by conv => lhs; whnf) (lt_of_ble rfl)
   apply Wk.drx [7] partO_ok Tryd.func60 rfl rfl rfl rfl rfl (by omega) rfl (by simp; rfl) (lt_of_ble rfl)
   rintro r2 zs2 p2 ex ⟨sg, ln, q, bs, rfl, rfl, hs1, hs2, hl1, hl2, hbl⟩ hp2
   apply Wk.alc 5 [.int .i64 0, .int .i64 0, .slice none 0 0] ze41 rfl rfl (lt_of_ble rfl)
   apply Wk.sto (i := 5) 3 true ty41 rfl rfl rfl rfl (Nat.le_of_ble_eq_true rfl) (lt_of_ble rfl)
   refine Wk.nil ?_
   refine AW.via inv (fun x => x.2.1 ≤ p + 3010 ∧ (-1 ≤ x.2.2.1 ∧ x.2.2.1 ≤ 4) ∧ (-1 ≤ x.2.2.2.1 ∧ x.2.2.2.1 ≤ 40) ∧ x.2.2.2.2.2.length ≤ 16) ?_ ?_
   · refine AW.seq ?_
     apply AW.list
     apply Wk.mv (by conv => lhs; whnf) (lt_of_ble rfl)
     apply Wk.mv (by conv => lhs; whnf) (lt_of_ble rfl)
     apply Wk.drw 0 odd_ok Tryd.func61 rfl rfl rfl rfl ⟨_, rfl, by omega⟩ (by omega) rfl (lt_of_ble rfl)
     rintro r3 zs3 p3 ⟨b3, rfl, _⟩ hp3
     refine Wk.nil ?_
     refine AW.cond rfl (fun hc => ?_) (fun hc => AW.skip (thenA_normal ?_))
     · refine AW.seq ?_
       apply AW.list
       apply Wk.mv (by conv => lhs; whnf) (lt_of_ble rfl)
       apply Wk.drw 0 pick_ok Tryd.func52 rfl rfl rfl rfl ⟨_, rfl, by omega⟩ (by omega) rfl (lt_of_ble rfl)
       rintro r4 zs4 p4 ⟨k4, rfl, hk4⟩ hp4
       refine Wk.nil (AW.block ?_)
       refine AW.seq ?_
       apply AW.list
       apply Wk.bin rfl rfl (fun w => by simp [go_sem] <;> rfl) (lt_of_ble rfl)
       apply Wk.asg (by conv => lhs; whnf) (lt_of_ble rfl)
       refine Wk.nil ?_
       refine AW.cond rfl (fun hc => ?_) (fun hc => ?_)
       · apply AW.list
         apply Wk.lst 20 1 false [.int .i64 0] un89 ty3 ze3 rfl rfl (by rfl) (by rfl) (by decide) (by decide) rfl rfl (all_len rfl) (lt_of_ble rfl)
         apply Wk.mv (by conv => lhs; whnf) (lt_of_ble rfl)
         apply Wk.drw 0 pick_ok Tryd.func52 rfl rfl rfl rfl ⟨_, rfl, by omega⟩ (by omega) rfl (lt_of_ble rfl)
         rintro r9 zs9 p9 ⟨k9, rfl, hk9⟩ hp9
         have hk9' : k9 < 3 := by have := hk9 3 rfl; omega
         obtain ⟨v, hv, hv1, hv2⟩ : ∃ v : Int, partA (List.flatten [[A.d (.v (.int .i64 (-1)))], [.d (.v (.int .i64 4))], [.d (.v (.int .i64 1))]]) (k9 * 1) 1 false = some (.d (.v (.int .i64 v))) ∧ -1 ≤ v ∧ v ≤ 4 := by
           rcases (show k9 = 0 ∨ k9 = 1 ∨ k9 = 2 by omega) with rfl | rfl | rfl
           · exact ⟨_, rfl, by omega, by omega⟩
           · exact ⟨_, rfl, by omega, by omega⟩
           · exact ⟨_, rfl, by omega, by omega⟩
         apply Wk.iado 20 1 false un89 ty3 rfl rfl rfl hk9' (lt_of_ble rfl)
         apply Wk.ldo (i := 20) 1 false ty3 rfl rfl hv (lt_of_ble rfl)
         apply Wk.fad 0 0 false fd41_0 rfl (lt_of_ble rfl)
         apply Wk.sto (i := 5) 1 false ty3 rfl rfl rfl rfl (Nat.le_of_ble_eq_true rfl) (lt_of_ble rfl)
         refine Wk.nil (inBlockA_normal (thenA_normal ?_))
         exact ⟨(zs9, p9, v, ln, q, bs), ⟨by simp only; omega, ⟨by simp only; omega, by simp only; omega⟩, ⟨by simp only; omega, by simp only; omega⟩, by simp only; omega⟩, fin _ _ _ _ _ _ _ rfl rfl rfl rfl rfl rfl rfl rfl⟩
       · refine AW.seq ?_
         apply AW.list
         apply Wk.bin rfl rfl (fun w => by simp [go_sem] <;> rfl) (lt_of_ble rfl)
         apply Wk.asg (by conv => lhs; whnf) (lt_of_ble rfl)
         refine Wk.nil ?_
         refine AW.cond rfl (fun hc => ?_) (fun hc => ?_)
         · apply AW.list
           apply Wk.lst 28 1 false [.int .i64 0] un89 ty3 ze3 rfl rfl (by rfl) (by rfl) (by decide) (by decide) rfl rfl (all_len rfl) (lt_of_ble rfl)
           apply Wk.mv (by conv => lhs; whnf) (lt_of_ble rfl)
           apply Wk.drw 0 pick_ok Tryd.func52 rfl rfl rfl rfl ⟨_, rfl, by omega⟩ (by omega) rfl (lt_of_ble rfl)
           rintro r9 zs9 p9 ⟨k9, rfl, hk9⟩ hp9
           have hk9' : k9 < 3 := by have := hk9 3 rfl; omega
           obtain ⟨v, hv, hv1, hv2⟩ : ∃ v : Int, partA (List.flatten [[A.d (.v (.int .i64 (-1)))], [.d (.v (.int .i64 25))], [.d (.v (.int .i64 3))]]) (k9 * 1) 1 false = some (.d (.v (.int .i64 v))) ∧ -1 ≤ v ∧ v ≤ 40 := by
             rcases (show k9 = 0 ∨ k9 = 1 ∨ k9 = 2 by omega) with rfl | rfl | rfl
             · exact ⟨_, rfl, by omega, by omega⟩
             · exact ⟨_, rfl, by omega, by omega⟩
             · exact ⟨_, rfl, by omega, by omega⟩
           apply Wk.iado 28 1 false un89 ty3 rfl rfl rfl hk9' (lt_of_ble rfl)
           apply Wk.ldo (i := 28) 1 false ty3 rfl rfl hv (lt_of_ble rfl)
           apply Wk.fad 1 0 false fd41_1 rfl (lt_of_ble rfl)
           apply Wk.sto (i := 5) 1 false ty3 rfl rfl rfl rfl (Nat.le_of_ble_eq_true rfl) (lt_of_ble rfl)
           refine Wk.nil (inBlockA_normal (thenA_normal ?_))
           exact ⟨(zs9, p9, sg, v, q, bs), ⟨by simp only; omega, ⟨by simp only; omega, by simp only; omega⟩, ⟨by simp only; omega, by simp only; omega⟩, by simp only; omega⟩, fin _ _ _ _ _ _ _ rfl rfl rfl rfl rfl rfl rfl rfl⟩
         · apply AW.list
           apply Wk.fad 2 0 false fd41_2 rfl (lt_of_ble rfl)
           apply Wk.ld (i := 5) 1 false ty22 rfl rfl (by conv => lhs; whnf) (lt_of_ble rfl)
           apply Wk.lst 15 1 false [.int .u8 0] un22 ty5 ze5 rfl rfl (by rfl) (by rfl) (by decide) (by decide) rfl rfl (all_len rfl) (lt_of_ble rfl)
           apply Wk.appOO 7 15 1 un22 ap5 rfl rfl rfl rfl (by decide) (all_len rfl) (one_cellsB bs) (by simp [cellsB]; omega) (lt_of_ble rfl)
           apply Wk.fad 2 0 false fd41_2 rfl (lt_of_ble rfl)
           apply Wk.sto (i := 5) 1 false ty22 rfl rfl rfl rfl (Nat.le_of_ble_eq_true rfl) (lt_of_ble rfl)
           refine Wk.nil (inBlockA_normal (thenA_normal ?_))
           have e9 : cellsB (bs ++ [1, 2, 3, 4, 5, 6, 7, 8]) = cellsB bs ++ cellsB [1, 2, 3, 4, 5, 6, 7, 8] := by simp [cellsB]
           exact ⟨(zs4, p4, sg, ln, q + 1, bs ++ [1, 2, 3, 4, 5, 6, 7, 8]), ⟨by simp only; omega, ⟨by simp only; omega, by simp only; omega⟩, ⟨by simp only; omega, by simp only; omega⟩, by simp; omega⟩, fin _ _ _ _ _ _ _ rfl rfl rfl rfl rfl rfl rfl (by unfold ownB; rw [e9]; rfl)⟩
     · exact ⟨(zs3, p3, sg, ln, q, bs), ⟨by simp only; omega, ⟨by simp only; omega, by simp only; omega⟩, ⟨by simp only; omega, by simp only; omega⟩, by simp only; omega⟩, fin _ _ _ _ _ _ _ rfl rfl rfl rfl rfl rfl rfl rfl⟩
   · rintro ⟨zs6, p6, s6, l6, q6, bs6⟩ ⟨hp6, hs6, hl6, hb6⟩
     simp only at hp6 hs6 hl6 hb6
     show AW Tryd.prog C _ _ (St.of 35 [(0, .ptr 0 0), (4, .ptr 4 0), (5, .ptr 5 0)] [(0, rdr zs6 p6), (4, .var [.d (.v (.int .i64 0)), .d (.v (.int .i64 0)), .d (.v (.slice none 0 0))]), (5, .var (partOA s6 l6 q6)), (7, ownB q6 bs6)])
     refine AW.thawc (j := 5) (c := 2) (i := 7) (cellsD bs6) rfl rfl (by rfl) (asData_cells bs6) (hX.one (by decide) rfl) ?_
     refine AW.seq ?_
     apply AW.list
     apply Wk.ld (i := 5) 3 true ty41 rfl rfl (by conv => lhs; whnf) (lt_of_ble rfl)
     apply Wk.sto (i := 4) 3 true ty41 rfl rfl rfl rfl (Nat.le_of_ble_eq_true rfl) (lt_of_ble rfl)
     refine Wk.nil (AW.ret ?_)
     exact RetQ.ret [(0, rdr zs6 p6)] (.cons ⟨4, 0, _, _, _, rfl, rfl, ty41, rfl⟩ .nil) ⟨⟨s6, l6, bs6, rfl, hs6, hl6, hb6⟩, _, _, rfl, hp6⟩ (kept1 rfl)
 · rintro rest ⟨n, rfl, _⟩; rfl
 · rintro rest _; exact ⟨_, 0, 0, [], rfl, by simp⟩
 · rintro rest r ⟨sg, ln, bs, rfl, _⟩; rfl
end Go.Proofs.YtejafihfbncaoaaDoor

/- A piece, drawn, as data. Out of AbsPart. -/
namespace Go.Proofs.YtejafihfbncaoaaDoor
open Go
set_option maxRecDepth 100000 in
theorem partD_ok : DrawOk Tryd.prog 60 (fun rest => rest = []) partPost 3003 := by
 refine DrawOk.zero ?_ ?_ ?_ ?_
 · rintro zs p rest rfl hp
   refine Spec.intro (n := 43) (rv := [.cell 2 41]) Tryd.func60 rfl rfl rfl (by simp) fun C hN hX => ?_
   refine AW.seq ?_
   apply AW.list
   apply Wk.alc 2 [.int .i64 0, .int .i64 0, .slice none 0 0] ze41 rfl rfl (lt_of_ble rfl)
   refine Wk.nil ?_
   refine AW.seq ?_
   apply AW.list
   apply Wk.mv (by conv => lhs; whnf) (lt_of_ble rfl)
   apply Wk.drw 0 pick_ok Tryd.func52 rfl rfl rfl rfl ⟨_, rfl, by omega⟩ (by omega) rfl (lt_of_ble rfl)
   rintro r1 zs1 p1 ⟨k1, rfl, hk1⟩ hp1
   apply Wk.mv (by conv => lhs; whnf) (lt_of_ble rfl)
   apply Wk.drx [7] bytesO_ok Tryd.func72 rfl rfl rfl rfl ⟨8, rfl, by decide⟩ (by omega) rfl (by simp; rfl) (lt_of_ble rfl)
   rintro r zs2 p2 ex ⟨q, bs, rfl, rfl, hbl⟩ hp2
   replace hbl := hbl 8 rfl
   apply Wk.bld [.int .i64 0, .int .i64 0, .slice none 0 0] [(0, 1), (1, 1), (2, 1)] bl41 rfl (by conv => lhs; whnf) (lt_of_ble rfl)
   apply Wk.alc 3 [.int .i64 0, .int .i64 0, .slice none 0 0] ze41 rfl rfl (lt_of_ble rfl)
   apply Wk.sto (i := 3) 3 true ty41 rfl rfl rfl rfl (Nat.le_of_ble_eq_true rfl) (lt_of_ble rfl)
   refine Wk.nil ?_
   have hk1' : k1 < 4 := by have := hk1 4 rfl; omega
   let inv : List (Fin 256) × Nat × Int × Nat × List (Fin 256) → St := fun x => St.of 43 [(0, .ptr 0 0), (2, .ptr 2 0), (3, .ptr 3 0)] [(0, rdr x.1 x.2.1), (2, .var [.d (.v (.int .i64 0)), .d (.v (.int .i64 0)), .d (.v (.slice none 0 0))]), (3, .var (partOA (k1 : Int) x.2.2.1 x.2.2.2.1)), (7, ownB x.2.2.2.1 x.2.2.2.2)]
   let ok : Nat → List (Fin 256) × Nat × Int × Nat × List (Fin 256) → Prop := fun m x => x.2.1 ≤ p + m ∧ 0 ≤ x.2.2.1 ∧ x.2.2.1 ≤ 40 ∧ x.2.2.2.2.length ≤ 8
   have fin : ∀ (zs : List (Fin 256)) (p : Nat) (ln : Int) (q : Nat) (bs : List (Fin 256)) (σ : St), σ.n = 43 → σ.t 0 = .ptr 0 0 → σ.t 2 = .ptr 2 0 → σ.t 3 = .ptr 3 0 → σ.b 0 = rdr zs p → σ.b 2 = .var [.d (.v (.int .i64 0)), .d (.v (.int .i64 0)), .d (.v (.slice none 0 0))] → σ.b 3 = .var (partOA (k1 : Int) ln q) → σ.b 7 = ownB q bs →
       ∀ a w, Rel C σ a w → Rel C (inv (zs, p, ln, q, bs)) a w := fun zs p ln q bs σ h0 h1 h2 h3 h4 h5 h6 h7 a w => Rel.keep ⟨h0.symm, .cons h1 rfl (.cons h2 rfl (.cons h3 rfl .nil)), .cons h4 rfl (.cons h5 rfl (.cons h6 rfl (.cons h7 ownB_in .nil))), hN.mono (by simp [keys])⟩
   refine AW.via inv (ok 3002) ?_ ?_
   · refine AW.seq ?_
     by_cases h1 : k1 = 0
     · subst h1
       apply AW.list
       apply Wk.fad 0 0 false fd41_0 rfl (lt_of_ble rfl)
       apply Wk.ld (i := 3) 1 false ty3 rfl rfl (by conv => lhs; whnf) (lt_of_ble rfl)
       apply Wk.bin rfl rfl (r := .bool false) (fun w => by simp [go_sem]) (lt_of_ble rfl)
       apply Wk.mv (by conv => lhs; whnf) (lt_of_ble rfl)
       apply Wk.goff 12 (ok_faddr fd41_2) rfl rfl (by decide)
       apply Wk.goff 12 (ok_load 3 ty22) rfl rfl (by decide)
       apply Wk.goff 12 (ok_leno 7 un22) rfl rfl (by decide)
       apply Wk.goff 12 (ok_bin _ _ _ _ _) rfl rfl (by decide)
       apply Wk.pckF rfl (by conv => lhs; whnf) (lt_of_ble rfl)
       refine Wk.nil ?_
       refine AW.cond rfl (fun hc => by cases hc) (fun _ => AW.skip (thenA_normal ?_))
       exact ⟨(zs2, p2, 0, q, bs), ⟨by simp only; omega, by simp only; omega, by simp only; omega, hbl⟩, fin _ _ _ _ _ _ rfl rfl rfl rfl rfl rfl rfl rfl⟩
     · apply AW.list
       apply Wk.fad 0 0 false fd41_0 rfl (lt_of_ble rfl)
       apply Wk.ld (i := 3) 1 false ty3 rfl rfl (by conv => lhs; whnf) (lt_of_ble rfl)
       apply Wk.bin rfl rfl (r := .bool true) (fun w => by simp [go_sem, h1]) (lt_of_ble rfl)
       apply Wk.mv (by conv => lhs; whnf) (lt_of_ble rfl)
       apply Wk.gon 12 rfl rfl
       apply Wk.fad 2 0 false fd41_2 rfl (lt_of_ble rfl)
       apply Wk.gon 12 rfl rfl
       apply Wk.ld (i := 3) 1 false ty22 rfl rfl (by conv => lhs; whnf) (lt_of_ble rfl)
       apply Wk.gon 12 rfl rfl
       apply Wk.leno (i := 7) un22 rfl rfl (lt_of_ble rfl)
       apply Wk.gon 12 rfl rfl
       apply Wk.bin rfl rfl (fun w => by simp [go_sem] <;> rfl) (lt_of_ble rfl)
       apply Wk.pckT rfl (by conv => lhs; whnf) (lt_of_ble rfl)
       refine Wk.nil ?_
       refine AW.cond rfl (fun hc => ?_) (fun hc => AW.skip (thenA_normal ?_))
       · apply AW.list
         apply Wk.lst 18 1 false [.int .u8 0] un22 ty5 ze5 rfl rfl (by rfl) (by rfl) (by decide) (by decide) rfl rfl (all_len rfl) (lt_of_ble rfl)
         apply Wk.fad 2 0 false fd41_2 rfl (lt_of_ble rfl)
         apply Wk.sto (i := 3) 1 false ty22 rfl rfl rfl rfl (Nat.le_of_ble_eq_true rfl) (lt_of_ble rfl)
         refine Wk.nil (thenA_normal ?_)
         refine ⟨(zs2, p2, 0, q + 1, [7]), ⟨by simp only; omega, by simp only; omega, by simp only; omega, by simp⟩, fun a w hR => ?_⟩
         have h := Rel.renc (j := 3) (c := 2) (i := 18) (i' := 7) (k' := q + 1) rfl rfl (by rfl) (.inr ⟨_, _, _, _, rfl, rfl⟩) (by decide) hR
         exact fin _ _ _ _ _ _ rfl rfl rfl rfl rfl rfl rfl rfl a w h
       · exact ⟨(zs2, p2, 0, q, bs), ⟨by simp only; omega, by simp only; omega, by simp only; omega, hbl⟩, fin _ _ _ _ _ _ rfl rfl rfl rfl rfl rfl rfl rfl⟩
   · rintro ⟨zs3, p3, l3, q3, bs3⟩ ⟨hp3, hl1, hl2, hb3⟩
     simp only at hp3 hl1 hl2 hb3
     show AW Tryd.prog C _ _ (St.of 43 [(0, .ptr 0 0), (2, .ptr 2 0), (3, .ptr 3 0)] [(0, rdr zs3 p3), (2, .var [.d (.v (.int .i64 0)), .d (.v (.int .i64 0)), .d (.v (.slice none 0 0))]), (3, .var (partOA (k1 : Int) l3 q3)), (7, ownB q3 bs3)])
     refine AW.via inv (ok 3002) ?_ ?_
     · refine AW.seq ?_
       apply AW.list
       apply Wk.fad 0 0 false fd41_0 rfl (lt_of_ble rfl)
       apply Wk.ld (i := 3) 1 false ty3 rfl rfl (by conv => lhs; whnf) (lt_of_ble rfl)
       apply Wk.bin rfl rfl (fun w => by simp [go_sem] <;> rfl) (lt_of_ble rfl)
       refine Wk.nil ?_
       refine AW.cond rfl (fun hc => ?_) (fun hc => AW.skip (thenA_normal ?_))
       · apply AW.list
         apply Wk.fad 2 0 false fd41_2 rfl (lt_of_ble rfl)
         apply Wk.ld (i := 3) 1 false ty22 rfl rfl (by conv => lhs; whnf) (lt_of_ble rfl)
         apply Wk.leno (i := 7) un22 rfl rfl (lt_of_ble rfl)
         apply Wk.fad 1 0 false fd41_1 rfl (lt_of_ble rfl)
         apply Wk.sto (i := 3) 1 false ty3 rfl rfl rfl rfl (Nat.le_of_ble_eq_true rfl) (lt_of_ble rfl)
         refine Wk.nil (thenA_normal ?_)
         have e5 : (cellsB bs3).length = bs3.length := by simp [cellsB]
         refine ⟨(zs3, p3, ((cellsB bs3).length : Int), q3, bs3), ⟨hp3, by simp only; omega, by simp only; omega, hb3⟩, fin _ _ _ _ _ _ rfl rfl rfl rfl rfl rfl rfl rfl⟩
       · exact ⟨(zs3, p3, l3, q3, bs3), ⟨hp3, hl1, hl2, hb3⟩, fin _ _ _ _ _ _ rfl rfl rfl rfl rfl rfl rfl rfl⟩
     · rintro ⟨zs4, p4, l4, q4, bs4⟩ ⟨hp4, hl3, hl4, hb4⟩
       simp only at hp4 hl3 hl4 hb4
       show AW Tryd.prog C _ _ (St.of 43 [(0, .ptr 0 0), (2, .ptr 2 0), (3, .ptr 3 0)] [(0, rdr zs4 p4), (2, .var [.d (.v (.int .i64 0)), .d (.v (.int .i64 0)), .d (.v (.slice none 0 0))]), (3, .var (partOA (k1 : Int) l4 q4)), (7, ownB q4 bs4)])
       have e5 : (cellsB bs4).length = bs4.length := by simp [cellsB]
       refine AW.via inv (ok 3003) ?_ ?_
       · refine AW.seq ?_
         apply AW.list
         apply Wk.fad 0 0 false fd41_0 rfl (lt_of_ble rfl)
         apply Wk.ld (i := 3) 1 false ty3 rfl rfl (by conv => lhs; whnf) (lt_of_ble rfl)
         apply Wk.bin rfl rfl (fun w => by simp [go_sem] <;> rfl) (lt_of_ble rfl)
         refine Wk.nil ?_
         refine AW.cond rfl (fun hc => ?_) (fun hc => AW.skip (thenA_normal ?_))
         · apply AW.draw (hm := hmix) (cs := _)
           · apply Wk.fad 2 0 false fd41_2 rfl (lt_of_ble rfl)
             apply Wk.ld (i := 3) 1 false ty22 rfl rfl (by conv => lhs; whnf) (lt_of_ble rfl)
             apply Wk.leno (i := 7) un22 rfl rfl (lt_of_ble rfl)
             apply Wk.addi rfl rfl (by omega) (lt_of_ble rfl)
             apply Wk.mv (by conv => lhs; whnf) (lt_of_ble rfl)
             apply Wk.fad 2 0 false fd41_2 rfl (lt_of_ble rfl)
             apply Wk.ld (i := 3) 1 false ty22 rfl rfl (by conv => lhs; whnf) (lt_of_ble rfl)
             apply Wk.leno (i := 7) un22 rfl rfl (lt_of_ble rfl)
             apply Wk.subi rfl rfl (by omega) (lt_of_ble rfl)
             apply Wk.drw 0 pick_ok Tryd.func52 rfl rfl rfl rfl ⟨_, rfl, by omega⟩ (by omega) rfl (lt_of_ble rfl)
             rintro r9 zs9 p9 ⟨k9, rfl, hk9⟩ hp9
             replace hk9 := hk9 _ rfl
             apply Wk.addi rfl rfl (by omega) (lt_of_ble rfl)
             apply Wk.fad 1 0 false fd41_1 rfl (lt_of_ble rfl)
             apply Wk.sto (i := 3) 1 false ty3 rfl rfl rfl rfl (Nat.le_of_ble_eq_true rfl) (lt_of_ble rfl)
             refine Wk.nil (thenA_normal ?_)
             refine ⟨(zs9, p9, ((cellsB bs4).length : Int) + 1 + (k9 : Int), q4, bs4), ⟨by simp only; omega, by simp only; omega, by simp only; omega, hb4⟩, fin _ _ _ _ _ _ rfl rfl rfl rfl rfl rfl rfl rfl⟩
           · rfl
           · rfl
         · exact ⟨(zs4, p4, l4, q4, bs4), ⟨by simp only; omega, hl3, hl4, hb4⟩, fin _ _ _ _ _ _ rfl rfl rfl rfl rfl rfl rfl rfl⟩
       · rintro ⟨zs5, p5, l5, q5, bs5⟩ ⟨hp5, hl5, hl6, hb5⟩
         simp only at hp5 hl5 hl6 hb5
         show AW Tryd.prog C _ _ (St.of 43 [(0, .ptr 0 0), (2, .ptr 2 0), (3, .ptr 3 0)] [(0, rdr zs5 p5), (2, .var [.d (.v (.int .i64 0)), .d (.v (.int .i64 0)), .d (.v (.slice none 0 0))]), (3, .var (partOA (k1 : Int) l5 q5)), (7, ownB q5 bs5)])
         refine AW.thawc (j := 3) (c := 2) (i := 7) (cellsD bs5) rfl rfl (by rfl) (asData_cells bs5) (hX.one (by decide) rfl) ?_
         refine AW.seq ?_
         apply AW.list
         apply Wk.ld (i := 3) 3 true ty41 rfl rfl (by conv => lhs; whnf) (lt_of_ble rfl)
         apply Wk.sto (i := 2) 3 true ty41 rfl rfl rfl rfl (Nat.le_of_ble_eq_true rfl) (lt_of_ble rfl)
         refine Wk.nil (AW.ret ?_)
         exact RetQ.ret [(0, rdr zs5 p5)] (.cons ⟨2, 0, _, _, _, rfl, rfl, ty41, rfl⟩ .nil) ⟨⟨(k1 : Int), l5, bs5, rfl, by omega, by omega, by omega⟩, _, _, rfl, by omega⟩ (kept1 rfl)
 · rintro rest rfl; rfl
 · rintro rest _; exact ⟨_, 0, 0, [], rfl, by simp⟩
 · rintro rest r ⟨sg, ln, bs, rfl, _⟩; rfl
end Go.Proofs.YtejafihfbncaoaaDoor
