/- Laws and contracts that the proof stands on: AbsCrx, LiParts, LiFrm. -/
import Derived.Test.YtejafihfbncaoaaDoorMa
import Derived.Test.YtejafihfbncaoaaDoorMb
import Derived.Test.YtejafihfbncaoaaDoorMc
import Derived.Test.YtejafihfbncaoaaDoorMd
import Derived.Test.YtejafihfbncaoaaDoorMe
import Derived.Test.YtejafihfbncaoaaDoorMf
/- Who grants credits, over what values read as. Written by tools/mk_AbsCrx.py. -/
namespace Go.Proofs.YtejafihfbncaoaaDoor
open Go Go.RowKit
def crA (v m : Int) (bs : List (Fin 256)) (d : Bool) : A := .agg [.d (.v (.int .i64 v)), .d (.v (.int .i64 m)), .d (fbytes bs), .d (.v (.bool d))]
def crN : List A := [.d (.v (.int .i64 0)), .d (.v (.int .i64 0)), .d (.v (.slice none 0 0)), .d (.v (.bool false))]
def crNil : A := .agg [.d (.v (.int .i64 0)), .d (.v (.int .i64 0)), .d (.v (.slice none 0 0)), .d (.v (.bool false))]
def crxB (v m : Int) (n : Nat) : Bool := inB v 0 255 && joinB m n
theorem ijoinA {m : Int} {bs : List (Fin 256)} {t : Bool} (h : joinB m bs.length = t) : DataOk Tryd.prog 59 [joinA m bs] (.d (.v (.bool t))) := by
  subst h
  refine DataOk.lift fun w F E H args _ hs hd => ?_
  obtain ⟨v, rfl, hv⟩ := arg1 hs hd
  obtain ⟨cs, rfl, hs', _, h⟩ := den_agg hv
  have hs2 : cs.toList.length = 2 := by simpa using hs'
  match hl' : cs.toList, hs2 with
  | [x0, x1], _ =>
    obtain rfl : cs = #[x0, x1] := by rw [← Array.toArray_toList (xs := cs), hl']
    obtain rfl := den_v (h 0 _ rfl)
    obtain ⟨g, n, cap, rfl, hn⟩ := den_row (den_d (h 1 _ rfl))
    simp only [List.length_map] at hn
    subst hn
    exact impl_join _ _ _ _ _
theorem sjoinA {m : Int} {bs : List (Fin 256)} {t : Bool} (h : joinB m bs.length = t) : DataOk Tryd.prog 58 [joinA m bs] (.d (.v (.bool t))) := by
  subst h
  refine DataOk.lift fun w F E H args _ hs hd => ?_
  obtain ⟨v, rfl, hv⟩ := arg1 hs hd
  obtain ⟨cs, rfl, hs', _, h⟩ := den_agg hv
  have hs2 : cs.toList.length = 2 := by simpa using hs'
  match hl' : cs.toList, hs2 with
  | [x0, x1], _ =>
    obtain rfl : cs = #[x0, x1] := by rw [← Array.toArray_toList (xs := cs), hl']
    obtain rfl := den_v (h 0 _ rfl)
    obtain ⟨g, n, cap, rfl, hn⟩ := den_row (den_d (h 1 _ rfl))
    simp only [List.length_map] at hn
    subst hn
    exact spec_join _ _ _ _ _
theorem icrx_ok (v m : Int) (bs : List (Fin 256)) (d : Bool) : DataOk Tryd.prog 26 [crA v m bs d] (.d (.v (.bool (crxB v m bs.length)))) := by
  unfold crxB
  cases k : inB v 0 255
  · skip
    refine Spec.intro (n := 11) (rv := [.tmp 2]) Tryd.func26 rfl rfl rfl (by simp) fun C hN hX => ?_
    refine AW.seq ?_
    apply AW.list
    apply Wk.bx 1 rfl rfl (lt_of_ble rfl)
    apply Wk.asg (by conv => lhs; whnf) (lt_of_ble rfl)
    refine Wk.nil ?_
    refine AW.seq ?_
    apply AW.list
    apply Wk.fad 0 0 false fd50_0 rfl (lt_of_ble rfl)
    apply Wk.ld (i := 1) 1 false ty3 rfl rfl (by conv => lhs; whnf) (lt_of_ble rfl)
    apply Wk.dat (inoneb k) Tryd.func48 rfl rfl rfl rfl rfl (lt_of_ble rfl)
    apply Wk.mv (by conv => lhs; whnf) (lt_of_ble rfl)
    apply Wk.goff 6 (ok_faddr fd50_1) rfl rfl (by decide)
    apply Wk.goff 6 (ok_load 1 ty48) rfl rfl (by decide)
    apply Wk.goff 6 (ok_datw ((ijoinA (m := 0) (bs := []) rfl).w rfl) Tryd.func59 rfl rfl) rfl rfl (by decide)
    apply Wk.pckF rfl (by conv => lhs; whnf) (lt_of_ble rfl)
    apply Wk.asg (by conv => lhs; whnf) (lt_of_ble rfl)
    refine Wk.nil (AW.ret ?_)
    exact RetQ.ret [] (.cons rfl .nil) ⟨rfl, rfl⟩ none_kept
  · skip
    refine Spec.intro (n := 11) (rv := [.tmp 2]) Tryd.func26 rfl rfl rfl (by simp) fun C hN hX => ?_
    refine AW.seq ?_
    apply AW.list
    apply Wk.bx 1 rfl rfl (lt_of_ble rfl)
    apply Wk.asg (by conv => lhs; whnf) (lt_of_ble rfl)
    refine Wk.nil ?_
    refine AW.seq ?_
    apply AW.list
    apply Wk.fad 0 0 false fd50_0 rfl (lt_of_ble rfl)
    apply Wk.ld (i := 1) 1 false ty3 rfl rfl (by conv => lhs; whnf) (lt_of_ble rfl)
    apply Wk.dat (inoneb k) Tryd.func48 rfl rfl rfl rfl rfl (lt_of_ble rfl)
    apply Wk.mv (by conv => lhs; whnf) (lt_of_ble rfl)
    apply Wk.gon 6 rfl rfl
    apply Wk.fad 1 1 true fd50_1 rfl (lt_of_ble rfl)
    apply Wk.gon 6 rfl rfl
    apply Wk.ld (i := 1) 2 true ty48 rfl rfl (by conv => lhs; whnf) (lt_of_ble rfl)
    apply Wk.gon 6 rfl rfl
    apply Wk.dat (ijoinA rfl) Tryd.func59 rfl rfl rfl rfl rfl (lt_of_ble rfl)
    apply Wk.pckT rfl (by conv => lhs; whnf) (lt_of_ble rfl)
    apply Wk.asg (by conv => lhs; whnf) (lt_of_ble rfl)
    refine Wk.nil (AW.ret ?_)
    exact RetQ.ret [] (.cons rfl .nil) ⟨rfl, rfl⟩ none_kept
theorem scrx_ok (v m : Int) (bs : List (Fin 256)) (d : Bool) : DataOk Tryd.prog 25 [crA v m bs d] (.d (.v (.bool (crxB v m bs.length)))) := by
  unfold crxB
  cases k : inB v 0 255
  · skip
    refine Spec.intro (n := 11) (rv := [.tmp 2]) Tryd.func25 rfl rfl rfl (by simp) fun C hN hX => ?_
    refine AW.seq ?_
    apply AW.list
    apply Wk.bx 1 rfl rfl (lt_of_ble rfl)
    apply Wk.asg (by conv => lhs; whnf) (lt_of_ble rfl)
    refine Wk.nil ?_
    refine AW.seq ?_
    apply AW.list
    apply Wk.fad 0 0 false fd50_0 rfl (lt_of_ble rfl)
    apply Wk.ld (i := 1) 1 false ty3 rfl rfl (by conv => lhs; whnf) (lt_of_ble rfl)
    apply Wk.dat (sinb k) Tryd.func45 rfl rfl rfl rfl rfl (lt_of_ble rfl)
    apply Wk.mv (by conv => lhs; whnf) (lt_of_ble rfl)
    apply Wk.goff 6 (ok_faddr fd50_1) rfl rfl (by decide)
    apply Wk.goff 6 (ok_load 1 ty48) rfl rfl (by decide)
    apply Wk.goff 6 (ok_datw ((sjoinA (m := 0) (bs := []) rfl).w rfl) Tryd.func58 rfl rfl) rfl rfl (by decide)
    apply Wk.pckF rfl (by conv => lhs; whnf) (lt_of_ble rfl)
    apply Wk.asg (by conv => lhs; whnf) (lt_of_ble rfl)
    refine Wk.nil (AW.ret ?_)
    exact RetQ.ret [] (.cons rfl .nil) ⟨rfl, rfl⟩ none_kept
  · skip
    refine Spec.intro (n := 11) (rv := [.tmp 2]) Tryd.func25 rfl rfl rfl (by simp) fun C hN hX => ?_
    refine AW.seq ?_
    apply AW.list
    apply Wk.bx 1 rfl rfl (lt_of_ble rfl)
    apply Wk.asg (by conv => lhs; whnf) (lt_of_ble rfl)
    refine Wk.nil ?_
    refine AW.seq ?_
    apply AW.list
    apply Wk.fad 0 0 false fd50_0 rfl (lt_of_ble rfl)
    apply Wk.ld (i := 1) 1 false ty3 rfl rfl (by conv => lhs; whnf) (lt_of_ble rfl)
    apply Wk.dat (sinb k) Tryd.func45 rfl rfl rfl rfl rfl (lt_of_ble rfl)
    apply Wk.mv (by conv => lhs; whnf) (lt_of_ble rfl)
    apply Wk.gon 6 rfl rfl
    apply Wk.fad 1 1 true fd50_1 rfl (lt_of_ble rfl)
    apply Wk.gon 6 rfl rfl
    apply Wk.ld (i := 1) 2 true ty48 rfl rfl (by conv => lhs; whnf) (lt_of_ble rfl)
    apply Wk.gon 6 rfl rfl
    apply Wk.dat (sjoinA rfl) Tryd.func58 rfl rfl rfl rfl rfl (lt_of_ble rfl)
    apply Wk.pckT rfl (by conv => lhs; whnf) (lt_of_ble rfl)
    apply Wk.asg (by conv => lhs; whnf) (lt_of_ble rfl)
    refine Wk.nil (AW.ret ?_)
    exact RetQ.ret [] (.cons rfl .nil) ⟨rfl, rfl⟩ none_kept
theorem icrxb {v m : Int} {bs : List (Fin 256)} {t : Bool} (d : Bool) (h : crxB v m bs.length = t) : DataOk Tryd.prog 26 [crA v m bs d] (.d (.v (.bool t))) := h ▸ icrx_ok v m bs d
theorem scrxb {v m : Int} {bs : List (Fin 256)} {t : Bool} (d : Bool) (h : crxB v m bs.length = t) : DataOk Tryd.prog 25 [crA v m bs d] (.d (.v (.bool t))) := h ▸ scrx_ok v m bs d
theorem crx_facts {v m : Int} {n : Nat} (h : crxB v m n = true) : (0 ≤ v ∧ v ≤ 255) ∧ joinB m n = true := by
  simp only [crxB, Bool.and_eq_true] at h
  exact ⟨(inB_iff _ _ _).1 h.1, h.2⟩
theorem sl8r_ok (v m : Int) (bs : List (Fin 256)) (d : Bool) (hl : bs.length ≤ 1000) : DataOk Tryd.prog 57 [crA v m bs d] (crA v m bs d) := by
  refine Spec.intro (n := 13) (rv := [.cell 2 50]) Tryd.func57 rfl rfl rfl (by simp) fun C hN hX => ?_
  refine AW.seq ?_
  apply AW.list
  apply Wk.bx 1 rfl rfl (lt_of_ble rfl)
  apply Wk.alc 2 [.int .i64 0, .int .i64 0, .slice none 0 0, .bool false] ze50 rfl rfl (lt_of_ble rfl)
  refine Wk.nil ?_
  refine AW.seq ?_
  apply AW.list
  apply Wk.ld (i := 1) 4 true ty50 rfl rfl (by conv => lhs; whnf) (lt_of_ble rfl)
  apply Wk.alc 3 [.int .i64 0, .int .i64 0, .slice none 0 0, .bool false] ze50 rfl rfl (lt_of_ble rfl)
  apply Wk.sto (i := 3) 4 true ty50 rfl rfl rfl rfl (Nat.le_of_ble_eq_true rfl) (lt_of_ble rfl)
  refine Wk.nil ?_
  refine AW.seq ?_
  apply AW.list
  apply Wk.lst 5 1 false [.int .u8 0] un22 ty5 ze5 rfl rfl (by rfl) (by rfl) (by decide) (by decide) rfl rfl (all_len rfl) (lt_of_ble rfl)
  apply Wk.fad 1 1 true fd50_1 rfl (lt_of_ble rfl)
  apply Wk.fad 1 0 false fd48_1 rfl (lt_of_ble rfl)
  apply Wk.ld (i := 1) 1 false ty22 rfl rfl (by conv => lhs; whnf) (lt_of_ble rfl)
  apply Wk.appOR 5 1000 1 un22 ap5 rfl rfl rfl (.inr rfl) (by decide) (one_bytes _) (by simp) (by simp; omega) (lt_of_ble rfl)
  apply Wk.fad 1 1 true fd50_1 rfl (lt_of_ble rfl)
  apply Wk.fad 1 0 false fd48_1 rfl (lt_of_ble rfl)
  apply Wk.sto (i := 3) 1 false ty22 rfl rfl rfl rfl (Nat.le_of_ble_eq_true rfl) (lt_of_ble rfl)
  refine Wk.nil (thenA_normal ?_)
  refine AW.thawc (j := 3) (c := 2) (i := 5) (cellsD bs) rfl rfl rfl (asData_cd bs) hX.none ?_
  refine AW.seq ?_
  apply AW.list
  apply Wk.ld (i := 3) 4 true ty50 rfl rfl (by conv => lhs; whnf) (lt_of_ble rfl)
  apply Wk.sto (i := 2) 4 true ty50 rfl rfl rfl rfl (Nat.le_of_ble_eq_true rfl) (lt_of_ble rfl)
  refine Wk.nil (AW.ret ?_)
  exact RetQ.ret [] (.cons ⟨2, 0, _, _, _, rfl, rfl, ty50, rfl⟩ .nil) ⟨rfl, rfl⟩ none_kept
def crPost (_ : List A) (r : A) : Prop := ∃ (v m : Int) (bs : List (Fin 256)) (d : Bool), r = crA v m bs d ∧ (-1 ≤ v ∧ v ≤ 256) ∧ (-1 ≤ m ∧ m ≤ 100) ∧ bs.length ≤ 1000
set_option maxRecDepth 100000 in
theorem l20Crx_ok : DrawOk Tryd.prog 54 (fun rest => ∃ n : Int, rest = [.d (.v (.int .i64 n))] ∧ n ≤ 1000000 ∧ -1000000 ≤ n) crPost 13000 := by
  refine DrawOk.zero ?_ ?_ ?_ ?_
  · rintro zs p rest ⟨n, rfl, hn, hn'⟩ hp
    refine Spec.intro (n := 30) (rv := [.cell 4 50]) Tryd.func54 rfl rfl rfl (by simp) fun C hN hX => ?_
    refine AW.seq ?_
    apply AW.list
    apply Wk.alc 4 [.int .i64 0, .int .i64 0, .slice none 0 0, .bool false] ze50 rfl rfl (lt_of_ble rfl)
    refine Wk.nil ?_
    refine AW.seq ?_
    apply AW.list
    apply Wk.mv (by conv => lhs; whnf) (lt_of_ble rfl)
    apply Wk.drw 0 pick_ok Tryd.func52 rfl rfl rfl rfl ⟨_, rfl, by omega⟩ (by omega) rfl (lt_of_ble rfl)
    rintro r1 zs1 p1 ⟨k1, rfl, hk1⟩ hp1
    replace hk1 := hk1 _ rfl
    apply Wk.mv (by conv => lhs; whnf) (lt_of_ble rfl)
    apply Wk.drw 0 join_ok Tryd.func81 rfl rfl rfl rfl ⟨_, rfl, by omega⟩ (by omega) rfl (lt_of_ble rfl)
    rintro r2 zs2 p2 ⟨m, bs, rfl, hm1, hm2, hbs⟩ hp2
    apply Wk.mv (by conv => lhs; whnf) (lt_of_ble rfl)
    apply Wk.drw 0 pick_ok Tryd.func52 rfl rfl rfl rfl ⟨_, rfl, by omega⟩ (by omega) rfl (lt_of_ble rfl)
    rintro r3 zs3 p3 ⟨k3, rfl, _⟩ hp3
    apply Wk.bin rfl rfl (fun w => by simp [go_sem] <;> rfl) (lt_of_ble rfl)
    apply Wk.bld [.int .i64 0, .int .i64 0, .slice none 0 0, .bool false] [(0, 1), (1, 2), (3, 1)] bl50 rfl (by conv => lhs; whnf) (lt_of_ble rfl)
    apply Wk.alc 5 [.int .i64 0, .int .i64 0, .slice none 0 0, .bool false] ze50 rfl rfl (lt_of_ble rfl)
    apply Wk.sto (i := 5) 4 true ty50 rfl rfl rfl rfl (Nat.le_of_ble_eq_true rfl) (lt_of_ble rfl)
    refine Wk.nil ?_
    obtain ⟨d, hd⟩ : ∃ a : Bool, ((k3 : Int) == 0) = a := ⟨_, rfl⟩
    have hk : k1 < 7 := by omega
    let inv : List (Fin 256) × Nat × Int × Int × List (Fin 256) → St := fun x => St.of 30 [(0, .ptr 0 0), (4, .ptr 4 0), (5, .ptr 5 0)] [(0, rdr x.1 x.2.1), (4, .var crN), (5, .var [.d (.v (.int .i64 x.2.2.1)), .d (.v (.int .i64 x.2.2.2.1)), .d (fbytes x.2.2.2.2), .d (.v (.bool d))])]
    refine AW.keep (n := 30) (ts := [(0, .ptr 0 0), (1, .d (.v (.int .i64 n))), (4, .ptr 4 0), (5, .ptr 5 0)]) (bs := [(0, rdr zs3 p3), (4, .var crN), (5, .var [.d (.v (.int .i64 (k1 : Int))), .d (.v (.int .i64 m)), .d (fbytes bs), .d (.v (.bool d))])]) ⟨rfl, .cons rfl rfl (.cons rfl rfl (.cons rfl rfl (.cons rfl rfl .nil))), .cons rfl rfl (.cons rfl rfl (.cons (by rw [← hd]; rfl) rfl .nil)), hN.mono (by simp [keys])⟩ ?_
    refine AW.via inv (fun x => x.2.1 ≤ p + 13000 ∧ (-1 ≤ x.2.2.1 ∧ x.2.2.1 ≤ 256) ∧ (-1 ≤ x.2.2.2.1 ∧ x.2.2.2.1 ≤ 100) ∧ x.2.2.2.2.length ≤ 1000) ?_ ?_
    · refine AW.seq ?_
      apply AW.list
      apply Wk.mv (by conv => lhs; whnf) (lt_of_ble rfl)
      apply Wk.mv (by conv => lhs; whnf) (lt_of_ble rfl)
      apply Wk.drw 0 odd_ok Tryd.func61 rfl rfl rfl rfl ⟨_, rfl, by omega⟩ (by omega) rfl (lt_of_ble rfl)
      rintro r6 zs6 p6 ⟨b6, rfl, _⟩ hp6
      refine Wk.nil ?_
      refine AW.cond rfl (fun hc => ?_) (fun hc => ?_)
      · refine AW.seq ?_
        apply AW.list
        apply Wk.mv (by conv => lhs; whnf) (lt_of_ble rfl)
        apply Wk.drw 0 pick_ok Tryd.func52 rfl rfl rfl rfl ⟨_, rfl, by omega⟩ (by omega) rfl (lt_of_ble rfl)
        rintro r7 zs7 p7 ⟨k7, rfl, _⟩ hp7
        apply Wk.bin rfl rfl (fun w => by simp [go_sem] <;> rfl) (lt_of_ble rfl)
        refine Wk.nil ?_
        refine AW.cond rfl (fun hc => ?_) (fun hc => ?_)
        · apply AW.list
          apply Wk.lst 20 1 false [.int .i64 0] un89 ty3 ze3 rfl rfl (by rfl) (by rfl) (by decide) (by decide) rfl rfl (all_len rfl) (lt_of_ble rfl)
          apply Wk.mv (by conv => lhs; whnf) (lt_of_ble rfl)
          apply Wk.drw 0 pick_ok Tryd.func52 rfl rfl rfl rfl ⟨_, rfl, by omega⟩ (by omega) rfl (lt_of_ble rfl)
          rintro r8 zs8 p8 ⟨k, rfl, hk9⟩ hp8
          have hk' : k < 3 := by have := hk9 3 rfl; omega
          obtain ⟨v, hv, hv1, hv2⟩ : ∃ v : Int, partA (List.flatten [[A.d (.v (.int .i64 (-1)))], [.d (.v (.int .i64 256))], [.d (.v (.int .i64 255))]]) (k * 1) 1 false = some (.d (.v (.int .i64 v))) ∧ -1 ≤ v ∧ v ≤ 256 := by
            rcases (show k = 0 ∨ k = 1 ∨ k = 2 by omega) with rfl | rfl | rfl
            · exact ⟨_, rfl, by decide, by decide⟩
            · exact ⟨_, rfl, by decide, by decide⟩
            · exact ⟨_, rfl, by decide, by decide⟩
          apply Wk.iado 20 1 false un89 ty3 rfl rfl rfl hk' (lt_of_ble rfl)
          apply Wk.ldo (i := 20) 1 false ty3 rfl rfl hv (lt_of_ble rfl)
          apply Wk.fad 0 0 false fd50_0 rfl (lt_of_ble rfl)
          apply Wk.sto (i := 5) 1 false ty3 rfl rfl rfl rfl (Nat.le_of_ble_eq_true rfl) (lt_of_ble rfl)
          refine Wk.nil (thenA_normal ?_)
          exact ⟨(zs8, p8, v, m, bs), ⟨by simp only; omega, ⟨hv1, hv2⟩, ⟨hm1, hm2⟩, hbs⟩, fun a w => Rel.keep ⟨rfl, .cons rfl rfl (.cons rfl rfl (.cons rfl rfl .nil)), .cons rfl rfl (.cons rfl rfl (.cons rfl rfl .nil)), hN.mono (by simp [keys])⟩⟩
        · apply AW.list
          apply Wk.mv (by conv => lhs; whnf) (lt_of_ble rfl)
          apply Wk.drw 0 join_ok Tryd.func81 rfl rfl rfl rfl ⟨_, rfl, by omega⟩ (by omega) rfl (lt_of_ble rfl)
          rintro r8 zs8 p8 ⟨m8, bs8, rfl, hq1, hq2, hq3⟩ hp8
          apply Wk.fad 1 1 true fd50_1 rfl (lt_of_ble rfl)
          apply Wk.sto (i := 5) 2 true ty48 rfl rfl rfl rfl (Nat.le_of_ble_eq_true rfl) (lt_of_ble rfl)
          refine Wk.nil (thenA_normal ?_)
          exact ⟨(zs8, p8, (k1 : Int), m8, bs8), ⟨by simp only; omega, by simp only; omega, ⟨hq1, hq2⟩, hq3⟩, fun a w => Rel.keep ⟨rfl, .cons rfl rfl (.cons rfl rfl (.cons rfl rfl .nil)), .cons rfl rfl (.cons rfl rfl (.cons rfl rfl .nil)), hN.mono (by simp [keys])⟩⟩
      · refine AW.skip (thenA_normal ?_)
        exact ⟨(zs6, p6, (k1 : Int), m, bs), ⟨by simp only; omega, by simp only; omega, ⟨hm1, hm2⟩, hbs⟩, fun a w => Rel.keep ⟨rfl, .cons rfl rfl (.cons rfl rfl (.cons rfl rfl .nil)), .cons rfl rfl (.cons rfl rfl (.cons rfl rfl .nil)), hN.mono (by simp [keys])⟩⟩
    · rintro ⟨zs8, p8, v, m8, bs8⟩ ⟨hp8, h1, h2, h3⟩
      simp only at hp8 h1 h2 h3
      show AW Tryd.prog C _ _ (St.of 30 [(0, .ptr 0 0), (4, .ptr 4 0), (5, .ptr 5 0)] [(0, rdr zs8 p8), (4, .var crN), (5, .var [.d (.v (.int .i64 v)), .d (.v (.int .i64 m8)), .d (fbytes bs8), .d (.v (.bool d))])])
      refine AW.seq ?_
      apply AW.list
      apply Wk.ld (i := 5) 4 true ty50 rfl rfl (by conv => lhs; whnf) (lt_of_ble rfl)
      apply Wk.sto (i := 4) 4 true ty50 rfl rfl rfl rfl (Nat.le_of_ble_eq_true rfl) (lt_of_ble rfl)
      refine Wk.nil (AW.ret ?_)
      exact RetQ.ret [(0, rdr zs8 p8)] (.cons ⟨4, 0, _, _, _, rfl, rfl, ty50, rfl⟩ .nil) ⟨⟨v, m8, bs8, d, rfl, h1, h2, h3⟩, _, _, rfl, hp8⟩ (kept1 rfl)
  · rintro rest ⟨n, rfl, _⟩; rfl
  · rintro rest _; exact ⟨_, 0, 0, [], false, rfl, by omega, by omega, by simp⟩
  · rintro rest r ⟨v, m, bs, d, rfl, _⟩; rfl
/-! The grant. -/
def idleG (v : Int) (d : Bool) : Prop := d = true ∨ 6 ≤ v
set_option maxHeartbeats 8000000 in
set_option maxRecDepth 100000 in
theorem scgrantNo (v m : Int) (bs : List (Fin 256)) (d : Bool) (hok : crxB v m bs.length = false) : DataOk Tryd.prog 23 [crA v m bs d] (.tup [crNil, frmNo, .d (.v (.bool false))]) := by
  refine Spec.intro (n := 28) (rv := [.cell 2 50, .cell 3 31, .tmp 4]) Tryd.func23 rfl rfl rfl (by simp) fun C hN hX => ?_
  refine AW.seq ?_
  apply AW.list
  apply Wk.bx 1 rfl rfl (lt_of_ble rfl)
  apply Wk.alc 2 [.int .i64 0, .int .i64 0, .slice none 0 0, .bool false] ze50 rfl rfl (lt_of_ble rfl)
  apply Wk.alc 3 [.int .i64 0, .int .i64 0, .int .i64 0, .bool false, .bool false, .int .i64 0, .int .i64 0, .int .i64 0, .slice none 0 0] ze31 rfl rfl (lt_of_ble rfl)
  apply Wk.asg (by conv => lhs; whnf) (lt_of_ble rfl)
  refine Wk.nil ?_
  refine AW.seq (AW.seq ?_)
  apply AW.list
  apply Wk.ld (i := 1) 4 true ty50 rfl rfl (by conv => lhs; whnf) (lt_of_ble rfl)
  apply Wk.dat (scrxb d hok) Tryd.func25 rfl rfl rfl rfl rfl (lt_of_ble rfl)
  apply Wk.un rfl (fun w => by simp [go_sem] <;> rfl) (lt_of_ble rfl)
  refine Wk.nil ?_
  refine AW.cond rfl (fun _ => ?_) (fun hc => by cases hc)
  refine AW.seq ?_
  apply AW.list
  apply Wk.bld [.int .i64 0, .int .i64 0, .slice none 0 0, .bool false] [(0, 1), (1, 2), (3, 1)] bl50 rfl (by conv => lhs; whnf) (lt_of_ble rfl)
  apply Wk.bld [.int .i64 0, .int .i64 0, .int .i64 0, .bool false, .bool false, .int .i64 0, .int .i64 0, .int .i64 0, .slice none 0 0] [(0, 1), (1, 1), (2, 1), (3, 1), (4, 1), (5, 1), (6, 1), (7, 1), (8, 1)] bl31 rfl (by conv => lhs; whnf) (lt_of_ble rfl)
  apply Wk.sto (i := 2) 4 true ty50 rfl rfl rfl rfl (Nat.le_of_ble_eq_true rfl) (lt_of_ble rfl)
  apply Wk.sto (i := 3) 9 true ty31 rfl rfl rfl rfl (Nat.le_of_ble_eq_true rfl) (lt_of_ble rfl)
  apply Wk.asg (by conv => lhs; whnf) (lt_of_ble rfl)
  refine Wk.nil (AW.ret ?_)
  repeat (first | refine thenA_ret ?_ | refine inBlockA_ret ?_)
  exact RetQ.ret [] (.cons ⟨2, 0, _, _, _, rfl, rfl, ty50, rfl⟩ (.cons ⟨3, 0, _, _, _, rfl, rfl, ty31, rfl⟩ (.cons rfl .nil))) ⟨rfl, rfl⟩ none_kept
set_option maxHeartbeats 8000000 in
set_option maxRecDepth 100000 in
theorem scgrantIdle (v m : Int) (bs : List (Fin 256)) (d : Bool) (hok : crxB v m bs.length = true) (hl : bs.length ≤ 1000) (hi : idleG v d) : DataOk Tryd.prog 23 [crA v m bs d] (.tup [crA v m bs d, frmNo, .d (.v (.bool false))]) := by
  simp only [idleG] at hi
  refine Spec.intro (n := 28) (rv := [.cell 2 50, .cell 3 31, .tmp 4]) Tryd.func23 rfl rfl rfl (by simp) fun C hN hX => ?_
  refine AW.seq ?_
  apply AW.list
  apply Wk.bx 1 rfl rfl (lt_of_ble rfl)
  apply Wk.alc 2 [.int .i64 0, .int .i64 0, .slice none 0 0, .bool false] ze50 rfl rfl (lt_of_ble rfl)
  apply Wk.alc 3 [.int .i64 0, .int .i64 0, .int .i64 0, .bool false, .bool false, .int .i64 0, .int .i64 0, .int .i64 0, .slice none 0 0] ze31 rfl rfl (lt_of_ble rfl)
  apply Wk.asg (by conv => lhs; whnf) (lt_of_ble rfl)
  refine Wk.nil ?_
  refine AW.seq (AW.seq ?_)
  apply AW.list
  apply Wk.ld (i := 1) 4 true ty50 rfl rfl (by conv => lhs; whnf) (lt_of_ble rfl)
  apply Wk.dat (scrxb d hok) Tryd.func25 rfl rfl rfl rfl rfl (lt_of_ble rfl)
  apply Wk.un rfl (fun w => by simp [go_sem] <;> rfl) (lt_of_ble rfl)
  refine Wk.nil ?_
  refine AW.cond rfl (fun hc => by cases hc) (fun _ => AW.skip (thenA_normal ?_))
  refine AW.seq ?_
  apply AW.list
  apply Wk.ld (i := 1) 4 true ty50 rfl rfl (by conv => lhs; whnf) (lt_of_ble rfl)
  apply Wk.dat (sl8r_ok v m bs d hl) Tryd.func57 rfl rfl rfl rfl rfl (lt_of_ble rfl)
  apply Wk.alc 5 [.int .i64 0, .int .i64 0, .slice none 0 0, .bool false] ze50 rfl rfl (lt_of_ble rfl)
  apply Wk.sto (i := 5) 4 true ty50 rfl rfl rfl rfl (Nat.le_of_ble_eq_true rfl) (lt_of_ble rfl)
  refine Wk.nil ?_
  refine AW.seq (AW.seq ?_)
  cases d
  · skip
    have hi : 6 ≤ v := by simpa using hi
    apply AW.list
    apply Wk.fad 3 0 false fd50_2 rfl (lt_of_ble rfl)
    apply Wk.ld (i := 1) 1 false ty4 rfl rfl (by conv => lhs; whnf) (lt_of_ble rfl)
    apply Wk.mv (by conv => lhs; whnf) (lt_of_ble rfl)
    apply Wk.gon 15 rfl rfl
    apply Wk.fad 0 0 false fd50_0 rfl (lt_of_ble rfl)
    apply Wk.gon 15 rfl rfl
    apply Wk.ld (i := 1) 1 false ty3 rfl rfl (by conv => lhs; whnf) (lt_of_ble rfl)
    apply Wk.gon 15 rfl rfl
    apply Wk.bin rfl rfl (r := .bool true) (fun w => by simp [go_sem] <;> omega) (lt_of_ble rfl)
    apply Wk.pckF rfl (by conv => lhs; whnf) (lt_of_ble rfl)
    refine Wk.nil ?_
    refine AW.cond rfl (fun _ => ?_) (fun hc => by cases hc)
    refine AW.seq ?_
    apply AW.list
    apply Wk.ld (i := 5) 4 true ty50 rfl rfl (by conv => lhs; whnf) (lt_of_ble rfl)
    apply Wk.bld [.int .i64 0, .int .i64 0, .int .i64 0, .bool false, .bool false, .int .i64 0, .int .i64 0, .int .i64 0, .slice none 0 0] [(0, 1), (1, 1), (2, 1), (3, 1), (4, 1), (5, 1), (6, 1), (7, 1), (8, 1)] bl31 rfl (by conv => lhs; whnf) (lt_of_ble rfl)
    apply Wk.sto (i := 2) 4 true ty50 rfl rfl rfl rfl (Nat.le_of_ble_eq_true rfl) (lt_of_ble rfl)
    apply Wk.sto (i := 3) 9 true ty31 rfl rfl rfl rfl (Nat.le_of_ble_eq_true rfl) (lt_of_ble rfl)
    apply Wk.asg (by conv => lhs; whnf) (lt_of_ble rfl)
    refine Wk.nil (AW.ret ?_)
    repeat (first | refine thenA_ret ?_ | refine inBlockA_ret ?_)
    exact RetQ.ret [] (.cons ⟨2, 0, _, _, _, rfl, rfl, ty50, rfl⟩ (.cons ⟨3, 0, _, _, _, rfl, rfl, ty31, rfl⟩ (.cons rfl .nil))) ⟨rfl, rfl⟩ none_kept
  · skip
    apply AW.list
    apply Wk.fad 3 0 false fd50_2 rfl (lt_of_ble rfl)
    apply Wk.ld (i := 1) 1 false ty4 rfl rfl (by conv => lhs; whnf) (lt_of_ble rfl)
    apply Wk.mv (by conv => lhs; whnf) (lt_of_ble rfl)
    apply Wk.goff 15 (ok_faddr fd50_0) rfl rfl (by simp)
    apply Wk.goff 15 (ok_load 1 ty3) rfl rfl (by simp)
    apply Wk.goff 15 (ok_bin _ _ _ _ _) rfl rfl (by simp)
    apply Wk.pckT rfl (by conv => lhs; whnf) (lt_of_ble rfl)
    refine Wk.nil ?_
    refine AW.cond rfl (fun _ => ?_) (fun hc => by cases hc)
    refine AW.seq ?_
    apply AW.list
    apply Wk.ld (i := 5) 4 true ty50 rfl rfl (by conv => lhs; whnf) (lt_of_ble rfl)
    apply Wk.bld [.int .i64 0, .int .i64 0, .int .i64 0, .bool false, .bool false, .int .i64 0, .int .i64 0, .int .i64 0, .slice none 0 0] [(0, 1), (1, 1), (2, 1), (3, 1), (4, 1), (5, 1), (6, 1), (7, 1), (8, 1)] bl31 rfl (by conv => lhs; whnf) (lt_of_ble rfl)
    apply Wk.sto (i := 2) 4 true ty50 rfl rfl rfl rfl (Nat.le_of_ble_eq_true rfl) (lt_of_ble rfl)
    apply Wk.sto (i := 3) 9 true ty31 rfl rfl rfl rfl (Nat.le_of_ble_eq_true rfl) (lt_of_ble rfl)
    apply Wk.asg (by conv => lhs; whnf) (lt_of_ble rfl)
    refine Wk.nil (AW.ret ?_)
    repeat (first | refine thenA_ret ?_ | refine inBlockA_ret ?_)
    exact RetQ.ret [] (.cons ⟨2, 0, _, _, _, rfl, rfl, ty50, rfl⟩ (.cons ⟨3, 0, _, _, _, rfl, rfl, ty31, rfl⟩ (.cons rfl .nil))) ⟨rfl, rfl⟩ none_kept
set_option maxHeartbeats 8000000 in
set_option maxRecDepth 100000 in
theorem scgrantOn (v m : Int) (bs : List (Fin 256)) (hok : crxB v m bs.length = true) (hl : bs.length ≤ 1000) (hv : v < 6) : DataOk Tryd.prog 23 [crA v m bs false] (.tup [crA 6 m bs false, frmZ 4 0 0 false false 0 0 (6 - v) (.v (.slice none 0 0)), .d (.v (.bool true))]) := by
  have hf := crx_facts hok
  refine Spec.intro (n := 28) (rv := [.cell 2 50, .cell 3 31, .tmp 4]) Tryd.func23 rfl rfl rfl (by simp) fun C hN hX => ?_
  refine AW.seq ?_
  apply AW.list
  apply Wk.bx 1 rfl rfl (lt_of_ble rfl)
  apply Wk.alc 2 [.int .i64 0, .int .i64 0, .slice none 0 0, .bool false] ze50 rfl rfl (lt_of_ble rfl)
  apply Wk.alc 3 [.int .i64 0, .int .i64 0, .int .i64 0, .bool false, .bool false, .int .i64 0, .int .i64 0, .int .i64 0, .slice none 0 0] ze31 rfl rfl (lt_of_ble rfl)
  apply Wk.asg (by conv => lhs; whnf) (lt_of_ble rfl)
  refine Wk.nil ?_
  refine AW.seq (AW.seq ?_)
  apply AW.list
  apply Wk.ld (i := 1) 4 true ty50 rfl rfl (by conv => lhs; whnf) (lt_of_ble rfl)
  apply Wk.dat (scrxb false hok) Tryd.func25 rfl rfl rfl rfl rfl (lt_of_ble rfl)
  apply Wk.un rfl (fun w => by simp [go_sem] <;> rfl) (lt_of_ble rfl)
  refine Wk.nil ?_
  refine AW.cond rfl (fun hc => by cases hc) (fun _ => AW.skip (thenA_normal ?_))
  refine AW.seq ?_
  apply AW.list
  apply Wk.ld (i := 1) 4 true ty50 rfl rfl (by conv => lhs; whnf) (lt_of_ble rfl)
  apply Wk.dat (sl8r_ok v m bs false hl) Tryd.func57 rfl rfl rfl rfl rfl (lt_of_ble rfl)
  apply Wk.alc 5 [.int .i64 0, .int .i64 0, .slice none 0 0, .bool false] ze50 rfl rfl (lt_of_ble rfl)
  apply Wk.sto (i := 5) 4 true ty50 rfl rfl rfl rfl (Nat.le_of_ble_eq_true rfl) (lt_of_ble rfl)
  refine Wk.nil ?_
  refine AW.seq (AW.seq ?_)
  apply AW.list
  apply Wk.fad 3 0 false fd50_2 rfl (lt_of_ble rfl)
  apply Wk.ld (i := 1) 1 false ty4 rfl rfl (by conv => lhs; whnf) (lt_of_ble rfl)
  apply Wk.mv (by conv => lhs; whnf) (lt_of_ble rfl)
  apply Wk.gon 15 rfl rfl
  apply Wk.fad 0 0 false fd50_0 rfl (lt_of_ble rfl)
  apply Wk.gon 15 rfl rfl
  apply Wk.ld (i := 1) 1 false ty3 rfl rfl (by conv => lhs; whnf) (lt_of_ble rfl)
  apply Wk.gon 15 rfl rfl
  apply Wk.bin rfl rfl (r := .bool false) (fun w => by simp [go_sem] <;> omega) (lt_of_ble rfl)
  apply Wk.pckF rfl (by conv => lhs; whnf) (lt_of_ble rfl)
  refine Wk.nil ?_
  refine AW.cond rfl (fun hc => by cases hc) (fun _ => AW.skip (thenA_normal ?_))
  refine AW.seq ?_
  apply AW.list
  apply Wk.fad 0 0 false fd50_0 rfl (lt_of_ble rfl)
  apply Wk.sto (i := 5) 1 false ty3 rfl rfl rfl rfl (Nat.le_of_ble_eq_true rfl) (lt_of_ble rfl)
  refine Wk.nil ?_
  refine AW.seq ?_
  apply AW.draw (hm := hmix) (cs := _)
  · apply Wk.ld (i := 5) 4 true ty50 rfl rfl (by conv => lhs; whnf) (lt_of_ble rfl)
    apply Wk.fad 0 0 false fd50_0 rfl (lt_of_ble rfl)
    apply Wk.ld (i := 1) 1 false ty3 rfl rfl (by conv => lhs; whnf) (lt_of_ble rfl)
    apply Wk.subi rfl rfl (by omega) (lt_of_ble rfl)
    apply Wk.bld [.int .i64 0, .int .i64 0, .int .i64 0, .bool false, .bool false, .int .i64 0, .int .i64 0, .int .i64 0, .slice none 0 0] [(0, 1), (1, 1), (2, 1), (3, 1), (4, 1), (5, 1), (6, 1), (7, 1), (8, 1)] bl31 rfl (by conv => lhs; whnf) (lt_of_ble rfl)
    apply Wk.sto (i := 2) 4 true ty50 rfl rfl rfl rfl (Nat.le_of_ble_eq_true rfl) (lt_of_ble rfl)
    apply Wk.sto (i := 3) 9 true ty31 rfl rfl rfl rfl (Nat.le_of_ble_eq_true rfl) (lt_of_ble rfl)
    apply Wk.asg (by conv => lhs; whnf) (lt_of_ble rfl)
    refine Wk.nil (AW.ret ?_)
    repeat (first | refine thenA_ret ?_ | refine inBlockA_ret ?_)
    exact RetQ.ret [] (.cons ⟨2, 0, _, _, _, rfl, rfl, ty50, rfl⟩ (.cons ⟨3, 0, _, _, _, rfl, rfl, ty31, rfl⟩ (.cons rfl .nil))) ⟨rfl, rfl⟩ none_kept
  · rfl
  · rfl
section
variable {V : List (Nat × Value)} {a : Addr}
theorem imisNo (n : Int) (hn : 6 ≤ n) (h0 : (3, errV a) ∈ V) : DataV Tryd.prog V 56 [.d (.v (.int .i64 n))] (.tup [.d (.v (.int .i64 0)), .d (.v (errV a))]) := by
  refine DataV.intro (n := 9) (rv := [.tmp 2, .tmp 3]) Tryd.func56 rfl rfl rfl (by simp) fun C hV hN hX => ?_
  refine AW.seq ?_
  apply AW.list
  apply Wk.asg (by conv => lhs; whnf) (lt_of_ble rfl)
  apply Wk.asg (by conv => lhs; whnf) (lt_of_ble rfl)
  refine Wk.nil ?_
  refine AW.seq (AW.seq ?_)
  apply AW.list
  apply Wk.mv (by conv => lhs; whnf) (lt_of_ble rfl)
  apply Wk.bin rfl rfl (r := .bool true) (fun w => by simp [go_sem] <;> omega) (lt_of_ble rfl)
  refine Wk.nil ?_
  refine AW.cond rfl (fun _ => ?_) (fun hc => by cases hc)
  refine AW.seq ?_
  apply AW.draw (hm := hmix) (cs := _)
  · apply Wk.ldv hX hV tyErr h0 (lt_of_ble rfl)
    apply Wk.asg (by conv => lhs; whnf) (lt_of_ble rfl)
    apply Wk.asg (by conv => lhs; whnf) (lt_of_ble rfl)
    refine Wk.nil (AW.ret ?_)
    repeat (first | refine thenA_ret ?_ | refine inBlockA_ret ?_)
    exact RetQ.ret [] (.cons rfl (.cons rfl .nil)) ⟨rfl, rfl⟩ none_kept
  · rfl
  · rfl
theorem imisOn (n : Int) (hn : n < 6) (hn2 : 0 ≤ n) : DataV Tryd.prog V 56 [.d (.v (.int .i64 n))] (.tup [.d (.v (.int .i64 (6 - n))), .d (.v .nilIface)]) := by
  refine DataV.intro (n := 9) (rv := [.tmp 2, .tmp 3]) Tryd.func56 rfl rfl rfl (by simp) fun C hV hN hX => ?_
  refine AW.seq ?_
  apply AW.list
  apply Wk.asg (by conv => lhs; whnf) (lt_of_ble rfl)
  apply Wk.asg (by conv => lhs; whnf) (lt_of_ble rfl)
  refine Wk.nil ?_
  refine AW.seq (AW.seq ?_)
  apply AW.list
  apply Wk.mv (by conv => lhs; whnf) (lt_of_ble rfl)
  apply Wk.bin rfl rfl (r := .bool false) (fun w => by simp [go_sem] <;> omega) (lt_of_ble rfl)
  refine Wk.nil ?_
  refine AW.cond rfl (fun hc => by cases hc) (fun _ => AW.skip (thenA_normal ?_))
  refine AW.seq ?_
  apply AW.list
  apply Wk.mv (by conv => lhs; whnf) (lt_of_ble rfl)
  apply Wk.subi rfl rfl (by omega) (lt_of_ble rfl)
  apply Wk.asg (by conv => lhs; whnf) (lt_of_ble rfl)
  apply Wk.asg (by conv => lhs; whnf) (lt_of_ble rfl)
  refine Wk.nil (AW.ret ?_)
  exact RetQ.ret [] (.cons rfl (.cons rfl .nil)) ⟨rfl, rfl⟩ none_kept
set_option maxHeartbeats 8000000 in
set_option maxRecDepth 100000 in
theorem icgrantNo (v m : Int) (bs : List (Fin 256)) (d : Bool) (hok : crxB v m bs.length = false) : DataV Tryd.prog V 22 [crA v m bs d] (.tup [crNil, frmNo, .d (.v (.bool false))]) := by
  refine DataV.intro (n := 35) (rv := [.cell 2 50, .cell 3 31, .tmp 4]) Tryd.func22 rfl rfl rfl (by simp) fun C hV hN hX => ?_
  refine AW.seq ?_
  apply AW.list
  apply Wk.bx 1 rfl rfl (lt_of_ble rfl)
  apply Wk.alc 2 [.int .i64 0, .int .i64 0, .slice none 0 0, .bool false] ze50 rfl rfl (lt_of_ble rfl)
  apply Wk.alc 3 [.int .i64 0, .int .i64 0, .int .i64 0, .bool false, .bool false, .int .i64 0, .int .i64 0, .int .i64 0, .slice none 0 0] ze31 rfl rfl (lt_of_ble rfl)
  apply Wk.asg (by conv => lhs; whnf) (lt_of_ble rfl)
  refine Wk.nil ?_
  refine AW.seq (AW.seq ?_)
  apply AW.list
  apply Wk.ld (i := 1) 4 true ty50 rfl rfl (by conv => lhs; whnf) (lt_of_ble rfl)
  apply Wk.dat (icrxb d hok) Tryd.func26 rfl rfl rfl rfl rfl (lt_of_ble rfl)
  apply Wk.un rfl (fun w => by simp [go_sem] <;> rfl) (lt_of_ble rfl)
  refine Wk.nil ?_
  refine AW.cond rfl (fun _ => ?_) (fun hc => by cases hc)
  refine AW.seq ?_
  apply AW.list
  apply Wk.bld [.int .i64 0, .int .i64 0, .slice none 0 0, .bool false] [(0, 1), (1, 2), (3, 1)] bl50 rfl (by conv => lhs; whnf) (lt_of_ble rfl)
  apply Wk.bld [.int .i64 0, .int .i64 0, .int .i64 0, .bool false, .bool false, .int .i64 0, .int .i64 0, .int .i64 0, .slice none 0 0] [(0, 1), (1, 1), (2, 1), (3, 1), (4, 1), (5, 1), (6, 1), (7, 1), (8, 1)] bl31 rfl (by conv => lhs; whnf) (lt_of_ble rfl)
  apply Wk.sto (i := 2) 4 true ty50 rfl rfl rfl rfl (Nat.le_of_ble_eq_true rfl) (lt_of_ble rfl)
  apply Wk.sto (i := 3) 9 true ty31 rfl rfl rfl rfl (Nat.le_of_ble_eq_true rfl) (lt_of_ble rfl)
  apply Wk.asg (by conv => lhs; whnf) (lt_of_ble rfl)
  refine Wk.nil (AW.ret ?_)
  repeat (first | refine thenA_ret ?_ | refine inBlockA_ret ?_)
  exact RetQ.ret [] (.cons ⟨2, 0, _, _, _, rfl, rfl, ty50, rfl⟩ (.cons ⟨3, 0, _, _, _, rfl, rfl, ty31, rfl⟩ (.cons rfl .nil))) ⟨rfl, rfl⟩ none_kept
set_option maxHeartbeats 8000000 in
set_option maxRecDepth 100000 in
theorem icgrantIdle (v m : Int) (bs : List (Fin 256)) (d : Bool) (hok : crxB v m bs.length = true) (hl : bs.length ≤ 1000) (hi : idleG v d) (h0 : (3, errV a) ∈ V) : DataV Tryd.prog V 22 [crA v m bs d] (.tup [crA v m bs d, frmNo, .d (.v (.bool false))]) := by
  have hf := crx_facts hok
  have hsm := (isSame_ok a).v (V := V)
  have hsn := (isNil_ok a).v (V := V)
  by_cases hv : 6 ≤ v
  · have hm := imisNo (V := V) v hv h0
    cases d
    · skip
      refine DataV.intro (n := 35) (rv := [.cell 2 50, .cell 3 31, .tmp 4]) Tryd.func22 rfl rfl rfl (by simp) fun C hV hN hX => ?_
      refine AW.seq ?_
      apply AW.list
      apply Wk.bx 1 rfl rfl (lt_of_ble rfl)
      apply Wk.alc 2 [.int .i64 0, .int .i64 0, .slice none 0 0, .bool false] ze50 rfl rfl (lt_of_ble rfl)
      apply Wk.alc 3 [.int .i64 0, .int .i64 0, .int .i64 0, .bool false, .bool false, .int .i64 0, .int .i64 0, .int .i64 0, .slice none 0 0] ze31 rfl rfl (lt_of_ble rfl)
      apply Wk.asg (by conv => lhs; whnf) (lt_of_ble rfl)
      refine Wk.nil ?_
      refine AW.seq (AW.seq ?_)
      apply AW.list
      apply Wk.ld (i := 1) 4 true ty50 rfl rfl (by conv => lhs; whnf) (lt_of_ble rfl)
      apply Wk.dat (icrxb false hok) Tryd.func26 rfl rfl rfl rfl rfl (lt_of_ble rfl)
      apply Wk.un rfl (fun w => by simp [go_sem] <;> rfl) (lt_of_ble rfl)
      refine Wk.nil ?_
      refine AW.cond rfl (fun hc => by cases hc) (fun _ => AW.skip (thenA_normal ?_))
      refine AW.seq ?_
      apply AW.list
      apply Wk.fad 1 1 true fd50_1 rfl (lt_of_ble rfl)
      apply Wk.ld (i := 1) 2 true ty48 rfl rfl (by conv => lhs; whnf) (lt_of_ble rfl)
      apply Wk.dat (copyJoin_ok m bs hl) Tryd.func55 rfl rfl rfl rfl rfl (lt_of_ble rfl)
      apply Wk.fad 1 1 true fd50_1 rfl (lt_of_ble rfl)
      apply Wk.sto (i := 1) 2 true ty48 rfl rfl rfl rfl (Nat.le_of_ble_eq_true rfl) (lt_of_ble rfl)
      refine Wk.nil ?_
      refine AW.seq ?_
      apply AW.list
      apply Wk.fad 0 0 false fd50_0 rfl (lt_of_ble rfl)
      apply Wk.ld (i := 1) 1 false ty3 rfl rfl (by conv => lhs; whnf) (lt_of_ble rfl)
      apply Wk.dav hm hX hV Tryd.func56 rfl rfl rfl rfl rfl (lt_of_ble rfl)
      apply Wk.mv (by conv => lhs; whnf) (lt_of_ble rfl)
      apply Wk.ext rfl rfl (lt_of_ble rfl)
      apply Wk.ext rfl rfl (lt_of_ble rfl)
      apply Wk.asg (by conv => lhs; whnf) (lt_of_ble rfl)
      apply Wk.asg (by conv => lhs; whnf) (lt_of_ble rfl)
      refine Wk.nil ?_
      refine AW.seq (AW.seq ?_)
      apply AW.list
      apply Wk.fad 3 0 false fd50_2 rfl (lt_of_ble rfl)
      apply Wk.ld (i := 1) 1 false ty4 rfl rfl (by conv => lhs; whnf) (lt_of_ble rfl)
      apply Wk.mv (by conv => lhs; whnf) (lt_of_ble rfl)
      apply Wk.gon 24 rfl rfl
      apply Wk.mv (by conv => lhs; whnf) (lt_of_ble rfl)
      apply Wk.gon 24 rfl rfl
      apply Wk.ldv hX hV tyErr h0 (lt_of_ble rfl)
      apply Wk.gon 24 rfl rfl
      apply Wk.dav hsm hX hV Tryd.func40 rfl rfl rfl rfl rfl (lt_of_ble rfl)
      apply Wk.pckF rfl (by conv => lhs; whnf) (lt_of_ble rfl)
      refine Wk.nil ?_
      refine AW.cond rfl (fun _ => ?_) (fun hc => by cases hc)
      refine AW.seq ?_
      apply AW.list
      apply Wk.ld (i := 1) 4 true ty50 rfl rfl (by conv => lhs; whnf) (lt_of_ble rfl)
      apply Wk.bld [.int .i64 0, .int .i64 0, .int .i64 0, .bool false, .bool false, .int .i64 0, .int .i64 0, .int .i64 0, .slice none 0 0] [(0, 1), (1, 1), (2, 1), (3, 1), (4, 1), (5, 1), (6, 1), (7, 1), (8, 1)] bl31 rfl (by conv => lhs; whnf) (lt_of_ble rfl)
      apply Wk.sto (i := 2) 4 true ty50 rfl rfl rfl rfl (Nat.le_of_ble_eq_true rfl) (lt_of_ble rfl)
      apply Wk.sto (i := 3) 9 true ty31 rfl rfl rfl rfl (Nat.le_of_ble_eq_true rfl) (lt_of_ble rfl)
      apply Wk.asg (by conv => lhs; whnf) (lt_of_ble rfl)
      refine Wk.nil (AW.ret ?_)
      repeat (first | refine thenA_ret ?_ | refine inBlockA_ret ?_)
      exact RetQ.ret [] (.cons ⟨2, 0, _, _, _, rfl, rfl, ty50, rfl⟩ (.cons ⟨3, 0, _, _, _, rfl, rfl, ty31, rfl⟩ (.cons rfl .nil))) ⟨rfl, rfl⟩ none_kept
    · skip
      refine DataV.intro (n := 35) (rv := [.cell 2 50, .cell 3 31, .tmp 4]) Tryd.func22 rfl rfl rfl (by simp) fun C hV hN hX => ?_
      refine AW.seq ?_
      apply AW.list
      apply Wk.bx 1 rfl rfl (lt_of_ble rfl)
      apply Wk.alc 2 [.int .i64 0, .int .i64 0, .slice none 0 0, .bool false] ze50 rfl rfl (lt_of_ble rfl)
      apply Wk.alc 3 [.int .i64 0, .int .i64 0, .int .i64 0, .bool false, .bool false, .int .i64 0, .int .i64 0, .int .i64 0, .slice none 0 0] ze31 rfl rfl (lt_of_ble rfl)
      apply Wk.asg (by conv => lhs; whnf) (lt_of_ble rfl)
      refine Wk.nil ?_
      refine AW.seq (AW.seq ?_)
      apply AW.list
      apply Wk.ld (i := 1) 4 true ty50 rfl rfl (by conv => lhs; whnf) (lt_of_ble rfl)
      apply Wk.dat (icrxb true hok) Tryd.func26 rfl rfl rfl rfl rfl (lt_of_ble rfl)
      apply Wk.un rfl (fun w => by simp [go_sem] <;> rfl) (lt_of_ble rfl)
      refine Wk.nil ?_
      refine AW.cond rfl (fun hc => by cases hc) (fun _ => AW.skip (thenA_normal ?_))
      refine AW.seq ?_
      apply AW.list
      apply Wk.fad 1 1 true fd50_1 rfl (lt_of_ble rfl)
      apply Wk.ld (i := 1) 2 true ty48 rfl rfl (by conv => lhs; whnf) (lt_of_ble rfl)
      apply Wk.dat (copyJoin_ok m bs hl) Tryd.func55 rfl rfl rfl rfl rfl (lt_of_ble rfl)
      apply Wk.fad 1 1 true fd50_1 rfl (lt_of_ble rfl)
      apply Wk.sto (i := 1) 2 true ty48 rfl rfl rfl rfl (Nat.le_of_ble_eq_true rfl) (lt_of_ble rfl)
      refine Wk.nil ?_
      refine AW.seq ?_
      apply AW.list
      apply Wk.fad 0 0 false fd50_0 rfl (lt_of_ble rfl)
      apply Wk.ld (i := 1) 1 false ty3 rfl rfl (by conv => lhs; whnf) (lt_of_ble rfl)
      apply Wk.dav hm hX hV Tryd.func56 rfl rfl rfl rfl rfl (lt_of_ble rfl)
      apply Wk.mv (by conv => lhs; whnf) (lt_of_ble rfl)
      apply Wk.ext rfl rfl (lt_of_ble rfl)
      apply Wk.ext rfl rfl (lt_of_ble rfl)
      apply Wk.asg (by conv => lhs; whnf) (lt_of_ble rfl)
      apply Wk.asg (by conv => lhs; whnf) (lt_of_ble rfl)
      refine Wk.nil ?_
      refine AW.seq (AW.seq ?_)
      apply AW.list
      apply Wk.fad 3 0 false fd50_2 rfl (lt_of_ble rfl)
      apply Wk.ld (i := 1) 1 false ty4 rfl rfl (by conv => lhs; whnf) (lt_of_ble rfl)
      apply Wk.mv (by conv => lhs; whnf) (lt_of_ble rfl)
      apply Wk.goff 24 (ok_move _) rfl rfl (by simp)
      apply Wk.goff 24 (ok_ldv hX hV tyErr h0) rfl rfl (by simp)
      apply Wk.goff 24 (ok_dav hsm rfl hX hV Tryd.func40 rfl rfl) rfl rfl (by simp)
      apply Wk.pckT rfl (by conv => lhs; whnf) (lt_of_ble rfl)
      refine Wk.nil ?_
      refine AW.cond rfl (fun _ => ?_) (fun hc => by cases hc)
      refine AW.seq ?_
      apply AW.list
      apply Wk.ld (i := 1) 4 true ty50 rfl rfl (by conv => lhs; whnf) (lt_of_ble rfl)
      apply Wk.bld [.int .i64 0, .int .i64 0, .int .i64 0, .bool false, .bool false, .int .i64 0, .int .i64 0, .int .i64 0, .slice none 0 0] [(0, 1), (1, 1), (2, 1), (3, 1), (4, 1), (5, 1), (6, 1), (7, 1), (8, 1)] bl31 rfl (by conv => lhs; whnf) (lt_of_ble rfl)
      apply Wk.sto (i := 2) 4 true ty50 rfl rfl rfl rfl (Nat.le_of_ble_eq_true rfl) (lt_of_ble rfl)
      apply Wk.sto (i := 3) 9 true ty31 rfl rfl rfl rfl (Nat.le_of_ble_eq_true rfl) (lt_of_ble rfl)
      apply Wk.asg (by conv => lhs; whnf) (lt_of_ble rfl)
      refine Wk.nil (AW.ret ?_)
      repeat (first | refine thenA_ret ?_ | refine inBlockA_ret ?_)
      exact RetQ.ret [] (.cons ⟨2, 0, _, _, _, rfl, rfl, ty50, rfl⟩ (.cons ⟨3, 0, _, _, _, rfl, rfl, ty31, rfl⟩ (.cons rfl .nil))) ⟨rfl, rfl⟩ none_kept
  · obtain rfl : d = true := by rcases hi with h | h <;> first | exact h | exact absurd h hv
    have hm := imisOn (V := V) v (by omega) (by omega)
    refine DataV.intro (n := 35) (rv := [.cell 2 50, .cell 3 31, .tmp 4]) Tryd.func22 rfl rfl rfl (by simp) fun C hV hN hX => ?_
    refine AW.seq ?_
    apply AW.list
    apply Wk.bx 1 rfl rfl (lt_of_ble rfl)
    apply Wk.alc 2 [.int .i64 0, .int .i64 0, .slice none 0 0, .bool false] ze50 rfl rfl (lt_of_ble rfl)
    apply Wk.alc 3 [.int .i64 0, .int .i64 0, .int .i64 0, .bool false, .bool false, .int .i64 0, .int .i64 0, .int .i64 0, .slice none 0 0] ze31 rfl rfl (lt_of_ble rfl)
    apply Wk.asg (by conv => lhs; whnf) (lt_of_ble rfl)
    refine Wk.nil ?_
    refine AW.seq (AW.seq ?_)
    apply AW.list
    apply Wk.ld (i := 1) 4 true ty50 rfl rfl (by conv => lhs; whnf) (lt_of_ble rfl)
    apply Wk.dat (icrxb true hok) Tryd.func26 rfl rfl rfl rfl rfl (lt_of_ble rfl)
    apply Wk.un rfl (fun w => by simp [go_sem] <;> rfl) (lt_of_ble rfl)
    refine Wk.nil ?_
    refine AW.cond rfl (fun hc => by cases hc) (fun _ => AW.skip (thenA_normal ?_))
    refine AW.seq ?_
    apply AW.list
    apply Wk.fad 1 1 true fd50_1 rfl (lt_of_ble rfl)
    apply Wk.ld (i := 1) 2 true ty48 rfl rfl (by conv => lhs; whnf) (lt_of_ble rfl)
    apply Wk.dat (copyJoin_ok m bs hl) Tryd.func55 rfl rfl rfl rfl rfl (lt_of_ble rfl)
    apply Wk.fad 1 1 true fd50_1 rfl (lt_of_ble rfl)
    apply Wk.sto (i := 1) 2 true ty48 rfl rfl rfl rfl (Nat.le_of_ble_eq_true rfl) (lt_of_ble rfl)
    refine Wk.nil ?_
    refine AW.seq ?_
    apply AW.list
    apply Wk.fad 0 0 false fd50_0 rfl (lt_of_ble rfl)
    apply Wk.ld (i := 1) 1 false ty3 rfl rfl (by conv => lhs; whnf) (lt_of_ble rfl)
    apply Wk.dav hm hX hV Tryd.func56 rfl rfl rfl rfl rfl (lt_of_ble rfl)
    apply Wk.mv (by conv => lhs; whnf) (lt_of_ble rfl)
    apply Wk.ext rfl rfl (lt_of_ble rfl)
    apply Wk.ext rfl rfl (lt_of_ble rfl)
    apply Wk.asg (by conv => lhs; whnf) (lt_of_ble rfl)
    apply Wk.asg (by conv => lhs; whnf) (lt_of_ble rfl)
    refine Wk.nil ?_
    refine AW.seq (AW.seq ?_)
    apply AW.list
    apply Wk.fad 3 0 false fd50_2 rfl (lt_of_ble rfl)
    apply Wk.ld (i := 1) 1 false ty4 rfl rfl (by conv => lhs; whnf) (lt_of_ble rfl)
    apply Wk.mv (by conv => lhs; whnf) (lt_of_ble rfl)
    apply Wk.goff 24 (ok_move _) rfl rfl (by simp)
    apply Wk.goff 24 (ok_ldv hX hV tyErr h0) rfl rfl (by simp)
    apply Wk.goff 24 (ok_dav hsn rfl hX hV Tryd.func40 rfl rfl) rfl rfl (by simp)
    apply Wk.pckT rfl (by conv => lhs; whnf) (lt_of_ble rfl)
    refine Wk.nil ?_
    refine AW.cond rfl (fun _ => ?_) (fun hc => by cases hc)
    refine AW.seq ?_
    apply AW.list
    apply Wk.ld (i := 1) 4 true ty50 rfl rfl (by conv => lhs; whnf) (lt_of_ble rfl)
    apply Wk.bld [.int .i64 0, .int .i64 0, .int .i64 0, .bool false, .bool false, .int .i64 0, .int .i64 0, .int .i64 0, .slice none 0 0] [(0, 1), (1, 1), (2, 1), (3, 1), (4, 1), (5, 1), (6, 1), (7, 1), (8, 1)] bl31 rfl (by conv => lhs; whnf) (lt_of_ble rfl)
    apply Wk.sto (i := 2) 4 true ty50 rfl rfl rfl rfl (Nat.le_of_ble_eq_true rfl) (lt_of_ble rfl)
    apply Wk.sto (i := 3) 9 true ty31 rfl rfl rfl rfl (Nat.le_of_ble_eq_true rfl) (lt_of_ble rfl)
    apply Wk.asg (by conv => lhs; whnf) (lt_of_ble rfl)
    refine Wk.nil (AW.ret ?_)
    repeat (first | refine thenA_ret ?_ | refine inBlockA_ret ?_)
    exact RetQ.ret [] (.cons ⟨2, 0, _, _, _, rfl, rfl, ty50, rfl⟩ (.cons ⟨3, 0, _, _, _, rfl, rfl, ty31, rfl⟩ (.cons rfl .nil))) ⟨rfl, rfl⟩ none_kept
set_option maxHeartbeats 8000000 in
set_option maxRecDepth 100000 in
theorem icgrantOn (v m : Int) (bs : List (Fin 256)) (hok : crxB v m bs.length = true) (hl : bs.length ≤ 1000) (hv : v < 6) (h0 : (3, errV a) ∈ V) : DataV Tryd.prog V 22 [crA v m bs false] (.tup [crA 6 m bs false, frmZ 4 0 0 false false 0 0 (6 - v) (.v (.slice none 0 0)), .d (.v (.bool true))]) := by
  have hf := crx_facts hok
  have hsn := (isNil_ok a).v (V := V)
  have hm := imisOn (V := V) v hv (by omega)
  refine DataV.intro (n := 35) (rv := [.cell 2 50, .cell 3 31, .tmp 4]) Tryd.func22 rfl rfl rfl (by simp) fun C hV hN hX => ?_
  refine AW.seq ?_
  apply AW.list
  apply Wk.bx 1 rfl rfl (lt_of_ble rfl)
  apply Wk.alc 2 [.int .i64 0, .int .i64 0, .slice none 0 0, .bool false] ze50 rfl rfl (lt_of_ble rfl)
  apply Wk.alc 3 [.int .i64 0, .int .i64 0, .int .i64 0, .bool false, .bool false, .int .i64 0, .int .i64 0, .int .i64 0, .slice none 0 0] ze31 rfl rfl (lt_of_ble rfl)
  apply Wk.asg (by conv => lhs; whnf) (lt_of_ble rfl)
  refine Wk.nil ?_
  refine AW.seq (AW.seq ?_)
  apply AW.list
  apply Wk.ld (i := 1) 4 true ty50 rfl rfl (by conv => lhs; whnf) (lt_of_ble rfl)
  apply Wk.dat (icrxb false hok) Tryd.func26 rfl rfl rfl rfl rfl (lt_of_ble rfl)
  apply Wk.un rfl (fun w => by simp [go_sem] <;> rfl) (lt_of_ble rfl)
  refine Wk.nil ?_
  refine AW.cond rfl (fun hc => by cases hc) (fun _ => AW.skip (thenA_normal ?_))
  refine AW.seq ?_
  apply AW.list
  apply Wk.fad 1 1 true fd50_1 rfl (lt_of_ble rfl)
  apply Wk.ld (i := 1) 2 true ty48 rfl rfl (by conv => lhs; whnf) (lt_of_ble rfl)
  apply Wk.dat (copyJoin_ok m bs hl) Tryd.func55 rfl rfl rfl rfl rfl (lt_of_ble rfl)
  apply Wk.fad 1 1 true fd50_1 rfl (lt_of_ble rfl)
  apply Wk.sto (i := 1) 2 true ty48 rfl rfl rfl rfl (Nat.le_of_ble_eq_true rfl) (lt_of_ble rfl)
  refine Wk.nil ?_
  refine AW.seq ?_
  apply AW.list
  apply Wk.fad 0 0 false fd50_0 rfl (lt_of_ble rfl)
  apply Wk.ld (i := 1) 1 false ty3 rfl rfl (by conv => lhs; whnf) (lt_of_ble rfl)
  apply Wk.dav hm hX hV Tryd.func56 rfl rfl rfl rfl rfl (lt_of_ble rfl)
  apply Wk.mv (by conv => lhs; whnf) (lt_of_ble rfl)
  apply Wk.ext rfl rfl (lt_of_ble rfl)
  apply Wk.ext rfl rfl (lt_of_ble rfl)
  apply Wk.asg (by conv => lhs; whnf) (lt_of_ble rfl)
  apply Wk.asg (by conv => lhs; whnf) (lt_of_ble rfl)
  refine Wk.nil ?_
  refine AW.seq (AW.seq ?_)
  apply AW.list
  apply Wk.fad 3 0 false fd50_2 rfl (lt_of_ble rfl)
  apply Wk.ld (i := 1) 1 false ty4 rfl rfl (by conv => lhs; whnf) (lt_of_ble rfl)
  apply Wk.mv (by conv => lhs; whnf) (lt_of_ble rfl)
  apply Wk.gon 24 rfl rfl
  apply Wk.mv (by conv => lhs; whnf) (lt_of_ble rfl)
  apply Wk.gon 24 rfl rfl
  apply Wk.ldv hX hV tyErr h0 (lt_of_ble rfl)
  apply Wk.gon 24 rfl rfl
  apply Wk.dav hsn hX hV Tryd.func40 rfl rfl rfl rfl rfl (lt_of_ble rfl)
  apply Wk.pckF rfl (by conv => lhs; whnf) (lt_of_ble rfl)
  refine Wk.nil ?_
  refine AW.cond rfl (fun hc => by cases hc) (fun _ => AW.skip (thenA_normal ?_))
  refine AW.seq ?_
  apply AW.list
  apply Wk.fad 0 0 false fd50_0 rfl (lt_of_ble rfl)
  apply Wk.sto (i := 1) 1 false ty3 rfl rfl rfl rfl (Nat.le_of_ble_eq_true rfl) (lt_of_ble rfl)
  refine Wk.nil ?_
  refine AW.seq ?_
  apply AW.list
  apply Wk.ld (i := 1) 4 true ty50 rfl rfl (by conv => lhs; whnf) (lt_of_ble rfl)
  apply Wk.mv (by conv => lhs; whnf) (lt_of_ble rfl)
  apply Wk.bld [.int .i64 0, .int .i64 0, .int .i64 0, .bool false, .bool false, .int .i64 0, .int .i64 0, .int .i64 0, .slice none 0 0] [(0, 1), (1, 1), (2, 1), (3, 1), (4, 1), (5, 1), (6, 1), (7, 1), (8, 1)] bl31 rfl (by conv => lhs; whnf) (lt_of_ble rfl)
  apply Wk.sto (i := 2) 4 true ty50 rfl rfl rfl rfl (Nat.le_of_ble_eq_true rfl) (lt_of_ble rfl)
  apply Wk.sto (i := 3) 9 true ty31 rfl rfl rfl rfl (Nat.le_of_ble_eq_true rfl) (lt_of_ble rfl)
  apply Wk.asg (by conv => lhs; whnf) (lt_of_ble rfl)
  refine Wk.nil (AW.ret ?_)
  repeat (first | refine thenA_ret ?_ | refine inBlockA_ret ?_)
  exact RetQ.ret [] (.cons ⟨2, 0, _, _, _, rfl, rfl, ty50, rfl⟩ (.cons ⟨3, 0, _, _, _, rfl, rfl, ty31, rfl⟩ (.cons rfl .nil))) ⟨rfl, rfl⟩ none_kept
end
end Go.Proofs.YtejafihfbncaoaaDoor

/- Pieces that are the same, by the laws' own words. -/
namespace Go.Proofs.YtejafihfbncaoaaDoor
open Go Go.RowKit
theorem liBytesE (zs : List Nat) : DataOk Tryd.prog 35 [.d (bytesD zs), .d (bytesD zs)] (.d (.v (.bool true))) := by
  have h := liBytes_ok zs zs
  simpa using h
theorem liPartE (d : Dat) : DataOk Tryd.prog 16 [partN d, partN d] (.d (.v (.bool true))) := by
  obtain ⟨g, l, ys⟩ := d
  refine Spec.intro (n := 24) (rv := [.tmp 4]) Tryd.func16 rfl rfl rfl (by simp) fun C hN hX => ?_
  refine AW.seq ?_
  apply AW.list
  apply Wk.bx 2 rfl rfl (lt_of_ble rfl)
  apply Wk.bx 3 rfl rfl (lt_of_ble rfl)
  apply Wk.asg (by conv => lhs; whnf) (lt_of_ble rfl)
  refine Wk.nil ?_
  refine AW.seq ?_
  apply AW.list
  apply Wk.fad 0 0 false fd41_0 rfl (lt_of_ble rfl)
  apply Wk.ld (i := 2) 1 false ty3 rfl rfl (by conv => lhs; whnf) (lt_of_ble rfl)
  apply Wk.fad 0 0 false fd41_0 rfl (lt_of_ble rfl)
  apply Wk.ld (i := 3) 1 false ty3 rfl rfl (by conv => lhs; whnf) (lt_of_ble rfl)
  apply Wk.bin rfl rfl (r := .bool true) (fun w => by simp [go_sem]) (lt_of_ble rfl)
  apply Wk.mv (by conv => lhs; whnf) (lt_of_ble rfl)
  apply Wk.gon 10 rfl rfl
  apply Wk.fad 1 0 false fd41_1 rfl (lt_of_ble rfl)
  apply Wk.gon 10 rfl rfl
  apply Wk.ld (i := 2) 1 false ty3 rfl rfl (by conv => lhs; whnf) (lt_of_ble rfl)
  apply Wk.gon 10 rfl rfl
  apply Wk.fad 1 0 false fd41_1 rfl (lt_of_ble rfl)
  apply Wk.gon 10 rfl rfl
  apply Wk.ld (i := 3) 1 false ty3 rfl rfl (by conv => lhs; whnf) (lt_of_ble rfl)
  apply Wk.gon 10 rfl rfl
  apply Wk.bin rfl rfl (r := .bool true) (fun w => by simp [go_sem]) (lt_of_ble rfl)
  apply Wk.pckT rfl (by conv => lhs; whnf) (lt_of_ble rfl)
  apply Wk.mv (by conv => lhs; whnf) (lt_of_ble rfl)
  apply Wk.gon 17 rfl rfl
  apply Wk.fad 2 0 false fd41_2 rfl (lt_of_ble rfl)
  apply Wk.gon 17 rfl rfl
  apply Wk.ld (i := 2) 1 false ty22 rfl rfl (by conv => lhs; whnf) (lt_of_ble rfl)
  apply Wk.gon 17 rfl rfl
  apply Wk.fad 2 0 false fd41_2 rfl (lt_of_ble rfl)
  apply Wk.gon 17 rfl rfl
  apply Wk.ld (i := 3) 1 false ty22 rfl rfl (by conv => lhs; whnf) (lt_of_ble rfl)
  apply Wk.gon 17 rfl rfl
  apply Wk.dat (liBytesE ys) Tryd.func35 rfl rfl rfl rfl rfl (lt_of_ble rfl)
  apply Wk.pckT rfl (by conv => lhs; whnf) (lt_of_ble rfl)
  apply Wk.asg (by conv => lhs; whnf) (lt_of_ble rfl)
  refine Wk.nil (AW.ret ?_)
  exact RetQ.ret [] (.cons rfl .nil) ⟨rfl, rfl⟩ none_kept
theorem liPartsE (ds : List Dat) : DataOk Tryd.prog 15 [.d (partsD ds), .d (partsD ds)] (.d (.v (.bool true))) := by
  refine Spec.intro (n := 27) (rv := [.tmp 4]) Tryd.func15 rfl rfl rfl (by simp) fun C hN hX => ?_
  refine AW.bound (x := .tmp 0) rfl fun hb => ?_
  simp only [List.length_map] at hb
  refine AW.seq ?_
  apply AW.list
  apply Wk.asg (by conv => lhs; whnf) (lt_of_ble rfl)
  refine Wk.nil ?_
  refine AW.seq (AW.seq ?_)
  apply AW.list
  apply Wk.mv (by conv => lhs; whnf) (lt_of_ble rfl)
  apply Wk.len un25 rfl (lt_of_ble rfl)
  apply Wk.mv (by conv => lhs; whnf) (lt_of_ble rfl)
  apply Wk.len un25 rfl (lt_of_ble rfl)
  apply Wk.bin rfl rfl (fun w => by simp [go_sem] <;> rfl) (lt_of_ble rfl)
  refine Wk.nil ?_
  refine AW.cond rfl (fun hc => by simp at hc) (fun _ => AW.skip (thenA_normal ?_))
  refine AW.seq (AW.seq ?_)
  apply AW.list
  apply Wk.asg (by conv => lhs; whnf) (lt_of_ble rfl)
  refine Wk.nil (AW.block ?_)
  refine AW.loop (fun q : Nat => St.of 27 [(0, .d (partsD ds)), (1, .d (partsD ds)), (5, .d (.v (.int .i64 (q : Int))))] []) (fun q => q ≤ ds.length) (fun q => ds.length - q) 0 (Nat.zero_le _) ?_ (fun q hq => ?_)
  · exact fun a w => Rel.keep ⟨rfl, .cons rfl rfl (.cons rfl rfl (.cons rfl rfl .nil)), .nil, hN⟩
  refine AW.seq (AW.seq ?_)
  apply AW.list
  apply Wk.mv (by conv => lhs; whnf) (lt_of_ble rfl)
  apply Wk.mv (by conv => lhs; whnf) (lt_of_ble rfl)
  apply Wk.len un25 rfl (lt_of_ble rfl)
  apply Wk.bin rfl rfl (fun w => by simp [go_sem] <;> rfl) (lt_of_ble rfl)
  refine Wk.nil ?_
  refine AW.cond rfl (fun hc => ?_) (fun hc => ?_)
  · have hlt : q < ds.length := by simpa using hc
    obtain ⟨d, hd⟩ : ∃ d, ds[q]? = some d := ⟨_, List.getElem?_eq_getElem hlt⟩
    have hget : (ds.map datD)[q]? = some (datD d) := by simp [hd]
    refine AW.skip ?_
    repeat (first | refine thenA_normal ?_ | refine inBlockA_normal ?_)
    refine AW.seq (AW.block (AW.seq ?_))
    apply AW.draw (hm := hmix) (cs := _)
    · apply Wk.mv (by conv => lhs; whnf) (lt_of_ble rfl)
      apply Wk.mv (by conv => lhs; whnf) (lt_of_ble rfl)
      apply Wk.iad 3 true un25 ty41 rfl rfl (by simpa using hlt) (datD_len ds) (lt_of_ble rfl)
      apply Wk.ldr 3 true ty41 rfl hget (by conv => lhs; whnf) (lt_of_ble rfl)
      apply Wk.mv (by conv => lhs; whnf) (lt_of_ble rfl)
      apply Wk.mv (by conv => lhs; whnf) (lt_of_ble rfl)
      apply Wk.iad 3 true un25 ty41 rfl rfl (by simpa using hlt) (datD_len ds) (lt_of_ble rfl)
      apply Wk.ldr 3 true ty41 rfl hget (by conv => lhs; whnf) (lt_of_ble rfl)
      apply Wk.dat (liPartE d) Tryd.func16 rfl rfl rfl rfl rfl (lt_of_ble rfl)
      apply Wk.un rfl (fun w => by simp [go_sem] <;> rfl) (lt_of_ble rfl)
      refine Wk.nil ?_
      refine AW.cond rfl (fun hn => by cases hn) (fun hn => ?_)
      refine AW.skip ?_
      repeat (first | refine thenA_normal ?_ | refine inBlockA_normal ?_)
      apply AW.list
      apply Wk.mv (by conv => lhs; whnf) (lt_of_ble rfl)
      apply Wk.addi rfl rfl (by omega) (lt_of_ble rfl)
      apply Wk.asg (by conv => lhs; whnf) (lt_of_ble rfl)
      refine Wk.nil ?_
      exact ⟨q + 1, by omega, by omega, fun a w => Rel.keep ⟨rfl, .cons rfl rfl (.cons rfl rfl (.cons rfl rfl .nil)), .nil, hN⟩⟩
    · rfl
    · rfl
  · refine AW.exit ?_
    repeat (first | refine inBlockA_same ?_ | refine thenA_exit ?_)
    repeat (first | refine thenA_normal ?_ | refine inBlockA_normal ?_)
    refine AW.seq ?_
    apply AW.list
    apply Wk.asg (by conv => lhs; whnf) (lt_of_ble rfl)
    refine Wk.nil (AW.ret ?_)
    repeat (first | refine thenA_ret ?_ | refine inBlockA_ret ?_)
    exact RetQ.ret [] (.cons rfl .nil) ⟨rfl, rfl⟩ none_kept
end Go.Proofs.YtejafihfbncaoaaDoor

/- Two frames that are the same, by the laws' own words. -/
namespace Go.Proofs.YtejafihfbncaoaaDoor
open Go Go.RowKit
theorem liFrmE (k s c : Int) (p f : Bool) (y g l : Int) (zs : List Nat) : DataOk Tryd.prog 11 [frmD k s c p f y g l zs, frmD k s c p f y g l zs] (.d (.v (.bool true))) := by
  refine Spec.intro (n := 66) (rv := [.tmp 4]) Tryd.func11 rfl rfl rfl (by simp) fun C hN hX => ?_
  refine AW.seq ?_
  apply AW.list
  apply Wk.bx 2 rfl rfl (lt_of_ble rfl)
  apply Wk.bx 3 rfl rfl (lt_of_ble rfl)
  apply Wk.asg (by conv => lhs; whnf) (lt_of_ble rfl)
  refine Wk.nil ?_
  refine AW.seq ?_
  apply AW.list
  apply Wk.fad 0 0 false fd31_0 rfl (lt_of_ble rfl)
  apply Wk.ld (i := 2) 1 false ty3 rfl rfl (by conv => lhs; whnf) (lt_of_ble rfl)
  apply Wk.fad 0 0 false fd31_0 rfl (lt_of_ble rfl)
  apply Wk.ld (i := 3) 1 false ty3 rfl rfl (by conv => lhs; whnf) (lt_of_ble rfl)
  apply Wk.bin rfl rfl (r := .bool true) (fun w => by simp [go_sem]) (lt_of_ble rfl)
  apply Wk.mv (by conv => lhs; whnf) (lt_of_ble rfl)
  apply Wk.gon 10 rfl rfl
  apply Wk.fad 1 0 false fd31_1 rfl (lt_of_ble rfl)
  apply Wk.gon 10 rfl rfl
  apply Wk.ld (i := 2) 1 false ty3 rfl rfl (by conv => lhs; whnf) (lt_of_ble rfl)
  apply Wk.gon 10 rfl rfl
  apply Wk.fad 1 0 false fd31_1 rfl (lt_of_ble rfl)
  apply Wk.gon 10 rfl rfl
  apply Wk.ld (i := 3) 1 false ty3 rfl rfl (by conv => lhs; whnf) (lt_of_ble rfl)
  apply Wk.gon 10 rfl rfl
  apply Wk.bin rfl rfl (r := .bool true) (fun w => by simp [go_sem]) (lt_of_ble rfl)
  apply Wk.pckT rfl (by conv => lhs; whnf) (lt_of_ble rfl)
  apply Wk.mv (by conv => lhs; whnf) (lt_of_ble rfl)
  apply Wk.gon 17 rfl rfl
  apply Wk.fad 2 0 false fd31_2 rfl (lt_of_ble rfl)
  apply Wk.gon 17 rfl rfl
  apply Wk.ld (i := 2) 1 false ty3 rfl rfl (by conv => lhs; whnf) (lt_of_ble rfl)
  apply Wk.gon 17 rfl rfl
  apply Wk.fad 2 0 false fd31_2 rfl (lt_of_ble rfl)
  apply Wk.gon 17 rfl rfl
  apply Wk.ld (i := 3) 1 false ty3 rfl rfl (by conv => lhs; whnf) (lt_of_ble rfl)
  apply Wk.gon 17 rfl rfl
  apply Wk.bin rfl rfl (r := .bool true) (fun w => by simp [go_sem]) (lt_of_ble rfl)
  apply Wk.pckT rfl (by conv => lhs; whnf) (lt_of_ble rfl)
  apply Wk.mv (by conv => lhs; whnf) (lt_of_ble rfl)
  apply Wk.gon 24 rfl rfl
  apply Wk.fad 3 0 false fd31_3 rfl (lt_of_ble rfl)
  apply Wk.gon 24 rfl rfl
  apply Wk.ld (i := 2) 1 false ty4 rfl rfl (by conv => lhs; whnf) (lt_of_ble rfl)
  apply Wk.gon 24 rfl rfl
  apply Wk.fad 3 0 false fd31_3 rfl (lt_of_ble rfl)
  apply Wk.gon 24 rfl rfl
  apply Wk.ld (i := 3) 1 false ty4 rfl rfl (by conv => lhs; whnf) (lt_of_ble rfl)
  apply Wk.gon 24 rfl rfl
  apply Wk.bin rfl rfl (r := .bool true) (fun w => by simp [go_sem]) (lt_of_ble rfl)
  apply Wk.pckT rfl (by conv => lhs; whnf) (lt_of_ble rfl)
  apply Wk.mv (by conv => lhs; whnf) (lt_of_ble rfl)
  apply Wk.gon 31 rfl rfl
  apply Wk.fad 4 0 false fd31_4 rfl (lt_of_ble rfl)
  apply Wk.gon 31 rfl rfl
  apply Wk.ld (i := 2) 1 false ty4 rfl rfl (by conv => lhs; whnf) (lt_of_ble rfl)
  apply Wk.gon 31 rfl rfl
  apply Wk.fad 4 0 false fd31_4 rfl (lt_of_ble rfl)
  apply Wk.gon 31 rfl rfl
  apply Wk.ld (i := 3) 1 false ty4 rfl rfl (by conv => lhs; whnf) (lt_of_ble rfl)
  apply Wk.gon 31 rfl rfl
  apply Wk.bin rfl rfl (r := .bool true) (fun w => by simp [go_sem]) (lt_of_ble rfl)
  apply Wk.pckT rfl (by conv => lhs; whnf) (lt_of_ble rfl)
  apply Wk.mv (by conv => lhs; whnf) (lt_of_ble rfl)
  apply Wk.gon 38 rfl rfl
  apply Wk.fad 5 0 false fd31_5 rfl (lt_of_ble rfl)
  apply Wk.gon 38 rfl rfl
  apply Wk.ld (i := 2) 1 false ty3 rfl rfl (by conv => lhs; whnf) (lt_of_ble rfl)
  apply Wk.gon 38 rfl rfl
  apply Wk.fad 5 0 false fd31_5 rfl (lt_of_ble rfl)
  apply Wk.gon 38 rfl rfl
  apply Wk.ld (i := 3) 1 false ty3 rfl rfl (by conv => lhs; whnf) (lt_of_ble rfl)
  apply Wk.gon 38 rfl rfl
  apply Wk.bin rfl rfl (r := .bool true) (fun w => by simp [go_sem]) (lt_of_ble rfl)
  apply Wk.pckT rfl (by conv => lhs; whnf) (lt_of_ble rfl)
  apply Wk.mv (by conv => lhs; whnf) (lt_of_ble rfl)
  apply Wk.gon 45 rfl rfl
  apply Wk.fad 6 0 false fd31_6 rfl (lt_of_ble rfl)
  apply Wk.gon 45 rfl rfl
  apply Wk.ld (i := 2) 1 false ty3 rfl rfl (by conv => lhs; whnf) (lt_of_ble rfl)
  apply Wk.gon 45 rfl rfl
  apply Wk.fad 6 0 false fd31_6 rfl (lt_of_ble rfl)
  apply Wk.gon 45 rfl rfl
  apply Wk.ld (i := 3) 1 false ty3 rfl rfl (by conv => lhs; whnf) (lt_of_ble rfl)
  apply Wk.gon 45 rfl rfl
  apply Wk.bin rfl rfl (r := .bool true) (fun w => by simp [go_sem]) (lt_of_ble rfl)
  apply Wk.pckT rfl (by conv => lhs; whnf) (lt_of_ble rfl)
  apply Wk.mv (by conv => lhs; whnf) (lt_of_ble rfl)
  apply Wk.gon 52 rfl rfl
  apply Wk.fad 7 0 false fd31_7 rfl (lt_of_ble rfl)
  apply Wk.gon 52 rfl rfl
  apply Wk.ld (i := 2) 1 false ty3 rfl rfl (by conv => lhs; whnf) (lt_of_ble rfl)
  apply Wk.gon 52 rfl rfl
  apply Wk.fad 7 0 false fd31_7 rfl (lt_of_ble rfl)
  apply Wk.gon 52 rfl rfl
  apply Wk.ld (i := 3) 1 false ty3 rfl rfl (by conv => lhs; whnf) (lt_of_ble rfl)
  apply Wk.gon 52 rfl rfl
  apply Wk.bin rfl rfl (r := .bool true) (fun w => by simp [go_sem]) (lt_of_ble rfl)
  apply Wk.pckT rfl (by conv => lhs; whnf) (lt_of_ble rfl)
  apply Wk.mv (by conv => lhs; whnf) (lt_of_ble rfl)
  apply Wk.gon 59 rfl rfl
  apply Wk.fad 8 0 false fd31_8 rfl (lt_of_ble rfl)
  apply Wk.gon 59 rfl rfl
  apply Wk.ld (i := 2) 1 false ty22 rfl rfl (by conv => lhs; whnf) (lt_of_ble rfl)
  apply Wk.gon 59 rfl rfl
  apply Wk.fad 8 0 false fd31_8 rfl (lt_of_ble rfl)
  apply Wk.gon 59 rfl rfl
  apply Wk.ld (i := 3) 1 false ty22 rfl rfl (by conv => lhs; whnf) (lt_of_ble rfl)
  apply Wk.gon 59 rfl rfl
  apply Wk.dat (liBytesE zs) Tryd.func35 rfl rfl rfl rfl rfl (lt_of_ble rfl)
  apply Wk.pckT rfl (by conv => lhs; whnf) (lt_of_ble rfl)
  apply Wk.asg (by conv => lhs; whnf) (lt_of_ble rfl)
  refine Wk.nil (AW.ret ?_)
  exact RetQ.ret [] (.cons rfl .nil) ⟨rfl, rfl⟩ none_kept
end Go.Proofs.YtejafihfbncaoaaDoor
