/- The law FnSegLost (promise 70: what is missing is not made up) returns true at every code. -/
import Derived.Test.YtpghbdigiplbiaaAbsFeedX
import Derived.RowKit3
namespace Go.Proofs.Ytpghbdigiplbiaa
open Go Go.RowKit
set_option maxHeartbeats 8000000 in
set_option maxRecDepth 100000 in
theorem lawSegLost_ok (cs : List (Fin 256)) : DataOk Try.prog 6 [.d (bytesD (cs.map (·.val)))] (.d (.v (.bool true))) := by
  refine Spec.intro (n := 77) (rv := [.tmp 2]) Try.func6 rfl rfl rfl (by simp) fun C hN hX => ?_
  refine AW.seq ?_
  apply AW.list
  apply Wk.asg (by conv => lhs; whnf) (lt_of_ble rfl)
  refine Wk.nil ?_
  refine AW.seq (AW.seq ?_)
  apply AW.list
  apply Wk.mv (by conv => lhs; whnf) (lt_of_ble rfl)
  apply Wk.len un22 rfl (lt_of_ble rfl)
  apply Wk.bin rfl rfl (fun w => by simp [go_sem] <;> rfl) (lt_of_ble rfl)
  refine Wk.nil ?_
  refine AW.cond rfl (fun hc => ?_) (fun hc => ?_)
  · refine AW.seq ?_
    apply AW.list
    apply Wk.asg (by conv => lhs; whnf) (lt_of_ble rfl)
    refine Wk.nil (AW.ret ?_)
    refine thenA_ret ?_
    exact RetQ.ret [] (.cons rfl .nil) ⟨rfl, rfl⟩ none_kept
  refine AW.skip (thenA_normal ?_)
  refine AW.seq ?_
  apply AW.list
  apply Wk.mv (by conv => lhs; whnf) (lt_of_ble rfl)
  apply Wk.datw (drawCut_ok cs) Try.func8 rfl rfl rfl rfl (lt_of_ble rfl)
  rintro _ ⟨bs, m, rfl, hbl, hm0, hm9⟩
  apply Wk.mv (by conv => lhs; whnf) (lt_of_ble rfl)
  apply Wk.ext rfl rfl (lt_of_ble rfl)
  apply Wk.ext rfl rfl (lt_of_ble rfl)
  apply Wk.asg (by conv => lhs; whnf) (lt_of_ble rfl)
  apply Wk.asg (by conv => lhs; whnf) (lt_of_ble rfl)
  refine Wk.nil ?_
  have hzs : ∃ zs, zs = bs.map (·.val) := ⟨_, rfl⟩
  obtain ⟨zs, hzs⟩ := hzs
  have hby : Byt zs := by rw [hzs]; exact fin_byt bs
  have hzl : zs.length ≤ 26 := by rw [hzs]; simpa using hbl
  rw [← hzs]
  clear hzs hbl
  refine AW.seq ?_
  apply AW.list
  apply Wk.mv (by conv => lhs; whnf) (lt_of_ble rfl)
  apply Wk.mv (by conv => lhs; whnf) (lt_of_ble rfl)
  apply Wk.dat (icut_ok zs m hby (by omega)) Try.func9 rfl rfl rfl rfl rfl (lt_of_ble rfl)
  apply Wk.asg (by conv => lhs; whnf) (lt_of_ble rfl)
  refine Wk.nil ?_
  refine AW.seq (AW.seq ?_)
  apply AW.list
  apply Wk.mv (by conv => lhs; whnf) (lt_of_ble rfl)
  apply Wk.mv (by conv => lhs; whnf) (lt_of_ble rfl)
  apply Wk.mv (by conv => lhs; whnf) (lt_of_ble rfl)
  apply Wk.dat (scut_ok zs m hby (by omega)) Try.func11 rfl rfl rfl rfl rfl (lt_of_ble rfl)
  apply Wk.dat (liPartsE (cutD zs m)) Try.func10 rfl rfl rfl rfl rfl (lt_of_ble rfl)
  apply Wk.un rfl (fun w => by simp [go_sem] <;> rfl) (lt_of_ble rfl)
  refine Wk.nil ?_
  refine AW.cond rfl (fun hc => by cases hc) (fun _ => AW.skip (thenA_normal ?_))
  have hcl : (cutD zs m).length ≤ 40 := by
    cases hcb : cutB zs.length m
    · rw [cut_no hcb]; simp
    · obtain ⟨x1, x2, x3⟩ := cut_yes hcb
      have hq := Nat.div_le_self (zs.length + m.toNat - 1) m.toNat
      rw [cut_length hcb]
      generalize (zs.length + m.toNat - 1) / m.toNat = q at hq ⊢
      omega
  have hsd : SmallD (cutD zs m) := cutD_small zs m hby
  refine AW.seq (AW.seq ?_)
  apply AW.list
  apply Wk.asg (by conv => lhs; whnf) (lt_of_ble rfl)
  refine Wk.nil (AW.block ?_)
  refine AW.loop (fun k : Nat => St.of 77 [(5, .d (partsD (cutD zs m))), (6, .d (.v (.int .i64 ((k : Nat) : Int))))] []) (fun k => k ≤ (cutD zs m).length) (fun k => (cutD zs m).length - k) 0 (Nat.zero_le _) ?_ (fun k hk => ?_)
  · exact fun a w => Rel.keep ⟨rfl, .cons rfl rfl (.cons rfl rfl .nil), .nil, hN.mono (by simp [keys])⟩
  refine AW.seq (AW.seq ?_)
  apply AW.list
  apply Wk.mv (by conv => lhs; whnf) (lt_of_ble rfl)
  apply Wk.mv (by conv => lhs; whnf) (lt_of_ble rfl)
  apply Wk.len un25 rfl (lt_of_ble rfl)
  apply Wk.bin rfl rfl (fun w => by simp [go_sem] <;> rfl) (lt_of_ble rfl)
  refine Wk.nil ?_
  refine AW.cond rfl (fun hc => ?_) (fun hc => ?_)
  · have hlt : k < (cutD zs m).length := by simpa using hc
    have hcb : cutB zs.length m = true := by
      cases hcb : cutB zs.length m
      · rw [cut_no hcb] at hlt; simp at hlt
      · rfl
    obtain ⟨d, hd⟩ : ∃ d, (cutD zs m)[k]? = some d := ⟨_, List.getElem?_eq_getElem hlt⟩
    have hget : ((cutD zs m).map datD)[k]? = some (datD d) := by simp [hd]
    have hlen : ((cutD zs m).map datD).length = (cutD zs m).length := by simp
    have hklt : k < ((cutD zs m).map datD).length := by rw [hlen]; exact hlt
    have hlost := feed_lost hcb hlt
    have hsm : ∀ xs : List Dat, (∀ x ∈ xs, x ∈ cutD zs m) → SmallD xs := fun xs hx d hd => hsd d (hx d hd)
    have hf1 := liFeed_ok ((cutD zs m).take k ++ (cutD zs m).drop (k + 1)) (hsm _ (fun x hx => by rcases List.mem_append.1 hx with h | h; exact List.mem_of_mem_take h; exact List.mem_of_mem_drop h)) (by simp; omega)
    rw [hlost] at hf1
    have hf2 := liFeed_ok ((cutD zs m).take (k + 1) ++ (cutD zs m).drop k) (hsm _ (fun x hx => by rcases List.mem_append.1 hx with h | h; exact List.mem_of_mem_take h; exact List.mem_of_mem_drop h)) (by simp; omega)
    have as1 : ∀ a b : Nat, asData (([] ++ ((((cutD zs m).map datD).drop 0).take (a - 0)).map (·.map A.d)) ++ ((((cutD zs m).map datD).drop b).take (((cutD zs m).map datD).length - b)).map (·.map A.d)) (((cutD zs m).take a ++ (cutD zs m).drop b).map datD) := fun a b => by
      have := asData_parts ((cutD zs m).take a ++ (cutD zs m).drop b)
      have e2 : (((cutD zs m).map datD).drop b).take (((cutD zs m).map datD).length - b) = ((cutD zs m).map datD).drop b := List.take_of_length_le (by simp)
      rw [e2]
      simpa [List.map_take, List.map_drop] using this
    have hz3 : ∀ a b : Nat, ∀ e ∈ (((cutD zs m).map datD).drop a).take b, e.length = 3 := fun a b e he => datD_len _ e (List.mem_of_mem_drop (List.mem_of_mem_take he))
    have hz5 : ∀ a b : Nat, ∀ c ∈ ([] : List (List A)) ++ ((((cutD zs m).map datD).drop a).take b).map (·.map A.d), c.length = 3 := fun a b c hc => by
      rw [List.nil_append] at hc
      obtain ⟨q, hq, rfl⟩ := List.mem_map.1 hc
      rw [List.length_map]
      exact hz3 a b q hq
    refine AW.skip ?_
    repeat (first | refine thenA_normal ?_ | refine inBlockA_normal ?_)
    refine AW.seq (AW.block (AW.seq ?_))
    apply AW.draw (hm := hmix) (cs := _)
    · apply Wk.lst 32 3 true [.int .i64 0, .int .i64 0, .slice none 0 0] un25 ty34 ze34 rfl rfl (by rfl) (by rfl) (by decide) (by decide) rfl rfl (all_len rfl) (lt_of_ble rfl)
      apply Wk.mv (by conv => lhs; whnf) (lt_of_ble rfl)
      apply Wk.mv (by conv => lhs; whnf) (lt_of_ble rfl)
      apply Wk.slc (m := k) (l := 0) 3 true un25 ty34 rfl (by exact if_pos ⟨by omega, by rw [hlen]; omega⟩) rfl (datD_len _) (lt_of_ble rfl)
      apply Wk.appOR 32 1000 3 un25 ap34 rfl rfl rfl (.inr rfl) (by decide) (hz3 _ _) (by simp) (by simp; omega) (lt_of_ble rfl)
      apply Wk.mv (by conv => lhs; whnf) (lt_of_ble rfl)
      apply Wk.mv (by conv => lhs; whnf) (lt_of_ble rfl)
      apply Wk.addi rfl rfl (by omega) (lt_of_ble rfl)
      apply Wk.slc (m := ((cutD zs m).map datD).length) (l := k + 1) 3 true un25 ty34 rfl rfl (by exact if_pos ⟨by omega, by rw [hlen]; omega⟩) (datD_len _) (lt_of_ble rfl)
      apply Wk.appOR 32 1000 3 un25 ap34 rfl rfl rfl (.inr rfl) (by decide) (hz3 _ _) (hz5 _ _) (by simp; omega) (lt_of_ble rfl)
      apply Wk.asg (by conv => lhs; whnf) (lt_of_ble rfl)
      refine Wk.nil ?_
      refine AW.seq (AW.seq ?_)
      apply AW.list
      apply Wk.mv (by conv => lhs; whnf) (lt_of_ble rfl)
      apply Wk.thaw 42 32 _ hX rfl (by rfl) (as1 k (k + 1))
      apply Wk.dat hf1 Try.func22 rfl rfl rfl rfl rfl (lt_of_ble rfl)
      apply Wk.len un42 rfl (lt_of_ble rfl)
      apply Wk.bin rfl rfl (r := .bool false) (fun w => by simp [go_sem]) (lt_of_ble rfl)
      refine Wk.nil ?_
      refine AW.cond rfl (fun hc => by cases hc) (fun _ => AW.skip (thenA_normal ?_))
      refine AW.seq ?_
      apply AW.draw (hm := hmix) (cs := _)
      · apply Wk.lst 46 3 true [.int .i64 0, .int .i64 0, .slice none 0 0] un25 ty34 ze34 rfl rfl (by rfl) (by rfl) (by decide) (by decide) rfl rfl (all_len rfl) (lt_of_ble rfl)
        apply Wk.mv (by conv => lhs; whnf) (lt_of_ble rfl)
        apply Wk.mv (by conv => lhs; whnf) (lt_of_ble rfl)
        apply Wk.addi rfl rfl (by omega) (lt_of_ble rfl)
        apply Wk.slc (m := k + 1) (l := 0) 3 true un25 ty34 rfl (by exact if_pos ⟨by omega, by rw [hlen]; omega⟩) rfl (datD_len _) (lt_of_ble rfl)
        apply Wk.appOR 46 1000 3 un25 ap34 rfl rfl rfl (.inr rfl) (by decide) (hz3 _ _) (by simp) (by simp; omega) (lt_of_ble rfl)
        apply Wk.mv (by conv => lhs; whnf) (lt_of_ble rfl)
        apply Wk.mv (by conv => lhs; whnf) (lt_of_ble rfl)
        apply Wk.slc (m := ((cutD zs m).map datD).length) (l := k) 3 true un25 ty34 rfl rfl (by exact if_pos ⟨by omega, by rw [hlen]; omega⟩) (datD_len _) (lt_of_ble rfl)
        apply Wk.appOR 46 1000 3 un25 ap34 rfl rfl rfl (.inr rfl) (by decide) (hz3 _ _) (hz5 _ _) (by simp; omega) (lt_of_ble rfl)
        apply Wk.asg (by conv => lhs; whnf) (lt_of_ble rfl)
        refine Wk.nil ?_
        by_cases e1 : d.1 = 1
        · rw [feed_twice hcb hlt hd (.inl e1)] at hf2
          have e2 : ¬ d.1 = 2 := by omega
          refine AW.seq ?_
          apply AW.list
          apply Wk.mv (by conv => lhs; whnf) (lt_of_ble rfl)
          apply Wk.mv (by conv => lhs; whnf) (lt_of_ble rfl)
          apply Wk.iad 3 true un25 ty34 rfl rfl hklt (datD_len _) (lt_of_ble rfl)
          apply Wk.fad 0 0 false fd34_0 rfl (lt_of_ble rfl)
          apply Wk.ldr 1 false ty3 rfl hget (by conv => lhs; whnf) (lt_of_ble rfl)
          apply Wk.bin rfl rfl (r := .bool true) (fun w => by simp [go_sem, e1]) (lt_of_ble rfl)
          apply Wk.mv (by conv => lhs; whnf) (lt_of_ble rfl)
          apply Wk.goff 62 (ok_move _) rfl rfl (by decide)
          apply Wk.goff 62 (ok_move _) rfl rfl (by decide)
          apply Wk.goff 62 (ok_iaddr un25 ty34) rfl rfl (by decide)
          apply Wk.goff 62 (ok_faddr fd34_0) rfl rfl (by decide)
          apply Wk.goff 62 (ok_loadr ty3) rfl rfl (by decide)
          apply Wk.goff 62 (ok_bin _ _ _ _ _) rfl rfl (by decide)
          apply Wk.pckT rfl (by conv => lhs; whnf) (lt_of_ble rfl)
          apply Wk.mv (by conv => lhs; whnf) (lt_of_ble rfl)
          apply Wk.gon 70 rfl rfl
          apply Wk.mv (by conv => lhs; whnf) (lt_of_ble rfl)
          apply Wk.gon 70 rfl rfl
          apply Wk.thaw 71 46 _ hX rfl (by rfl) (as1 (k + 1) k)
          apply Wk.dat hf2 Try.func22 rfl rfl rfl rfl rfl (lt_of_ble rfl)
          apply Wk.gon 70 rfl rfl
          apply Wk.len un42 rfl (lt_of_ble rfl)
          apply Wk.gon 70 rfl rfl
          apply Wk.bin rfl rfl (r := .bool false) (fun w => by simp [go_sem]) (lt_of_ble rfl)
          apply Wk.pckT rfl (by conv => lhs; whnf) (lt_of_ble rfl)
          refine Wk.nil ?_
          refine AW.cond rfl (fun hc => by cases hc) (fun _ => AW.skip ?_)
          repeat (first | refine thenA_normal ?_ | refine inBlockA_normal ?_)
          apply AW.list
          apply Wk.mv (by conv => lhs; whnf) (lt_of_ble rfl)
          apply Wk.addi rfl rfl (by omega) (lt_of_ble rfl)
          apply Wk.asg (by conv => lhs; whnf) (lt_of_ble rfl)
          refine Wk.nil ?_
          exact ⟨k + 1, by omega, by omega, fun a w => Rel.keep ⟨rfl, .cons rfl rfl (.cons rfl rfl .nil), .nil, hN.mono (by simp [keys])⟩⟩
        by_cases e2 : d.1 = 2
        · rw [feed_twice hcb hlt hd (.inr e2)] at hf2
          refine AW.seq ?_
          apply AW.list
          apply Wk.mv (by conv => lhs; whnf) (lt_of_ble rfl)
          apply Wk.mv (by conv => lhs; whnf) (lt_of_ble rfl)
          apply Wk.iad 3 true un25 ty34 rfl rfl hklt (datD_len _) (lt_of_ble rfl)
          apply Wk.fad 0 0 false fd34_0 rfl (lt_of_ble rfl)
          apply Wk.ldr 1 false ty3 rfl hget (by conv => lhs; whnf) (lt_of_ble rfl)
          apply Wk.bin rfl rfl (r := .bool false) (fun w => by simp [go_sem, e1]) (lt_of_ble rfl)
          apply Wk.mv (by conv => lhs; whnf) (lt_of_ble rfl)
          apply Wk.gon 62 rfl rfl
          apply Wk.mv (by conv => lhs; whnf) (lt_of_ble rfl)
          apply Wk.gon 62 rfl rfl
          apply Wk.mv (by conv => lhs; whnf) (lt_of_ble rfl)
          apply Wk.gon 62 rfl rfl
          apply Wk.iad 3 true un25 ty34 rfl rfl hklt (datD_len _) (lt_of_ble rfl)
          apply Wk.gon 62 rfl rfl
          apply Wk.fad 0 0 false fd34_0 rfl (lt_of_ble rfl)
          apply Wk.gon 62 rfl rfl
          apply Wk.ldr 1 false ty3 rfl hget (by conv => lhs; whnf) (lt_of_ble rfl)
          apply Wk.gon 62 rfl rfl
          apply Wk.bin rfl rfl (r := .bool true) (fun w => by simp [go_sem, e2]) (lt_of_ble rfl)
          apply Wk.pckF rfl (by conv => lhs; whnf) (lt_of_ble rfl)
          apply Wk.mv (by conv => lhs; whnf) (lt_of_ble rfl)
          apply Wk.gon 70 rfl rfl
          apply Wk.mv (by conv => lhs; whnf) (lt_of_ble rfl)
          apply Wk.gon 70 rfl rfl
          apply Wk.thaw 71 46 _ hX rfl (by rfl) (as1 (k + 1) k)
          apply Wk.dat hf2 Try.func22 rfl rfl rfl rfl rfl (lt_of_ble rfl)
          apply Wk.gon 70 rfl rfl
          apply Wk.len un42 rfl (lt_of_ble rfl)
          apply Wk.gon 70 rfl rfl
          apply Wk.bin rfl rfl (r := .bool false) (fun w => by simp [go_sem]) (lt_of_ble rfl)
          apply Wk.pckT rfl (by conv => lhs; whnf) (lt_of_ble rfl)
          refine Wk.nil ?_
          refine AW.cond rfl (fun hc => by cases hc) (fun _ => AW.skip ?_)
          repeat (first | refine thenA_normal ?_ | refine inBlockA_normal ?_)
          apply AW.list
          apply Wk.mv (by conv => lhs; whnf) (lt_of_ble rfl)
          apply Wk.addi rfl rfl (by omega) (lt_of_ble rfl)
          apply Wk.asg (by conv => lhs; whnf) (lt_of_ble rfl)
          refine Wk.nil ?_
          exact ⟨k + 1, by omega, by omega, fun a w => Rel.keep ⟨rfl, .cons rfl rfl (.cons rfl rfl .nil), .nil, hN.mono (by simp [keys])⟩⟩
        · refine AW.seq ?_
          apply AW.list
          apply Wk.mv (by conv => lhs; whnf) (lt_of_ble rfl)
          apply Wk.mv (by conv => lhs; whnf) (lt_of_ble rfl)
          apply Wk.iad 3 true un25 ty34 rfl rfl hklt (datD_len _) (lt_of_ble rfl)
          apply Wk.fad 0 0 false fd34_0 rfl (lt_of_ble rfl)
          apply Wk.ldr 1 false ty3 rfl hget (by conv => lhs; whnf) (lt_of_ble rfl)
          apply Wk.bin rfl rfl (r := .bool false) (fun w => by simp [go_sem, e1]) (lt_of_ble rfl)
          apply Wk.mv (by conv => lhs; whnf) (lt_of_ble rfl)
          apply Wk.gon 62 rfl rfl
          apply Wk.mv (by conv => lhs; whnf) (lt_of_ble rfl)
          apply Wk.gon 62 rfl rfl
          apply Wk.mv (by conv => lhs; whnf) (lt_of_ble rfl)
          apply Wk.gon 62 rfl rfl
          apply Wk.iad 3 true un25 ty34 rfl rfl hklt (datD_len _) (lt_of_ble rfl)
          apply Wk.gon 62 rfl rfl
          apply Wk.fad 0 0 false fd34_0 rfl (lt_of_ble rfl)
          apply Wk.gon 62 rfl rfl
          apply Wk.ldr 1 false ty3 rfl hget (by conv => lhs; whnf) (lt_of_ble rfl)
          apply Wk.gon 62 rfl rfl
          apply Wk.bin rfl rfl (r := .bool false) (fun w => by simp [go_sem, e2]) (lt_of_ble rfl)
          apply Wk.pckF rfl (by conv => lhs; whnf) (lt_of_ble rfl)
          apply Wk.mv (by conv => lhs; whnf) (lt_of_ble rfl)
          apply Wk.goff 70 (ok_move _) rfl rfl (by decide)
          apply Wk.goff 70 (ok_datw (hf1.w rfl) Try.func22 rfl rfl) rfl rfl (by decide)
          apply Wk.goff 70 (ok_len un42) rfl rfl (by decide)
          apply Wk.goff 70 (ok_bin _ _ _ _ _) rfl rfl (by decide)
          apply Wk.pckF rfl (by conv => lhs; whnf) (lt_of_ble rfl)
          refine Wk.nil ?_
          refine AW.cond rfl (fun hc => by cases hc) (fun _ => AW.skip ?_)
          repeat (first | refine thenA_normal ?_ | refine inBlockA_normal ?_)
          apply AW.list
          apply Wk.mv (by conv => lhs; whnf) (lt_of_ble rfl)
          apply Wk.addi rfl rfl (by omega) (lt_of_ble rfl)
          apply Wk.asg (by conv => lhs; whnf) (lt_of_ble rfl)
          refine Wk.nil ?_
          exact ⟨k + 1, by omega, by omega, fun a w => Rel.keep ⟨rfl, .cons rfl rfl (.cons rfl rfl .nil), .nil, hN.mono (by simp [keys])⟩⟩
      · rfl
      · rfl
    · rfl
    · rfl
  · refine AW.exit ?_
    repeat (first | refine inBlockA_same ?_ | refine thenA_exit ?_)
    repeat (first | refine thenA_normal ?_ | refine inBlockA_normal ?_)
    refine AW.seq ?_
    apply AW.list
    apply Wk.dat liok_ok Try.func12 rfl rfl rfl rfl rfl (lt_of_ble rfl)
    apply Wk.asg (by conv => lhs; whnf) (lt_of_ble rfl)
    refine Wk.nil (AW.ret ?_)
    repeat (first | refine thenA_ret ?_ | refine inBlockA_ret ?_)
    exact RetQ.ret [] (.cons rfl .nil) ⟨rfl, rfl⟩ none_kept
namespace fnSegLost
set_option maxRecDepth 100000 in
theorem walk (a0 : Option Addr) (len0 cap0 : Nat) (z0 : List Int) (w : World) (w0 : IsRow .u8 w a0 len0 cap0 z0) :
    Calls Try.prog 6 #[.slice a0 len0 cap0] w fun e w' => e = .returned (.bool true) ∧ Below w.heap.size w w' := by
  by_cases hs0 : (1048576 : Int) < (len0 : Int)
  · go_enter Try.func6, Try.ntmps6
    go_wp2
    go_ret
    exact ⟨rfl, Below.refl _ _⟩
  obtain ⟨cz, hR0, _⟩ := w0.rd (by omega)
  obtain ⟨zs, rfl⟩ := byt_fin hR0.1
  exact (lawSegLost_ok zs).run hR0
end fnSegLost
end Go.Proofs.Ytpghbdigiplbiaa
