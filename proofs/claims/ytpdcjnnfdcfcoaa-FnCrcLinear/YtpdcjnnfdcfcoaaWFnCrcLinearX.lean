/- The law FnCrcLinear (promise 65: sums go with turning) returns true at every two codes. -/
import Derived.Test.YtpdcjnnfdcfcoaaMa
import Derived.Test.YtpdcjnnfdcfcoaaMb
import Derived.Test.YtpdcjnnfdcfcoaaMc
import Derived.Test.YtpdcjnnfdcfcoaaMd
import Derived.RowKit3
namespace Go.Proofs.Ytpdcjnnfdcfcoaa
open Go Go.RowKit
set_option maxHeartbeats 8000000 in
set_option maxRecDepth 100000 in
theorem lawCrcLinear_ok (cs ms : List (Fin 256)) (hz : cs.length ≤ 1048576) (hz' : ms.length ≤ 1048576) : DataOk Try.prog 3 [.d (bytesD (cs.map (·.val))), .d (bytesD (ms.map (·.val)))] (.d (.v (.bool true))) := by
  refine Spec.intro (n := 68) (rv := [.tmp 4]) Try.func3 rfl rfl rfl (by simp) fun C hN hX => ?_
  refine AW.seq ?_
  apply AW.list
  apply Wk.asg (by conv => lhs; whnf) (lt_of_ble rfl)
  refine Wk.nil ?_
  refine AW.seq (AW.seq ?_)
  apply AW.list
  apply Wk.mv (by conv => lhs; whnf) (lt_of_ble rfl)
  apply Wk.len un22 rfl (lt_of_ble rfl)
  apply Wk.bin rfl rfl (r := .bool false) (fun w => by simp [go_sem] <;> omega) (lt_of_ble rfl)
  apply Wk.mv (by conv => lhs; whnf) (lt_of_ble rfl)
  apply Wk.gon 14 rfl rfl
  apply Wk.mv (by conv => lhs; whnf) (lt_of_ble rfl)
  apply Wk.gon 14 rfl rfl
  apply Wk.len un22 rfl (lt_of_ble rfl)
  apply Wk.gon 14 rfl rfl
  apply Wk.bin rfl rfl (r := .bool false) (fun w => by simp [go_sem] <;> omega) (lt_of_ble rfl)
  apply Wk.pckF rfl (by conv => lhs; whnf) (lt_of_ble rfl)
  refine Wk.nil ?_
  refine AW.cond rfl (fun hc => by cases hc) (fun _ => AW.skip (thenA_normal ?_))
  refine AW.seq ?_
  apply AW.list
  apply Wk.mv (by conv => lhs; whnf) (lt_of_ble rfl)
  apply Wk.datw (drawCrc_ok cs) Try.func4 rfl rfl rfl rfl (lt_of_ble rfl)
  rintro _ ⟨bs, rfl, hbl⟩
  apply Wk.asg (by conv => lhs; whnf) (lt_of_ble rfl)
  refine Wk.nil ?_
  refine AW.seq ?_
  apply AW.list
  apply Wk.mv (by conv => lhs; whnf) (lt_of_ble rfl)
  apply Wk.datw (drawCrc_ok ms) Try.func4 rfl rfl rfl rfl (lt_of_ble rfl)
  rintro _ ⟨fs, rfl, hfl⟩
  apply Wk.asg (by conv => lhs; whnf) (lt_of_ble rfl)
  refine Wk.nil ?_
  have hxs : ∃ xs, xs = bs.map (·.val) := ⟨_, rfl⟩
  obtain ⟨xs, hxs⟩ := hxs
  have hys : ∃ ys, ys = fs.map (·.val) := ⟨_, rfl⟩
  obtain ⟨ys, hys⟩ := hys
  have bx : Byt xs := by rw [hxs]; exact fin_byt bs
  have by_ : Byt ys := by rw [hys]; exact fin_byt fs
  have lx : xs.length ≤ 20 := by rw [hxs]; simpa using hbl
  have ly : ys.length ≤ 20 := by rw [hys]; simpa using hfl
  rw [← hxs, ← hys]
  clear hxs hys hbl hfl
  have hn : ∃ n, n = min xs.length ys.length := ⟨_, rfl⟩
  obtain ⟨n, hn⟩ := hn
  have eZ := zipL_crc xs ys
  have lZ := zipL_length xs ys
  have bZ := zipL_byt bx by_
  have sZ := fun k h => zipL_snoc xs ys (k := k) h
  rw [← hn] at eZ lZ sZ
  generalize zipL xs ys = Z at eZ lZ bZ sZ
  have hmin : (if (((ys.map fun z : Nat => [D.v (.int .u8 (z : Int))]).length : Nat) : Int) < (((xs.map fun z : Nat => [D.v (.int .u8 (z : Int))]).length : Nat) : Int) then (((ys.map fun z : Nat => [D.v (.int .u8 (z : Int))]).length : Nat) : Int) else (((xs.map fun z : Nat => [D.v (.int .u8 (z : Int))]).length : Nat) : Int)) = (n : Int) := by
    rw [List.length_map, List.length_map, hn]
    split <;> omega
  refine AW.seq ?_
  apply AW.list
  apply Wk.mv (by conv => lhs; whnf) (lt_of_ble rfl)
  apply Wk.len un22 rfl (lt_of_ble rfl)
  apply Wk.mv (by conv => lhs; whnf) (lt_of_ble rfl)
  apply Wk.len un22 rfl (lt_of_ble rfl)
  apply Wk.min2 rfl rfl hmin (lt_of_ble rfl)
  apply Wk.asg (by conv => lhs; whnf) (lt_of_ble rfl)
  refine Wk.nil ?_
  refine AW.seq ?_
  apply AW.list
  apply Wk.lst 28 1 false [.int .u8 0] un22 ty5 ze5 rfl rfl (by rfl) (by rfl) (by decide) (by decide) rfl rfl (all_len rfl) (lt_of_ble rfl)
  apply Wk.asg (by conv => lhs; whnf) (lt_of_ble rfl)
  refine Wk.nil ?_
  refine AW.seq (AW.seq ?_)
  apply AW.list
  apply Wk.asg (by conv => lhs; whnf) (lt_of_ble rfl)
  refine Wk.nil (AW.block ?_)
  refine AW.loop (fun x : Nat × Nat => St.of 68 [(5, .d (bytesD xs)), (6, .d (bytesD ys)), (7, .d (.v (.int .i64 (n : Int)))), (8, .own 28 x.2), (9, .d (.v (.int .i64 (x.1 : Int))))] [(28, .own x.2 5 1 (cellsN (Z.take x.1)))]) (fun x => x.1 ≤ n) (fun x => n - x.1) (0, 0) (Nat.zero_le _) ?_ ?_
  · exact fun a w => Rel.keep ⟨rfl, .cons rfl rfl (.cons rfl rfl (.cons rfl rfl (.cons rfl rfl (.cons rfl rfl .nil)))), .cons rfl rfl .nil, hN.mono (by simp [keys])⟩
  rintro ⟨k, q⟩ hk
  simp only at hk
  show AW Try.prog C _ _ (St.of 68 [(5, .d (bytesD xs)), (6, .d (bytesD ys)), (7, .d (.v (.int .i64 (n : Int)))), (8, .own 28 q), (9, .d (.v (.int .i64 (k : Int))))] [(28, .own q 5 1 (cellsN (Z.take k)))])
  refine AW.seq (AW.seq ?_)
  apply AW.list
  apply Wk.mv (by conv => lhs; whnf) (lt_of_ble rfl)
  apply Wk.mv (by conv => lhs; whnf) (lt_of_ble rfl)
  apply Wk.bin rfl rfl (fun w => by simp [go_sem] <;> rfl) (lt_of_ble rfl)
  refine Wk.nil ?_
  refine AW.cond rfl (fun hc => ?_) (fun hc => ?_)
  · have hlt : k < n := by simpa using hc
    refine AW.skip ?_
    repeat (first | refine thenA_normal ?_ | refine inBlockA_normal ?_)
    refine AW.seq (AW.block ?_)
    have hb1 : xs.getD k 0 < 256 := getD_byt bx k
    have hb2 : ys.getD k 0 < 256 := getD_byt by_ k
    have g1 := bytes_get xs k (by omega)
    have g2 := bytes_get ys k (by omega)
    have k1 : k < (xs.map fun z : Nat => [D.v (.int .u8 (z : Int))]).length := by rw [List.length_map]; omega
    have k2 : k < (ys.map fun z : Nat => [D.v (.int .u8 (z : Int))]).length := by rw [List.length_map]; omega
    have hs := sZ k (by omega)
    generalize xs.getD k 0 = x at hb1 g1 hs
    generalize ys.getD k 0 = y at hb2 g2 hs
    apply AW.draw (hm := hmix) (cs := _)
    · apply Wk.mv (by conv => lhs; whnf) (lt_of_ble rfl)
      apply Wk.mv (by conv => lhs; whnf) (lt_of_ble rfl)
      apply Wk.mv (by conv => lhs; whnf) (lt_of_ble rfl)
      apply Wk.iad 1 false un22 ty5 rfl rfl k1 (one_bytes _) (lt_of_ble rfl)
      apply Wk.ldr 1 false ty5 rfl g1 (by conv => lhs; whnf) (lt_of_ble rfl)
      apply Wk.mv (by conv => lhs; whnf) (lt_of_ble rfl)
      apply Wk.mv (by conv => lhs; whnf) (lt_of_ble rfl)
      apply Wk.iad 1 false un22 ty5 rfl rfl k2 (one_bytes _) (lt_of_ble rfl)
      apply Wk.ldr 1 false ty5 rfl g2 (by conv => lhs; whnf) (lt_of_ble rfl)
      apply Wk.bin rfl rfl (r := .int .u8 ((x ^^^ y : Nat) : Int)) (fun w => by simp [go_sem, u8_xor_nat x y hb1 hb2]) (lt_of_ble rfl)
      apply Wk.lst 44 1 false [.int .u8 0] un22 ty5 ze5 rfl rfl (by rfl) (by rfl) (by decide) (by decide) rfl rfl (all_len rfl) (lt_of_ble rfl)
      apply Wk.appOO 28 44 1 un22 ap5 rfl rfl rfl rfl (by decide) (all_len rfl) (one_cellsN _) (by simp [cellsN]; omega) (lt_of_ble rfl)
      apply Wk.asg (by conv => lhs; whnf) (lt_of_ble rfl)
      refine Wk.nil ?_
      repeat (first | refine thenA_normal ?_ | refine inBlockA_normal ?_)
      apply AW.list
      apply Wk.mv (by conv => lhs; whnf) (lt_of_ble rfl)
      apply Wk.addi rfl rfl (by omega) (lt_of_ble rfl)
      apply Wk.asg (by conv => lhs; whnf) (lt_of_ble rfl)
      refine Wk.nil ?_
      refine ⟨(k + 1, q + 1), by simp only; omega, by simp only; omega, ?_⟩
      refine fun a w => Rel.keep ⟨rfl, .cons rfl rfl (.cons rfl rfl (.cons rfl rfl (.cons rfl rfl (.cons rfl rfl .nil)))), .cons ?_ (by exact within_cellsN _) .nil, hN.mono (by simp [keys])⟩
      simp only [hs, cellsN, List.map_append]
      rfl
    · rfl
    · rfl
  · have hkn : k = n := by
      simp at hc
      omega
    subst hkn
    refine AW.exit ?_
    repeat (first | refine inBlockA_same ?_ | refine thenA_exit ?_)
    repeat (first | refine thenA_normal ?_ | refine inBlockA_normal ?_)
    have hZ : Z.take k = Z := List.take_of_length_le (by omega)
    rw [hZ]
    refine AW.thaw (t := 8) (i := 28) _ rfl rfl (asData_bytes Z) hX.none ?_
    have cI := icrc_ok Z bZ (by omega)
    have cS := scrc_ok Z bZ (by omega)
    have c1 := icrc_cut xs k bx (by omega)
    have c2 := icrc_cut ys k by_ (by omega)
    rw [eZ] at cI cS
    have r1 : CrcM.crc (xs.take k) < 65536 := CrcM.crc_lt _ (fun z hz => bx z (List.mem_of_mem_take hz))
    have r2 : CrcM.crc (ys.take k) < 65536 := CrcM.crc_lt _ (fun z hz => by_ z (List.mem_of_mem_take hz))
    generalize CrcM.crc (xs.take k) = u at cI cS c1 r1
    generalize CrcM.crc (ys.take k) = v at cI cS c2 r2
    refine AW.seq ?_
    apply AW.list
    apply Wk.mv (by conv => lhs; whnf) (lt_of_ble rfl)
    apply Wk.dat cI Try.func5 rfl rfl rfl rfl rfl (lt_of_ble rfl)
    apply Wk.asg (by conv => lhs; whnf) (lt_of_ble rfl)
    refine Wk.nil ?_
    refine AW.seq ?_
    apply AW.draw (hm := hmix) (cs := _)
    · apply Wk.mv (by conv => lhs; whnf) (lt_of_ble rfl)
      apply Wk.mv (by conv => lhs; whnf) (lt_of_ble rfl)
      apply Wk.dat cS Try.func6 rfl rfl rfl rfl rfl (lt_of_ble rfl)
      apply Wk.bin rfl rfl (r := .bool true) (fun w => by simp [go_sem]) (lt_of_ble rfl)
      apply Wk.mv (by conv => lhs; whnf) (lt_of_ble rfl)
      apply Wk.gon 52 rfl rfl
      apply Wk.mv (by conv => lhs; whnf) (lt_of_ble rfl)
      apply Wk.gon 52 rfl rfl
      apply Wk.mv (by conv => lhs; whnf) (lt_of_ble rfl)
      apply Wk.gon 52 rfl rfl
      apply Wk.mv (by conv => lhs; whnf) (lt_of_ble rfl)
      apply Wk.gon 52 rfl rfl
      apply Wk.slc (m := k) (l := 0) 1 false un22 ty5 rfl (by exact if_pos ⟨by omega, by rw [List.length_map]; omega⟩) rfl (one_bytes _) (lt_of_ble rfl)
      apply Wk.gon 52 rfl rfl
      apply Wk.dat c1 Try.func5 rfl rfl rfl rfl rfl (lt_of_ble rfl)
      apply Wk.gon 52 rfl rfl
      apply Wk.mv (by conv => lhs; whnf) (lt_of_ble rfl)
      apply Wk.gon 52 rfl rfl
      apply Wk.mv (by conv => lhs; whnf) (lt_of_ble rfl)
      apply Wk.gon 52 rfl rfl
      apply Wk.slc (m := k) (l := 0) 1 false un22 ty5 rfl (by exact if_pos ⟨by omega, by rw [List.length_map]; omega⟩) rfl (one_bytes _) (lt_of_ble rfl)
      apply Wk.gon 52 rfl rfl
      apply Wk.dat c2 Try.func5 rfl rfl rfl rfl rfl (lt_of_ble rfl)
      apply Wk.gon 52 rfl rfl
      apply Wk.bin rfl rfl (r := .int .i64 ((u ^^^ v : Nat) : Int)) (fun w => by simp [go_sem, i64_xor_nat u v (by omega) (by omega)]) (lt_of_ble rfl)
      apply Wk.gon 52 rfl rfl
      apply Wk.bin rfl rfl (r := .bool true) (fun w => by simp [go_sem]) (lt_of_ble rfl)
      apply Wk.pckT rfl (by conv => lhs; whnf) (lt_of_ble rfl)
      apply Wk.mv (by conv => lhs; whnf) (lt_of_ble rfl)
      apply Wk.gon 65 rfl rfl
      apply Wk.dat liok_ok Try.func7 rfl rfl rfl rfl rfl (lt_of_ble rfl)
      apply Wk.pckT rfl (by conv => lhs; whnf) (lt_of_ble rfl)
      apply Wk.asg (by conv => lhs; whnf) (lt_of_ble rfl)
      refine Wk.nil (AW.ret ?_)
      repeat (first | refine thenA_ret ?_ | refine inBlockA_ret ?_)
      exact RetQ.ret [] (.cons rfl .nil) ⟨rfl, rfl⟩ none_kept
    · rfl
    · rfl
namespace fnCrcLinear
set_option maxRecDepth 100000 in
theorem walk (a0 : Option Addr) (len0 cap0 : Nat) (z0 : List Int) (a1 : Option Addr) (len1 cap1 : Nat) (z1 : List Int) (w : World) (w0 : IsRow .u8 w a0 len0 cap0 z0) (w1 : IsRow .u8 w a1 len1 cap1 z1) :
    Calls Try.prog 3 #[.slice a0 len0 cap0, .slice a1 len1 cap1] w fun e w' => e = .returned (.bool true) ∧ Below w.heap.size w w' := by
  by_cases hs0 : (1048576 : Int) < (len0 : Int)
  · go_enter Try.func3, Try.ntmps3
    go_wp2
    go_ret
    exact ⟨rfl, Below.refl _ _⟩
  · by_cases hs1 : (1048576 : Int) < (len1 : Int)
    · go_enter Try.func3, Try.ntmps3
      go_wp2
      go_ret
      exact ⟨rfl, Below.refl _ _⟩
    · obtain ⟨cz, hR0, e0⟩ := w0.rd (by omega)
      obtain ⟨mz, hR1, e1⟩ := w1.rd (by omega)
      obtain ⟨zs, rfl⟩ := byt_fin hR0.1
      obtain ⟨ys, rfl⟩ := byt_fin hR1.1
      refine (lawCrcLinear_ok zs ys ?_ ?_).run2 hR0 hR1
      · simp at e0; omega
      · simp at e1; omega
end fnCrcLinear
end Go.Proofs.Ytpdcjnnfdcfcoaa
