/- The law FnSegTwo (promise 71: one message behind the other comes as two) returns true at every two codes. -/
import Derived.Test.YtpghbdigiplbiaaAbsFeedX
import Derived.RowKit3
namespace Go.Proofs.Ytpghbdigiplbiaa
open Go Go.RowKit
set_option maxHeartbeats 8000000 in
set_option maxRecDepth 100000 in
theorem lawSegTwo_ok (cs ds : List (Fin 256)) (hz : cs.length ≤ 1048576) (hz' : ds.length ≤ 1048576) : DataOk Try.prog 7 [.d (bytesD (cs.map (·.val))), .d (bytesD (ds.map (·.val)))] (.d (.v (.bool true))) := by
  refine Spec.intro (n := 76) (rv := [.tmp 4]) Try.func7 rfl rfl rfl (by simp) fun C hN hX => ?_
  refine AW.seq ?_
  apply AW.list
  apply Wk.asg (by conv => lhs; whnf) (lt_of_ble rfl)
  refine Wk.nil ?_
  refine AW.seq (AW.seq ?_)
  apply AW.list
  apply Wk.mv (by conv => lhs; whnf) (lt_of_ble rfl)
  apply Wk.len un22 rfl (lt_of_ble rfl)
  apply Wk.bin rfl rfl (r := .bool false) (fun w => by simp [go_sem] <;> omega) (lt_of_ble rfl)
  apply Wk.mv (by conv => lhs; whnf) (lt_of_ble rfl)
  apply Wk.gon 15 rfl rfl
  apply Wk.mv (by conv => lhs; whnf) (lt_of_ble rfl)
  apply Wk.gon 15 rfl rfl
  apply Wk.len un22 rfl (lt_of_ble rfl)
  apply Wk.gon 15 rfl rfl
  apply Wk.bin rfl rfl (r := .bool false) (fun w => by simp [go_sem] <;> omega) (lt_of_ble rfl)
  apply Wk.pckF rfl (by conv => lhs; whnf) (lt_of_ble rfl)
  refine Wk.nil ?_
  refine AW.cond rfl (fun hc => by cases hc) (fun _ => AW.skip (thenA_normal ?_))
  refine AW.seq ?_
  apply AW.list
  apply Wk.mv (by conv => lhs; whnf) (lt_of_ble rfl)
  apply Wk.datw (drawCut_ok cs) Try.func8 rfl rfl rfl rfl (lt_of_ble rfl)
  rintro _ ⟨bs, m, rfl, hbl, hm0, hm9⟩
  apply Wk.mv (by conv => lhs; whnf) (lt_of_ble rfl)
  apply Wk.ext rfl rfl (lt_of_ble rfl)
  apply Wk.ext rfl rfl (lt_of_ble rfl)
  apply Wk.asg (by conv => lhs; whnf) (lt_of_ble rfl)
  apply Wk.asg (by conv => lhs; whnf) (lt_of_ble rfl)
  refine Wk.nil ?_
  have hzs : ∃ zs, zs = bs.map (·.val) := ⟨_, rfl⟩
  obtain ⟨zs, hzs⟩ := hzs
  have hby : Byt zs := by rw [hzs]; exact fin_byt bs
  have hzl : zs.length ≤ 26 := by rw [hzs]; simpa using hbl
  rw [← hzs]
  clear hzs hbl
  refine AW.seq ?_
  apply AW.list
  apply Wk.mv (by conv => lhs; whnf) (lt_of_ble rfl)
  apply Wk.datw (drawCut_ok ds) Try.func8 rfl rfl rfl rfl (lt_of_ble rfl)
  rintro _ ⟨bs, n, rfl, hbl, hn0, hn9⟩
  apply Wk.mv (by conv => lhs; whnf) (lt_of_ble rfl)
  apply Wk.ext rfl rfl (lt_of_ble rfl)
  apply Wk.ext rfl rfl (lt_of_ble rfl)
  apply Wk.asg (by conv => lhs; whnf) (lt_of_ble rfl)
  apply Wk.asg (by conv => lhs; whnf) (lt_of_ble rfl)
  refine Wk.nil ?_
  have hys : ∃ ys, ys = bs.map (·.val) := ⟨_, rfl⟩
  obtain ⟨ys, hys⟩ := hys
  have hby2 : Byt ys := by rw [hys]; exact fin_byt bs
  have hyl : ys.length ≤ 26 := by rw [hys]; simpa using hbl
  rw [← hys]
  clear hys hbl
  refine AW.seq ?_
  apply AW.list
  apply Wk.mv (by conv => lhs; whnf) (lt_of_ble rfl)
  apply Wk.mv (by conv => lhs; whnf) (lt_of_ble rfl)
  apply Wk.dat (icut_ok zs m hby (by omega)) Try.func9 rfl rfl rfl rfl rfl (lt_of_ble rfl)
  apply Wk.asg (by conv => lhs; whnf) (lt_of_ble rfl)
  refine Wk.nil ?_
  refine AW.seq ?_
  apply AW.list
  apply Wk.mv (by conv => lhs; whnf) (lt_of_ble rfl)
  apply Wk.mv (by conv => lhs; whnf) (lt_of_ble rfl)
  apply Wk.dat (icut_ok ys n hby2 (by omega)) Try.func9 rfl rfl rfl rfl rfl (lt_of_ble rfl)
  apply Wk.asg (by conv => lhs; whnf) (lt_of_ble rfl)
  refine Wk.nil ?_
  refine AW.seq (AW.seq ?_)
  apply AW.list
  apply Wk.mv (by conv => lhs; whnf) (lt_of_ble rfl)
  apply Wk.mv (by conv => lhs; whnf) (lt_of_ble rfl)
  apply Wk.mv (by conv => lhs; whnf) (lt_of_ble rfl)
  apply Wk.dat (scut_ok zs m hby (by omega)) Try.func11 rfl rfl rfl rfl rfl (lt_of_ble rfl)
  apply Wk.dat (liPartsE (cutD zs m)) Try.func10 rfl rfl rfl rfl rfl (lt_of_ble rfl)
  apply Wk.un rfl (fun w => by simp [go_sem] <;> rfl) (lt_of_ble rfl)
  apply Wk.mv (by conv => lhs; whnf) (lt_of_ble rfl)
  apply Wk.gon 42 rfl rfl
  apply Wk.mv (by conv => lhs; whnf) (lt_of_ble rfl)
  apply Wk.gon 42 rfl rfl
  apply Wk.mv (by conv => lhs; whnf) (lt_of_ble rfl)
  apply Wk.gon 42 rfl rfl
  apply Wk.mv (by conv => lhs; whnf) (lt_of_ble rfl)
  apply Wk.gon 42 rfl rfl
  apply Wk.dat (scut_ok ys n hby2 (by omega)) Try.func11 rfl rfl rfl rfl rfl (lt_of_ble rfl)
  apply Wk.gon 42 rfl rfl
  apply Wk.dat (liPartsE (cutD ys n)) Try.func10 rfl rfl rfl rfl rfl (lt_of_ble rfl)
  apply Wk.gon 42 rfl rfl
  apply Wk.un rfl (fun w => by simp [go_sem] <;> rfl) (lt_of_ble rfl)
  apply Wk.pckF rfl (by conv => lhs; whnf) (lt_of_ble rfl)
  refine Wk.nil ?_
  refine AW.cond rfl (fun hc => by cases hc) (fun _ => AW.skip (thenA_normal ?_))
  have hbound : ∀ (zs : List Nat) (m : Int), (cutD zs m).length ≤ 40 := fun zs m => by
    cases hcb : cutB zs.length m
    · rw [cut_no hcb]; simp
    · obtain ⟨x1, x2, x3⟩ := cut_yes hcb
      have hq := Nat.div_le_self (zs.length + m.toNat - 1) m.toNat
      rw [cut_length hcb]
      generalize (zs.length + m.toNat - 1) / m.toNat = q at hq ⊢
      omega
  have hb1 := hbound zs m
  have hb2 := hbound ys n
  have hpos : ∀ (zs : List Nat) (m : Int), cutB zs.length m = true → 0 < (cutD zs m).length := fun zs m hcb => by
    rw [cut_length hcb]; omega
  have hsd : SmallD (cutD zs m ++ cutD ys n) := fun d hd => by
    rcases List.mem_append.1 hd with h | h
    · exact cutD_small zs m hby d h
    · exact cutD_small ys n hby2 d h
  have hfeed := liFeed_ok (cutD zs m ++ cutD ys n) hsd (by simp; omega)
  have as2 : asData (([] ++ ((cutD zs m).map datD).map (·.map A.d)) ++ ((cutD ys n).map datD).map (·.map A.d)) ((cutD zs m ++ cutD ys n).map datD) := by
    have := asData_parts (cutD zs m ++ cutD ys n)
    simpa using this
  have hz5 : ∀ c ∈ ([] : List (List A)) ++ ((cutD zs m).map datD).map (·.map A.d), c.length = 3 := fun c hc => by
    rw [List.nil_append] at hc
    obtain ⟨q, hq, rfl⟩ := List.mem_map.1 hc
    rw [List.length_map]
    exact datD_len _ q hq
  cases k1 : cutB zs.length m
  · cases k2 : cutB ys.length n
    · have hf : feedF 0 [] (cutD zs m ++ cutD ys n) = [] := by
        rw [cut_no k1, cut_no k2]
        rfl
      rw [hf] at hfeed
      refine AW.seq ?_
      apply AW.list
      apply Wk.lst 50 1 false [.slice none 0 0] un42 ty22 ze22 rfl rfl (by rfl) (by rfl) (by decide) (by decide) rfl rfl (all_len rfl) (lt_of_ble rfl)
      apply Wk.asg (by conv => lhs; whnf) (lt_of_ble rfl)
      refine Wk.nil ?_
      refine AW.seq (AW.seq ?_)
      apply AW.list
      have hl := cut_no k1
      apply Wk.mv (by conv => lhs; whnf) (lt_of_ble rfl)
      apply Wk.len un25 rfl (lt_of_ble rfl)
      apply Wk.bin rfl rfl (r := .bool false) (fun w => by simp [go_sem, hl]) (lt_of_ble rfl)
      refine Wk.nil ?_
      refine AW.cond rfl (fun hc => by cases hc) (fun _ => AW.skip (thenA_normal ?_))
      refine AW.seq (AW.seq ?_)
      apply AW.list
      have hl := cut_no k2
      apply Wk.mv (by conv => lhs; whnf) (lt_of_ble rfl)
      apply Wk.len un25 rfl (lt_of_ble rfl)
      apply Wk.bin rfl rfl (r := .bool false) (fun w => by simp [go_sem, hl]) (lt_of_ble rfl)
      refine Wk.nil ?_
      refine AW.cond rfl (fun hc => by cases hc) (fun _ => AW.skip (thenA_normal ?_))
      refine AW.seq ?_
      apply AW.list
      apply Wk.lst 65 3 true [.int .i64 0, .int .i64 0, .slice none 0 0] un25 ty34 ze34 rfl rfl (by rfl) (by rfl) (by decide) (by decide) rfl rfl (all_len rfl) (lt_of_ble rfl)
      apply Wk.mv (by conv => lhs; whnf) (lt_of_ble rfl)
      apply Wk.appOR 65 1000 3 un25 ap34 rfl rfl rfl (.inr rfl) (by decide) (datD_len _) (by simp) (by simp; omega) (lt_of_ble rfl)
      apply Wk.mv (by conv => lhs; whnf) (lt_of_ble rfl)
      apply Wk.appOR 65 1000 3 un25 ap34 rfl rfl rfl (.inr rfl) (by decide) (datD_len _) hz5 (by simp; omega) (lt_of_ble rfl)
      apply Wk.thaw 69 65 _ hX rfl (by rfl) as2
      apply Wk.dat hfeed Try.func22 rfl rfl rfl rfl rfl (lt_of_ble rfl)
      apply Wk.mv (by conv => lhs; whnf) (lt_of_ble rfl)
      apply Wk.thaw 71 50 _ hX rfl (by rfl) (asData_msgs [])
      apply Wk.dat (liSdusE []) Try.func23 rfl rfl rfl rfl rfl (lt_of_ble rfl)
      apply Wk.mv (by conv => lhs; whnf) (lt_of_ble rfl)
      apply Wk.gon 73 rfl rfl
      apply Wk.dat liok_ok Try.func12 rfl rfl rfl rfl rfl (lt_of_ble rfl)
      apply Wk.pckT rfl (by conv => lhs; whnf) (lt_of_ble rfl)
      apply Wk.asg (by conv => lhs; whnf) (lt_of_ble rfl)
      refine Wk.nil (AW.ret ?_)
      exact RetQ.ret [] (.cons rfl .nil) ⟨rfl, rfl⟩ none_kept
    · have hf : feedF 0 [] (cutD zs m ++ cutD ys n) = [ys] := by
        rw [cut_no k1, List.nil_append]
        have := feed_cut k2 []
        rw [List.append_nil] at this
        rw [this]
        rfl
      rw [hf] at hfeed
      refine AW.seq ?_
      apply AW.list
      apply Wk.lst 50 1 false [.slice none 0 0] un42 ty22 ze22 rfl rfl (by rfl) (by rfl) (by decide) (by decide) rfl rfl (all_len rfl) (lt_of_ble rfl)
      apply Wk.asg (by conv => lhs; whnf) (lt_of_ble rfl)
      refine Wk.nil ?_
      refine AW.seq (AW.seq ?_)
      apply AW.list
      have hl := cut_no k1
      apply Wk.mv (by conv => lhs; whnf) (lt_of_ble rfl)
      apply Wk.len un25 rfl (lt_of_ble rfl)
      apply Wk.bin rfl rfl (r := .bool false) (fun w => by simp [go_sem, hl]) (lt_of_ble rfl)
      refine Wk.nil ?_
      refine AW.cond rfl (fun hc => by cases hc) (fun _ => AW.skip (thenA_normal ?_))
      refine AW.seq (AW.seq ?_)
      apply AW.list
      have hl := hpos ys n k2
      apply Wk.mv (by conv => lhs; whnf) (lt_of_ble rfl)
      apply Wk.len un25 rfl (lt_of_ble rfl)
      apply Wk.bin rfl rfl (r := .bool true) (fun w => by simp [go_sem] <;> omega) (lt_of_ble rfl)
      refine Wk.nil ?_
      refine AW.cond rfl (fun _ => ?_) (fun hc => by cases hc)
      apply AW.list
      apply Wk.mv (by conv => lhs; whnf) (lt_of_ble rfl)
      apply Wk.mv (by conv => lhs; whnf) (lt_of_ble rfl)
      apply Wk.lst 63 1 false [.slice none 0 0] un42 ty22 ze22 rfl rfl (by rfl) (by rfl) (by decide) (by decide) rfl rfl (all_len rfl) (lt_of_ble rfl)
      apply Wk.appOO 50 63 1 un42 ap22 rfl rfl rfl rfl (by decide) (all_len rfl) (all_len rfl) (by simp) (lt_of_ble rfl)
      apply Wk.asg (by conv => lhs; whnf) (lt_of_ble rfl)
      refine Wk.nil (thenA_normal ?_)
      refine AW.seq ?_
      apply AW.list
      apply Wk.lst 65 3 true [.int .i64 0, .int .i64 0, .slice none 0 0] un25 ty34 ze34 rfl rfl (by rfl) (by rfl) (by decide) (by decide) rfl rfl (all_len rfl) (lt_of_ble rfl)
      apply Wk.mv (by conv => lhs; whnf) (lt_of_ble rfl)
      apply Wk.appOR 65 1000 3 un25 ap34 rfl rfl rfl (.inr rfl) (by decide) (datD_len _) (by simp) (by simp; omega) (lt_of_ble rfl)
      apply Wk.mv (by conv => lhs; whnf) (lt_of_ble rfl)
      apply Wk.appOR 65 1000 3 un25 ap34 rfl rfl rfl (.inr rfl) (by decide) (datD_len _) hz5 (by simp; omega) (lt_of_ble rfl)
      apply Wk.thaw 69 65 _ hX rfl (by rfl) as2
      apply Wk.dat hfeed Try.func22 rfl rfl rfl rfl rfl (lt_of_ble rfl)
      apply Wk.mv (by conv => lhs; whnf) (lt_of_ble rfl)
      apply Wk.thaw 71 50 _ hX rfl (by rfl) (asData_msgs [ys])
      apply Wk.dat (liSdusE [ys]) Try.func23 rfl rfl rfl rfl rfl (lt_of_ble rfl)
      apply Wk.mv (by conv => lhs; whnf) (lt_of_ble rfl)
      apply Wk.gon 73 rfl rfl
      apply Wk.dat liok_ok Try.func12 rfl rfl rfl rfl rfl (lt_of_ble rfl)
      apply Wk.pckT rfl (by conv => lhs; whnf) (lt_of_ble rfl)
      apply Wk.asg (by conv => lhs; whnf) (lt_of_ble rfl)
      refine Wk.nil (AW.ret ?_)
      exact RetQ.ret [] (.cons rfl .nil) ⟨rfl, rfl⟩ none_kept
  · cases k2 : cutB ys.length n
    · have hf : feedF 0 [] (cutD zs m ++ cutD ys n) = [zs] := by
        rw [feed_cut k1, cut_no k2]
        rfl
      rw [hf] at hfeed
      refine AW.seq ?_
      apply AW.list
      apply Wk.lst 50 1 false [.slice none 0 0] un42 ty22 ze22 rfl rfl (by rfl) (by rfl) (by decide) (by decide) rfl rfl (all_len rfl) (lt_of_ble rfl)
      apply Wk.asg (by conv => lhs; whnf) (lt_of_ble rfl)
      refine Wk.nil ?_
      refine AW.seq (AW.seq ?_)
      apply AW.list
      have hl := hpos zs m k1
      apply Wk.mv (by conv => lhs; whnf) (lt_of_ble rfl)
      apply Wk.len un25 rfl (lt_of_ble rfl)
      apply Wk.bin rfl rfl (r := .bool true) (fun w => by simp [go_sem] <;> omega) (lt_of_ble rfl)
      refine Wk.nil ?_
      refine AW.cond rfl (fun _ => ?_) (fun hc => by cases hc)
      apply AW.list
      apply Wk.mv (by conv => lhs; whnf) (lt_of_ble rfl)
      apply Wk.mv (by conv => lhs; whnf) (lt_of_ble rfl)
      apply Wk.lst 56 1 false [.slice none 0 0] un42 ty22 ze22 rfl rfl (by rfl) (by rfl) (by decide) (by decide) rfl rfl (all_len rfl) (lt_of_ble rfl)
      apply Wk.appOO 50 56 1 un42 ap22 rfl rfl rfl rfl (by decide) (all_len rfl) (all_len rfl) (by simp) (lt_of_ble rfl)
      apply Wk.asg (by conv => lhs; whnf) (lt_of_ble rfl)
      refine Wk.nil (thenA_normal ?_)
      refine AW.seq (AW.seq ?_)
      apply AW.list
      have hl := cut_no k2
      apply Wk.mv (by conv => lhs; whnf) (lt_of_ble rfl)
      apply Wk.len un25 rfl (lt_of_ble rfl)
      apply Wk.bin rfl rfl (r := .bool false) (fun w => by simp [go_sem, hl]) (lt_of_ble rfl)
      refine Wk.nil ?_
      refine AW.cond rfl (fun hc => by cases hc) (fun _ => AW.skip (thenA_normal ?_))
      refine AW.seq ?_
      apply AW.list
      apply Wk.lst 65 3 true [.int .i64 0, .int .i64 0, .slice none 0 0] un25 ty34 ze34 rfl rfl (by rfl) (by rfl) (by decide) (by decide) rfl rfl (all_len rfl) (lt_of_ble rfl)
      apply Wk.mv (by conv => lhs; whnf) (lt_of_ble rfl)
      apply Wk.appOR 65 1000 3 un25 ap34 rfl rfl rfl (.inr rfl) (by decide) (datD_len _) (by simp) (by simp; omega) (lt_of_ble rfl)
      apply Wk.mv (by conv => lhs; whnf) (lt_of_ble rfl)
      apply Wk.appOR 65 1000 3 un25 ap34 rfl rfl rfl (.inr rfl) (by decide) (datD_len _) hz5 (by simp; omega) (lt_of_ble rfl)
      apply Wk.thaw 69 65 _ hX rfl (by rfl) as2
      apply Wk.dat hfeed Try.func22 rfl rfl rfl rfl rfl (lt_of_ble rfl)
      apply Wk.mv (by conv => lhs; whnf) (lt_of_ble rfl)
      apply Wk.thaw 71 50 _ hX rfl (by rfl) (asData_msgs [zs])
      apply Wk.dat (liSdusE [zs]) Try.func23 rfl rfl rfl rfl rfl (lt_of_ble rfl)
      apply Wk.mv (by conv => lhs; whnf) (lt_of_ble rfl)
      apply Wk.gon 73 rfl rfl
      apply Wk.dat liok_ok Try.func12 rfl rfl rfl rfl rfl (lt_of_ble rfl)
      apply Wk.pckT rfl (by conv => lhs; whnf) (lt_of_ble rfl)
      apply Wk.asg (by conv => lhs; whnf) (lt_of_ble rfl)
      refine Wk.nil (AW.ret ?_)
      exact RetQ.ret [] (.cons rfl .nil) ⟨rfl, rfl⟩ none_kept
    · have hf : feedF 0 [] (cutD zs m ++ cutD ys n) = [zs, ys] := by
        rw [feed_cut k1]
        have := feed_cut k2 []
        rw [List.append_nil] at this
        rw [this]
        rfl
      rw [hf] at hfeed
      refine AW.seq ?_
      apply AW.list
      apply Wk.lst 50 1 false [.slice none 0 0] un42 ty22 ze22 rfl rfl (by rfl) (by rfl) (by decide) (by decide) rfl rfl (all_len rfl) (lt_of_ble rfl)
      apply Wk.asg (by conv => lhs; whnf) (lt_of_ble rfl)
      refine Wk.nil ?_
      refine AW.seq (AW.seq ?_)
      apply AW.list
      have hl := hpos zs m k1
      apply Wk.mv (by conv => lhs; whnf) (lt_of_ble rfl)
      apply Wk.len un25 rfl (lt_of_ble rfl)
      apply Wk.bin rfl rfl (r := .bool true) (fun w => by simp [go_sem] <;> omega) (lt_of_ble rfl)
      refine Wk.nil ?_
      refine AW.cond rfl (fun _ => ?_) (fun hc => by cases hc)
      apply AW.list
      apply Wk.mv (by conv => lhs; whnf) (lt_of_ble rfl)
      apply Wk.mv (by conv => lhs; whnf) (lt_of_ble rfl)
      apply Wk.lst 56 1 false [.slice none 0 0] un42 ty22 ze22 rfl rfl (by rfl) (by rfl) (by decide) (by decide) rfl rfl (all_len rfl) (lt_of_ble rfl)
      apply Wk.appOO 50 56 1 un42 ap22 rfl rfl rfl rfl (by decide) (all_len rfl) (all_len rfl) (by simp) (lt_of_ble rfl)
      apply Wk.asg (by conv => lhs; whnf) (lt_of_ble rfl)
      refine Wk.nil (thenA_normal ?_)
      refine AW.seq (AW.seq ?_)
      apply AW.list
      have hl := hpos ys n k2
      apply Wk.mv (by conv => lhs; whnf) (lt_of_ble rfl)
      apply Wk.len un25 rfl (lt_of_ble rfl)
      apply Wk.bin rfl rfl (r := .bool true) (fun w => by simp [go_sem] <;> omega) (lt_of_ble rfl)
      refine Wk.nil ?_
      refine AW.cond rfl (fun _ => ?_) (fun hc => by cases hc)
      apply AW.list
      apply Wk.mv (by conv => lhs; whnf) (lt_of_ble rfl)
      apply Wk.mv (by conv => lhs; whnf) (lt_of_ble rfl)
      apply Wk.lst 63 1 false [.slice none 0 0] un42 ty22 ze22 rfl rfl (by rfl) (by rfl) (by decide) (by decide) rfl rfl (all_len rfl) (lt_of_ble rfl)
      apply Wk.appOO 50 63 1 un42 ap22 rfl rfl rfl rfl (by decide) (all_len rfl) (all_len rfl) (by simp) (lt_of_ble rfl)
      apply Wk.asg (by conv => lhs; whnf) (lt_of_ble rfl)
      refine Wk.nil (thenA_normal ?_)
      refine AW.seq ?_
      apply AW.list
      apply Wk.lst 65 3 true [.int .i64 0, .int .i64 0, .slice none 0 0] un25 ty34 ze34 rfl rfl (by rfl) (by rfl) (by decide) (by decide) rfl rfl (all_len rfl) (lt_of_ble rfl)
      apply Wk.mv (by conv => lhs; whnf) (lt_of_ble rfl)
      apply Wk.appOR 65 1000 3 un25 ap34 rfl rfl rfl (.inr rfl) (by decide) (datD_len _) (by simp) (by simp; omega) (lt_of_ble rfl)
      apply Wk.mv (by conv => lhs; whnf) (lt_of_ble rfl)
      apply Wk.appOR 65 1000 3 un25 ap34 rfl rfl rfl (.inr rfl) (by decide) (datD_len _) hz5 (by simp; omega) (lt_of_ble rfl)
      apply Wk.thaw 69 65 _ hX rfl (by rfl) as2
      apply Wk.dat hfeed Try.func22 rfl rfl rfl rfl rfl (lt_of_ble rfl)
      apply Wk.mv (by conv => lhs; whnf) (lt_of_ble rfl)
      apply Wk.thaw 71 50 _ hX rfl (by rfl) (asData_msgs [zs, ys])
      apply Wk.dat (liSdusE [zs, ys]) Try.func23 rfl rfl rfl rfl rfl (lt_of_ble rfl)
      apply Wk.mv (by conv => lhs; whnf) (lt_of_ble rfl)
      apply Wk.gon 73 rfl rfl
      apply Wk.dat liok_ok Try.func12 rfl rfl rfl rfl rfl (lt_of_ble rfl)
      apply Wk.pckT rfl (by conv => lhs; whnf) (lt_of_ble rfl)
      apply Wk.asg (by conv => lhs; whnf) (lt_of_ble rfl)
      refine Wk.nil (AW.ret ?_)
      exact RetQ.ret [] (.cons rfl .nil) ⟨rfl, rfl⟩ none_kept
namespace fnSegTwo
set_option maxRecDepth 100000 in
theorem walk (a0 : Option Addr) (len0 cap0 : Nat) (z0 : List Int) (a1 : Option Addr) (len1 cap1 : Nat) (z1 : List Int) (w : World) (w0 : IsRow .u8 w a0 len0 cap0 z0) (w1 : IsRow .u8 w a1 len1 cap1 z1) :
    Calls Try.prog 7 #[.slice a0 len0 cap0, .slice a1 len1 cap1] w fun e w' => e = .returned (.bool true) ∧ Below w.heap.size w w' := by
  by_cases hs0 : (1048576 : Int) < (len0 : Int)
  · go_enter Try.func7, Try.ntmps7
    go_wp2
    go_ret
    exact ⟨rfl, Below.refl _ _⟩
  · by_cases hs1 : (1048576 : Int) < (len1 : Int)
    · go_enter Try.func7, Try.ntmps7
      go_wp2
      go_ret
      exact ⟨rfl, Below.refl _ _⟩
    · obtain ⟨cz, hR0, e0⟩ := w0.rd (by omega)
      obtain ⟨mz, hR1, e1⟩ := w1.rd (by omega)
      obtain ⟨zs, rfl⟩ := byt_fin hR0.1
      obtain ⟨ys, rfl⟩ := byt_fin hR1.1
      refine (lawSegTwo_ok zs ys ?_ ?_).run2 hR0 hR1
      · simp at e0; omega
      · simp at e1; omega
end fnSegTwo
end Go.Proofs.Ytpghbdigiplbiaa
