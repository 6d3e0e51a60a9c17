/- The law FnSegPut (promise 19: what does not fit leaves nothing) returns true at every code. -/
import Derived.Test.YtpghbdigiplbiaaAbsPartOrX
import Derived.Test.YtpghbdigiplbiaaMa
import Derived.Test.YtpghbdigiplbiaaMb
import Derived.Test.YtpghbdigiplbiaaMc
import Derived.Test.YtpghbdigiplbiaaMd
import Derived.RowKit3
namespace Go.Proofs.Ytpghbdigiplbiaa
open Go Go.RowKit
theorem putC_cases (m : Int) (n : Nat) (g : Int) (k : Nat) : putC m n g k = 1 ∨ putC m n g k = 2 ∨ putC m n g k = 3 := by
  unfold putC
  repeat' split
  all_goals simp
theorem join_more {m : Int} {n : Nat} {g l : Int} {k : Nat} (hj : joinB m n = true) (hp : pieceB g l k = true) (h : putC m n g k = 1) : joinB (if m = 0 then l else m) (n + k) = true := by
  simp only [joinB, pieceB, decide_eq_true_eq] at hj hp ⊢
  unfold putC at h
  split at h
  · rename_i h0
    rw [if_pos h0]
    repeat' split at h
    all_goals first | omega | simp at h
  · rename_i h0
    rw [if_neg h0]
    repeat' split at h
    all_goals first | omega | simp at h
theorem sputN_ok (m : Int) (zs : List Nat) (d : Dat) (hz : Byt zs) (hd : Byt d.2.2) (h1 : zs.length ≤ 2000000) (h2 : d.2.2.length ≤ 2000000) :
    DataOk Try.prog 18 [joinN m zs, partN d] (.tup [joinN (stN m zs d) (stG m zs d), .d (bytesD (stM m zs d)), .d (.v (.int .i64 (stA m zs d)))]) := by
  obtain ⟨bs, rfl⟩ := bytes_of hz
  obtain ⟨g, l, ys⟩ := d
  obtain ⟨fs, rfl⟩ := bytes_of hd
  have h : DataOk Try.prog 18 [joinA m bs, partA3 g l fs] (putA4 m bs g l fs) := by
    refine DataOk.liftN fun w F E H args hF hs hd => ?_
    obtain ⟨v, u, rfl, hv, hu⟩ := args2 hs hd
    obtain ⟨v1, rfl, r1⟩ := join_args hv hF (by simpa using h1)
    obtain ⟨u1, rfl, r2⟩ := part_args hu hF (by simpa using h2)
    refine (spec_segput m v1 _ g l u1 _ w r1 r2).mono ?_
    rintro e w' ⟨hp, hb⟩
    obtain ⟨v, rfl, hden⟩ := put_den (E := E) (H := H) hp
    exact ⟨v, rfl, hb, hden⟩
  have e : putA4 m bs g l fs = .tup [joinN (stN m (bs.map (·.val)) (g, l, fs.map (·.val))) (stG m (bs.map (·.val)) (g, l, fs.map (·.val))), .d (bytesD (stM m (bs.map (·.val)) (g, l, fs.map (·.val)))), .d (.v (.int .i64 (stA m (bs.map (·.val)) (g, l, fs.map (·.val)))))] := by
    simp only [putA4, putR, joinN, stN, stG, stM, stA, putS, putG, putM]
    by_cases c1 : putA m (bs.map (·.val)) g l (fs.map (·.val)) = 1 <;> by_cases c2 : putA m (bs.map (·.val)) g l (fs.map (·.val)) = 2 <;> simp [c1, c2, fbytes]
  rw [e] at h
  exact h
theorem joinv {w : World} {F : Nat → Prop} {E : Nat → Option Nat} {H : Nat → Nat → Option Value} {m : Int} {zs : List Nat} {v : Value} (h : Den w F E H (joinN m zs) v) : ∃ a cap, v = .agg #[.int .i64 m, .slice a zs.length cap] := by
  obtain ⟨cs, rfl, hs, _, h⟩ := den_agg h
  have hs' : cs.toList.length = 2 := by simpa using hs
  match hl : cs.toList, hs' with
  | [x0, x1], _ =>
    obtain rfl : cs = #[x0, x1] := by rw [← Array.toArray_toList (xs := cs), hl]
    obtain rfl := den_v (h 0 _ rfl)
    obtain ⟨a, n, cap, rfl, hn⟩ := den_row (den_d (h 1 _ rfl))
    simp only [List.length_map] at hn
    subst hn
    exact ⟨a, cap, rfl⟩
theorem sjoinb (m : Int) (zs : List Nat) {b : Bool} (h : joinB m zs.length = b) : DataOk Try.prog 19 [joinN m zs] (.d (.v (.bool b))) := by
  subst h
  refine DataOk.lift fun w F E H args _ hs hd => ?_
  obtain ⟨v, rfl, hv⟩ := arg1 hs hd
  obtain ⟨a, cap, rfl⟩ := joinv hv
  exact spec_join _ _ _ _ _
theorem ijoinb (m : Int) (zs : List Nat) {b : Bool} (h : joinB m zs.length = b) : DataOk Try.prog 21 [joinN m zs] (.d (.v (.bool b))) := by
  subst h
  refine DataOk.lift fun w F E H args _ hs hd => ?_
  obtain ⟨v, rfl, hv⟩ := arg1 hs hd
  obtain ⟨a, cap, rfl⟩ := joinv hv
  exact impl_join _ _ _ _ _
theorem spartb (d : Dat) {b : Bool} (h : pieceB d.1 d.2.1 d.2.2.length = b) : DataOk Try.prog 20 [partN d] (.d (.v (.bool b))) := by
  subst h
  refine DataOk.lift fun w F E H args _ hs hd => ?_
  obtain ⟨v, rfl, hv⟩ := arg1 hs hd
  obtain ⟨g, l, ys⟩ := d
  obtain ⟨cs, rfl, hs, _, h⟩ := den_agg hv
  have hs' : cs.toList.length = 3 := by simpa [datD] using hs
  match hl : cs.toList, hs' with
  | [x0, x1, x2], _ =>
    obtain rfl : cs = #[x0, x1, x2] := by rw [← Array.toArray_toList (xs := cs), hl]
    obtain rfl := den_v (h 0 _ rfl)
    obtain rfl := den_v (h 1 _ rfl)
    obtain ⟨a, n, cap, rfl, hn⟩ := den_row (den_d (h 2 _ rfl))
    simp only [List.length_map] at hn
    subst hn
    exact spec_part _ _ _ _ _ _
theorem asData_rowN (zs : List Nat) : asData ((zs.map fun z : Nat => [D.v (.int .u8 (z : Int))]).map (·.map A.d)) (zs.map fun z : Nat => [.v (.int .u8 (z : Int))]) := by
  simp [asData, nrms, nrm]
set_option maxHeartbeats 8000000 in
set_option maxRecDepth 100000 in
theorem lawSegPut_ok (cs : List (Fin 256)) : DataOk Try.prog 4 [.d (bytesD (cs.map (·.val)))] (.d (.v (.bool true))) := by
  refine Spec.intro (n := 124) (rv := [.tmp 2]) Try.func4 rfl rfl rfl (by simp) fun C hN hX => ?_
  refine AW.seq ?_
  apply AW.list
  apply Wk.asg (by conv => lhs; whnf) (lt_of_ble rfl)
  refine Wk.nil ?_
  refine AW.seq (AW.seq ?_)
  apply AW.list
  apply Wk.mv (by conv => lhs; whnf) (lt_of_ble rfl)
  apply Wk.len un22 rfl (lt_of_ble rfl)
  apply Wk.bin rfl rfl (fun w => by simp [go_sem] <;> rfl) (lt_of_ble rfl)
  refine Wk.nil ?_
  refine AW.cond rfl (fun hc => ?_) (fun hc => ?_)
  · refine AW.seq ?_
    apply AW.list
    apply Wk.asg (by conv => lhs; whnf) (lt_of_ble rfl)
    refine Wk.nil (AW.ret ?_)
    refine thenA_ret ?_
    exact RetQ.ret [] (.cons rfl .nil) ⟨rfl, rfl⟩ none_kept
  refine AW.skip (thenA_normal ?_)
  refine AW.seq ?_
  apply AW.list
  apply Wk.mv (by conv => lhs; whnf) (lt_of_ble rfl)
  apply Wk.datw (drawPut_ok cs) Try.func17 rfl rfl rfl rfl (lt_of_ble rfl)
  rintro _ ⟨m, bs, g, l, fs, rfl, hm1, hm2, hbl, hg, hl, hfl⟩
  apply Wk.mv (by conv => lhs; whnf) (lt_of_ble rfl)
  apply Wk.ext rfl rfl (lt_of_ble rfl)
  apply Wk.ext rfl rfl (lt_of_ble rfl)
  apply Wk.alc 3 [.int .i64 0, .slice none 0 0] ze30 rfl rfl (lt_of_ble rfl)
  apply Wk.alc 4 [.int .i64 0, .int .i64 0, .slice none 0 0] ze34 rfl rfl (lt_of_ble rfl)
  apply Wk.sto (i := 3) 2 true ty30 rfl rfl rfl rfl (Nat.le_of_ble_eq_true rfl) (lt_of_ble rfl)
  apply Wk.sto (i := 4) 3 true ty34 rfl rfl rfl rfl (Nat.le_of_ble_eq_true rfl) (lt_of_ble rfl)
  refine Wk.nil ?_
  have hzs : ∃ zs, zs = bs.map (·.val) := ⟨_, rfl⟩
  obtain ⟨zs, hzs⟩ := hzs
  have hby : Byt zs := by rw [hzs]; exact fin_byt bs
  have hzl : zs.length ≤ 1000 := by rw [hzs]; simpa using hbl
  have hys : ∃ ys, ys = fs.map (·.val) := ⟨_, rfl⟩
  obtain ⟨ys, hys⟩ := hys
  have hby2 : Byt ys := by rw [hys]; exact fin_byt fs
  have hyl : ys.length ≤ 16 := by rw [hys]; simpa using hfl
  have ej : joinA m bs = joinN m zs := by rw [hzs]; rfl
  have ep : partA3 g l fs = partN (g, l, ys) := by rw [hys]; rfl
  rw [ej, ep]
  have ef : ∀ xs : List (Fin 256), fbytes xs = bytesD (xs.map (·.val)) := fun xs => by simp [fbytes]
  try rw [ef bs]
  try rw [ef fs]
  try rw [← hzs]
  try rw [← hys]
  clear ef
  clear ej ep hzs hys hbl hfl
  have hi := iputN_ok m zs (g, l, ys) hby hby2 (by omega) (by simp only; omega)
  have hs := sputN_ok m zs (g, l, ys) hby hby2 (by omega) (by simp only; omega)
  have key : ∀ (N : Int) (G M : List Nat) (c : Int), stN m zs (g, l, ys) = N → stG m zs (g, l, ys) = G → stM m zs (g, l, ys) = M → stA m zs (g, l, ys) = c → DataOk Try.prog 13 [joinN m zs, partN (g, l, ys)] (.tup [joinN N G, .d (bytesD M), .d (.v (.int .i64 c))]) ∧ DataOk Try.prog 18 [joinN m zs, partN (g, l, ys)] (.tup [joinN N G, .d (bytesD M), .d (.v (.int .i64 c))]) := fun N G M c e1 e2 e3 e4 => by
    rw [e1, e2, e3, e4] at hi hs
    exact ⟨hi, hs⟩
  clear hi hs
  have unf : ∀ c : Int, stA m zs (g, l, ys) = c → putA m zs g l ys = c := fun c h => h
  cases hj : joinB m zs.length
  · have e0 : stA m zs (g, l, ys) = 0 := by simp [stA, putA, hj]
    have e1 := st_bad (m := m) (acc := zs) (d := (g, l, ys)) (by rw [e0]; decide)
    obtain ⟨k1, k2⟩ := key 0 [] [] 0 e1.1 e1.2 (by have := unf 0 e0; rw [stM, putM]; simp only; rw [if_neg (by omega)]) e0
    refine AW.seq ?_
    apply AW.list
    apply Wk.ld (i := 3) 2 true ty30 rfl rfl (by conv => lhs; whnf) (lt_of_ble rfl)
    apply Wk.ld (i := 4) 3 true ty34 rfl rfl (by conv => lhs; whnf) (lt_of_ble rfl)
    apply Wk.dat k1 Try.func13 rfl rfl rfl rfl rfl (lt_of_ble rfl)
    apply Wk.mv (by conv => lhs; whnf) (lt_of_ble rfl)
    apply Wk.ext rfl rfl (lt_of_ble rfl)
    apply Wk.ext rfl rfl (lt_of_ble rfl)
    apply Wk.ext rfl rfl (lt_of_ble rfl)
    apply Wk.alc 5 [.int .i64 0, .slice none 0 0] ze30 rfl rfl (lt_of_ble rfl)
    apply Wk.sto (i := 5) 2 true ty30 rfl rfl rfl rfl (Nat.le_of_ble_eq_true rfl) (lt_of_ble rfl)
    apply Wk.asg (by conv => lhs; whnf) (lt_of_ble rfl)
    apply Wk.asg (by conv => lhs; whnf) (lt_of_ble rfl)
    refine Wk.nil ?_
    refine AW.seq ?_
    apply AW.list
    apply Wk.ld (i := 3) 2 true ty30 rfl rfl (by conv => lhs; whnf) (lt_of_ble rfl)
    apply Wk.ld (i := 4) 3 true ty34 rfl rfl (by conv => lhs; whnf) (lt_of_ble rfl)
    apply Wk.dat k2 Try.func18 rfl rfl rfl rfl rfl (lt_of_ble rfl)
    apply Wk.mv (by conv => lhs; whnf) (lt_of_ble rfl)
    apply Wk.ext rfl rfl (lt_of_ble rfl)
    apply Wk.ext rfl rfl (lt_of_ble rfl)
    apply Wk.ext rfl rfl (lt_of_ble rfl)
    apply Wk.alc 8 [.int .i64 0, .slice none 0 0] ze30 rfl rfl (lt_of_ble rfl)
    apply Wk.sto (i := 8) 2 true ty30 rfl rfl rfl rfl (Nat.le_of_ble_eq_true rfl) (lt_of_ble rfl)
    apply Wk.asg (by conv => lhs; whnf) (lt_of_ble rfl)
    apply Wk.asg (by conv => lhs; whnf) (lt_of_ble rfl)
    refine Wk.nil ?_
    refine AW.seq (AW.seq ?_)
    apply AW.list
    apply Wk.ld (i := 5) 2 true ty30 rfl rfl (by conv => lhs; whnf) (lt_of_ble rfl)
    apply Wk.ld (i := 8) 2 true ty30 rfl rfl (by conv => lhs; whnf) (lt_of_ble rfl)
    apply Wk.dat (liJoinN 0 []) Try.func16 rfl rfl rfl rfl rfl (lt_of_ble rfl)
    apply Wk.un rfl (fun w => by simp [go_sem] <;> rfl) (lt_of_ble rfl)
    apply Wk.mv (by conv => lhs; whnf) (lt_of_ble rfl)
    apply Wk.gon 38 rfl rfl
    apply Wk.mv (by conv => lhs; whnf) (lt_of_ble rfl)
    apply Wk.gon 38 rfl rfl
    apply Wk.mv (by conv => lhs; whnf) (lt_of_ble rfl)
    apply Wk.gon 38 rfl rfl
    apply Wk.dat (liBytesE []) Try.func15 rfl rfl rfl rfl rfl (lt_of_ble rfl)
    apply Wk.gon 38 rfl rfl
    apply Wk.un rfl (fun w => by simp [go_sem] <;> rfl) (lt_of_ble rfl)
    apply Wk.pckF rfl (by conv => lhs; whnf) (lt_of_ble rfl)
    apply Wk.mv (by conv => lhs; whnf) (lt_of_ble rfl)
    apply Wk.gon 44 rfl rfl
    apply Wk.mv (by conv => lhs; whnf) (lt_of_ble rfl)
    apply Wk.gon 44 rfl rfl
    apply Wk.mv (by conv => lhs; whnf) (lt_of_ble rfl)
    apply Wk.gon 44 rfl rfl
    apply Wk.bin rfl rfl (r := .bool false) (fun w => by simp [go_sem]) (lt_of_ble rfl)
    apply Wk.pckF rfl (by conv => lhs; whnf) (lt_of_ble rfl)
    refine Wk.nil ?_
    refine AW.cond rfl (fun hc => by cases hc) (fun _ => AW.skip (thenA_normal ?_))
    refine AW.seq (AW.seq ?_)
    apply AW.list
    apply Wk.ld (i := 3) 2 true ty30 rfl rfl (by conv => lhs; whnf) (lt_of_ble rfl)
    apply Wk.dat (sjoinb m zs hj) Try.func19 rfl rfl rfl rfl rfl (lt_of_ble rfl)
    apply Wk.un rfl (fun w => by simp [go_sem] <;> rfl) (lt_of_ble rfl)
    apply Wk.mv (by conv => lhs; whnf) (lt_of_ble rfl)
    apply Wk.goff 52 (ok_load 4 ty34) rfl rfl (by decide)
    apply Wk.goff 52 (ok_datw ((spartb (g, l, ys) (b := _) rfl).w rfl) Try.func20 rfl rfl) rfl rfl (by decide)
    apply Wk.goff 52 (ok_un _ _ _) rfl rfl (by decide)
    apply Wk.pckT rfl (by conv => lhs; whnf) (lt_of_ble rfl)
    refine Wk.nil ?_
    refine AW.cond rfl (fun _ => ?_) (fun hc => by cases hc)
    refine AW.seq ?_
    apply AW.list
    apply Wk.mv (by conv => lhs; whnf) (lt_of_ble rfl)
    apply Wk.bin rfl rfl (r := .bool true) (fun w => by simp [go_sem]) (lt_of_ble rfl)
    apply Wk.mv (by conv => lhs; whnf) (lt_of_ble rfl)
    apply Wk.gon 59 rfl rfl
    apply Wk.ld (i := 5) 2 true ty30 rfl rfl (by conv => lhs; whnf) (lt_of_ble rfl)
    apply Wk.gon 59 rfl rfl
    apply Wk.bld [.int .i64 0, .slice none 0 0] [(0, 1), (1, 1)] bl30 rfl (by conv => lhs; whnf) (lt_of_ble rfl)
    apply Wk.gon 59 rfl rfl
    apply Wk.dat (liJoinN 0 []) Try.func16 rfl rfl rfl rfl rfl (lt_of_ble rfl)
    apply Wk.pckT rfl (by conv => lhs; whnf) (lt_of_ble rfl)
    apply Wk.mv (by conv => lhs; whnf) (lt_of_ble rfl)
    apply Wk.gon 64 rfl rfl
    apply Wk.dat liok_ok Try.func12 rfl rfl rfl rfl rfl (lt_of_ble rfl)
    apply Wk.pckT rfl (by conv => lhs; whnf) (lt_of_ble rfl)
    apply Wk.asg (by conv => lhs; whnf) (lt_of_ble rfl)
    refine Wk.nil (AW.ret ?_)
    refine thenA_ret ?_
    exact RetQ.ret [] (.cons rfl .nil) ⟨rfl, rfl⟩ none_kept
  cases hp : pieceB g l ys.length
  · have e0 : stA m zs (g, l, ys) = 0 := by simp [stA, putA, hj, hp]
    have e1 := st_bad (m := m) (acc := zs) (d := (g, l, ys)) (by rw [e0]; decide)
    obtain ⟨k1, k2⟩ := key 0 [] [] 0 e1.1 e1.2 (by have := unf 0 e0; rw [stM, putM]; simp only; rw [if_neg (by omega)]) e0
    refine AW.seq ?_
    apply AW.list
    apply Wk.ld (i := 3) 2 true ty30 rfl rfl (by conv => lhs; whnf) (lt_of_ble rfl)
    apply Wk.ld (i := 4) 3 true ty34 rfl rfl (by conv => lhs; whnf) (lt_of_ble rfl)
    apply Wk.dat k1 Try.func13 rfl rfl rfl rfl rfl (lt_of_ble rfl)
    apply Wk.mv (by conv => lhs; whnf) (lt_of_ble rfl)
    apply Wk.ext rfl rfl (lt_of_ble rfl)
    apply Wk.ext rfl rfl (lt_of_ble rfl)
    apply Wk.ext rfl rfl (lt_of_ble rfl)
    apply Wk.alc 5 [.int .i64 0, .slice none 0 0] ze30 rfl rfl (lt_of_ble rfl)
    apply Wk.sto (i := 5) 2 true ty30 rfl rfl rfl rfl (Nat.le_of_ble_eq_true rfl) (lt_of_ble rfl)
    apply Wk.asg (by conv => lhs; whnf) (lt_of_ble rfl)
    apply Wk.asg (by conv => lhs; whnf) (lt_of_ble rfl)
    refine Wk.nil ?_
    refine AW.seq ?_
    apply AW.list
    apply Wk.ld (i := 3) 2 true ty30 rfl rfl (by conv => lhs; whnf) (lt_of_ble rfl)
    apply Wk.ld (i := 4) 3 true ty34 rfl rfl (by conv => lhs; whnf) (lt_of_ble rfl)
    apply Wk.dat k2 Try.func18 rfl rfl rfl rfl rfl (lt_of_ble rfl)
    apply Wk.mv (by conv => lhs; whnf) (lt_of_ble rfl)
    apply Wk.ext rfl rfl (lt_of_ble rfl)
    apply Wk.ext rfl rfl (lt_of_ble rfl)
    apply Wk.ext rfl rfl (lt_of_ble rfl)
    apply Wk.alc 8 [.int .i64 0, .slice none 0 0] ze30 rfl rfl (lt_of_ble rfl)
    apply Wk.sto (i := 8) 2 true ty30 rfl rfl rfl rfl (Nat.le_of_ble_eq_true rfl) (lt_of_ble rfl)
    apply Wk.asg (by conv => lhs; whnf) (lt_of_ble rfl)
    apply Wk.asg (by conv => lhs; whnf) (lt_of_ble rfl)
    refine Wk.nil ?_
    refine AW.seq (AW.seq ?_)
    apply AW.list
    apply Wk.ld (i := 5) 2 true ty30 rfl rfl (by conv => lhs; whnf) (lt_of_ble rfl)
    apply Wk.ld (i := 8) 2 true ty30 rfl rfl (by conv => lhs; whnf) (lt_of_ble rfl)
    apply Wk.dat (liJoinN 0 []) Try.func16 rfl rfl rfl rfl rfl (lt_of_ble rfl)
    apply Wk.un rfl (fun w => by simp [go_sem] <;> rfl) (lt_of_ble rfl)
    apply Wk.mv (by conv => lhs; whnf) (lt_of_ble rfl)
    apply Wk.gon 38 rfl rfl
    apply Wk.mv (by conv => lhs; whnf) (lt_of_ble rfl)
    apply Wk.gon 38 rfl rfl
    apply Wk.mv (by conv => lhs; whnf) (lt_of_ble rfl)
    apply Wk.gon 38 rfl rfl
    apply Wk.dat (liBytesE []) Try.func15 rfl rfl rfl rfl rfl (lt_of_ble rfl)
    apply Wk.gon 38 rfl rfl
    apply Wk.un rfl (fun w => by simp [go_sem] <;> rfl) (lt_of_ble rfl)
    apply Wk.pckF rfl (by conv => lhs; whnf) (lt_of_ble rfl)
    apply Wk.mv (by conv => lhs; whnf) (lt_of_ble rfl)
    apply Wk.gon 44 rfl rfl
    apply Wk.mv (by conv => lhs; whnf) (lt_of_ble rfl)
    apply Wk.gon 44 rfl rfl
    apply Wk.mv (by conv => lhs; whnf) (lt_of_ble rfl)
    apply Wk.gon 44 rfl rfl
    apply Wk.bin rfl rfl (r := .bool false) (fun w => by simp [go_sem]) (lt_of_ble rfl)
    apply Wk.pckF rfl (by conv => lhs; whnf) (lt_of_ble rfl)
    refine Wk.nil ?_
    refine AW.cond rfl (fun hc => by cases hc) (fun _ => AW.skip (thenA_normal ?_))
    refine AW.seq (AW.seq ?_)
    apply AW.list
    apply Wk.ld (i := 3) 2 true ty30 rfl rfl (by conv => lhs; whnf) (lt_of_ble rfl)
    apply Wk.dat (sjoinb m zs hj) Try.func19 rfl rfl rfl rfl rfl (lt_of_ble rfl)
    apply Wk.un rfl (fun w => by simp [go_sem] <;> rfl) (lt_of_ble rfl)
    apply Wk.mv (by conv => lhs; whnf) (lt_of_ble rfl)
    apply Wk.gon 52 rfl rfl
    apply Wk.ld (i := 4) 3 true ty34 rfl rfl (by conv => lhs; whnf) (lt_of_ble rfl)
    apply Wk.gon 52 rfl rfl
    apply Wk.dat (spartb (g, l, ys) hp) Try.func20 rfl rfl rfl rfl rfl (lt_of_ble rfl)
    apply Wk.gon 52 rfl rfl
    apply Wk.un rfl (fun w => by simp [go_sem] <;> rfl) (lt_of_ble rfl)
    apply Wk.pckF rfl (by conv => lhs; whnf) (lt_of_ble rfl)
    refine Wk.nil ?_
    refine AW.cond rfl (fun _ => ?_) (fun hc => by cases hc)
    refine AW.seq ?_
    apply AW.list
    apply Wk.mv (by conv => lhs; whnf) (lt_of_ble rfl)
    apply Wk.bin rfl rfl (r := .bool true) (fun w => by simp [go_sem]) (lt_of_ble rfl)
    apply Wk.mv (by conv => lhs; whnf) (lt_of_ble rfl)
    apply Wk.gon 59 rfl rfl
    apply Wk.ld (i := 5) 2 true ty30 rfl rfl (by conv => lhs; whnf) (lt_of_ble rfl)
    apply Wk.gon 59 rfl rfl
    apply Wk.bld [.int .i64 0, .slice none 0 0] [(0, 1), (1, 1)] bl30 rfl (by conv => lhs; whnf) (lt_of_ble rfl)
    apply Wk.gon 59 rfl rfl
    apply Wk.dat (liJoinN 0 []) Try.func16 rfl rfl rfl rfl rfl (lt_of_ble rfl)
    apply Wk.pckT rfl (by conv => lhs; whnf) (lt_of_ble rfl)
    apply Wk.mv (by conv => lhs; whnf) (lt_of_ble rfl)
    apply Wk.gon 64 rfl rfl
    apply Wk.dat liok_ok Try.func12 rfl rfl rfl rfl rfl (lt_of_ble rfl)
    apply Wk.pckT rfl (by conv => lhs; whnf) (lt_of_ble rfl)
    apply Wk.asg (by conv => lhs; whnf) (lt_of_ble rfl)
    refine Wk.nil (AW.ret ?_)
    refine thenA_ret ?_
    exact RetQ.ret [] (.cons rfl .nil) ⟨rfl, rfl⟩ none_kept
  have hjs := joinB_small hj
  have hps := pieceB_small hp
  have e0 : stA m zs (g, l, ys) = putC m zs.length g ys.length := st_of hj hp
  have as67 : asData (([] ++ (zs.map fun z : Nat => [D.v (.int .u8 (z : Int))]).map (·.map A.d)) ++ (ys.map fun z : Nat => [D.v (.int .u8 (z : Int))]).map (·.map A.d)) ((zs ++ ys).map fun z : Nat => [.v (.int .u8 (z : Int))]) := by
    have := asData_rowN (zs ++ ys)
    simpa using this
  have hz5 : ∀ c ∈ ([] : List (List A)) ++ (zs.map fun z : Nat => [D.v (.int .u8 (z : Int))]).map (·.map A.d), c.length = 1 := fun c hc => by
    rw [List.nil_append] at hc
    obtain ⟨q, hq, rfl⟩ := List.mem_map.1 hc
    rw [List.length_map]
    exact one_bytes _ q hq
  rcases putC_cases m zs.length g ys.length with h | h | h
  · rw [h] at e0
    have e1 := unf 1 e0
    have hj2 := join_more hj hp h
    rw [← List.length_append] at hj2
    obtain ⟨k1, k2⟩ := key (if m = 0 then l else m) (zs ++ ys) [] 1 (by rw [stN, putN]; simp only; rw [if_pos e1]) (by rw [stG, putG]; simp only; rw [if_pos e1]) (by rw [stM, putM]; simp only; rw [if_neg (by omega)]) e0
    refine AW.seq ?_
    apply AW.list
    apply Wk.ld (i := 3) 2 true ty30 rfl rfl (by conv => lhs; whnf) (lt_of_ble rfl)
    apply Wk.ld (i := 4) 3 true ty34 rfl rfl (by conv => lhs; whnf) (lt_of_ble rfl)
    apply Wk.dat k1 Try.func13 rfl rfl rfl rfl rfl (lt_of_ble rfl)
    apply Wk.mv (by conv => lhs; whnf) (lt_of_ble rfl)
    apply Wk.ext rfl rfl (lt_of_ble rfl)
    apply Wk.ext rfl rfl (lt_of_ble rfl)
    apply Wk.ext rfl rfl (lt_of_ble rfl)
    apply Wk.alc 5 [.int .i64 0, .slice none 0 0] ze30 rfl rfl (lt_of_ble rfl)
    apply Wk.sto (i := 5) 2 true ty30 rfl rfl rfl rfl (Nat.le_of_ble_eq_true rfl) (lt_of_ble rfl)
    apply Wk.asg (by conv => lhs; whnf) (lt_of_ble rfl)
    apply Wk.asg (by conv => lhs; whnf) (lt_of_ble rfl)
    refine Wk.nil ?_
    refine AW.seq ?_
    apply AW.list
    apply Wk.ld (i := 3) 2 true ty30 rfl rfl (by conv => lhs; whnf) (lt_of_ble rfl)
    apply Wk.ld (i := 4) 3 true ty34 rfl rfl (by conv => lhs; whnf) (lt_of_ble rfl)
    apply Wk.dat k2 Try.func18 rfl rfl rfl rfl rfl (lt_of_ble rfl)
    apply Wk.mv (by conv => lhs; whnf) (lt_of_ble rfl)
    apply Wk.ext rfl rfl (lt_of_ble rfl)
    apply Wk.ext rfl rfl (lt_of_ble rfl)
    apply Wk.ext rfl rfl (lt_of_ble rfl)
    apply Wk.alc 8 [.int .i64 0, .slice none 0 0] ze30 rfl rfl (lt_of_ble rfl)
    apply Wk.sto (i := 8) 2 true ty30 rfl rfl rfl rfl (Nat.le_of_ble_eq_true rfl) (lt_of_ble rfl)
    apply Wk.asg (by conv => lhs; whnf) (lt_of_ble rfl)
    apply Wk.asg (by conv => lhs; whnf) (lt_of_ble rfl)
    refine Wk.nil ?_
    refine AW.seq (AW.seq ?_)
    apply AW.list
    apply Wk.ld (i := 5) 2 true ty30 rfl rfl (by conv => lhs; whnf) (lt_of_ble rfl)
    apply Wk.ld (i := 8) 2 true ty30 rfl rfl (by conv => lhs; whnf) (lt_of_ble rfl)
    apply Wk.dat (liJoinN _ _) Try.func16 rfl rfl rfl rfl rfl (lt_of_ble rfl)
    apply Wk.un rfl (fun w => by simp [go_sem] <;> rfl) (lt_of_ble rfl)
    apply Wk.mv (by conv => lhs; whnf) (lt_of_ble rfl)
    apply Wk.gon 38 rfl rfl
    apply Wk.mv (by conv => lhs; whnf) (lt_of_ble rfl)
    apply Wk.gon 38 rfl rfl
    apply Wk.mv (by conv => lhs; whnf) (lt_of_ble rfl)
    apply Wk.gon 38 rfl rfl
    apply Wk.dat (liBytesE []) Try.func15 rfl rfl rfl rfl rfl (lt_of_ble rfl)
    apply Wk.gon 38 rfl rfl
    apply Wk.un rfl (fun w => by simp [go_sem] <;> rfl) (lt_of_ble rfl)
    apply Wk.pckF rfl (by conv => lhs; whnf) (lt_of_ble rfl)
    apply Wk.mv (by conv => lhs; whnf) (lt_of_ble rfl)
    apply Wk.gon 44 rfl rfl
    apply Wk.mv (by conv => lhs; whnf) (lt_of_ble rfl)
    apply Wk.gon 44 rfl rfl
    apply Wk.mv (by conv => lhs; whnf) (lt_of_ble rfl)
    apply Wk.gon 44 rfl rfl
    apply Wk.bin rfl rfl (r := .bool false) (fun w => by simp [go_sem]) (lt_of_ble rfl)
    apply Wk.pckF rfl (by conv => lhs; whnf) (lt_of_ble rfl)
    refine Wk.nil ?_
    refine AW.cond rfl (fun hc => by cases hc) (fun _ => AW.skip (thenA_normal ?_))
    refine AW.seq (AW.seq ?_)
    apply AW.list
    apply Wk.ld (i := 3) 2 true ty30 rfl rfl (by conv => lhs; whnf) (lt_of_ble rfl)
    apply Wk.dat (sjoinb m zs hj) Try.func19 rfl rfl rfl rfl rfl (lt_of_ble rfl)
    apply Wk.un rfl (fun w => by simp [go_sem] <;> rfl) (lt_of_ble rfl)
    apply Wk.mv (by conv => lhs; whnf) (lt_of_ble rfl)
    apply Wk.gon 52 rfl rfl
    apply Wk.ld (i := 4) 3 true ty34 rfl rfl (by conv => lhs; whnf) (lt_of_ble rfl)
    apply Wk.gon 52 rfl rfl
    apply Wk.dat (spartb (g, l, ys) hp) Try.func20 rfl rfl rfl rfl rfl (lt_of_ble rfl)
    apply Wk.gon 52 rfl rfl
    apply Wk.un rfl (fun w => by simp [go_sem] <;> rfl) (lt_of_ble rfl)
    apply Wk.pckF rfl (by conv => lhs; whnf) (lt_of_ble rfl)
    refine Wk.nil ?_
    refine AW.cond rfl (fun hc => by cases hc) (fun _ => AW.skip (thenA_normal ?_))
    refine AW.seq ?_
    apply AW.draw (hm := hmix) (cs := _)
    · apply Wk.lst 67 1 false [.int .u8 0] un22 ty5 ze5 rfl rfl (by rfl) (by rfl) (by decide) (by decide) rfl rfl (all_len rfl) (lt_of_ble rfl)
      apply Wk.fad 1 0 false fd30_1 rfl (lt_of_ble rfl)
      apply Wk.ld (i := 3) 1 false ty22 rfl rfl (by conv => lhs; whnf) (lt_of_ble rfl)
      apply Wk.appOR 67 1000 1 un22 ap5 rfl rfl rfl (.inr rfl) (by decide) (one_bytes _) (by simp) (by simp; omega) (lt_of_ble rfl)
      apply Wk.fad 2 0 false fd34_2 rfl (lt_of_ble rfl)
      apply Wk.ld (i := 4) 1 false ty22 rfl rfl (by conv => lhs; whnf) (lt_of_ble rfl)
      apply Wk.appOR 67 1000 1 un22 ap5 rfl rfl rfl (.inr rfl) (by decide) (one_bytes _) hz5 (by simp; omega) (lt_of_ble rfl)
      apply Wk.asg (by conv => lhs; whnf) (lt_of_ble rfl)
      refine Wk.nil ?_
      refine AW.seq (AW.seq ?_)
      apply AW.list
      apply Wk.mv (by conv => lhs; whnf) (lt_of_ble rfl)
      refine Wk.nil (AW.block ?_)
      refine AW.seq ?_
      apply AW.list
      apply Wk.bin rfl rfl (r := .bool true) (fun w => by simp [go_sem]) (lt_of_ble rfl)
      apply Wk.asg (by conv => lhs; whnf) (lt_of_ble rfl)
      refine Wk.nil ?_
      refine AW.cond rfl (fun _ => ?_) (fun hc => by cases hc)
      refine AW.seq ?_
      apply AW.list
      apply Wk.ld (i := 5) 2 true ty30 rfl rfl (by conv => lhs; whnf) (lt_of_ble rfl)
      apply Wk.dat (ijoinb _ _ hj2) Try.func21 rfl rfl rfl rfl rfl (lt_of_ble rfl)
      apply Wk.mv (by conv => lhs; whnf) (lt_of_ble rfl)
      apply Wk.gon 79 rfl rfl
      apply Wk.fad 1 0 false fd30_1 rfl (lt_of_ble rfl)
      apply Wk.gon 79 rfl rfl
      apply Wk.ld (i := 5) 1 false ty22 rfl rfl (by conv => lhs; whnf) (lt_of_ble rfl)
      apply Wk.gon 79 rfl rfl
      apply Wk.mv (by conv => lhs; whnf) (lt_of_ble rfl)
      apply Wk.gon 79 rfl rfl
      apply Wk.thaw 82 67 _ hX rfl (by rfl) as67
      apply Wk.dat (liBytesE (zs ++ ys)) Try.func15 rfl rfl rfl rfl rfl (lt_of_ble rfl)
      apply Wk.pckT rfl (by conv => lhs; whnf) (lt_of_ble rfl)
      apply Wk.mv (by conv => lhs; whnf) (lt_of_ble rfl)
      apply Wk.gon 85 rfl rfl
      apply Wk.mv (by conv => lhs; whnf) (lt_of_ble rfl)
      apply Wk.gon 85 rfl rfl
      apply Wk.len un22 rfl (lt_of_ble rfl)
      apply Wk.gon 85 rfl rfl
      apply Wk.bin rfl rfl (r := .bool true) (fun w => by simp [go_sem]) (lt_of_ble rfl)
      apply Wk.pckT rfl (by conv => lhs; whnf) (lt_of_ble rfl)
      apply Wk.asg (by conv => lhs; whnf) (lt_of_ble rfl)
      refine Wk.nil (AW.ret ?_)
      repeat (first | refine thenA_ret ?_ | refine inBlockA_ret ?_)
      exact RetQ.ret [] (.cons rfl .nil) ⟨rfl, rfl⟩ none_kept
    · rfl
    · rfl
  · rw [h] at e0
    have e1 := unf 2 e0
    have hlen2 : m ≠ 0 → ((zs.length + ys.length : Nat) : Int) = m := fun hm0 => by
      unfold putC at h
      rw [if_neg hm0] at h
      split at h
      · cases h
      · split at h
        · rename_i hh; exact hh.2
        · cases h
    have e2 := st_bad (m := m) (acc := zs) (d := (g, l, ys)) (by rw [e0]; decide)
    obtain ⟨k1, k2⟩ := key 0 [] (zs ++ ys) 2 e2.1 e2.2 (by rw [stM, putM]; simp only; rw [if_pos e1]) e0
    by_cases hm0 : m = 0
    · refine AW.seq ?_
      apply AW.list
      apply Wk.ld (i := 3) 2 true ty30 rfl rfl (by conv => lhs; whnf) (lt_of_ble rfl)
      apply Wk.ld (i := 4) 3 true ty34 rfl rfl (by conv => lhs; whnf) (lt_of_ble rfl)
      apply Wk.dat k1 Try.func13 rfl rfl rfl rfl rfl (lt_of_ble rfl)
      apply Wk.mv (by conv => lhs; whnf) (lt_of_ble rfl)
      apply Wk.ext rfl rfl (lt_of_ble rfl)
      apply Wk.ext rfl rfl (lt_of_ble rfl)
      apply Wk.ext rfl rfl (lt_of_ble rfl)
      apply Wk.alc 5 [.int .i64 0, .slice none 0 0] ze30 rfl rfl (lt_of_ble rfl)
      apply Wk.sto (i := 5) 2 true ty30 rfl rfl rfl rfl (Nat.le_of_ble_eq_true rfl) (lt_of_ble rfl)
      apply Wk.asg (by conv => lhs; whnf) (lt_of_ble rfl)
      apply Wk.asg (by conv => lhs; whnf) (lt_of_ble rfl)
      refine Wk.nil ?_
      refine AW.seq ?_
      apply AW.list
      apply Wk.ld (i := 3) 2 true ty30 rfl rfl (by conv => lhs; whnf) (lt_of_ble rfl)
      apply Wk.ld (i := 4) 3 true ty34 rfl rfl (by conv => lhs; whnf) (lt_of_ble rfl)
      apply Wk.dat k2 Try.func18 rfl rfl rfl rfl rfl (lt_of_ble rfl)
      apply Wk.mv (by conv => lhs; whnf) (lt_of_ble rfl)
      apply Wk.ext rfl rfl (lt_of_ble rfl)
      apply Wk.ext rfl rfl (lt_of_ble rfl)
      apply Wk.ext rfl rfl (lt_of_ble rfl)
      apply Wk.alc 8 [.int .i64 0, .slice none 0 0] ze30 rfl rfl (lt_of_ble rfl)
      apply Wk.sto (i := 8) 2 true ty30 rfl rfl rfl rfl (Nat.le_of_ble_eq_true rfl) (lt_of_ble rfl)
      apply Wk.asg (by conv => lhs; whnf) (lt_of_ble rfl)
      apply Wk.asg (by conv => lhs; whnf) (lt_of_ble rfl)
      refine Wk.nil ?_
      refine AW.seq (AW.seq ?_)
      apply AW.list
      apply Wk.ld (i := 5) 2 true ty30 rfl rfl (by conv => lhs; whnf) (lt_of_ble rfl)
      apply Wk.ld (i := 8) 2 true ty30 rfl rfl (by conv => lhs; whnf) (lt_of_ble rfl)
      apply Wk.dat (liJoinN 0 []) Try.func16 rfl rfl rfl rfl rfl (lt_of_ble rfl)
      apply Wk.un rfl (fun w => by simp [go_sem] <;> rfl) (lt_of_ble rfl)
      apply Wk.mv (by conv => lhs; whnf) (lt_of_ble rfl)
      apply Wk.gon 38 rfl rfl
      apply Wk.mv (by conv => lhs; whnf) (lt_of_ble rfl)
      apply Wk.gon 38 rfl rfl
      apply Wk.mv (by conv => lhs; whnf) (lt_of_ble rfl)
      apply Wk.gon 38 rfl rfl
      apply Wk.dat (liBytesE (zs ++ ys)) Try.func15 rfl rfl rfl rfl rfl (lt_of_ble rfl)
      apply Wk.gon 38 rfl rfl
      apply Wk.un rfl (fun w => by simp [go_sem] <;> rfl) (lt_of_ble rfl)
      apply Wk.pckF rfl (by conv => lhs; whnf) (lt_of_ble rfl)
      apply Wk.mv (by conv => lhs; whnf) (lt_of_ble rfl)
      apply Wk.gon 44 rfl rfl
      apply Wk.mv (by conv => lhs; whnf) (lt_of_ble rfl)
      apply Wk.gon 44 rfl rfl
      apply Wk.mv (by conv => lhs; whnf) (lt_of_ble rfl)
      apply Wk.gon 44 rfl rfl
      apply Wk.bin rfl rfl (r := .bool false) (fun w => by simp [go_sem]) (lt_of_ble rfl)
      apply Wk.pckF rfl (by conv => lhs; whnf) (lt_of_ble rfl)
      refine Wk.nil ?_
      refine AW.cond rfl (fun hc => by cases hc) (fun _ => AW.skip (thenA_normal ?_))
      refine AW.seq (AW.seq ?_)
      apply AW.list
      apply Wk.ld (i := 3) 2 true ty30 rfl rfl (by conv => lhs; whnf) (lt_of_ble rfl)
      apply Wk.dat (sjoinb m zs hj) Try.func19 rfl rfl rfl rfl rfl (lt_of_ble rfl)
      apply Wk.un rfl (fun w => by simp [go_sem] <;> rfl) (lt_of_ble rfl)
      apply Wk.mv (by conv => lhs; whnf) (lt_of_ble rfl)
      apply Wk.gon 52 rfl rfl
      apply Wk.ld (i := 4) 3 true ty34 rfl rfl (by conv => lhs; whnf) (lt_of_ble rfl)
      apply Wk.gon 52 rfl rfl
      apply Wk.dat (spartb (g, l, ys) hp) Try.func20 rfl rfl rfl rfl rfl (lt_of_ble rfl)
      apply Wk.gon 52 rfl rfl
      apply Wk.un rfl (fun w => by simp [go_sem] <;> rfl) (lt_of_ble rfl)
      apply Wk.pckF rfl (by conv => lhs; whnf) (lt_of_ble rfl)
      refine Wk.nil ?_
      refine AW.cond rfl (fun hc => by cases hc) (fun _ => AW.skip (thenA_normal ?_))
      refine AW.seq ?_
      apply AW.draw (hm := hmix) (cs := _)
      · apply Wk.lst 67 1 false [.int .u8 0] un22 ty5 ze5 rfl rfl (by rfl) (by rfl) (by decide) (by decide) rfl rfl (all_len rfl) (lt_of_ble rfl)
        apply Wk.fad 1 0 false fd30_1 rfl (lt_of_ble rfl)
        apply Wk.ld (i := 3) 1 false ty22 rfl rfl (by conv => lhs; whnf) (lt_of_ble rfl)
        apply Wk.appOR 67 1000 1 un22 ap5 rfl rfl rfl (.inr rfl) (by decide) (one_bytes _) (by simp) (by simp; omega) (lt_of_ble rfl)
        apply Wk.fad 2 0 false fd34_2 rfl (lt_of_ble rfl)
        apply Wk.ld (i := 4) 1 false ty22 rfl rfl (by conv => lhs; whnf) (lt_of_ble rfl)
        apply Wk.appOR 67 1000 1 un22 ap5 rfl rfl rfl (.inr rfl) (by decide) (one_bytes _) hz5 (by simp; omega) (lt_of_ble rfl)
        apply Wk.asg (by conv => lhs; whnf) (lt_of_ble rfl)
        refine Wk.nil ?_
        refine AW.seq (AW.seq ?_)
        apply AW.list
        apply Wk.mv (by conv => lhs; whnf) (lt_of_ble rfl)
        refine Wk.nil (AW.block ?_)
        refine AW.seq ?_
        apply AW.list
        apply Wk.bin rfl rfl (r := .bool false) (fun w => by simp [go_sem]) (lt_of_ble rfl)
        apply Wk.asg (by conv => lhs; whnf) (lt_of_ble rfl)
        refine Wk.nil ?_
        refine AW.cond rfl (fun hc => by cases hc) (fun _ => ?_)
        refine AW.seq ?_
        apply AW.list
        apply Wk.bin rfl rfl (r := .bool true) (fun w => by simp [go_sem]) (lt_of_ble rfl)
        apply Wk.asg (by conv => lhs; whnf) (lt_of_ble rfl)
        refine Wk.nil ?_
        refine AW.cond rfl (fun _ => ?_) (fun hc => by cases hc)
        refine AW.seq ?_
        apply AW.list
        apply Wk.ld (i := 5) 2 true ty30 rfl rfl (by conv => lhs; whnf) (lt_of_ble rfl)
        apply Wk.bld [.int .i64 0, .slice none 0 0] [(0, 1), (1, 1)] bl30 rfl (by conv => lhs; whnf) (lt_of_ble rfl)
        apply Wk.dat (liJoinN 0 []) Try.func16 rfl rfl rfl rfl rfl (lt_of_ble rfl)
        apply Wk.mv (by conv => lhs; whnf) (lt_of_ble rfl)
        apply Wk.gon 95 rfl rfl
        apply Wk.mv (by conv => lhs; whnf) (lt_of_ble rfl)
        apply Wk.gon 95 rfl rfl
        apply Wk.mv (by conv => lhs; whnf) (lt_of_ble rfl)
        apply Wk.gon 95 rfl rfl
        apply Wk.thaw 97 67 _ hX rfl (by rfl) as67
        apply Wk.dat (liBytesE (zs ++ ys)) Try.func15 rfl rfl rfl rfl rfl (lt_of_ble rfl)
        apply Wk.pckT rfl (by conv => lhs; whnf) (lt_of_ble rfl)
        apply Wk.mv (by conv => lhs; whnf) (lt_of_ble rfl)
        apply Wk.gon 100 rfl rfl
        apply Wk.fad 0 0 false fd30_0 rfl (lt_of_ble rfl)
        apply Wk.gon 100 rfl rfl
        apply Wk.ld (i := 3) 1 false ty3 rfl rfl (by conv => lhs; whnf) (lt_of_ble rfl)
        apply Wk.gon 100 rfl rfl
        apply Wk.bin rfl rfl (r := .bool true) (fun w => by simp [go_sem, hm0]) (lt_of_ble rfl)
        apply Wk.gon 100 rfl rfl
        apply Wk.mv (by conv => lhs; whnf) (lt_of_ble rfl)
        apply Wk.goff 104 (ok_move _) rfl rfl (by decide)
        apply Wk.goff 104 (ok_len un22) rfl rfl (by decide)
        apply Wk.goff 104 (ok_faddr fd30_0) rfl rfl (by decide)
        apply Wk.goff 104 (ok_load 3 ty3) rfl rfl (by decide)
        apply Wk.goff 104 (ok_bin _ _ _ _ _) rfl rfl (by decide)
        apply Wk.gon 100 rfl rfl
        apply Wk.pckT rfl (by conv => lhs; whnf) (lt_of_ble rfl)
        apply Wk.pckT rfl (by conv => lhs; whnf) (lt_of_ble rfl)
        apply Wk.asg (by conv => lhs; whnf) (lt_of_ble rfl)
        refine Wk.nil (AW.ret ?_)
        repeat (first | refine thenA_ret ?_ | refine inBlockA_ret ?_)
        exact RetQ.ret [] (.cons rfl .nil) ⟨rfl, rfl⟩ none_kept
      · rfl
      · rfl
    · have hl2 := hlen2 hm0
      refine AW.seq ?_
      apply AW.list
      apply Wk.ld (i := 3) 2 true ty30 rfl rfl (by conv => lhs; whnf) (lt_of_ble rfl)
      apply Wk.ld (i := 4) 3 true ty34 rfl rfl (by conv => lhs; whnf) (lt_of_ble rfl)
      apply Wk.dat k1 Try.func13 rfl rfl rfl rfl rfl (lt_of_ble rfl)
      apply Wk.mv (by conv => lhs; whnf) (lt_of_ble rfl)
      apply Wk.ext rfl rfl (lt_of_ble rfl)
      apply Wk.ext rfl rfl (lt_of_ble rfl)
      apply Wk.ext rfl rfl (lt_of_ble rfl)
      apply Wk.alc 5 [.int .i64 0, .slice none 0 0] ze30 rfl rfl (lt_of_ble rfl)
      apply Wk.sto (i := 5) 2 true ty30 rfl rfl rfl rfl (Nat.le_of_ble_eq_true rfl) (lt_of_ble rfl)
      apply Wk.asg (by conv => lhs; whnf) (lt_of_ble rfl)
      apply Wk.asg (by conv => lhs; whnf) (lt_of_ble rfl)
      refine Wk.nil ?_
      refine AW.seq ?_
      apply AW.list
      apply Wk.ld (i := 3) 2 true ty30 rfl rfl (by conv => lhs; whnf) (lt_of_ble rfl)
      apply Wk.ld (i := 4) 3 true ty34 rfl rfl (by conv => lhs; whnf) (lt_of_ble rfl)
      apply Wk.dat k2 Try.func18 rfl rfl rfl rfl rfl (lt_of_ble rfl)
      apply Wk.mv (by conv => lhs; whnf) (lt_of_ble rfl)
      apply Wk.ext rfl rfl (lt_of_ble rfl)
      apply Wk.ext rfl rfl (lt_of_ble rfl)
      apply Wk.ext rfl rfl (lt_of_ble rfl)
      apply Wk.alc 8 [.int .i64 0, .slice none 0 0] ze30 rfl rfl (lt_of_ble rfl)
      apply Wk.sto (i := 8) 2 true ty30 rfl rfl rfl rfl (Nat.le_of_ble_eq_true rfl) (lt_of_ble rfl)
      apply Wk.asg (by conv => lhs; whnf) (lt_of_ble rfl)
      apply Wk.asg (by conv => lhs; whnf) (lt_of_ble rfl)
      refine Wk.nil ?_
      refine AW.seq (AW.seq ?_)
      apply AW.list
      apply Wk.ld (i := 5) 2 true ty30 rfl rfl (by conv => lhs; whnf) (lt_of_ble rfl)
      apply Wk.ld (i := 8) 2 true ty30 rfl rfl (by conv => lhs; whnf) (lt_of_ble rfl)
      apply Wk.dat (liJoinN 0 []) Try.func16 rfl rfl rfl rfl rfl (lt_of_ble rfl)
      apply Wk.un rfl (fun w => by simp [go_sem] <;> rfl) (lt_of_ble rfl)
      apply Wk.mv (by conv => lhs; whnf) (lt_of_ble rfl)
      apply Wk.gon 38 rfl rfl
      apply Wk.mv (by conv => lhs; whnf) (lt_of_ble rfl)
      apply Wk.gon 38 rfl rfl
      apply Wk.mv (by conv => lhs; whnf) (lt_of_ble rfl)
      apply Wk.gon 38 rfl rfl
      apply Wk.dat (liBytesE (zs ++ ys)) Try.func15 rfl rfl rfl rfl rfl (lt_of_ble rfl)
      apply Wk.gon 38 rfl rfl
      apply Wk.un rfl (fun w => by simp [go_sem] <;> rfl) (lt_of_ble rfl)
      apply Wk.pckF rfl (by conv => lhs; whnf) (lt_of_ble rfl)
      apply Wk.mv (by conv => lhs; whnf) (lt_of_ble rfl)
      apply Wk.gon 44 rfl rfl
      apply Wk.mv (by conv => lhs; whnf) (lt_of_ble rfl)
      apply Wk.gon 44 rfl rfl
      apply Wk.mv (by conv => lhs; whnf) (lt_of_ble rfl)
      apply Wk.gon 44 rfl rfl
      apply Wk.bin rfl rfl (r := .bool false) (fun w => by simp [go_sem]) (lt_of_ble rfl)
      apply Wk.pckF rfl (by conv => lhs; whnf) (lt_of_ble rfl)
      refine Wk.nil ?_
      refine AW.cond rfl (fun hc => by cases hc) (fun _ => AW.skip (thenA_normal ?_))
      refine AW.seq (AW.seq ?_)
      apply AW.list
      apply Wk.ld (i := 3) 2 true ty30 rfl rfl (by conv => lhs; whnf) (lt_of_ble rfl)
      apply Wk.dat (sjoinb m zs hj) Try.func19 rfl rfl rfl rfl rfl (lt_of_ble rfl)
      apply Wk.un rfl (fun w => by simp [go_sem] <;> rfl) (lt_of_ble rfl)
      apply Wk.mv (by conv => lhs; whnf) (lt_of_ble rfl)
      apply Wk.gon 52 rfl rfl
      apply Wk.ld (i := 4) 3 true ty34 rfl rfl (by conv => lhs; whnf) (lt_of_ble rfl)
      apply Wk.gon 52 rfl rfl
      apply Wk.dat (spartb (g, l, ys) hp) Try.func20 rfl rfl rfl rfl rfl (lt_of_ble rfl)
      apply Wk.gon 52 rfl rfl
      apply Wk.un rfl (fun w => by simp [go_sem] <;> rfl) (lt_of_ble rfl)
      apply Wk.pckF rfl (by conv => lhs; whnf) (lt_of_ble rfl)
      refine Wk.nil ?_
      refine AW.cond rfl (fun hc => by cases hc) (fun _ => AW.skip (thenA_normal ?_))
      refine AW.seq ?_
      apply AW.draw (hm := hmix) (cs := _)
      · apply Wk.lst 67 1 false [.int .u8 0] un22 ty5 ze5 rfl rfl (by rfl) (by rfl) (by decide) (by decide) rfl rfl (all_len rfl) (lt_of_ble rfl)
        apply Wk.fad 1 0 false fd30_1 rfl (lt_of_ble rfl)
        apply Wk.ld (i := 3) 1 false ty22 rfl rfl (by conv => lhs; whnf) (lt_of_ble rfl)
        apply Wk.appOR 67 1000 1 un22 ap5 rfl rfl rfl (.inr rfl) (by decide) (one_bytes _) (by simp) (by simp; omega) (lt_of_ble rfl)
        apply Wk.fad 2 0 false fd34_2 rfl (lt_of_ble rfl)
        apply Wk.ld (i := 4) 1 false ty22 rfl rfl (by conv => lhs; whnf) (lt_of_ble rfl)
        apply Wk.appOR 67 1000 1 un22 ap5 rfl rfl rfl (.inr rfl) (by decide) (one_bytes _) hz5 (by simp; omega) (lt_of_ble rfl)
        apply Wk.asg (by conv => lhs; whnf) (lt_of_ble rfl)
        refine Wk.nil ?_
        refine AW.seq (AW.seq ?_)
        apply AW.list
        apply Wk.mv (by conv => lhs; whnf) (lt_of_ble rfl)
        refine Wk.nil (AW.block ?_)
        refine AW.seq ?_
        apply AW.list
        apply Wk.bin rfl rfl (r := .bool false) (fun w => by simp [go_sem]) (lt_of_ble rfl)
        apply Wk.asg (by conv => lhs; whnf) (lt_of_ble rfl)
        refine Wk.nil ?_
        refine AW.cond rfl (fun hc => by cases hc) (fun _ => ?_)
        refine AW.seq ?_
        apply AW.list
        apply Wk.bin rfl rfl (r := .bool true) (fun w => by simp [go_sem]) (lt_of_ble rfl)
        apply Wk.asg (by conv => lhs; whnf) (lt_of_ble rfl)
        refine Wk.nil ?_
        refine AW.cond rfl (fun _ => ?_) (fun hc => by cases hc)
        refine AW.seq ?_
        apply AW.list
        apply Wk.ld (i := 5) 2 true ty30 rfl rfl (by conv => lhs; whnf) (lt_of_ble rfl)
        apply Wk.bld [.int .i64 0, .slice none 0 0] [(0, 1), (1, 1)] bl30 rfl (by conv => lhs; whnf) (lt_of_ble rfl)
        apply Wk.dat (liJoinN 0 []) Try.func16 rfl rfl rfl rfl rfl (lt_of_ble rfl)
        apply Wk.mv (by conv => lhs; whnf) (lt_of_ble rfl)
        apply Wk.gon 95 rfl rfl
        apply Wk.mv (by conv => lhs; whnf) (lt_of_ble rfl)
        apply Wk.gon 95 rfl rfl
        apply Wk.mv (by conv => lhs; whnf) (lt_of_ble rfl)
        apply Wk.gon 95 rfl rfl
        apply Wk.thaw 97 67 _ hX rfl (by rfl) as67
        apply Wk.dat (liBytesE (zs ++ ys)) Try.func15 rfl rfl rfl rfl rfl (lt_of_ble rfl)
        apply Wk.pckT rfl (by conv => lhs; whnf) (lt_of_ble rfl)
        apply Wk.mv (by conv => lhs; whnf) (lt_of_ble rfl)
        apply Wk.gon 100 rfl rfl
        apply Wk.fad 0 0 false fd30_0 rfl (lt_of_ble rfl)
        apply Wk.gon 100 rfl rfl
        apply Wk.ld (i := 3) 1 false ty3 rfl rfl (by conv => lhs; whnf) (lt_of_ble rfl)
        apply Wk.gon 100 rfl rfl
        apply Wk.bin rfl rfl (r := .bool false) (fun w => by simp [go_sem, hm0]) (lt_of_ble rfl)
        apply Wk.gon 100 rfl rfl
        apply Wk.mv (by conv => lhs; whnf) (lt_of_ble rfl)
        apply Wk.gon 104 rfl rfl
        apply Wk.mv (by conv => lhs; whnf) (lt_of_ble rfl)
        apply Wk.gon 104 rfl rfl
        apply Wk.len un22 rfl (lt_of_ble rfl)
        apply Wk.gon 104 rfl rfl
        apply Wk.fad 0 0 false fd30_0 rfl (lt_of_ble rfl)
        apply Wk.gon 104 rfl rfl
        apply Wk.ld (i := 3) 1 false ty3 rfl rfl (by conv => lhs; whnf) (lt_of_ble rfl)
        apply Wk.gon 104 rfl rfl
        apply Wk.bin rfl rfl (r := .bool true) (fun w => by simp [go_sem] <;> omega) (lt_of_ble rfl)
        apply Wk.gon 100 rfl rfl
        apply Wk.pckF rfl (by conv => lhs; whnf) (lt_of_ble rfl)
        apply Wk.pckT rfl (by conv => lhs; whnf) (lt_of_ble rfl)
        apply Wk.asg (by conv => lhs; whnf) (lt_of_ble rfl)
        refine Wk.nil (AW.ret ?_)
        repeat (first | refine thenA_ret ?_ | refine inBlockA_ret ?_)
        exact RetQ.ret [] (.cons rfl .nil) ⟨rfl, rfl⟩ none_kept
      · rfl
      · rfl
  · rw [h] at e0
    have e1 := unf 3 e0
    have e2 := st_bad (m := m) (acc := zs) (d := (g, l, ys)) (by rw [e0]; decide)
    obtain ⟨k1, k2⟩ := key 0 [] [] 3 e2.1 e2.2 (by rw [stM, putM]; simp only; rw [if_neg (by omega)]) e0
    refine AW.seq ?_
    apply AW.list
    apply Wk.ld (i := 3) 2 true ty30 rfl rfl (by conv => lhs; whnf) (lt_of_ble rfl)
    apply Wk.ld (i := 4) 3 true ty34 rfl rfl (by conv => lhs; whnf) (lt_of_ble rfl)
    apply Wk.dat k1 Try.func13 rfl rfl rfl rfl rfl (lt_of_ble rfl)
    apply Wk.mv (by conv => lhs; whnf) (lt_of_ble rfl)
    apply Wk.ext rfl rfl (lt_of_ble rfl)
    apply Wk.ext rfl rfl (lt_of_ble rfl)
    apply Wk.ext rfl rfl (lt_of_ble rfl)
    apply Wk.alc 5 [.int .i64 0, .slice none 0 0] ze30 rfl rfl (lt_of_ble rfl)
    apply Wk.sto (i := 5) 2 true ty30 rfl rfl rfl rfl (Nat.le_of_ble_eq_true rfl) (lt_of_ble rfl)
    apply Wk.asg (by conv => lhs; whnf) (lt_of_ble rfl)
    apply Wk.asg (by conv => lhs; whnf) (lt_of_ble rfl)
    refine Wk.nil ?_
    refine AW.seq ?_
    apply AW.list
    apply Wk.ld (i := 3) 2 true ty30 rfl rfl (by conv => lhs; whnf) (lt_of_ble rfl)
    apply Wk.ld (i := 4) 3 true ty34 rfl rfl (by conv => lhs; whnf) (lt_of_ble rfl)
    apply Wk.dat k2 Try.func18 rfl rfl rfl rfl rfl (lt_of_ble rfl)
    apply Wk.mv (by conv => lhs; whnf) (lt_of_ble rfl)
    apply Wk.ext rfl rfl (lt_of_ble rfl)
    apply Wk.ext rfl rfl (lt_of_ble rfl)
    apply Wk.ext rfl rfl (lt_of_ble rfl)
    apply Wk.alc 8 [.int .i64 0, .slice none 0 0] ze30 rfl rfl (lt_of_ble rfl)
    apply Wk.sto (i := 8) 2 true ty30 rfl rfl rfl rfl (Nat.le_of_ble_eq_true rfl) (lt_of_ble rfl)
    apply Wk.asg (by conv => lhs; whnf) (lt_of_ble rfl)
    apply Wk.asg (by conv => lhs; whnf) (lt_of_ble rfl)
    refine Wk.nil ?_
    refine AW.seq (AW.seq ?_)
    apply AW.list
    apply Wk.ld (i := 5) 2 true ty30 rfl rfl (by conv => lhs; whnf) (lt_of_ble rfl)
    apply Wk.ld (i := 8) 2 true ty30 rfl rfl (by conv => lhs; whnf) (lt_of_ble rfl)
    apply Wk.dat (liJoinN 0 []) Try.func16 rfl rfl rfl rfl rfl (lt_of_ble rfl)
    apply Wk.un rfl (fun w => by simp [go_sem] <;> rfl) (lt_of_ble rfl)
    apply Wk.mv (by conv => lhs; whnf) (lt_of_ble rfl)
    apply Wk.gon 38 rfl rfl
    apply Wk.mv (by conv => lhs; whnf) (lt_of_ble rfl)
    apply Wk.gon 38 rfl rfl
    apply Wk.mv (by conv => lhs; whnf) (lt_of_ble rfl)
    apply Wk.gon 38 rfl rfl
    apply Wk.dat (liBytesE []) Try.func15 rfl rfl rfl rfl rfl (lt_of_ble rfl)
    apply Wk.gon 38 rfl rfl
    apply Wk.un rfl (fun w => by simp [go_sem] <;> rfl) (lt_of_ble rfl)
    apply Wk.pckF rfl (by conv => lhs; whnf) (lt_of_ble rfl)
    apply Wk.mv (by conv => lhs; whnf) (lt_of_ble rfl)
    apply Wk.gon 44 rfl rfl
    apply Wk.mv (by conv => lhs; whnf) (lt_of_ble rfl)
    apply Wk.gon 44 rfl rfl
    apply Wk.mv (by conv => lhs; whnf) (lt_of_ble rfl)
    apply Wk.gon 44 rfl rfl
    apply Wk.bin rfl rfl (r := .bool false) (fun w => by simp [go_sem]) (lt_of_ble rfl)
    apply Wk.pckF rfl (by conv => lhs; whnf) (lt_of_ble rfl)
    refine Wk.nil ?_
    refine AW.cond rfl (fun hc => by cases hc) (fun _ => AW.skip (thenA_normal ?_))
    refine AW.seq (AW.seq ?_)
    apply AW.list
    apply Wk.ld (i := 3) 2 true ty30 rfl rfl (by conv => lhs; whnf) (lt_of_ble rfl)
    apply Wk.dat (sjoinb m zs hj) Try.func19 rfl rfl rfl rfl rfl (lt_of_ble rfl)
    apply Wk.un rfl (fun w => by simp [go_sem] <;> rfl) (lt_of_ble rfl)
    apply Wk.mv (by conv => lhs; whnf) (lt_of_ble rfl)
    apply Wk.gon 52 rfl rfl
    apply Wk.ld (i := 4) 3 true ty34 rfl rfl (by conv => lhs; whnf) (lt_of_ble rfl)
    apply Wk.gon 52 rfl rfl
    apply Wk.dat (spartb (g, l, ys) hp) Try.func20 rfl rfl rfl rfl rfl (lt_of_ble rfl)
    apply Wk.gon 52 rfl rfl
    apply Wk.un rfl (fun w => by simp [go_sem] <;> rfl) (lt_of_ble rfl)
    apply Wk.pckF rfl (by conv => lhs; whnf) (lt_of_ble rfl)
    refine Wk.nil ?_
    refine AW.cond rfl (fun hc => by cases hc) (fun _ => AW.skip (thenA_normal ?_))
    refine AW.seq ?_
    apply AW.draw (hm := hmix) (cs := _)
    · apply Wk.lst 67 1 false [.int .u8 0] un22 ty5 ze5 rfl rfl (by rfl) (by rfl) (by decide) (by decide) rfl rfl (all_len rfl) (lt_of_ble rfl)
      apply Wk.fad 1 0 false fd30_1 rfl (lt_of_ble rfl)
      apply Wk.ld (i := 3) 1 false ty22 rfl rfl (by conv => lhs; whnf) (lt_of_ble rfl)
      apply Wk.appOR 67 1000 1 un22 ap5 rfl rfl rfl (.inr rfl) (by decide) (one_bytes _) (by simp) (by simp; omega) (lt_of_ble rfl)
      apply Wk.fad 2 0 false fd34_2 rfl (lt_of_ble rfl)
      apply Wk.ld (i := 4) 1 false ty22 rfl rfl (by conv => lhs; whnf) (lt_of_ble rfl)
      apply Wk.appOR 67 1000 1 un22 ap5 rfl rfl rfl (.inr rfl) (by decide) (one_bytes _) hz5 (by simp; omega) (lt_of_ble rfl)
      apply Wk.asg (by conv => lhs; whnf) (lt_of_ble rfl)
      refine Wk.nil ?_
      refine AW.seq (AW.seq ?_)
      apply AW.list
      apply Wk.mv (by conv => lhs; whnf) (lt_of_ble rfl)
      refine Wk.nil (AW.block ?_)
      refine AW.seq ?_
      apply AW.list
      apply Wk.bin rfl rfl (r := .bool false) (fun w => by simp [go_sem]) (lt_of_ble rfl)
      apply Wk.asg (by conv => lhs; whnf) (lt_of_ble rfl)
      refine Wk.nil ?_
      refine AW.cond rfl (fun hc => by cases hc) (fun _ => ?_)
      refine AW.seq ?_
      apply AW.list
      apply Wk.bin rfl rfl (r := .bool false) (fun w => by simp [go_sem]) (lt_of_ble rfl)
      apply Wk.asg (by conv => lhs; whnf) (lt_of_ble rfl)
      refine Wk.nil ?_
      refine AW.cond rfl (fun hc => by cases hc) (fun _ => AW.skip ?_)
      repeat (first | refine thenA_normal ?_ | refine inBlockA_normal ?_)
      refine AW.seq ?_
      apply AW.list
      apply Wk.mv (by conv => lhs; whnf) (lt_of_ble rfl)
      apply Wk.bin rfl rfl (r := .bool true) (fun w => by simp [go_sem]) (lt_of_ble rfl)
      apply Wk.mv (by conv => lhs; whnf) (lt_of_ble rfl)
      apply Wk.gon 114 rfl rfl
      apply Wk.ld (i := 5) 2 true ty30 rfl rfl (by conv => lhs; whnf) (lt_of_ble rfl)
      apply Wk.gon 114 rfl rfl
      apply Wk.bld [.int .i64 0, .slice none 0 0] [(0, 1), (1, 1)] bl30 rfl (by conv => lhs; whnf) (lt_of_ble rfl)
      apply Wk.gon 114 rfl rfl
      apply Wk.dat (liJoinN 0 []) Try.func16 rfl rfl rfl rfl rfl (lt_of_ble rfl)
      apply Wk.pckT rfl (by conv => lhs; whnf) (lt_of_ble rfl)
      apply Wk.mv (by conv => lhs; whnf) (lt_of_ble rfl)
      apply Wk.gon 119 rfl rfl
      apply Wk.mv (by conv => lhs; whnf) (lt_of_ble rfl)
      apply Wk.gon 119 rfl rfl
      apply Wk.len un22 rfl (lt_of_ble rfl)
      apply Wk.gon 119 rfl rfl
      apply Wk.bin rfl rfl (r := .bool true) (fun w => by simp [go_sem]) (lt_of_ble rfl)
      apply Wk.pckT rfl (by conv => lhs; whnf) (lt_of_ble rfl)
      apply Wk.asg (by conv => lhs; whnf) (lt_of_ble rfl)
      refine Wk.nil (AW.ret ?_)
      repeat (first | refine thenA_ret ?_ | refine inBlockA_ret ?_)
      exact RetQ.ret [] (.cons rfl .nil) ⟨rfl, rfl⟩ none_kept
    · rfl
    · rfl
namespace fnSegPut
set_option maxRecDepth 100000 in
theorem walk (a0 : Option Addr) (len0 cap0 : Nat) (z0 : List Int) (w : World) (w0 : IsRow .u8 w a0 len0 cap0 z0) :
    Calls Try.prog 4 #[.slice a0 len0 cap0] w fun e w' => e = .returned (.bool true) ∧ Below w.heap.size w w' := by
  by_cases hs0 : (1048576 : Int) < (len0 : Int)
  · go_enter Try.func4, Try.ntmps4
    go_wp2
    go_ret
    exact ⟨rfl, Below.refl _ _⟩
  obtain ⟨cz, hR0, _⟩ := w0.rd (by omega)
  obtain ⟨zs, rfl⟩ := byt_fin hR0.1
  exact (lawSegPut_ok zs).run hR0
end fnSegPut
end Go.Proofs.Ytpghbdigiplbiaa
