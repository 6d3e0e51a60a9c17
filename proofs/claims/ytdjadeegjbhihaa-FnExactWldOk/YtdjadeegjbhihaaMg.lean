/- Laws and contracts that the proof stands on: AbsIdx, AbsArr, AbsCopyI, AbsWldDead, AbsJoin, AbsRx, AbsFrm, AbsRun, AbsCrxOk, AbsWldOk. -/
import Derived.Test.YtdjadeegjbhihaaMa
import Derived.Test.YtdjadeegjbhihaaMb
import Derived.Test.YtdjadeegjbhihaaMc
import Derived.Test.YtdjadeegjbhihaaMd
import Derived.Test.YtdjadeegjbhihaaMe
import Derived.Test.YtdjadeegjbhihaaMf
import Derived.RowKit3
import Derived.Laws.MakeOwn
/- slices.IndexFunc and slices.ContainsFunc over lists that read as data. Written by tools/mk_AbsIdx.py. -/
namespace Go.Proofs.Ytdjadeegjbhihaa
open Go Go.RowKit
def idxN {α : Type} (q : α → Bool) : List α → Option Nat
  | [] => none
  | a :: l => if q a = true then some 0 else (idxN q l).map (· + 1)
def idxI {α : Type} (q : α → Bool) (l : List α) : Int := match idxN q l with | some k => (k : Int) | none => -1
theorem idxN_at {α : Type} {q : α → Bool} : ∀ {l : List α} {k : Nat} {d : α}, l[k]? = some d → q d = true → (∀ a ∈ l.take k, q a = false) → idxN q l = some k
  | [], k, d, h, _, _ => by simp at h
  | a :: l, 0, d, h, hd, _ => by
    obtain rfl := Option.some.inj h
    unfold idxN
    rw [if_pos hd]
  | a :: l, k + 1, d, h, hd, hk => by
    have h0 : q a = false := hk a (by simp)
    unfold idxN
    rw [if_neg (by rw [h0]; simp), idxN_at (l := l) (k := k) (by simpa using h) hd (fun b hb => hk b (by simp only [List.take_succ_cons]; exact List.mem_cons_of_mem _ hb))]
    rfl
theorem idxN_none {α : Type} {q : α → Bool} : ∀ {l : List α}, (∀ a ∈ l, q a = false) → idxN q l = none
  | [], _ => rfl
  | a :: l, h => by
    unfold idxN
    rw [if_neg (by rw [h a (by simp)]; simp), idxN_none (l := l) fun b hb => h b (List.mem_cons_of_mem _ hb)]
    rfl
theorem idxI_at {α : Type} {q : α → Bool} {l : List α} {k : Nat} {d : α} (h : l[k]? = some d) (hd : q d = true) (hk : ∀ a ∈ l.take k, q a = false) : idxI q l = (k : Int) := by
  unfold idxI
  rw [idxN_at h hd hk]
theorem idxI_none {α : Type} {q : α → Bool} {l : List α} (h : ∀ a ∈ l, q a = false) : idxI q l = -1 := by
  unfold idxI
  rw [idxN_none h]
theorem idxN_some {α : Type} {q : α → Bool} : ∀ {l : List α}, l.any q = true → ∃ k, idxN q l = some k
  | [], h => by simp at h
  | a :: l, h => by
    unfold idxN
    split
    · exact ⟨0, rfl⟩
    · rename_i hn
      have h2 : l.any q = true := by
        simp only [List.any_cons, Bool.or_eq_true] at h
        rcases h with h | h
        · exact absurd h hn
        · exact h
      obtain ⟨k, hk⟩ := idxN_some h2
      exact ⟨k + 1, by rw [hk]; rfl⟩
theorem idxI_any {α : Type} {q : α → Bool} (l : List α) : decide (0 ≤ idxI q l) = l.any q := by
  cases h : l.any q with
  | false =>
    rw [idxI_none (q := q) (l := l) fun a ha => by
      cases hq : q a with
      | false => rfl
      | true => rw [List.any_eq_true.2 ⟨a, ha, hq⟩] at h; cases h]
    rfl
  | true =>
    obtain ⟨k, hk⟩ := idxN_some h
    unfold idxI
    rw [hk]
    simp
theorem in_ans {x : A} (hx : x.within [] = true) : PostIn ([] ++ []) (fun r bs => r = x ∧ bs = []) := by
  rintro r bs ⟨rfl, rfl⟩
  exact ⟨hx, fun i x h => by cases h⟩
set_option maxHeartbeats 2000000 in
set_option maxRecDepth 100000 in
theorem idxEn_ok (es : List (EN)) (q : EN → Bool) (hq : ∀ a ∈ es, DataOk Try.prog 63 [(A.agg ((enD a).map A.d))] (.d (.v (.bool (q a))))) : DataOk Try.prog 98 [.d (.row (es.map enD)), .fn (.func 63) [] []] (.d (.v (.int .i64 (idxI q es)))) := by
  have hz : ∀ e ∈ (es.map enD), e.length = 28 := by
    intro e he
    obtain ⟨a, _, rfl⟩ := List.mem_map.1 he
    rfl
  refine Spec.intro (n := 19) (rv := [.tmp 4]) Try.func98 rfl rfl rfl (by simp) fun C hN hX => ?_
  refine AW.bound (x := .tmp 0) (es := (es.map enD)) rfl fun hbnd => ?_
  refine AW.seq ?_
  apply AW.list
  apply Wk.asg (by conv => lhs; whnf) (lt_of_ble rfl)
  refine Wk.nil ?_
  refine AW.seq (AW.seq ?_)
  apply AW.list
  apply Wk.mv (by conv => lhs; whnf) (lt_of_ble rfl)
  apply Wk.len un54 rfl (lt_of_ble rfl)
  apply Wk.mv (by conv => lhs; whnf) (lt_of_ble rfl)
  refine Wk.nil (AW.block ?_)
  refine AW.loop (fun k : Nat => St.of 19 [(0, .d (.row (es.map enD))), (1, .fn (.func 63) [] []), (7, .d (.v (.int .i64 (((es.map enD).length : Nat) : Int)))), (8, .d (.v (.int .i64 (k : Int))))] []) (fun k => k ≤ es.length ∧ ∀ a ∈ es.take k, q a = false) (fun k => es.length - k) 0 ⟨Nat.zero_le _, by simp⟩ ?_ ?_
  · exact fun a w => Rel.keep ⟨rfl, .cons rfl rfl (.cons rfl rfl (.cons rfl rfl (.cons rfl rfl .nil))), .nil, hN.mono (by simp [keys])⟩
  rintro k ⟨hk, hk2⟩
  show AW Try.prog C _ _ (St.of 19 [(0, .d (.row (es.map enD))), (1, .fn (.func 63) [] []), (7, .d (.v (.int .i64 (((es.map enD).length : Nat) : Int)))), (8, .d (.v (.int .i64 (k : Int))))] [])
  refine AW.seq ?_
  apply AW.list
  apply Wk.bin rfl rfl (fun w => by simp [go_sem] <;> rfl) (lt_of_ble rfl)
  refine Wk.nil ?_
  refine AW.seq ?_
  refine AW.cond rfl (fun hc => ?_) (fun hc => ?_)
  · have hlt : k < es.length := by simpa using hc
    obtain ⟨d, hd⟩ : ∃ d, es[k]? = some d := ⟨_, List.getElem?_eq_getElem hlt⟩
    have cd := hq d (List.mem_of_getElem? hd)
    have hget : (es.map enD)[k]? = some (enD d) := by simp [hd]
    have hklt : k < (es.map enD).length := by simpa using hlt
    have hb64 : es.length ≤ 9223372036854775807 := by simpa using hbnd
    refine AW.skip ?_
    repeat (first | refine thenA_normal ?_ | refine inBlockA_normal ?_)
    refine AW.seq (AW.block (AW.seq ?_))
    apply AW.list
    apply Wk.mv (by conv => lhs; whnf) (lt_of_ble rfl)
    apply Wk.asg (by conv => lhs; whnf) (lt_of_ble rfl)
    refine Wk.nil ?_
    refine AW.seq ?_
    apply AW.list
    apply Wk.mv (by conv => lhs; whnf) (lt_of_ble rfl)
    apply Wk.mv (by conv => lhs; whnf) (lt_of_ble rfl)
    apply Wk.mv (by conv => lhs; whnf) (lt_of_ble rfl)
    apply Wk.iad 28 true un54 ty77 rfl rfl hklt hz (lt_of_ble rfl)
    apply Wk.ldr 28 true ty77 rfl hget (by conv => lhs; whnf) (lt_of_ble rfl)
    apply Wk.clf [] [] cd (in_ans rfl) ⟨_, _, rfl, rfl⟩ Try.func63 rfl rfl rfl rfl (fun i hi => by cases hi) rfl (fun i hi => by cases hi) (lt_of_ble rfl)
    rintro r bs' ⟨rfl, rfl⟩
    refine Wk.nil ?_
    refine AW.cond rfl (fun hb => ?_) (fun hb => ?_)
    · refine AW.seq ?_
      apply AW.list
      apply Wk.mv (by conv => lhs; whnf) (lt_of_ble rfl)
      apply Wk.asg (by conv => lhs; whnf) (lt_of_ble rfl)
      refine Wk.nil (AW.ret ?_)
      repeat (first | refine thenA_ret ?_ | refine inBlockA_ret ?_)
      rw [idxI_at hd hb hk2]
      exact RetQ.ret [] (.cons rfl .nil) ⟨rfl, rfl⟩ none_kept
    · refine AW.skip ?_
      repeat (first | refine thenA_normal ?_ | refine inBlockA_normal ?_)
      apply AW.list
      apply Wk.addi rfl rfl (by omega) (lt_of_ble rfl)
      apply Wk.mv (by conv => lhs; whnf) (lt_of_ble rfl)
      refine Wk.nil ?_
      refine ⟨k + 1, ⟨by omega, fun a ha => ?_⟩, by omega, fun a w => Rel.keep ⟨rfl, .cons rfl rfl (.cons rfl rfl (.cons rfl rfl (.cons rfl rfl .nil))), .nil, hN.mono (by simp [keys])⟩⟩
      rw [List.take_add_one, hd] at ha
      rcases List.mem_append.1 ha with h | h
      · exact hk2 a h
      · obtain rfl : a = d := by simpa using h
        exact hb
  · have hke : k = es.length := by
      simp at hc
      omega
    subst hke
    rw [List.take_length] at hk2
    refine AW.exit ?_
    repeat (first | refine inBlockA_same ?_ | refine thenA_exit ?_)
    repeat (first | refine thenA_normal ?_ | refine inBlockA_normal ?_)
    refine AW.seq ?_
    apply AW.list
    apply Wk.asg (by conv => lhs; whnf) (lt_of_ble rfl)
    refine Wk.nil (AW.ret ?_)
    repeat (first | refine thenA_ret ?_ | refine inBlockA_ret ?_)
    rw [idxI_none hk2]
    exact RetQ.ret [] (.cons rfl .nil) ⟨rfl, rfl⟩ none_kept
theorem hasEn_ok (es : List (EN)) (q : EN → Bool) (hq : ∀ a ∈ es, DataOk Try.prog 63 [(A.agg ((enD a).map A.d))] (.d (.v (.bool (q a))))) : DataOk Try.prog 62 [.d (.row (es.map enD)), .fn (.func 63) [] []] (.d (.v (.bool (es.any q)))) := by
  have hi := idxEn_ok es q hq
  have ha := idxI_any (q := q) es
  refine Spec.intro (n := 9) (rv := [.tmp 4]) Try.func62 rfl rfl rfl (by simp) fun C hN hX => ?_
  refine AW.seq ?_
  apply AW.list
  apply Wk.asg (by conv => lhs; whnf) (lt_of_ble rfl)
  refine Wk.nil ?_
  refine AW.seq ?_
  apply AW.list
  apply Wk.mv (by conv => lhs; whnf) (lt_of_ble rfl)
  apply Wk.mv (by conv => lhs; whnf) (lt_of_ble rfl)
  apply Wk.dat hi Try.func98 rfl rfl rfl rfl rfl (lt_of_ble rfl)
  apply Wk.bin rfl rfl (r := .bool (es.any q)) (fun w => by rw [← ha]; simp [go_sem]) (lt_of_ble rfl)
  apply Wk.asg (by conv => lhs; whnf) (lt_of_ble rfl)
  refine Wk.nil (AW.ret ?_)
  repeat (first | refine thenA_ret ?_ | refine inBlockA_ret ?_)
  exact RetQ.ret [] (.cons rfl .nil) ⟨rfl, rfl⟩ none_kept
set_option maxHeartbeats 2000000 in
set_option maxRecDepth 100000 in
theorem idxMs_ok (es : List (List (Fin 256))) (q : List (Fin 256) → Bool) (hq : ∀ a ∈ es, DataOk Try.prog 127 [(A.d (fbytes a))] (.d (.v (.bool (q a))))) : DataOk Try.prog 137 [.d (.row (es.map bsC)), .fn (.func 127) [] []] (.d (.v (.int .i64 (idxI q es)))) := by
  have hz : ∀ e ∈ (es.map bsC), e.length = 1 := by
    intro e he
    obtain ⟨a, _, rfl⟩ := List.mem_map.1 he
    rfl
  refine Spec.intro (n := 19) (rv := [.tmp 4]) Try.func137 rfl rfl rfl (by simp) fun C hN hX => ?_
  refine AW.bound (x := .tmp 0) (es := (es.map bsC)) rfl fun hbnd => ?_
  refine AW.seq ?_
  apply AW.list
  apply Wk.asg (by conv => lhs; whnf) (lt_of_ble rfl)
  refine Wk.nil ?_
  refine AW.seq (AW.seq ?_)
  apply AW.list
  apply Wk.mv (by conv => lhs; whnf) (lt_of_ble rfl)
  apply Wk.len un75 rfl (lt_of_ble rfl)
  apply Wk.mv (by conv => lhs; whnf) (lt_of_ble rfl)
  refine Wk.nil (AW.block ?_)
  refine AW.loop (fun k : Nat => St.of 19 [(0, .d (.row (es.map bsC))), (1, .fn (.func 127) [] []), (7, .d (.v (.int .i64 (((es.map bsC).length : Nat) : Int)))), (8, .d (.v (.int .i64 (k : Int))))] []) (fun k => k ≤ es.length ∧ ∀ a ∈ es.take k, q a = false) (fun k => es.length - k) 0 ⟨Nat.zero_le _, by simp⟩ ?_ ?_
  · exact fun a w => Rel.keep ⟨rfl, .cons rfl rfl (.cons rfl rfl (.cons rfl rfl (.cons rfl rfl .nil))), .nil, hN.mono (by simp [keys])⟩
  rintro k ⟨hk, hk2⟩
  show AW Try.prog C _ _ (St.of 19 [(0, .d (.row (es.map bsC))), (1, .fn (.func 127) [] []), (7, .d (.v (.int .i64 (((es.map bsC).length : Nat) : Int)))), (8, .d (.v (.int .i64 (k : Int))))] [])
  refine AW.seq ?_
  apply AW.list
  apply Wk.bin rfl rfl (fun w => by simp [go_sem] <;> rfl) (lt_of_ble rfl)
  refine Wk.nil ?_
  refine AW.seq ?_
  refine AW.cond rfl (fun hc => ?_) (fun hc => ?_)
  · have hlt : k < es.length := by simpa using hc
    obtain ⟨d, hd⟩ : ∃ d, es[k]? = some d := ⟨_, List.getElem?_eq_getElem hlt⟩
    have cd := hq d (List.mem_of_getElem? hd)
    have hget : (es.map bsC)[k]? = some (bsC d) := by simp [hd]
    have hklt : k < (es.map bsC).length := by simpa using hlt
    have hb64 : es.length ≤ 9223372036854775807 := by simpa using hbnd
    refine AW.skip ?_
    repeat (first | refine thenA_normal ?_ | refine inBlockA_normal ?_)
    refine AW.seq (AW.block (AW.seq ?_))
    apply AW.list
    apply Wk.mv (by conv => lhs; whnf) (lt_of_ble rfl)
    apply Wk.asg (by conv => lhs; whnf) (lt_of_ble rfl)
    refine Wk.nil ?_
    refine AW.seq ?_
    apply AW.list
    apply Wk.mv (by conv => lhs; whnf) (lt_of_ble rfl)
    apply Wk.mv (by conv => lhs; whnf) (lt_of_ble rfl)
    apply Wk.mv (by conv => lhs; whnf) (lt_of_ble rfl)
    apply Wk.iad 1 false un75 ty64 rfl rfl hklt hz (lt_of_ble rfl)
    apply Wk.ldr 1 false ty64 rfl hget (by conv => lhs; whnf) (lt_of_ble rfl)
    apply Wk.clf [] [] cd (in_ans rfl) ⟨_, _, rfl, rfl⟩ Try.func127 rfl rfl rfl rfl (fun i hi => by cases hi) rfl (fun i hi => by cases hi) (lt_of_ble rfl)
    rintro r bs' ⟨rfl, rfl⟩
    refine Wk.nil ?_
    refine AW.cond rfl (fun hb => ?_) (fun hb => ?_)
    · refine AW.seq ?_
      apply AW.list
      apply Wk.mv (by conv => lhs; whnf) (lt_of_ble rfl)
      apply Wk.asg (by conv => lhs; whnf) (lt_of_ble rfl)
      refine Wk.nil (AW.ret ?_)
      repeat (first | refine thenA_ret ?_ | refine inBlockA_ret ?_)
      rw [idxI_at hd hb hk2]
      exact RetQ.ret [] (.cons rfl .nil) ⟨rfl, rfl⟩ none_kept
    · refine AW.skip ?_
      repeat (first | refine thenA_normal ?_ | refine inBlockA_normal ?_)
      apply AW.list
      apply Wk.addi rfl rfl (by omega) (lt_of_ble rfl)
      apply Wk.mv (by conv => lhs; whnf) (lt_of_ble rfl)
      refine Wk.nil ?_
      refine ⟨k + 1, ⟨by omega, fun a ha => ?_⟩, by omega, fun a w => Rel.keep ⟨rfl, .cons rfl rfl (.cons rfl rfl (.cons rfl rfl (.cons rfl rfl .nil))), .nil, hN.mono (by simp [keys])⟩⟩
      rw [List.take_add_one, hd] at ha
      rcases List.mem_append.1 ha with h | h
      · exact hk2 a h
      · obtain rfl : a = d := by simpa using h
        exact hb
  · have hke : k = es.length := by
      simp at hc
      omega
    subst hke
    rw [List.take_length] at hk2
    refine AW.exit ?_
    repeat (first | refine inBlockA_same ?_ | refine thenA_exit ?_)
    repeat (first | refine thenA_normal ?_ | refine inBlockA_normal ?_)
    refine AW.seq ?_
    apply AW.list
    apply Wk.asg (by conv => lhs; whnf) (lt_of_ble rfl)
    refine Wk.nil (AW.ret ?_)
    repeat (first | refine thenA_ret ?_ | refine inBlockA_ret ?_)
    rw [idxI_none hk2]
    exact RetQ.ret [] (.cons rfl .nil) ⟨rfl, rfl⟩ none_kept
theorem hasMs_ok (es : List (List (Fin 256))) (q : List (Fin 256) → Bool) (hq : ∀ a ∈ es, DataOk Try.prog 127 [(A.d (fbytes a))] (.d (.v (.bool (q a))))) : DataOk Try.prog 128 [.d (.row (es.map bsC)), .fn (.func 127) [] []] (.d (.v (.bool (es.any q)))) := by
  have hi := idxMs_ok es q hq
  have ha := idxI_any (q := q) es
  refine Spec.intro (n := 9) (rv := [.tmp 4]) Try.func128 rfl rfl rfl (by simp) fun C hN hX => ?_
  refine AW.seq ?_
  apply AW.list
  apply Wk.asg (by conv => lhs; whnf) (lt_of_ble rfl)
  refine Wk.nil ?_
  refine AW.seq ?_
  apply AW.list
  apply Wk.mv (by conv => lhs; whnf) (lt_of_ble rfl)
  apply Wk.mv (by conv => lhs; whnf) (lt_of_ble rfl)
  apply Wk.dat hi Try.func137 rfl rfl rfl rfl rfl (lt_of_ble rfl)
  apply Wk.bin rfl rfl (r := .bool (es.any q)) (fun w => by rw [← ha]; simp [go_sem]) (lt_of_ble rfl)
  apply Wk.asg (by conv => lhs; whnf) (lt_of_ble rfl)
  refine Wk.nil (AW.ret ?_)
  repeat (first | refine thenA_ret ?_ | refine inBlockA_ret ?_)
  exact RetQ.ret [] (.cons rfl .nil) ⟨rfl, rfl⟩ none_kept
set_option maxHeartbeats 2000000 in
set_option maxRecDepth 100000 in
theorem idxNm_ok (es : List (MSG)) (q : MSG → Bool) (hq : ∀ a ∈ es, DataOk Try.prog 94 [(A.agg ((msgC a).map A.d))] (.d (.v (.bool (q a))))) : DataOk Try.prog 129 [.d (.row (es.map msgC)), .fn (.func 94) [] []] (.d (.v (.int .i64 (idxI q es)))) := by
  have hz : ∀ e ∈ (es.map msgC), e.length = 2 := by
    intro e he
    obtain ⟨a, _, rfl⟩ := List.mem_map.1 he
    rfl
  refine Spec.intro (n := 19) (rv := [.tmp 4]) Try.func129 rfl rfl rfl (by simp) fun C hN hX => ?_
  refine AW.bound (x := .tmp 0) (es := (es.map msgC)) rfl fun hbnd => ?_
  refine AW.seq ?_
  apply AW.list
  apply Wk.asg (by conv => lhs; whnf) (lt_of_ble rfl)
  refine Wk.nil ?_
  refine AW.seq (AW.seq ?_)
  apply AW.list
  apply Wk.mv (by conv => lhs; whnf) (lt_of_ble rfl)
  apply Wk.len un78 rfl (lt_of_ble rfl)
  apply Wk.mv (by conv => lhs; whnf) (lt_of_ble rfl)
  refine Wk.nil (AW.block ?_)
  refine AW.loop (fun k : Nat => St.of 19 [(0, .d (.row (es.map msgC))), (1, .fn (.func 94) [] []), (7, .d (.v (.int .i64 (((es.map msgC).length : Nat) : Int)))), (8, .d (.v (.int .i64 (k : Int))))] []) (fun k => k ≤ es.length ∧ ∀ a ∈ es.take k, q a = false) (fun k => es.length - k) 0 ⟨Nat.zero_le _, by simp⟩ ?_ ?_
  · exact fun a w => Rel.keep ⟨rfl, .cons rfl rfl (.cons rfl rfl (.cons rfl rfl (.cons rfl rfl .nil))), .nil, hN.mono (by simp [keys])⟩
  rintro k ⟨hk, hk2⟩
  show AW Try.prog C _ _ (St.of 19 [(0, .d (.row (es.map msgC))), (1, .fn (.func 94) [] []), (7, .d (.v (.int .i64 (((es.map msgC).length : Nat) : Int)))), (8, .d (.v (.int .i64 (k : Int))))] [])
  refine AW.seq ?_
  apply AW.list
  apply Wk.bin rfl rfl (fun w => by simp [go_sem] <;> rfl) (lt_of_ble rfl)
  refine Wk.nil ?_
  refine AW.seq ?_
  refine AW.cond rfl (fun hc => ?_) (fun hc => ?_)
  · have hlt : k < es.length := by simpa using hc
    obtain ⟨d, hd⟩ : ∃ d, es[k]? = some d := ⟨_, List.getElem?_eq_getElem hlt⟩
    have cd := hq d (List.mem_of_getElem? hd)
    have hget : (es.map msgC)[k]? = some (msgC d) := by simp [hd]
    have hklt : k < (es.map msgC).length := by simpa using hlt
    have hb64 : es.length ≤ 9223372036854775807 := by simpa using hbnd
    refine AW.skip ?_
    repeat (first | refine thenA_normal ?_ | refine inBlockA_normal ?_)
    refine AW.seq (AW.block (AW.seq ?_))
    apply AW.list
    apply Wk.mv (by conv => lhs; whnf) (lt_of_ble rfl)
    apply Wk.asg (by conv => lhs; whnf) (lt_of_ble rfl)
    refine Wk.nil ?_
    refine AW.seq ?_
    apply AW.list
    apply Wk.mv (by conv => lhs; whnf) (lt_of_ble rfl)
    apply Wk.mv (by conv => lhs; whnf) (lt_of_ble rfl)
    apply Wk.mv (by conv => lhs; whnf) (lt_of_ble rfl)
    apply Wk.iad 2 true un78 ty92 rfl rfl hklt hz (lt_of_ble rfl)
    apply Wk.ldr 2 true ty92 rfl hget (by conv => lhs; whnf) (lt_of_ble rfl)
    apply Wk.clf [] [] cd (in_ans rfl) ⟨_, _, rfl, rfl⟩ Try.func94 rfl rfl rfl rfl (fun i hi => by cases hi) rfl (fun i hi => by cases hi) (lt_of_ble rfl)
    rintro r bs' ⟨rfl, rfl⟩
    refine Wk.nil ?_
    refine AW.cond rfl (fun hb => ?_) (fun hb => ?_)
    · refine AW.seq ?_
      apply AW.list
      apply Wk.mv (by conv => lhs; whnf) (lt_of_ble rfl)
      apply Wk.asg (by conv => lhs; whnf) (lt_of_ble rfl)
      refine Wk.nil (AW.ret ?_)
      repeat (first | refine thenA_ret ?_ | refine inBlockA_ret ?_)
      rw [idxI_at hd hb hk2]
      exact RetQ.ret [] (.cons rfl .nil) ⟨rfl, rfl⟩ none_kept
    · refine AW.skip ?_
      repeat (first | refine thenA_normal ?_ | refine inBlockA_normal ?_)
      apply AW.list
      apply Wk.addi rfl rfl (by omega) (lt_of_ble rfl)
      apply Wk.mv (by conv => lhs; whnf) (lt_of_ble rfl)
      refine Wk.nil ?_
      refine ⟨k + 1, ⟨by omega, fun a ha => ?_⟩, by omega, fun a w => Rel.keep ⟨rfl, .cons rfl rfl (.cons rfl rfl (.cons rfl rfl (.cons rfl rfl .nil))), .nil, hN.mono (by simp [keys])⟩⟩
      rw [List.take_add_one, hd] at ha
      rcases List.mem_append.1 ha with h | h
      · exact hk2 a h
      · obtain rfl : a = d := by simpa using h
        exact hb
  · have hke : k = es.length := by
      simp at hc
      omega
    subst hke
    rw [List.take_length] at hk2
    refine AW.exit ?_
    repeat (first | refine inBlockA_same ?_ | refine thenA_exit ?_)
    repeat (first | refine thenA_normal ?_ | refine inBlockA_normal ?_)
    refine AW.seq ?_
    apply AW.list
    apply Wk.asg (by conv => lhs; whnf) (lt_of_ble rfl)
    refine Wk.nil (AW.ret ?_)
    repeat (first | refine thenA_ret ?_ | refine inBlockA_ret ?_)
    rw [idxI_none hk2]
    exact RetQ.ret [] (.cons rfl .nil) ⟨rfl, rfl⟩ none_kept
theorem hasNm_ok (es : List (MSG)) (q : MSG → Bool) (hq : ∀ a ∈ es, DataOk Try.prog 94 [(A.agg ((msgC a).map A.d))] (.d (.v (.bool (q a))))) : DataOk Try.prog 95 [.d (.row (es.map msgC)), .fn (.func 94) [] []] (.d (.v (.bool (es.any q)))) := by
  have hi := idxNm_ok es q hq
  have ha := idxI_any (q := q) es
  refine Spec.intro (n := 9) (rv := [.tmp 4]) Try.func95 rfl rfl rfl (by simp) fun C hN hX => ?_
  refine AW.seq ?_
  apply AW.list
  apply Wk.asg (by conv => lhs; whnf) (lt_of_ble rfl)
  refine Wk.nil ?_
  refine AW.seq ?_
  apply AW.list
  apply Wk.mv (by conv => lhs; whnf) (lt_of_ble rfl)
  apply Wk.mv (by conv => lhs; whnf) (lt_of_ble rfl)
  apply Wk.dat hi Try.func129 rfl rfl rfl rfl rfl (lt_of_ble rfl)
  apply Wk.bin rfl rfl (r := .bool (es.any q)) (fun w => by rw [← ha]; simp [go_sem]) (lt_of_ble rfl)
  apply Wk.asg (by conv => lhs; whnf) (lt_of_ble rfl)
  refine Wk.nil (AW.ret ?_)
  repeat (first | refine thenA_ret ?_ | refine inBlockA_ret ?_)
  exact RetQ.ret [] (.cons rfl .nil) ⟨rfl, rfl⟩ none_kept
end Go.Proofs.Ytdjadeegjbhihaa

/- An element's address in an array that lies in a variable; a list of pieces is made, with room. -/
namespace Go.Proofs.Ytdjadeegjbhihaa
open Go Go.RowKit
section
variable {P : Program} {C : Ctx} {ops : Array Oper} {os : List Oper} {cs : List Cert} {σ : St} {K : St → Prop} {d : Nat} {ty : TypeId} {pos : String} {af : Array Edge}
def rIArr (x y : Operand) (sz len : Nat) (σ : St) : Option A :=
  match aev σ x, aev σ y with
  | .ptr i o, .d (.v (.int _ n)) => if 0 ≤ n ∧ n < (len : Int) then some (.ptr i (o + n.toNat * sz)) else none
  | _, _ => none
theorem ok_iarr {xt e : TypeId} {x y : Operand} {sz len : Nat} {row : Bool} (hu : P.underlying xt = some (.array len e)) (ht : tyOf P e = some (sz, row)) :
    OpOk P C ops ⟨some d, .indexAddr xt x y, ty, pos, af, none⟩ ⟨kof x ++ kof y, [T d], beh1 (rIArr x y sz len) d⟩ :=
  OpOk.read rfl rfl (fun σ => by unfold rIArr; rw [aev_mask (fun k h => List.mem_append_left _ h), aev_mask (fun k h => List.mem_append_right _ h)]) fun σ a w F E H r hR h => by
    unfold rIArr at h
    split at h
    · rename_i i o kd n he hi
      split at h
      · rename_i hc
        obtain rfl := Option.some.inj h
        have hd2 := hR.ev y
        rw [hi] at hd2
        have e2 := den_v hd2
        have hd1 := hR.ev x
        rw [he] at hd1
        obtain ⟨b, hE, hv⟩ := den_ptr hd1
        refine ⟨.pointer (some ⟨b, o + n.toNat * sz, none⟩), ?_, .ptr i _ b hE⟩
        simp [execOp, hv, e2, Instr.indexAt, asIntOf, run_underlying hu, run_size ht, hc, Instr.sureAddr, add_at']
      · cases h
    · cases h
theorem Wk.iap {xt e : TypeId} {x y : Operand} (sz len : Nat) (row : Bool) {kd : IntKind} {i o k : Nat} (hu : P.underlying xt = some (.array len e)) (ht : tyOf P e = some (sz, row)) (hx : aev σ x = .ptr i o) (hy : aev σ y = .d (.v (.int kd (k : Int))))
    (hk : k < len) (hd : d < σ.n) (h : Wk P C ops os cs (σ.put (T d) (.a (.ptr i (o + k * sz)))) K) :
    Wk P C ops (⟨some d, .indexAddr xt x y, ty, pos, af, none⟩ :: os) (⟨kof x ++ kof y, [T d], beh1 (rIArr x y sz len) d⟩ :: cs) σ K :=
  Wk.read (ok_iarr hu ht) _ hd (by simp only [rIArr, hx, hy]; rw [if_pos ⟨by omega, by omega⟩]; simp) h
end
section
variable {C : Ctx} {ops : Array Oper} {os : List Oper} {cs : List Cert} {σ : St} {K : St → Prop} {d : Nat} {ty : TypeId} {pos : String} {af : Array Edge}
def rMkP (x y : Operand) (i : Nat) (e : TypeId) (σ : St) : Option (List V) :=
  match aev σ x, aev σ y, σ.b i with
  | .d (.v (.int .i64 m)), .d (.v (.int .i64 n)), .fresh => if m = 0 ∧ 0 ≤ n ∧ n ≤ 1000 then some [.a (.own i 0), .b (.own 0 e 3 [])] else none
  | _, _, _ => none
set_option maxRecDepth 100000 in
theorem ok_mkp {x y : Operand} (i : Nat) : OpOk Try.prog C ops ⟨some d, .makeSlice 31 x y, ty, pos, af, none⟩ ⟨(kof x ++ kof y) ++ [B i], [T d, B i], behs (rMkP x y i 115) d⟩ :=
  OpOk.turn rfl (by simp [dstIn]) (fun σ => by unfold rMkP; rw [aev_mask fun k hk => List.mem_append_left _ (List.mem_append_left _ hk), aev_mask fun k hk => List.mem_append_left _ (List.mem_append_right _ hk), bx_mask (by simp)]) fun σ a w F E H K Q us hR hd h hK => by
    unfold rMkP at h
    split at h
    · rename_i m n hx hy hb
      split at h
      · rename_i hn
        obtain ⟨rfl, hn0, hn1⟩ := hn
        obtain rfl := Option.some.inj h
        obtain ⟨c, rfl⟩ := Int.eq_ofNat_of_zero_le hn0
        have hvx : a.eval x = .int .i64 0 := by
          have := hR.ev x
          rw [hx] at this
          exact den_v this
        have hvy : a.eval y = .int .i64 (c : Int) := by
          have := hR.ev y
          rw [hy] at this
          exact den_v this
        obtain ⟨i0, hi, hz0, hz1, hz2⟩ := info_parts Try.infoP
        obtain ⟨w', hr, ho, hg⟩ := run_makeSlice_owned (P := Try.prog) w 0 31 115 i0 _ 3 Try.underlying31 hi hz0 hz1 .i64 .i64 c (by omega) (by rw [hz2]; omega) (by unfold maxLen; omega) (Nat.zero_le _)
        have hfr := hR.env.box i
        rw [hb] at hfr
        have hset := hR.setown (i := i) (k := 0) (sz := 3) (e := 115) (es := []) (v := .slice (some ⟨w.heap.size, 0, none⟩) 0 c) (w' := w') (fun b hbk => by rw [hb] at hbk; cases hbk) (fun q _ => hfr.2 q) (by rw [hb]; exact hg)
          ho (by intro c hc; cases hc) Pw.nil (.inr (.inr rfl))
        unfold Oper.wp
        have hrun : (execOp a.eval ⟨some d, .makeSlice 31 x y, ty, pos, af, none⟩).run Try.prog w = .ok (.value (.slice (some ⟨w.heap.size, 0, none⟩) 0 c)) w' := by simp only [execOp, Sem.run_bind, hvx, hvy, hr, Result.andThen_ok, Sem.run_pure]
        rw [hrun, Oper.upon_value]
        refine hK _ _ ?_
        exact (RelE.put (d := d) (r := .own i 0) hset hd (.own i 0 _ (upd2_same _ _ _ _) rfl)).r
      · cases h
    · cases h
set_option maxRecDepth 100000 in
theorem Wk.mkp {x y : Operand} (i n : Nat) (hx : aev σ x = .d (.v (.int .i64 0))) (hy : aev σ y = .d (.v (.int .i64 (n : Int)))) (hb : σ.b i = .fresh) (hn : n ≤ 1000) (hd : d < σ.n) (h : Wk Try.prog C ops os cs ((σ.put (T d) (.a (.own i 0))).put (B i) (.b (.own 0 115 3 []))) K) :
    Wk Try.prog C ops (⟨some d, .makeSlice 31 x y, ty, pos, af, none⟩ :: os) (⟨(kof x ++ kof y) ++ [B i], [T d, B i], behs (rMkP x y i 115) d⟩ :: cs) σ K :=
  Wk.turn (ok_mkp i) [.a (.own i 0), .b (.own 0 115 3 [])] hd (by simp only [rMkP, hx, hy, hb]; rw [if_pos ⟨trivial, by omega, by omega⟩]) h
end
end Go.Proofs.Ytdjadeegjbhihaa

/- Copies of pieces, in new memory: the program's. Written by tools/mk_AbsCopyI.py. -/
namespace Go.Proofs.Ytdjadeegjbhihaa
open Go Go.RowKit
theorem asData_rows' (zs : List Nat) : asData ((zs.map fun z : Nat => [D.v (.int .u8 (z : Int))]).map (·.map A.d)) (zs.map fun z : Nat => [.v (.int .u8 (z : Int))]) := by
  simp [asData, nrms, nrm]
theorem Spec.arg {P : Program} {f : FuncId} {ls ls' : List A} {bs : List (Nat × Bx)} {post : A → List (Nat × Bx) → Prop} (h : Spec P f ls bs post) (hl : ls'.length = ls.length) (hd : ∀ (w : World) (F : Nat → Prop) (E : Nat → Option Nat) (H : Nat → Nat → Option Value) (i : Nat) (a a' : A) (v : Value), ls[i]? = some a → ls'[i]? = some a' → Den w F E H a' v → Den w F E H a v) : Spec P f ls' bs post := by
  intro w F E H args hpo hs hda
  refine h w F E H args hpo (by rw [hs, hl]) (fun i a ha => ?_)
  have hi : i < ls'.length := by rw [hl]; exact (List.getElem?_eq_some_iff.1 ha).1
  exact hd w F E H i a _ _ ha (List.getElem?_eq_getElem hi) (hda i _ (List.getElem?_eq_getElem hi))
theorem Spec.fnc {P : Program} {f g : FuncId} {x : A} {bs : List (Nat × Bx)} {post : A → List (Nat × Bx) → Prop} (h : Spec P f [x, .fn (.func g) [] []] bs post) : Spec P f [x, .d (.v (.func (.func g) #[] #[]))] bs post := by
  refine h.arg rfl fun w F E H i a a' v ha ha' hd => ?_
  match i with
  | 0 => obtain rfl := Option.some.inj ha; obtain rfl := Option.some.inj ha'; exact hd
  | 1 =>
    obtain rfl := Option.some.inj ha
    obtain rfl := Option.some.inj ha'
    obtain rfl := den_v hd
    exact .fn _ _ _ _ _ rfl rfl (fun i a h => by simp at h) (fun i a h => by simp at h)
  | n + 2 => simp at ha
theorem in_cpart (d : Dat) : PostIn ([] ++ []) (fun r bs => r = partN d ∧ bs = []) := by
  rintro r bs ⟨rfl, rfl⟩
  exact ⟨rfl, fun i x h => by cases h⟩
end Go.Proofs.Ytdjadeegjbhihaa

/- WldDead over what values read as. Written by tools/mk_AbsWldDead.py. -/
namespace Go.Proofs.Ytdjadeegjbhihaa
open Go Go.RowKit
theorem enD_len (es : List EN) : ∀ e ∈ es.map enD, e.length = 28 := by
  intro e he
  obtain ⟨a, _, rfl⟩ := List.mem_map.1 he
  rfl
set_option maxHeartbeats 2000000 in
set_option maxRecDepth 100000 in
theorem iwdead1_ok (e : EN) : DataOk Try.prog 63 [.agg ((enD e).map A.d)] (.d (.v (.bool e.dead))) := by
  obtain ⟨⟨n, a, fl, s, qu, q, t, h, c, d0⟩, ⟨e1, c1, m1, b1, a1, u1, d1⟩, ⟨v2, q2, g2, s2, d2⟩, ⟨v3, m3, b3, d3⟩, put, got⟩ := e
  cases d0
  · skip
    cases d1
    · skip
      cases d2
      · skip
        refine Spec.intro (n := 21) (rv := [.tmp 2]) Try.func63 rfl rfl rfl (by simp) fun C hN hX => ?_
        refine AW.seq ?_
        apply AW.list
        apply Wk.bx 1 rfl rfl (lt_of_ble rfl)
        apply Wk.asg (by conv => lhs; whnf) (lt_of_ble rfl)
        refine Wk.nil ?_
        refine AW.seq ?_
        apply AW.list
        apply Wk.fad 0 9 true fd77_0 rfl (lt_of_ble rfl)
        apply Wk.fad 9 0 false fd33_9 rfl (lt_of_ble rfl)
        apply Wk.ld (i := 1) 1 false ty4 rfl rfl (by conv => lhs; whnf) (lt_of_ble rfl)
        apply Wk.mv (by conv => lhs; whnf) (lt_of_ble rfl)
        apply Wk.gon 6 rfl rfl
        apply Wk.fad 10 6 true fd77_1 rfl (lt_of_ble rfl)
        apply Wk.gon 6 rfl rfl
        apply Wk.fad 6 0 false fd72_5 rfl (lt_of_ble rfl)
        apply Wk.gon 6 rfl rfl
        apply Wk.ld (i := 1) 1 false ty4 rfl rfl (by conv => lhs; whnf) (lt_of_ble rfl)
        apply Wk.pckF rfl (by conv => lhs; whnf) (lt_of_ble rfl)
        apply Wk.mv (by conv => lhs; whnf) (lt_of_ble rfl)
        apply Wk.gon 11 rfl rfl
        apply Wk.fad 17 4 true fd77_2 rfl (lt_of_ble rfl)
        apply Wk.gon 11 rfl rfl
        apply Wk.fad 4 0 false fd44_4 rfl (lt_of_ble rfl)
        apply Wk.gon 11 rfl rfl
        apply Wk.ld (i := 1) 1 false ty4 rfl rfl (by conv => lhs; whnf) (lt_of_ble rfl)
        apply Wk.pckF rfl (by conv => lhs; whnf) (lt_of_ble rfl)
        apply Wk.mv (by conv => lhs; whnf) (lt_of_ble rfl)
        apply Wk.gon 16 rfl rfl
        apply Wk.fad 22 3 true fd77_3 rfl (lt_of_ble rfl)
        apply Wk.gon 16 rfl rfl
        apply Wk.fad 3 0 false fd74_2 rfl (lt_of_ble rfl)
        apply Wk.gon 16 rfl rfl
        apply Wk.ld (i := 1) 1 false ty4 rfl rfl (by conv => lhs; whnf) (lt_of_ble rfl)
        apply Wk.pckF rfl (by conv => lhs; whnf) (lt_of_ble rfl)
        apply Wk.asg (by conv => lhs; whnf) (lt_of_ble rfl)
        refine Wk.nil (AW.ret ?_)
        repeat (first | refine thenA_ret ?_ | refine inBlockA_ret ?_)
        exact RetQ.ret [] (.cons rfl .nil) ⟨rfl, rfl⟩ none_kept
      · skip
        refine Spec.intro (n := 21) (rv := [.tmp 2]) Try.func63 rfl rfl rfl (by simp) fun C hN hX => ?_
        refine AW.seq ?_
        apply AW.list
        apply Wk.bx 1 rfl rfl (lt_of_ble rfl)
        apply Wk.asg (by conv => lhs; whnf) (lt_of_ble rfl)
        refine Wk.nil ?_
        refine AW.seq ?_
        apply AW.list
        apply Wk.fad 0 9 true fd77_0 rfl (lt_of_ble rfl)
        apply Wk.fad 9 0 false fd33_9 rfl (lt_of_ble rfl)
        apply Wk.ld (i := 1) 1 false ty4 rfl rfl (by conv => lhs; whnf) (lt_of_ble rfl)
        apply Wk.mv (by conv => lhs; whnf) (lt_of_ble rfl)
        apply Wk.gon 6 rfl rfl
        apply Wk.fad 10 6 true fd77_1 rfl (lt_of_ble rfl)
        apply Wk.gon 6 rfl rfl
        apply Wk.fad 6 0 false fd72_5 rfl (lt_of_ble rfl)
        apply Wk.gon 6 rfl rfl
        apply Wk.ld (i := 1) 1 false ty4 rfl rfl (by conv => lhs; whnf) (lt_of_ble rfl)
        apply Wk.pckF rfl (by conv => lhs; whnf) (lt_of_ble rfl)
        apply Wk.mv (by conv => lhs; whnf) (lt_of_ble rfl)
        apply Wk.gon 11 rfl rfl
        apply Wk.fad 17 4 true fd77_2 rfl (lt_of_ble rfl)
        apply Wk.gon 11 rfl rfl
        apply Wk.fad 4 0 false fd44_4 rfl (lt_of_ble rfl)
        apply Wk.gon 11 rfl rfl
        apply Wk.ld (i := 1) 1 false ty4 rfl rfl (by conv => lhs; whnf) (lt_of_ble rfl)
        apply Wk.pckF rfl (by conv => lhs; whnf) (lt_of_ble rfl)
        apply Wk.mv (by conv => lhs; whnf) (lt_of_ble rfl)
        apply Wk.goff 16 (ok_faddr fd77_3) rfl rfl (by simp)
        apply Wk.goff 16 (ok_faddr fd74_2) rfl rfl (by simp)
        apply Wk.goff 16 (ok_load 1 ty4) rfl rfl (by simp)
        apply Wk.pckT rfl (by conv => lhs; whnf) (lt_of_ble rfl)
        apply Wk.asg (by conv => lhs; whnf) (lt_of_ble rfl)
        refine Wk.nil (AW.ret ?_)
        repeat (first | refine thenA_ret ?_ | refine inBlockA_ret ?_)
        exact RetQ.ret [] (.cons rfl .nil) ⟨rfl, rfl⟩ none_kept
    · skip
      refine Spec.intro (n := 21) (rv := [.tmp 2]) Try.func63 rfl rfl rfl (by simp) fun C hN hX => ?_
      refine AW.seq ?_
      apply AW.list
      apply Wk.bx 1 rfl rfl (lt_of_ble rfl)
      apply Wk.asg (by conv => lhs; whnf) (lt_of_ble rfl)
      refine Wk.nil ?_
      refine AW.seq ?_
      apply AW.list
      apply Wk.fad 0 9 true fd77_0 rfl (lt_of_ble rfl)
      apply Wk.fad 9 0 false fd33_9 rfl (lt_of_ble rfl)
      apply Wk.ld (i := 1) 1 false ty4 rfl rfl (by conv => lhs; whnf) (lt_of_ble rfl)
      apply Wk.mv (by conv => lhs; whnf) (lt_of_ble rfl)
      apply Wk.gon 6 rfl rfl
      apply Wk.fad 10 6 true fd77_1 rfl (lt_of_ble rfl)
      apply Wk.gon 6 rfl rfl
      apply Wk.fad 6 0 false fd72_5 rfl (lt_of_ble rfl)
      apply Wk.gon 6 rfl rfl
      apply Wk.ld (i := 1) 1 false ty4 rfl rfl (by conv => lhs; whnf) (lt_of_ble rfl)
      apply Wk.pckF rfl (by conv => lhs; whnf) (lt_of_ble rfl)
      apply Wk.mv (by conv => lhs; whnf) (lt_of_ble rfl)
      apply Wk.goff 11 (ok_faddr fd77_2) rfl rfl (by simp)
      apply Wk.goff 11 (ok_faddr fd44_4) rfl rfl (by simp)
      apply Wk.goff 11 (ok_load 1 ty4) rfl rfl (by simp)
      apply Wk.pckT rfl (by conv => lhs; whnf) (lt_of_ble rfl)
      apply Wk.mv (by conv => lhs; whnf) (lt_of_ble rfl)
      apply Wk.goff 16 (ok_faddr fd77_3) rfl rfl (by simp)
      apply Wk.goff 16 (ok_faddr fd74_2) rfl rfl (by simp)
      apply Wk.goff 16 (ok_load 1 ty4) rfl rfl (by simp)
      apply Wk.pckT rfl (by conv => lhs; whnf) (lt_of_ble rfl)
      apply Wk.asg (by conv => lhs; whnf) (lt_of_ble rfl)
      refine Wk.nil (AW.ret ?_)
      repeat (first | refine thenA_ret ?_ | refine inBlockA_ret ?_)
      exact RetQ.ret [] (.cons rfl .nil) ⟨rfl, rfl⟩ none_kept
  · skip
    refine Spec.intro (n := 21) (rv := [.tmp 2]) Try.func63 rfl rfl rfl (by simp) fun C hN hX => ?_
    refine AW.seq ?_
    apply AW.list
    apply Wk.bx 1 rfl rfl (lt_of_ble rfl)
    apply Wk.asg (by conv => lhs; whnf) (lt_of_ble rfl)
    refine Wk.nil ?_
    refine AW.seq ?_
    apply AW.list
    apply Wk.fad 0 9 true fd77_0 rfl (lt_of_ble rfl)
    apply Wk.fad 9 0 false fd33_9 rfl (lt_of_ble rfl)
    apply Wk.ld (i := 1) 1 false ty4 rfl rfl (by conv => lhs; whnf) (lt_of_ble rfl)
    apply Wk.mv (by conv => lhs; whnf) (lt_of_ble rfl)
    apply Wk.goff 6 (ok_faddr fd77_1) rfl rfl (by simp)
    apply Wk.goff 6 (ok_faddr fd72_5) rfl rfl (by simp)
    apply Wk.goff 6 (ok_load 1 ty4) rfl rfl (by simp)
    apply Wk.pckT rfl (by conv => lhs; whnf) (lt_of_ble rfl)
    apply Wk.mv (by conv => lhs; whnf) (lt_of_ble rfl)
    apply Wk.goff 11 (ok_faddr fd77_2) rfl rfl (by simp)
    apply Wk.goff 11 (ok_faddr fd44_4) rfl rfl (by simp)
    apply Wk.goff 11 (ok_load 1 ty4) rfl rfl (by simp)
    apply Wk.pckT rfl (by conv => lhs; whnf) (lt_of_ble rfl)
    apply Wk.mv (by conv => lhs; whnf) (lt_of_ble rfl)
    apply Wk.goff 16 (ok_faddr fd77_3) rfl rfl (by simp)
    apply Wk.goff 16 (ok_faddr fd74_2) rfl rfl (by simp)
    apply Wk.goff 16 (ok_load 1 ty4) rfl rfl (by simp)
    apply Wk.pckT rfl (by conv => lhs; whnf) (lt_of_ble rfl)
    apply Wk.asg (by conv => lhs; whnf) (lt_of_ble rfl)
    refine Wk.nil (AW.ret ?_)
    repeat (first | refine thenA_ret ?_ | refine inBlockA_ret ?_)
    exact RetQ.ret [] (.cons rfl .nil) ⟨rfl, rfl⟩ none_kept
theorem iwdead_ok (x : WD) : DataOk Try.prog 29 [wdA x] (.d (.v (.bool x.dead))) := by
  have hh := Spec.fnc (hasEn_ok x.ends EN.dead fun e _ => iwdead1_ok e)
  obtain ⟨m, w, p, u, y, ends, net, link⟩ := x
  refine Spec.intro (n := 6) (rv := [.tmp 2]) Try.func29 rfl rfl rfl (by simp) fun C hN hX => ?_
  refine AW.seq ?_
  apply AW.list
  apply Wk.bx 1 rfl rfl (lt_of_ble rfl)
  apply Wk.asg (by conv => lhs; whnf) (lt_of_ble rfl)
  refine Wk.nil ?_
  refine AW.seq ?_
  apply AW.list
  apply Wk.fad 5 0 false fd57_1 rfl (lt_of_ble rfl)
  apply Wk.ld (i := 1) 1 false ty54 rfl rfl (by conv => lhs; whnf) (lt_of_ble rfl)
  apply Wk.dat hh Try.func62 rfl rfl rfl rfl rfl (lt_of_ble rfl)
  apply Wk.asg (by conv => lhs; whnf) (lt_of_ble rfl)
  refine Wk.nil (AW.ret ?_)
  repeat (first | refine thenA_ret ?_ | refine inBlockA_ret ?_)
  exact RetQ.ret [] (.cons rfl .nil) ⟨rfl, rfl⟩ none_kept
set_option maxHeartbeats 4000000 in
set_option maxRecDepth 100000 in
theorem swdead_ok (x : WD) (hx : x.ends.length ≤ 1000000000) : DataOk Try.prog 28 [wdA x] (.d (.v (.bool x.dead))) := by
  obtain ⟨m, w, p, u, y, ends, net, link⟩ := x
  simp only at hx
  refine Spec.intro (n := 35) (rv := [.tmp 2]) Try.func28 rfl rfl rfl (by simp) fun C hN hX => ?_
  refine AW.seq ?_
  apply AW.list
  apply Wk.bx 1 rfl rfl (lt_of_ble rfl)
  apply Wk.asg (by conv => lhs; whnf) (lt_of_ble rfl)
  refine Wk.nil ?_
  refine AW.seq (AW.seq ?_)
  apply AW.list
  apply Wk.asg (by conv => lhs; whnf) (lt_of_ble rfl)
  refine Wk.nil (AW.block ?_)
  refine AW.loop (fun k : Nat => St.of 35 [(1, .ptr 1 0), (3, .d (.v (.int .i64 (k : Int))))] [(1, .var ((wdD ⟨m, w, p, u, y, ends, net, link⟩).map A.d))]) (fun k => k ≤ ends.length ∧ ∀ a ∈ ends.take k, a.dead = false) (fun k => ends.length - k) 0 ⟨Nat.zero_le _, by simp⟩ ?_ ?_
  · exact fun a w => Rel.keep ⟨rfl, .cons rfl rfl (.cons rfl rfl .nil), .cons rfl rfl .nil, hN.mono (by simp [keys])⟩
  rintro k ⟨hk, hk2⟩
  show AW Try.prog C _ _ (St.of 35 [(1, .ptr 1 0), (3, .d (.v (.int .i64 (k : Int))))] [(1, .var ((wdD ⟨m, w, p, u, y, ends, net, link⟩).map A.d))])
  have el : (((ends.map enD).length : Nat) : Int) = (ends.length : Int) := by rw [List.length_map]
  refine AW.seq (AW.seq ?_)
  by_cases hlt : k < ends.length
  · apply AW.list
    apply Wk.mv (by conv => lhs; whnf) (lt_of_ble rfl)
    apply Wk.fad 5 0 false fd57_1 rfl (lt_of_ble rfl)
    apply Wk.ld (i := 1) 1 false ty54 rfl rfl (by conv => lhs; whnf) (lt_of_ble rfl)
    apply Wk.len un54 rfl (lt_of_ble rfl)
    apply Wk.bin rfl rfl (r := .bool true) (fun w => by rw [el]; simp [go_sem]; omega) (lt_of_ble rfl)
    refine Wk.nil ?_
    refine AW.cond rfl (fun _ => AW.skip ?_) (fun hc => by cases hc)
    repeat (first | refine thenA_normal ?_ | refine inBlockA_normal ?_)
    obtain ⟨e, hd⟩ : ∃ d, ends[k]? = some d := ⟨_, List.getElem?_eq_getElem hlt⟩
    have hget : (ends.map enD)[k]? = some (enD e) := by simp [hd]
    have hklt : k < (ends.map enD).length := by simpa using hlt
    have next : e.dead = false → ∃ k', (k' ≤ ends.length ∧ ∀ a ∈ ends.take k', a.dead = false) ∧ ends.length - k' < ends.length - k ∧ k' = k + 1 := fun hb => ⟨k + 1, ⟨by omega, fun a ha => by
      rw [List.take_add_one, hd] at ha
      rcases List.mem_append.1 ha with h | h
      · exact hk2 a h
      · obtain rfl : a = e := by simpa using h
        exact hb⟩, by omega, rfl⟩
    have done : e.dead = true → WD.dead ⟨m, w, p, u, y, ends, net, link⟩ = true := fun hb => List.any_eq_true.2 ⟨e, List.mem_of_getElem? hd, hb⟩
    refine AW.seq (AW.block (AW.seq ?_))
    obtain ⟨⟨n, a, fl, s, qu, q, t, h, c, d0⟩, ⟨e1, c1, m1, b1, a1, u1, d1⟩, ⟨v2, q2, g2, s2, d2⟩, ⟨v3, m3, b3, d3⟩, put, got⟩ := e
    apply AW.list
    apply Wk.fad 5 0 false fd57_1 rfl (lt_of_ble rfl)
    apply Wk.ld (i := 1) 1 false ty54 rfl rfl (by conv => lhs; whnf) (lt_of_ble rfl)
    apply Wk.mv (by conv => lhs; whnf) (lt_of_ble rfl)
    apply Wk.iad 28 true un54 ty77 rfl rfl hklt (enD_len _) (lt_of_ble rfl)
    apply Wk.ldr 28 true ty77 rfl hget (by conv => lhs; whnf) (lt_of_ble rfl)
    apply Wk.alc 4 [.int .i64 0, .int .i64 0, .slice none 0 0, .int .i64 0, .slice none 0 0, .bool false, .int .i64 0, .bool false, .int .i64 0, .bool false, .int .i64 0, .int .i64 0, .int .i64 0, .slice none 0 0, .bool false, .bool false, .bool false, .int .i64 0, .slice none 0 0, .int .i64 0, .int .i64 0, .bool false, .int .i64 0, .int .i64 0, .slice none 0 0, .bool false, .slice none 0 0, .slice none 0 0] ze77 rfl rfl (lt_of_ble rfl)
    apply Wk.sto (i := 4) 28 true ty77 rfl rfl rfl rfl (Nat.le_of_ble_eq_true rfl) (lt_of_ble rfl)
    refine Wk.nil ?_
    refine AW.seq ?_

    cases d0
    · skip
      cases d1
      · skip
        cases d2
        · skip
          cases d3
          · skip
            apply AW.list
            apply Wk.fad 0 9 true fd77_0 rfl (lt_of_ble rfl)
            apply Wk.fad 9 0 false fd33_9 rfl (lt_of_ble rfl)
            apply Wk.ld (i := 4) 1 false ty4 rfl rfl (by conv => lhs; whnf) (lt_of_ble rfl)
            apply Wk.mv (by conv => lhs; whnf) (lt_of_ble rfl)
            apply Wk.gon 20 rfl rfl
            apply Wk.fad 10 6 true fd77_1 rfl (lt_of_ble rfl)
            apply Wk.gon 20 rfl rfl
            apply Wk.fad 6 0 false fd72_5 rfl (lt_of_ble rfl)
            apply Wk.gon 20 rfl rfl
            apply Wk.ld (i := 4) 1 false ty4 rfl rfl (by conv => lhs; whnf) (lt_of_ble rfl)
            apply Wk.pckF rfl (by conv => lhs; whnf) (lt_of_ble rfl)
            apply Wk.mv (by conv => lhs; whnf) (lt_of_ble rfl)
            apply Wk.gon 25 rfl rfl
            apply Wk.fad 17 4 true fd77_2 rfl (lt_of_ble rfl)
            apply Wk.gon 25 rfl rfl
            apply Wk.fad 4 0 false fd44_4 rfl (lt_of_ble rfl)
            apply Wk.gon 25 rfl rfl
            apply Wk.ld (i := 4) 1 false ty4 rfl rfl (by conv => lhs; whnf) (lt_of_ble rfl)
            apply Wk.pckF rfl (by conv => lhs; whnf) (lt_of_ble rfl)
            apply Wk.mv (by conv => lhs; whnf) (lt_of_ble rfl)
            apply Wk.gon 30 rfl rfl
            apply Wk.fad 22 3 true fd77_3 rfl (lt_of_ble rfl)
            apply Wk.gon 30 rfl rfl
            apply Wk.fad 3 0 false fd74_2 rfl (lt_of_ble rfl)
            apply Wk.gon 30 rfl rfl
            apply Wk.ld (i := 4) 1 false ty4 rfl rfl (by conv => lhs; whnf) (lt_of_ble rfl)
            apply Wk.pckF rfl (by conv => lhs; whnf) (lt_of_ble rfl)
            refine Wk.nil ?_
            refine AW.cond rfl (fun hc => by cases hc) (fun _ => AW.skip ?_)
            repeat (first | refine thenA_normal ?_ | refine inBlockA_normal ?_)
            apply AW.list
            apply Wk.mv (by conv => lhs; whnf) (lt_of_ble rfl)
            apply Wk.addn (b := 1) rfl rfl (by omega) (lt_of_ble rfl)
            apply Wk.asg (by conv => lhs; whnf) (lt_of_ble rfl)
            refine Wk.nil ?_
            repeat (first | refine thenA_normal ?_ | refine inBlockA_normal ?_)
            obtain ⟨k', h1, h2, rfl⟩ := next rfl
            exact ⟨k + 1, h1, h2, fun a w => Rel.keep ⟨rfl, .cons rfl rfl (.cons rfl rfl .nil), .cons rfl rfl .nil, hN.mono (by simp [keys])⟩⟩
          · skip
            apply AW.list
            apply Wk.fad 0 9 true fd77_0 rfl (lt_of_ble rfl)
            apply Wk.fad 9 0 false fd33_9 rfl (lt_of_ble rfl)
            apply Wk.ld (i := 4) 1 false ty4 rfl rfl (by conv => lhs; whnf) (lt_of_ble rfl)
            apply Wk.mv (by conv => lhs; whnf) (lt_of_ble rfl)
            apply Wk.gon 20 rfl rfl
            apply Wk.fad 10 6 true fd77_1 rfl (lt_of_ble rfl)
            apply Wk.gon 20 rfl rfl
            apply Wk.fad 6 0 false fd72_5 rfl (lt_of_ble rfl)
            apply Wk.gon 20 rfl rfl
            apply Wk.ld (i := 4) 1 false ty4 rfl rfl (by conv => lhs; whnf) (lt_of_ble rfl)
            apply Wk.pckF rfl (by conv => lhs; whnf) (lt_of_ble rfl)
            apply Wk.mv (by conv => lhs; whnf) (lt_of_ble rfl)
            apply Wk.gon 25 rfl rfl
            apply Wk.fad 17 4 true fd77_2 rfl (lt_of_ble rfl)
            apply Wk.gon 25 rfl rfl
            apply Wk.fad 4 0 false fd44_4 rfl (lt_of_ble rfl)
            apply Wk.gon 25 rfl rfl
            apply Wk.ld (i := 4) 1 false ty4 rfl rfl (by conv => lhs; whnf) (lt_of_ble rfl)
            apply Wk.pckF rfl (by conv => lhs; whnf) (lt_of_ble rfl)
            apply Wk.mv (by conv => lhs; whnf) (lt_of_ble rfl)
            apply Wk.gon 30 rfl rfl
            apply Wk.fad 22 3 true fd77_3 rfl (lt_of_ble rfl)
            apply Wk.gon 30 rfl rfl
            apply Wk.fad 3 0 false fd74_2 rfl (lt_of_ble rfl)
            apply Wk.gon 30 rfl rfl
            apply Wk.ld (i := 4) 1 false ty4 rfl rfl (by conv => lhs; whnf) (lt_of_ble rfl)
            apply Wk.pckF rfl (by conv => lhs; whnf) (lt_of_ble rfl)
            refine Wk.nil ?_
            refine AW.cond rfl (fun _ => ?_) (fun hc => by cases hc)
            refine AW.seq ?_
            apply AW.list
            apply Wk.asg (by conv => lhs; whnf) (lt_of_ble rfl)
            rw [done rfl]
            refine Wk.nil (AW.ret ?_)
            repeat (first | refine thenA_ret ?_ | refine inBlockA_ret ?_)
            exact RetQ.ret [] (.cons rfl .nil) ⟨rfl, rfl⟩ none_kept
        · skip
          apply AW.list
          apply Wk.fad 0 9 true fd77_0 rfl (lt_of_ble rfl)
          apply Wk.fad 9 0 false fd33_9 rfl (lt_of_ble rfl)
          apply Wk.ld (i := 4) 1 false ty4 rfl rfl (by conv => lhs; whnf) (lt_of_ble rfl)
          apply Wk.mv (by conv => lhs; whnf) (lt_of_ble rfl)
          apply Wk.gon 20 rfl rfl
          apply Wk.fad 10 6 true fd77_1 rfl (lt_of_ble rfl)
          apply Wk.gon 20 rfl rfl
          apply Wk.fad 6 0 false fd72_5 rfl (lt_of_ble rfl)
          apply Wk.gon 20 rfl rfl
          apply Wk.ld (i := 4) 1 false ty4 rfl rfl (by conv => lhs; whnf) (lt_of_ble rfl)
          apply Wk.pckF rfl (by conv => lhs; whnf) (lt_of_ble rfl)
          apply Wk.mv (by conv => lhs; whnf) (lt_of_ble rfl)
          apply Wk.gon 25 rfl rfl
          apply Wk.fad 17 4 true fd77_2 rfl (lt_of_ble rfl)
          apply Wk.gon 25 rfl rfl
          apply Wk.fad 4 0 false fd44_4 rfl (lt_of_ble rfl)
          apply Wk.gon 25 rfl rfl
          apply Wk.ld (i := 4) 1 false ty4 rfl rfl (by conv => lhs; whnf) (lt_of_ble rfl)
          apply Wk.pckF rfl (by conv => lhs; whnf) (lt_of_ble rfl)
          apply Wk.mv (by conv => lhs; whnf) (lt_of_ble rfl)
          apply Wk.goff 30 (ok_faddr fd77_3) rfl rfl (by simp)
          apply Wk.goff 30 (ok_faddr fd74_2) rfl rfl (by simp)
          apply Wk.goff 30 (ok_load 4 ty4) rfl rfl (by simp)
          apply Wk.pckT rfl (by conv => lhs; whnf) (lt_of_ble rfl)
          refine Wk.nil ?_
          refine AW.cond rfl (fun _ => ?_) (fun hc => by cases hc)
          refine AW.seq ?_
          apply AW.list
          apply Wk.asg (by conv => lhs; whnf) (lt_of_ble rfl)
          rw [done rfl]
          refine Wk.nil (AW.ret ?_)
          repeat (first | refine thenA_ret ?_ | refine inBlockA_ret ?_)
          exact RetQ.ret [] (.cons rfl .nil) ⟨rfl, rfl⟩ none_kept
      · skip
        apply AW.list
        apply Wk.fad 0 9 true fd77_0 rfl (lt_of_ble rfl)
        apply Wk.fad 9 0 false fd33_9 rfl (lt_of_ble rfl)
        apply Wk.ld (i := 4) 1 false ty4 rfl rfl (by conv => lhs; whnf) (lt_of_ble rfl)
        apply Wk.mv (by conv => lhs; whnf) (lt_of_ble rfl)
        apply Wk.gon 20 rfl rfl
        apply Wk.fad 10 6 true fd77_1 rfl (lt_of_ble rfl)
        apply Wk.gon 20 rfl rfl
        apply Wk.fad 6 0 false fd72_5 rfl (lt_of_ble rfl)
        apply Wk.gon 20 rfl rfl
        apply Wk.ld (i := 4) 1 false ty4 rfl rfl (by conv => lhs; whnf) (lt_of_ble rfl)
        apply Wk.pckF rfl (by conv => lhs; whnf) (lt_of_ble rfl)
        apply Wk.mv (by conv => lhs; whnf) (lt_of_ble rfl)
        apply Wk.goff 25 (ok_faddr fd77_2) rfl rfl (by simp)
        apply Wk.goff 25 (ok_faddr fd44_4) rfl rfl (by simp)
        apply Wk.goff 25 (ok_load 4 ty4) rfl rfl (by simp)
        apply Wk.pckT rfl (by conv => lhs; whnf) (lt_of_ble rfl)
        apply Wk.mv (by conv => lhs; whnf) (lt_of_ble rfl)
        apply Wk.goff 30 (ok_faddr fd77_3) rfl rfl (by simp)
        apply Wk.goff 30 (ok_faddr fd74_2) rfl rfl (by simp)
        apply Wk.goff 30 (ok_load 4 ty4) rfl rfl (by simp)
        apply Wk.pckT rfl (by conv => lhs; whnf) (lt_of_ble rfl)
        refine Wk.nil ?_
        refine AW.cond rfl (fun _ => ?_) (fun hc => by cases hc)
        refine AW.seq ?_
        apply AW.list
        apply Wk.asg (by conv => lhs; whnf) (lt_of_ble rfl)
        rw [done rfl]
        refine Wk.nil (AW.ret ?_)
        repeat (first | refine thenA_ret ?_ | refine inBlockA_ret ?_)
        exact RetQ.ret [] (.cons rfl .nil) ⟨rfl, rfl⟩ none_kept
    · skip
      apply AW.list
      apply Wk.fad 0 9 true fd77_0 rfl (lt_of_ble rfl)
      apply Wk.fad 9 0 false fd33_9 rfl (lt_of_ble rfl)
      apply Wk.ld (i := 4) 1 false ty4 rfl rfl (by conv => lhs; whnf) (lt_of_ble rfl)
      apply Wk.mv (by conv => lhs; whnf) (lt_of_ble rfl)
      apply Wk.goff 20 (ok_faddr fd77_1) rfl rfl (by simp)
      apply Wk.goff 20 (ok_faddr fd72_5) rfl rfl (by simp)
      apply Wk.goff 20 (ok_load 4 ty4) rfl rfl (by simp)
      apply Wk.pckT rfl (by conv => lhs; whnf) (lt_of_ble rfl)
      apply Wk.mv (by conv => lhs; whnf) (lt_of_ble rfl)
      apply Wk.goff 25 (ok_faddr fd77_2) rfl rfl (by simp)
      apply Wk.goff 25 (ok_faddr fd44_4) rfl rfl (by simp)
      apply Wk.goff 25 (ok_load 4 ty4) rfl rfl (by simp)
      apply Wk.pckT rfl (by conv => lhs; whnf) (lt_of_ble rfl)
      apply Wk.mv (by conv => lhs; whnf) (lt_of_ble rfl)
      apply Wk.goff 30 (ok_faddr fd77_3) rfl rfl (by simp)
      apply Wk.goff 30 (ok_faddr fd74_2) rfl rfl (by simp)
      apply Wk.goff 30 (ok_load 4 ty4) rfl rfl (by simp)
      apply Wk.pckT rfl (by conv => lhs; whnf) (lt_of_ble rfl)
      refine Wk.nil ?_
      refine AW.cond rfl (fun _ => ?_) (fun hc => by cases hc)
      refine AW.seq ?_
      apply AW.list
      apply Wk.asg (by conv => lhs; whnf) (lt_of_ble rfl)
      rw [done rfl]
      refine Wk.nil (AW.ret ?_)
      repeat (first | refine thenA_ret ?_ | refine inBlockA_ret ?_)
      exact RetQ.ret [] (.cons rfl .nil) ⟨rfl, rfl⟩ none_kept
  · have hke : k = ends.length := by omega
    subst hke
    rw [List.take_length] at hk2
    apply AW.list
    apply Wk.mv (by conv => lhs; whnf) (lt_of_ble rfl)
    apply Wk.fad 5 0 false fd57_1 rfl (lt_of_ble rfl)
    apply Wk.ld (i := 1) 1 false ty54 rfl rfl (by conv => lhs; whnf) (lt_of_ble rfl)
    apply Wk.len un54 rfl (lt_of_ble rfl)
    apply Wk.bin rfl rfl (r := .bool false) (fun w => by rw [el]; simp [go_sem]) (lt_of_ble rfl)
    refine Wk.nil ?_
    refine AW.cond rfl (fun hc => by cases hc) (fun _ => AW.exit ?_)
    repeat (first | refine inBlockA_same ?_ | refine thenA_exit ?_)
    repeat (first | refine thenA_normal ?_ | refine inBlockA_normal ?_)
    refine AW.seq ?_
    apply AW.list
    apply Wk.asg (by conv => lhs; whnf) (lt_of_ble rfl)
    rw [show WD.dead ⟨m, w, p, u, y, ends, net, link⟩ = false from List.any_eq_false.2 fun e he => by rw [hk2 e he]; simp]
    refine Wk.nil (AW.ret ?_)
    repeat (first | refine thenA_ret ?_ | refine inBlockA_ret ?_)
    exact RetQ.ret [] (.cons rfl .nil) ⟨rfl, rfl⟩ none_kept
end Go.Proofs.Ytdjadeegjbhihaa

/- What has come of a message, drawn; over what values read as. -/
namespace Go.Proofs.Ytdjadeegjbhihaa
open Go
def joinA (m : Int) (bs : List (Fin 256)) : A := .agg [.d (.v (.int .i64 m)), .d (fbytes bs)]
def joinPost (_ : List A) (r : A) : Prop := ∃ (m : Int) (bs : List (Fin 256)), r = joinA m bs ∧ -1 ≤ m ∧ m ≤ 100 ∧ bs.length ≤ 1000
end Go.Proofs.Ytdjadeegjbhihaa

/- Who hears, drawn; over what values read as. -/
namespace Go.Proofs.Ytdjadeegjbhihaa
open Go
def rxA (e c m : Int) (bs : List (Fin 256)) (a u d : Bool) : A := .agg [.d (.v (.int .i64 e)), .d (.v (.int .i64 c)), .d (.v (.int .i64 m)), .d (fbytes bs), .d (.v (.bool a)), .d (.v (.bool u)), .d (.v (.bool d))]
def rxPost (_ : List A) (r : A) : Prop := ∃ (e c m : Int) (bs : List (Fin 256)) (a u d : Bool), r = rxA e c m bs a u d ∧ -1 ≤ e ∧ e ≤ 8 ∧ -1 ≤ c ∧ c ≤ 10000 ∧ -1 ≤ m ∧ m ≤ 100 ∧ bs.length ≤ 1000
def rxZ : List A := [.d (.v (.int .i64 0)), .d (.v (.int .i64 0)), .d (.v (.int .i64 0)), .d (.v (.slice none 0 0)), .d (.v (.bool false)), .d (.v (.bool false)), .d (.v (.bool false))]
end Go.Proofs.Ytdjadeegjbhihaa

/- FrmOk over what values read as. -/
namespace Go.Proofs.Ytdjadeegjbhihaa
open Go Go.RowKit
def frmA (k s c : Int) (p f : Bool) (y g l : Int) (bs : List (Fin 256)) : A := .agg [.d (.v (.int .i64 k)), .d (.v (.int .i64 s)), .d (.v (.int .i64 c)), .d (.v (.bool p)), .d (.v (.bool f)), .d (.v (.int .i64 y)), .d (.v (.int .i64 g)), .d (.v (.int .i64 l)), .d (fbytes bs)]
end Go.Proofs.Ytdjadeegjbhihaa

/- RxOk and FrmOk over what values read as. -/
namespace Go.Proofs.Ytdjadeegjbhihaa
open Go Go.RowKit
theorem rx_args {w : World} {F : Nat → Prop} {E : Nat → Option Nat} {H : Nat → Nat → Option Value} {e c m : Int} {bs : List (Fin 256)} {a u d : Bool} {v : Value} (h : Den w F E H (rxA e c m bs a u d) v) :
    ∃ (g : Option Addr) (cap : Nat), v = .agg #[.int .i64 e, .int .i64 c, .int .i64 m, .slice g bs.length cap, .bool a, .bool u, .bool d] := by
  obtain ⟨cs, rfl, hs, _, h⟩ := den_agg h
  have hs' : cs.toList.length = 7 := by simpa using hs
  match hl : cs.toList, hs' with
  | [x0, x1, x2, x3, x4, x5, x6], _ =>
    obtain rfl : cs = #[x0, x1, x2, x3, x4, x5, x6] := by rw [← Array.toArray_toList (xs := cs), hl]
    obtain rfl := den_v (h 0 _ rfl)
    obtain rfl := den_v (h 1 _ rfl)
    obtain rfl := den_v (h 2 _ rfl)
    obtain rfl := den_v (h 4 _ rfl)
    obtain rfl := den_v (h 5 _ rfl)
    obtain rfl := den_v (h 6 _ rfl)
    have h3 := den_d (h 3 _ rfl)
    obtain ⟨g, n, cap, rfl, hn⟩ := den_row h3
    simp only [List.length_map] at hn
    subst hn
    exact ⟨g, cap, rfl⟩
theorem irx_ok (e c m : Int) (bs : List (Fin 256)) (a u d : Bool) : DataOk Try.prog 91 [rxA e c m bs a u d] (.d (.v (.bool (rxB e c m bs.length)))) := by
  refine DataOk.lift fun w F E H args _ hs hd => ?_
  obtain ⟨v, rfl, hv⟩ := arg1 hs hd
  obtain ⟨g, cap, rfl⟩ := rx_args hv
  exact impl_rx _ _ _ _ _ _ _ _ _ _
theorem srx_ok (e c m : Int) (bs : List (Fin 256)) (a u d : Bool) : DataOk Try.prog 87 [rxA e c m bs a u d] (.d (.v (.bool (rxB e c m bs.length)))) := by
  refine DataOk.lift fun w F E H args _ hs hd => ?_
  obtain ⟨v, rfl, hv⟩ := arg1 hs hd
  obtain ⟨g, cap, rfl⟩ := rx_args hv
  exact spec_rx _ _ _ _ _ _ _ _ _ _
end Go.Proofs.Ytdjadeegjbhihaa

/- Who grants credits is ok, over what values read as. Written by tools/mk_AbsCrx.py. -/
namespace Go.Proofs.Ytdjadeegjbhihaa
open Go Go.RowKit
def crA (v m : Int) (bs : List (Fin 256)) (d : Bool) : A := .agg [.d (.v (.int .i64 v)), .d (.v (.int .i64 m)), .d (fbytes bs), .d (.v (.bool d))]
def crN : List A := [.d (.v (.int .i64 0)), .d (.v (.int .i64 0)), .d (.v (.slice none 0 0)), .d (.v (.bool false))]
def crNil : A := .agg [.d (.v (.int .i64 0)), .d (.v (.int .i64 0)), .d (.v (.slice none 0 0)), .d (.v (.bool false))]
def crxB (v m : Int) (n : Nat) : Bool := inB v 0 255 && joinB m n
theorem ijoinA {m : Int} {bs : List (Fin 256)} {t : Bool} (h : joinB m bs.length = t) : DataOk Try.prog 126 [joinA m bs] (.d (.v (.bool t))) := by
  subst h
  refine DataOk.lift fun w F E H args _ hs hd => ?_
  obtain ⟨v, rfl, hv⟩ := arg1 hs hd
  obtain ⟨cs, rfl, hs', _, h⟩ := den_agg hv
  have hs2 : cs.toList.length = 2 := by simpa using hs'
  match hl' : cs.toList, hs2 with
  | [x0, x1], _ =>
    obtain rfl : cs = #[x0, x1] := by rw [← Array.toArray_toList (xs := cs), hl']
    obtain rfl := den_v (h 0 _ rfl)
    obtain ⟨g, n, cap, rfl, hn⟩ := den_row (den_d (h 1 _ rfl))
    simp only [List.length_map] at hn
    subst hn
    exact impl_join _ _ _ _ _
theorem sjoinA {m : Int} {bs : List (Fin 256)} {t : Bool} (h : joinB m bs.length = t) : DataOk Try.prog 121 [joinA m bs] (.d (.v (.bool t))) := by
  subst h
  refine DataOk.lift fun w F E H args _ hs hd => ?_
  obtain ⟨v, rfl, hv⟩ := arg1 hs hd
  obtain ⟨cs, rfl, hs', _, h⟩ := den_agg hv
  have hs2 : cs.toList.length = 2 := by simpa using hs'
  match hl' : cs.toList, hs2 with
  | [x0, x1], _ =>
    obtain rfl : cs = #[x0, x1] := by rw [← Array.toArray_toList (xs := cs), hl']
    obtain rfl := den_v (h 0 _ rfl)
    obtain ⟨g, n, cap, rfl, hn⟩ := den_row (den_d (h 1 _ rfl))
    simp only [List.length_map] at hn
    subst hn
    exact spec_join _ _ _ _ _
theorem icrx_ok (v m : Int) (bs : List (Fin 256)) (d : Bool) : DataOk Try.prog 92 [crA v m bs d] (.d (.v (.bool (crxB v m bs.length)))) := by
  unfold crxB
  cases k : inB v 0 255
  · skip
    refine Spec.intro (n := 11) (rv := [.tmp 2]) Try.func92 rfl rfl rfl (by simp) fun C hN hX => ?_
    refine AW.seq ?_
    apply AW.list
    apply Wk.bx 1 rfl rfl (lt_of_ble rfl)
    apply Wk.asg (by conv => lhs; whnf) (lt_of_ble rfl)
    refine Wk.nil ?_
    refine AW.seq ?_
    apply AW.list
    apply Wk.fad 0 0 false fd74_0 rfl (lt_of_ble rfl)
    apply Wk.ld (i := 1) 1 false ty3 rfl rfl (by conv => lhs; whnf) (lt_of_ble rfl)
    apply Wk.dat (inoneb k) Try.func47 rfl rfl rfl rfl rfl (lt_of_ble rfl)
    apply Wk.mv (by conv => lhs; whnf) (lt_of_ble rfl)
    apply Wk.goff 6 (ok_faddr fd74_1) rfl rfl (by decide)
    apply Wk.goff 6 (ok_load 1 ty70) rfl rfl (by decide)
    apply Wk.goff 6 (ok_datw ((ijoinA (m := 0) (bs := []) rfl).w rfl) Try.func126 rfl rfl) rfl rfl (by decide)
    apply Wk.pckF rfl (by conv => lhs; whnf) (lt_of_ble rfl)
    apply Wk.asg (by conv => lhs; whnf) (lt_of_ble rfl)
    refine Wk.nil (AW.ret ?_)
    exact RetQ.ret [] (.cons rfl .nil) ⟨rfl, rfl⟩ none_kept
  · skip
    refine Spec.intro (n := 11) (rv := [.tmp 2]) Try.func92 rfl rfl rfl (by simp) fun C hN hX => ?_
    refine AW.seq ?_
    apply AW.list
    apply Wk.bx 1 rfl rfl (lt_of_ble rfl)
    apply Wk.asg (by conv => lhs; whnf) (lt_of_ble rfl)
    refine Wk.nil ?_
    refine AW.seq ?_
    apply AW.list
    apply Wk.fad 0 0 false fd74_0 rfl (lt_of_ble rfl)
    apply Wk.ld (i := 1) 1 false ty3 rfl rfl (by conv => lhs; whnf) (lt_of_ble rfl)
    apply Wk.dat (inoneb k) Try.func47 rfl rfl rfl rfl rfl (lt_of_ble rfl)
    apply Wk.mv (by conv => lhs; whnf) (lt_of_ble rfl)
    apply Wk.gon 6 rfl rfl
    apply Wk.fad 1 1 true fd74_1 rfl (lt_of_ble rfl)
    apply Wk.gon 6 rfl rfl
    apply Wk.ld (i := 1) 2 true ty70 rfl rfl (by conv => lhs; whnf) (lt_of_ble rfl)
    apply Wk.gon 6 rfl rfl
    apply Wk.dat (ijoinA rfl) Try.func126 rfl rfl rfl rfl rfl (lt_of_ble rfl)
    apply Wk.pckT rfl (by conv => lhs; whnf) (lt_of_ble rfl)
    apply Wk.asg (by conv => lhs; whnf) (lt_of_ble rfl)
    refine Wk.nil (AW.ret ?_)
    exact RetQ.ret [] (.cons rfl .nil) ⟨rfl, rfl⟩ none_kept
theorem scrx_ok (v m : Int) (bs : List (Fin 256)) (d : Bool) : DataOk Try.prog 88 [crA v m bs d] (.d (.v (.bool (crxB v m bs.length)))) := by
  unfold crxB
  cases k : inB v 0 255
  · skip
    refine Spec.intro (n := 11) (rv := [.tmp 2]) Try.func88 rfl rfl rfl (by simp) fun C hN hX => ?_
    refine AW.seq ?_
    apply AW.list
    apply Wk.bx 1 rfl rfl (lt_of_ble rfl)
    apply Wk.asg (by conv => lhs; whnf) (lt_of_ble rfl)
    refine Wk.nil ?_
    refine AW.seq ?_
    apply AW.list
    apply Wk.fad 0 0 false fd74_0 rfl (lt_of_ble rfl)
    apply Wk.ld (i := 1) 1 false ty3 rfl rfl (by conv => lhs; whnf) (lt_of_ble rfl)
    apply Wk.dat (sinb k) Try.func40 rfl rfl rfl rfl rfl (lt_of_ble rfl)
    apply Wk.mv (by conv => lhs; whnf) (lt_of_ble rfl)
    apply Wk.goff 6 (ok_faddr fd74_1) rfl rfl (by decide)
    apply Wk.goff 6 (ok_load 1 ty70) rfl rfl (by decide)
    apply Wk.goff 6 (ok_datw ((sjoinA (m := 0) (bs := []) rfl).w rfl) Try.func121 rfl rfl) rfl rfl (by decide)
    apply Wk.pckF rfl (by conv => lhs; whnf) (lt_of_ble rfl)
    apply Wk.asg (by conv => lhs; whnf) (lt_of_ble rfl)
    refine Wk.nil (AW.ret ?_)
    exact RetQ.ret [] (.cons rfl .nil) ⟨rfl, rfl⟩ none_kept
  · skip
    refine Spec.intro (n := 11) (rv := [.tmp 2]) Try.func88 rfl rfl rfl (by simp) fun C hN hX => ?_
    refine AW.seq ?_
    apply AW.list
    apply Wk.bx 1 rfl rfl (lt_of_ble rfl)
    apply Wk.asg (by conv => lhs; whnf) (lt_of_ble rfl)
    refine Wk.nil ?_
    refine AW.seq ?_
    apply AW.list
    apply Wk.fad 0 0 false fd74_0 rfl (lt_of_ble rfl)
    apply Wk.ld (i := 1) 1 false ty3 rfl rfl (by conv => lhs; whnf) (lt_of_ble rfl)
    apply Wk.dat (sinb k) Try.func40 rfl rfl rfl rfl rfl (lt_of_ble rfl)
    apply Wk.mv (by conv => lhs; whnf) (lt_of_ble rfl)
    apply Wk.gon 6 rfl rfl
    apply Wk.fad 1 1 true fd74_1 rfl (lt_of_ble rfl)
    apply Wk.gon 6 rfl rfl
    apply Wk.ld (i := 1) 2 true ty70 rfl rfl (by conv => lhs; whnf) (lt_of_ble rfl)
    apply Wk.gon 6 rfl rfl
    apply Wk.dat (sjoinA rfl) Try.func121 rfl rfl rfl rfl rfl (lt_of_ble rfl)
    apply Wk.pckT rfl (by conv => lhs; whnf) (lt_of_ble rfl)
    apply Wk.asg (by conv => lhs; whnf) (lt_of_ble rfl)
    refine Wk.nil (AW.ret ?_)
    exact RetQ.ret [] (.cons rfl .nil) ⟨rfl, rfl⟩ none_kept
theorem icrxb {v m : Int} {bs : List (Fin 256)} {t : Bool} (d : Bool) (h : crxB v m bs.length = t) : DataOk Try.prog 92 [crA v m bs d] (.d (.v (.bool t))) := h ▸ icrx_ok v m bs d
theorem scrxb {v m : Int} {bs : List (Fin 256)} {t : Bool} (d : Bool) (h : crxB v m bs.length = t) : DataOk Try.prog 88 [crA v m bs d] (.d (.v (.bool t))) := h ▸ scrx_ok v m bs d
end Go.Proofs.Ytdjadeegjbhihaa

/- WldOk over what values read as. Written by tools/mk_AbsWldOk.py. -/
namespace Go.Proofs.Ytdjadeegjbhihaa
open Go Go.RowKit
theorem DataOk.fnc {P : Program} {f g : FuncId} {x r : A} (h : DataOk P f [x, .fn (.func g) [] []] r) : DataOk P f [x, .d (.v (.func (.func g) #[] #[]))] r := Spec.fnc h
def sduB (z : List (Fin 256)) : Bool := decide (24 < z.length)
def sdusB (ms : List (List (Fin 256))) : Bool := decide (ms.length ≤ 60) && !ms.any sduB
def msgB (x : MSG) : Bool := decide (15 < x.bs.length)
def netB (l : List MSG) : Bool := decide (l.length ≤ 30) && !l.any msgB
def EN.okB (o : Opt) (e : EN) : Bool := txOkB o e.tx && (rxB e.rx.e e.rx.c e.rx.m e.rx.bs.length && (crdOkB o e.cx && (crxB e.kx.v e.kx.m e.kx.bs.length && (sdusB e.put && sdusB e.got))))
def WD.okB (x : WD) : Bool := Opt.ok ⟨x.m, x.w, x.p, x.u, x.y⟩ && (decide (x.ends.length = 2) && (decide (x.net.length = 2) && (inB x.link 0 1 && (x.ends.all (EN.okB ⟨x.m, x.w, x.p, x.u, x.y⟩) && x.net.all netB))))
theorem bs_one (ms : List (List (Fin 256))) : ∀ e ∈ ms.map bsC, e.length = 1 := by
  intro e he
  obtain ⟨a, _, rfl⟩ := List.mem_map.1 he
  rfl
theorem net_one (ms : List (List MSG)) : ∀ e ∈ (ms.map fun l => [D.row (l.map msgC)]), e.length = 1 := by
  intro e he
  obtain ⟨a, _, rfl⟩ := List.mem_map.1 he
  rfl
theorem msg_two (ms : List MSG) : ∀ e ∈ ms.map msgC, e.length = 2 := by
  intro e he
  obtain ⟨a, _, rfl⟩ := List.mem_map.1 he
  rfl
theorem fb_len (z : List (Fin 256)) : ((((z.map (·.val)).map (fun z : Nat => [D.v (.int .u8 (z : Int))])).length : Nat) : Int) = (z.length : Int) := by simp
theorem imsg1_ok (z : List (Fin 256)) : DataOk Try.prog 127 [.d (fbytes z)] (.d (.v (.bool (sduB z)))) := by
  by_cases h : 24 < z.length
  · rw [show sduB z = true from decide_eq_true h]
    refine Spec.intro (n := 6) (rv := [.tmp 2]) Try.func127 rfl rfl rfl (by simp) fun C hN hX => ?_
    refine AW.seq ?_
    apply AW.list
    apply Wk.asg (by conv => lhs; whnf) (lt_of_ble rfl)
    refine Wk.nil ?_
    refine AW.seq ?_
    apply AW.list
    apply Wk.mv (by conv => lhs; whnf) (lt_of_ble rfl)
    apply Wk.len un64 rfl (lt_of_ble rfl)
    apply Wk.bin rfl rfl (r := .bool true) (fun w => by rw [fb_len]; simp [go_sem]; omega) (lt_of_ble rfl)
    apply Wk.asg (by conv => lhs; whnf) (lt_of_ble rfl)
    refine Wk.nil (AW.ret ?_)
    repeat (first | refine thenA_ret ?_ | refine inBlockA_ret ?_)
    exact RetQ.ret [] (.cons rfl .nil) ⟨rfl, rfl⟩ none_kept
  · rw [show sduB z = false from decide_eq_false h]
    refine Spec.intro (n := 6) (rv := [.tmp 2]) Try.func127 rfl rfl rfl (by simp) fun C hN hX => ?_
    refine AW.seq ?_
    apply AW.list
    apply Wk.asg (by conv => lhs; whnf) (lt_of_ble rfl)
    refine Wk.nil ?_
    refine AW.seq ?_
    apply AW.list
    apply Wk.mv (by conv => lhs; whnf) (lt_of_ble rfl)
    apply Wk.len un64 rfl (lt_of_ble rfl)
    apply Wk.bin rfl rfl (r := .bool false) (fun w => by rw [fb_len]; simp [go_sem]; omega) (lt_of_ble rfl)
    apply Wk.asg (by conv => lhs; whnf) (lt_of_ble rfl)
    refine Wk.nil (AW.ret ?_)
    repeat (first | refine thenA_ret ?_ | refine inBlockA_ret ?_)
    exact RetQ.ret [] (.cons rfl .nil) ⟨rfl, rfl⟩ none_kept
theorem inet1_ok (x : MSG) : DataOk Try.prog 94 [.agg ((msgC x).map A.d)] (.d (.v (.bool (msgB x)))) := by
  obtain ⟨bt, bs⟩ := x
  by_cases h : 15 < bs.length
  · rw [show msgB ⟨bt, bs⟩ = true from decide_eq_true h]
    refine Spec.intro (n := 7) (rv := [.tmp 2]) Try.func94 rfl rfl rfl (by simp) fun C hN hX => ?_
    refine AW.seq ?_
    apply AW.list
    apply Wk.bx 1 rfl rfl (lt_of_ble rfl)
    apply Wk.asg (by conv => lhs; whnf) (lt_of_ble rfl)
    refine Wk.nil ?_
    refine AW.seq ?_
    apply AW.list
    apply Wk.fad 1 0 false fd92_1 rfl (lt_of_ble rfl)
    apply Wk.ld (i := 1) 1 false ty64 rfl rfl (by conv => lhs; whnf) (lt_of_ble rfl)
    apply Wk.len un64 rfl (lt_of_ble rfl)
    apply Wk.bin rfl rfl (r := .bool true) (fun w => by rw [fb_len]; simp [go_sem]; omega) (lt_of_ble rfl)
    apply Wk.asg (by conv => lhs; whnf) (lt_of_ble rfl)
    refine Wk.nil (AW.ret ?_)
    repeat (first | refine thenA_ret ?_ | refine inBlockA_ret ?_)
    exact RetQ.ret [] (.cons rfl .nil) ⟨rfl, rfl⟩ none_kept
  · rw [show msgB ⟨bt, bs⟩ = false from decide_eq_false h]
    refine Spec.intro (n := 7) (rv := [.tmp 2]) Try.func94 rfl rfl rfl (by simp) fun C hN hX => ?_
    refine AW.seq ?_
    apply AW.list
    apply Wk.bx 1 rfl rfl (lt_of_ble rfl)
    apply Wk.asg (by conv => lhs; whnf) (lt_of_ble rfl)
    refine Wk.nil ?_
    refine AW.seq ?_
    apply AW.list
    apply Wk.fad 1 0 false fd92_1 rfl (lt_of_ble rfl)
    apply Wk.ld (i := 1) 1 false ty64 rfl rfl (by conv => lhs; whnf) (lt_of_ble rfl)
    apply Wk.len un64 rfl (lt_of_ble rfl)
    apply Wk.bin rfl rfl (r := .bool false) (fun w => by rw [fb_len]; simp [go_sem]; omega) (lt_of_ble rfl)
    apply Wk.asg (by conv => lhs; whnf) (lt_of_ble rfl)
    refine Wk.nil (AW.ret ?_)
    repeat (first | refine thenA_ret ?_ | refine inBlockA_ret ?_)
    exact RetQ.ret [] (.cons rfl .nil) ⟨rfl, rfl⟩ none_kept
theorem imsgs_ok (ms : List (List (Fin 256))) : DataOk Try.prog 93 [.d (.row (ms.map bsC))] (.d (.v (.bool (sdusB ms)))) := by
  have hh := DataOk.fnc (hasMs_ok ms sduB fun z _ => imsg1_ok z)
  have el : (((ms.map bsC).length : Nat) : Int) = (ms.length : Int) := by rw [List.length_map]
  by_cases h : ms.length ≤ 60
  · rw [show sdusB ms = !ms.any sduB from by simp [sdusB, h]]
    refine Spec.intro (n := 13) (rv := [.tmp 2]) Try.func93 rfl rfl rfl (by simp) fun C hN hX => ?_
    refine AW.seq ?_
    apply AW.list
    apply Wk.asg (by conv => lhs; whnf) (lt_of_ble rfl)
    refine Wk.nil ?_
    refine AW.seq ?_
    apply AW.list
    apply Wk.asg (by conv => lhs; whnf) (lt_of_ble rfl)
    refine Wk.nil ?_
    refine AW.seq ?_
    apply AW.list
    apply Wk.mv (by conv => lhs; whnf) (lt_of_ble rfl)
    apply Wk.len un75 rfl (lt_of_ble rfl)
    apply Wk.bin rfl rfl (r := .bool true) (fun w => by rw [el]; simp [go_sem]; omega) (lt_of_ble rfl)
    apply Wk.mv (by conv => lhs; whnf) (lt_of_ble rfl)
    apply Wk.gon 7 rfl rfl
    apply Wk.mv (by conv => lhs; whnf) (lt_of_ble rfl)
    apply Wk.gon 7 rfl rfl
    apply Wk.mv (by conv => lhs; whnf) (lt_of_ble rfl)
    apply Wk.gon 7 rfl rfl
    apply Wk.dat hh Try.func128 rfl rfl rfl rfl rfl (lt_of_ble rfl)
    apply Wk.gon 7 rfl rfl
    apply Wk.un rfl (r := .bool (!ms.any sduB)) (fun w => by simp [go_sem]) (lt_of_ble rfl)
    apply Wk.pckT rfl (by conv => lhs; whnf) (lt_of_ble rfl)
    apply Wk.asg (by conv => lhs; whnf) (lt_of_ble rfl)
    refine Wk.nil (AW.ret ?_)
    repeat (first | refine thenA_ret ?_ | refine inBlockA_ret ?_)
    exact RetQ.ret [] (.cons rfl .nil) ⟨rfl, rfl⟩ none_kept
  · rw [show sdusB ms = false from by simp [sdusB, h]]
    refine Spec.intro (n := 13) (rv := [.tmp 2]) Try.func93 rfl rfl rfl (by simp) fun C hN hX => ?_
    refine AW.seq ?_
    apply AW.list
    apply Wk.asg (by conv => lhs; whnf) (lt_of_ble rfl)
    refine Wk.nil ?_
    refine AW.seq ?_
    apply AW.list
    apply Wk.asg (by conv => lhs; whnf) (lt_of_ble rfl)
    refine Wk.nil ?_
    refine AW.seq ?_
    apply AW.list
    apply Wk.mv (by conv => lhs; whnf) (lt_of_ble rfl)
    apply Wk.len un75 rfl (lt_of_ble rfl)
    apply Wk.bin rfl rfl (r := .bool false) (fun w => by rw [el]; simp [go_sem]; omega) (lt_of_ble rfl)
    apply Wk.mv (by conv => lhs; whnf) (lt_of_ble rfl)
    apply Wk.goff 7 (ok_move _) rfl rfl (by simp)
    apply Wk.goff 7 (ok_move _) rfl rfl (by simp)
    apply Wk.goff 7 (ok_datw (hh.w rfl) Try.func128 rfl rfl) rfl rfl (by simp)
    apply Wk.goff 7 (ok_un _ _ _) rfl rfl (by simp)
    apply Wk.pckF rfl (by conv => lhs; whnf) (lt_of_ble rfl)
    apply Wk.asg (by conv => lhs; whnf) (lt_of_ble rfl)
    refine Wk.nil (AW.ret ?_)
    repeat (first | refine thenA_ret ?_ | refine inBlockA_ret ?_)
    exact RetQ.ret [] (.cons rfl .nil) ⟨rfl, rfl⟩ none_kept
theorem inets_ok (ms : List MSG) : DataOk Try.prog 58 [.d (.row (ms.map msgC))] (.d (.v (.bool (netB ms)))) := by
  have hh := DataOk.fnc (hasNm_ok ms msgB fun x _ => inet1_ok x)
  have el : (((ms.map msgC).length : Nat) : Int) = (ms.length : Int) := by rw [List.length_map]
  by_cases h : ms.length ≤ 30
  · rw [show netB ms = !ms.any msgB from by simp [netB, h]]
    refine Spec.intro (n := 13) (rv := [.tmp 2]) Try.func58 rfl rfl rfl (by simp) fun C hN hX => ?_
    refine AW.seq ?_
    apply AW.list
    apply Wk.asg (by conv => lhs; whnf) (lt_of_ble rfl)
    refine Wk.nil ?_
    refine AW.seq ?_
    apply AW.list
    apply Wk.asg (by conv => lhs; whnf) (lt_of_ble rfl)
    refine Wk.nil ?_
    refine AW.seq ?_
    apply AW.list
    apply Wk.mv (by conv => lhs; whnf) (lt_of_ble rfl)
    apply Wk.len un78 rfl (lt_of_ble rfl)
    apply Wk.bin rfl rfl (r := .bool true) (fun w => by rw [el]; simp [go_sem]; omega) (lt_of_ble rfl)
    apply Wk.mv (by conv => lhs; whnf) (lt_of_ble rfl)
    apply Wk.gon 7 rfl rfl
    apply Wk.mv (by conv => lhs; whnf) (lt_of_ble rfl)
    apply Wk.gon 7 rfl rfl
    apply Wk.mv (by conv => lhs; whnf) (lt_of_ble rfl)
    apply Wk.gon 7 rfl rfl
    apply Wk.dat hh Try.func95 rfl rfl rfl rfl rfl (lt_of_ble rfl)
    apply Wk.gon 7 rfl rfl
    apply Wk.un rfl (r := .bool (!ms.any msgB)) (fun w => by simp [go_sem]) (lt_of_ble rfl)
    apply Wk.pckT rfl (by conv => lhs; whnf) (lt_of_ble rfl)
    apply Wk.asg (by conv => lhs; whnf) (lt_of_ble rfl)
    refine Wk.nil (AW.ret ?_)
    repeat (first | refine thenA_ret ?_ | refine inBlockA_ret ?_)
    exact RetQ.ret [] (.cons rfl .nil) ⟨rfl, rfl⟩ none_kept
  · rw [show netB ms = false from by simp [netB, h]]
    refine Spec.intro (n := 13) (rv := [.tmp 2]) Try.func58 rfl rfl rfl (by simp) fun C hN hX => ?_
    refine AW.seq ?_
    apply AW.list
    apply Wk.asg (by conv => lhs; whnf) (lt_of_ble rfl)
    refine Wk.nil ?_
    refine AW.seq ?_
    apply AW.list
    apply Wk.asg (by conv => lhs; whnf) (lt_of_ble rfl)
    refine Wk.nil ?_
    refine AW.seq ?_
    apply AW.list
    apply Wk.mv (by conv => lhs; whnf) (lt_of_ble rfl)
    apply Wk.len un78 rfl (lt_of_ble rfl)
    apply Wk.bin rfl rfl (r := .bool false) (fun w => by rw [el]; simp [go_sem]; omega) (lt_of_ble rfl)
    apply Wk.mv (by conv => lhs; whnf) (lt_of_ble rfl)
    apply Wk.goff 7 (ok_move _) rfl rfl (by simp)
    apply Wk.goff 7 (ok_move _) rfl rfl (by simp)
    apply Wk.goff 7 (ok_datw (hh.w rfl) Try.func95 rfl rfl) rfl rfl (by simp)
    apply Wk.goff 7 (ok_un _ _ _) rfl rfl (by simp)
    apply Wk.pckF rfl (by conv => lhs; whnf) (lt_of_ble rfl)
    apply Wk.asg (by conv => lhs; whnf) (lt_of_ble rfl)
    refine Wk.nil (AW.ret ?_)
    repeat (first | refine thenA_ret ?_ | refine inBlockA_ret ?_)
    exact RetQ.ret [] (.cons rfl .nil) ⟨rfl, rfl⟩ none_kept
theorem ione_ok (n : Int) : DataOk Try.prog 56 [.d (.v (.int .i64 n))] (.d (.v (.bool (inB n 0 1)))) := by
  by_cases h : 0 ≤ n
  · by_cases h2 : n < 2
    · rw [show inB n 0 1 = true from (inB_iff _ _ _).2 ⟨h, by omega⟩]
      refine Spec.intro (n := 9) (rv := [.tmp 2]) Try.func56 rfl rfl rfl (by simp) fun C hN hX => ?_
      refine AW.seq ?_
      apply AW.list
      apply Wk.asg (by conv => lhs; whnf) (lt_of_ble rfl)
      refine Wk.nil ?_
      refine AW.seq ?_
      apply AW.list
      apply Wk.mv (by conv => lhs; whnf) (lt_of_ble rfl)
      apply Wk.bin rfl rfl (r := .bool true) (fun w => by simp [go_sem]; omega) (lt_of_ble rfl)
      apply Wk.mv (by conv => lhs; whnf) (lt_of_ble rfl)
      apply Wk.gon 5 rfl rfl
      apply Wk.mv (by conv => lhs; whnf) (lt_of_ble rfl)
      apply Wk.gon 5 rfl rfl
      apply Wk.bin rfl rfl (r := .bool true) (fun w => by simp [go_sem]; omega) (lt_of_ble rfl)
      apply Wk.pckT rfl (by conv => lhs; whnf) (lt_of_ble rfl)
      apply Wk.asg (by conv => lhs; whnf) (lt_of_ble rfl)
      refine Wk.nil (AW.ret ?_)
      repeat (first | refine thenA_ret ?_ | refine inBlockA_ret ?_)
      exact RetQ.ret [] (.cons rfl .nil) ⟨rfl, rfl⟩ none_kept
    · rw [show inB n 0 1 = false from by cases hb : inB n 0 1 with | false => rfl | true => exact absurd ((inB_iff _ _ _).1 hb).2 (by omega)]
      refine Spec.intro (n := 9) (rv := [.tmp 2]) Try.func56 rfl rfl rfl (by simp) fun C hN hX => ?_
      refine AW.seq ?_
      apply AW.list
      apply Wk.asg (by conv => lhs; whnf) (lt_of_ble rfl)
      refine Wk.nil ?_
      refine AW.seq ?_
      apply AW.list
      apply Wk.mv (by conv => lhs; whnf) (lt_of_ble rfl)
      apply Wk.bin rfl rfl (r := .bool true) (fun w => by simp [go_sem]; omega) (lt_of_ble rfl)
      apply Wk.mv (by conv => lhs; whnf) (lt_of_ble rfl)
      apply Wk.gon 5 rfl rfl
      apply Wk.mv (by conv => lhs; whnf) (lt_of_ble rfl)
      apply Wk.gon 5 rfl rfl
      apply Wk.bin rfl rfl (r := .bool false) (fun w => by simp [go_sem]; omega) (lt_of_ble rfl)
      apply Wk.pckT rfl (by conv => lhs; whnf) (lt_of_ble rfl)
      apply Wk.asg (by conv => lhs; whnf) (lt_of_ble rfl)
      refine Wk.nil (AW.ret ?_)
      repeat (first | refine thenA_ret ?_ | refine inBlockA_ret ?_)
      exact RetQ.ret [] (.cons rfl .nil) ⟨rfl, rfl⟩ none_kept
  · rw [show inB n 0 1 = false from by cases hb : inB n 0 1 with | false => rfl | true => exact absurd ((inB_iff _ _ _).1 hb).1 (by omega)]
    refine Spec.intro (n := 9) (rv := [.tmp 2]) Try.func56 rfl rfl rfl (by simp) fun C hN hX => ?_
    refine AW.seq ?_
    apply AW.list
    apply Wk.asg (by conv => lhs; whnf) (lt_of_ble rfl)
    refine Wk.nil ?_
    refine AW.seq ?_
    apply AW.list
    apply Wk.mv (by conv => lhs; whnf) (lt_of_ble rfl)
    apply Wk.bin rfl rfl (r := .bool false) (fun w => by simp [go_sem]; omega) (lt_of_ble rfl)
    apply Wk.mv (by conv => lhs; whnf) (lt_of_ble rfl)
    apply Wk.goff 5 (ok_move _) rfl rfl (by simp)
    apply Wk.goff 5 (ok_bin _ _ _ _ _) rfl rfl (by simp)
    apply Wk.pckF rfl (by conv => lhs; whnf) (lt_of_ble rfl)
    apply Wk.asg (by conv => lhs; whnf) (lt_of_ble rfl)
    refine Wk.nil (AW.ret ?_)
    repeat (first | refine thenA_ret ?_ | refine inBlockA_ret ?_)
    exact RetQ.ret [] (.cons rfl .nil) ⟨rfl, rfl⟩ none_kept
set_option maxHeartbeats 4000000 in
set_option maxRecDepth 100000 in
theorem iend_ok (m w p u y : Int) (e : EN) : DataOk Try.prog 57 [cfgA m w p u y, .agg ((enD e).map A.d)] (.d (.v (.bool (EN.okB ⟨m, w, p, u, y⟩ e)))) := by
  have k0 := itx_ok m w p u y e.tx
  have k1 := irx_ok e.rx.e e.rx.c e.rx.m e.rx.bs e.rx.a e.rx.u e.rx.d
  have k2 := icx_ok m w p u y e.cx
  have k3 := icrx_ok e.kx.v e.kx.m e.kx.bs e.kx.d
  have k4 := imsgs_ok e.put
  have k5 := imsgs_ok e.got
  unfold EN.okB
  generalize txOkB ⟨m, w, p, u, y⟩ e.tx = b0 at *
  generalize rxB e.rx.e e.rx.c e.rx.m e.rx.bs.length = b1 at *
  generalize crdOkB ⟨m, w, p, u, y⟩ e.cx = b2 at *
  generalize crxB e.kx.v e.kx.m e.kx.bs.length = b3 at *
  generalize sdusB e.put = b4 at *
  generalize sdusB e.got = b5 at *
  obtain ⟨⟨n, a, fl, s, qu, q, t, h, c, d0⟩, ⟨e1, c1, m1, z1, a1, u1, d1⟩, ⟨v2, q2, g2, s2, d2⟩, ⟨v3, m3, z3, d3⟩, put, got⟩ := e
  cases b0
  · skip
    refine Spec.intro (n := 35) (rv := [.tmp 4]) Try.func57 rfl rfl rfl (by simp) fun C hN hX => ?_
    refine AW.seq ?_
    apply AW.list
    apply Wk.bx 2 rfl rfl (lt_of_ble rfl)
    apply Wk.bx 3 rfl rfl (lt_of_ble rfl)
    apply Wk.asg (by conv => lhs; whnf) (lt_of_ble rfl)
    refine Wk.nil ?_
    refine AW.seq ?_
    apply AW.list
    apply Wk.ld (i := 2) 5 true ty29 rfl rfl (by conv => lhs; whnf) (lt_of_ble rfl)
    apply Wk.fad 0 9 true fd77_0 rfl (lt_of_ble rfl)
    apply Wk.ld (i := 3) 10 true ty33 rfl rfl (by conv => lhs; whnf) (lt_of_ble rfl)
    apply Wk.dat k0 Try.func14 rfl rfl rfl rfl rfl (lt_of_ble rfl)
    apply Wk.mv (by conv => lhs; whnf) (lt_of_ble rfl)
    apply Wk.goff 9 (ok_faddr fd77_1) rfl rfl (by simp)
    apply Wk.goff 9 (ok_load 3 ty72) rfl rfl (by simp)
    apply Wk.goff 9 (ok_datw (k1.w rfl) Try.func91 rfl rfl) rfl rfl (by simp)
    apply Wk.pckF rfl (by conv => lhs; whnf) (lt_of_ble rfl)
    apply Wk.mv (by conv => lhs; whnf) (lt_of_ble rfl)
    apply Wk.goff 14 (ok_load 2 ty29) rfl rfl (by simp)
    apply Wk.goff 14 (ok_faddr fd77_2) rfl rfl (by simp)
    apply Wk.goff 14 (ok_load 3 ty44) rfl rfl (by simp)
    apply Wk.goff 14 (ok_datw (k2.w rfl) Try.func21 rfl rfl) rfl rfl (by simp)
    apply Wk.pckF rfl (by conv => lhs; whnf) (lt_of_ble rfl)
    apply Wk.mv (by conv => lhs; whnf) (lt_of_ble rfl)
    apply Wk.goff 20 (ok_faddr fd77_3) rfl rfl (by simp)
    apply Wk.goff 20 (ok_load 3 ty74) rfl rfl (by simp)
    apply Wk.goff 20 (ok_datw (k3.w rfl) Try.func92 rfl rfl) rfl rfl (by simp)
    apply Wk.pckF rfl (by conv => lhs; whnf) (lt_of_ble rfl)
    apply Wk.mv (by conv => lhs; whnf) (lt_of_ble rfl)
    apply Wk.goff 25 (ok_faddr fd77_4) rfl rfl (by simp)
    apply Wk.goff 25 (ok_load 3 ty75) rfl rfl (by simp)
    apply Wk.goff 25 (ok_datw (k4.w rfl) Try.func93 rfl rfl) rfl rfl (by simp)
    apply Wk.pckF rfl (by conv => lhs; whnf) (lt_of_ble rfl)
    apply Wk.mv (by conv => lhs; whnf) (lt_of_ble rfl)
    apply Wk.goff 30 (ok_faddr fd77_5) rfl rfl (by simp)
    apply Wk.goff 30 (ok_load 3 ty75) rfl rfl (by simp)
    apply Wk.goff 30 (ok_datw (k5.w rfl) Try.func93 rfl rfl) rfl rfl (by simp)
    apply Wk.pckF rfl (by conv => lhs; whnf) (lt_of_ble rfl)
    apply Wk.asg (by conv => lhs; whnf) (lt_of_ble rfl)
    refine Wk.nil (AW.ret ?_)
    repeat (first | refine thenA_ret ?_ | refine inBlockA_ret ?_)
    exact RetQ.ret [] (.cons rfl .nil) ⟨rfl, rfl⟩ none_kept
  · skip
    cases b1
    · skip
      refine Spec.intro (n := 35) (rv := [.tmp 4]) Try.func57 rfl rfl rfl (by simp) fun C hN hX => ?_
      refine AW.seq ?_
      apply AW.list
      apply Wk.bx 2 rfl rfl (lt_of_ble rfl)
      apply Wk.bx 3 rfl rfl (lt_of_ble rfl)
      apply Wk.asg (by conv => lhs; whnf) (lt_of_ble rfl)
      refine Wk.nil ?_
      refine AW.seq ?_
      apply AW.list
      apply Wk.ld (i := 2) 5 true ty29 rfl rfl (by conv => lhs; whnf) (lt_of_ble rfl)
      apply Wk.fad 0 9 true fd77_0 rfl (lt_of_ble rfl)
      apply Wk.ld (i := 3) 10 true ty33 rfl rfl (by conv => lhs; whnf) (lt_of_ble rfl)
      apply Wk.dat k0 Try.func14 rfl rfl rfl rfl rfl (lt_of_ble rfl)
      apply Wk.mv (by conv => lhs; whnf) (lt_of_ble rfl)
      apply Wk.gon 9 rfl rfl
      apply Wk.fad 10 6 true fd77_1 rfl (lt_of_ble rfl)
      apply Wk.gon 9 rfl rfl
      apply Wk.ld (i := 3) 7 true ty72 rfl rfl (by conv => lhs; whnf) (lt_of_ble rfl)
      apply Wk.gon 9 rfl rfl
      apply Wk.dat k1 Try.func91 rfl rfl rfl rfl rfl (lt_of_ble rfl)
      apply Wk.pckT rfl (by conv => lhs; whnf) (lt_of_ble rfl)
      apply Wk.mv (by conv => lhs; whnf) (lt_of_ble rfl)
      apply Wk.goff 14 (ok_load 2 ty29) rfl rfl (by simp)
      apply Wk.goff 14 (ok_faddr fd77_2) rfl rfl (by simp)
      apply Wk.goff 14 (ok_load 3 ty44) rfl rfl (by simp)
      apply Wk.goff 14 (ok_datw (k2.w rfl) Try.func21 rfl rfl) rfl rfl (by simp)
      apply Wk.pckF rfl (by conv => lhs; whnf) (lt_of_ble rfl)
      apply Wk.mv (by conv => lhs; whnf) (lt_of_ble rfl)
      apply Wk.goff 20 (ok_faddr fd77_3) rfl rfl (by simp)
      apply Wk.goff 20 (ok_load 3 ty74) rfl rfl (by simp)
      apply Wk.goff 20 (ok_datw (k3.w rfl) Try.func92 rfl rfl) rfl rfl (by simp)
      apply Wk.pckF rfl (by conv => lhs; whnf) (lt_of_ble rfl)
      apply Wk.mv (by conv => lhs; whnf) (lt_of_ble rfl)
      apply Wk.goff 25 (ok_faddr fd77_4) rfl rfl (by simp)
      apply Wk.goff 25 (ok_load 3 ty75) rfl rfl (by simp)
      apply Wk.goff 25 (ok_datw (k4.w rfl) Try.func93 rfl rfl) rfl rfl (by simp)
      apply Wk.pckF rfl (by conv => lhs; whnf) (lt_of_ble rfl)
      apply Wk.mv (by conv => lhs; whnf) (lt_of_ble rfl)
      apply Wk.goff 30 (ok_faddr fd77_5) rfl rfl (by simp)
      apply Wk.goff 30 (ok_load 3 ty75) rfl rfl (by simp)
      apply Wk.goff 30 (ok_datw (k5.w rfl) Try.func93 rfl rfl) rfl rfl (by simp)
      apply Wk.pckF rfl (by conv => lhs; whnf) (lt_of_ble rfl)
      apply Wk.asg (by conv => lhs; whnf) (lt_of_ble rfl)
      refine Wk.nil (AW.ret ?_)
      repeat (first | refine thenA_ret ?_ | refine inBlockA_ret ?_)
      exact RetQ.ret [] (.cons rfl .nil) ⟨rfl, rfl⟩ none_kept
    · skip
      cases b2
      · skip
        refine Spec.intro (n := 35) (rv := [.tmp 4]) Try.func57 rfl rfl rfl (by simp) fun C hN hX => ?_
        refine AW.seq ?_
        apply AW.list
        apply Wk.bx 2 rfl rfl (lt_of_ble rfl)
        apply Wk.bx 3 rfl rfl (lt_of_ble rfl)
        apply Wk.asg (by conv => lhs; whnf) (lt_of_ble rfl)
        refine Wk.nil ?_
        refine AW.seq ?_
        apply AW.list
        apply Wk.ld (i := 2) 5 true ty29 rfl rfl (by conv => lhs; whnf) (lt_of_ble rfl)
        apply Wk.fad 0 9 true fd77_0 rfl (lt_of_ble rfl)
        apply Wk.ld (i := 3) 10 true ty33 rfl rfl (by conv => lhs; whnf) (lt_of_ble rfl)
        apply Wk.dat k0 Try.func14 rfl rfl rfl rfl rfl (lt_of_ble rfl)
        apply Wk.mv (by conv => lhs; whnf) (lt_of_ble rfl)
        apply Wk.gon 9 rfl rfl
        apply Wk.fad 10 6 true fd77_1 rfl (lt_of_ble rfl)
        apply Wk.gon 9 rfl rfl
        apply Wk.ld (i := 3) 7 true ty72 rfl rfl (by conv => lhs; whnf) (lt_of_ble rfl)
        apply Wk.gon 9 rfl rfl
        apply Wk.dat k1 Try.func91 rfl rfl rfl rfl rfl (lt_of_ble rfl)
        apply Wk.pckT rfl (by conv => lhs; whnf) (lt_of_ble rfl)
        apply Wk.mv (by conv => lhs; whnf) (lt_of_ble rfl)
        apply Wk.gon 14 rfl rfl
        apply Wk.ld (i := 2) 5 true ty29 rfl rfl (by conv => lhs; whnf) (lt_of_ble rfl)
        apply Wk.gon 14 rfl rfl
        apply Wk.fad 17 4 true fd77_2 rfl (lt_of_ble rfl)
        apply Wk.gon 14 rfl rfl
        apply Wk.ld (i := 3) 5 true ty44 rfl rfl (by conv => lhs; whnf) (lt_of_ble rfl)
        apply Wk.gon 14 rfl rfl
        apply Wk.dat k2 Try.func21 rfl rfl rfl rfl rfl (lt_of_ble rfl)
        apply Wk.pckT rfl (by conv => lhs; whnf) (lt_of_ble rfl)
        apply Wk.mv (by conv => lhs; whnf) (lt_of_ble rfl)
        apply Wk.goff 20 (ok_faddr fd77_3) rfl rfl (by simp)
        apply Wk.goff 20 (ok_load 3 ty74) rfl rfl (by simp)
        apply Wk.goff 20 (ok_datw (k3.w rfl) Try.func92 rfl rfl) rfl rfl (by simp)
        apply Wk.pckF rfl (by conv => lhs; whnf) (lt_of_ble rfl)
        apply Wk.mv (by conv => lhs; whnf) (lt_of_ble rfl)
        apply Wk.goff 25 (ok_faddr fd77_4) rfl rfl (by simp)
        apply Wk.goff 25 (ok_load 3 ty75) rfl rfl (by simp)
        apply Wk.goff 25 (ok_datw (k4.w rfl) Try.func93 rfl rfl) rfl rfl (by simp)
        apply Wk.pckF rfl (by conv => lhs; whnf) (lt_of_ble rfl)
        apply Wk.mv (by conv => lhs; whnf) (lt_of_ble rfl)
        apply Wk.goff 30 (ok_faddr fd77_5) rfl rfl (by simp)
        apply Wk.goff 30 (ok_load 3 ty75) rfl rfl (by simp)
        apply Wk.goff 30 (ok_datw (k5.w rfl) Try.func93 rfl rfl) rfl rfl (by simp)
        apply Wk.pckF rfl (by conv => lhs; whnf) (lt_of_ble rfl)
        apply Wk.asg (by conv => lhs; whnf) (lt_of_ble rfl)
        refine Wk.nil (AW.ret ?_)
        repeat (first | refine thenA_ret ?_ | refine inBlockA_ret ?_)
        exact RetQ.ret [] (.cons rfl .nil) ⟨rfl, rfl⟩ none_kept
      · skip
        cases b3
        · skip
          refine Spec.intro (n := 35) (rv := [.tmp 4]) Try.func57 rfl rfl rfl (by simp) fun C hN hX => ?_
          refine AW.seq ?_
          apply AW.list
          apply Wk.bx 2 rfl rfl (lt_of_ble rfl)
          apply Wk.bx 3 rfl rfl (lt_of_ble rfl)
          apply Wk.asg (by conv => lhs; whnf) (lt_of_ble rfl)
          refine Wk.nil ?_
          refine AW.seq ?_
          apply AW.list
          apply Wk.ld (i := 2) 5 true ty29 rfl rfl (by conv => lhs; whnf) (lt_of_ble rfl)
          apply Wk.fad 0 9 true fd77_0 rfl (lt_of_ble rfl)
          apply Wk.ld (i := 3) 10 true ty33 rfl rfl (by conv => lhs; whnf) (lt_of_ble rfl)
          apply Wk.dat k0 Try.func14 rfl rfl rfl rfl rfl (lt_of_ble rfl)
          apply Wk.mv (by conv => lhs; whnf) (lt_of_ble rfl)
          apply Wk.gon 9 rfl rfl
          apply Wk.fad 10 6 true fd77_1 rfl (lt_of_ble rfl)
          apply Wk.gon 9 rfl rfl
          apply Wk.ld (i := 3) 7 true ty72 rfl rfl (by conv => lhs; whnf) (lt_of_ble rfl)
          apply Wk.gon 9 rfl rfl
          apply Wk.dat k1 Try.func91 rfl rfl rfl rfl rfl (lt_of_ble rfl)
          apply Wk.pckT rfl (by conv => lhs; whnf) (lt_of_ble rfl)
          apply Wk.mv (by conv => lhs; whnf) (lt_of_ble rfl)
          apply Wk.gon 14 rfl rfl
          apply Wk.ld (i := 2) 5 true ty29 rfl rfl (by conv => lhs; whnf) (lt_of_ble rfl)
          apply Wk.gon 14 rfl rfl
          apply Wk.fad 17 4 true fd77_2 rfl (lt_of_ble rfl)
          apply Wk.gon 14 rfl rfl
          apply Wk.ld (i := 3) 5 true ty44 rfl rfl (by conv => lhs; whnf) (lt_of_ble rfl)
          apply Wk.gon 14 rfl rfl
          apply Wk.dat k2 Try.func21 rfl rfl rfl rfl rfl (lt_of_ble rfl)
          apply Wk.pckT rfl (by conv => lhs; whnf) (lt_of_ble rfl)
          apply Wk.mv (by conv => lhs; whnf) (lt_of_ble rfl)
          apply Wk.gon 20 rfl rfl
          apply Wk.fad 22 3 true fd77_3 rfl (lt_of_ble rfl)
          apply Wk.gon 20 rfl rfl
          apply Wk.ld (i := 3) 4 true ty74 rfl rfl (by conv => lhs; whnf) (lt_of_ble rfl)
          apply Wk.gon 20 rfl rfl
          apply Wk.dat k3 Try.func92 rfl rfl rfl rfl rfl (lt_of_ble rfl)
          apply Wk.pckT rfl (by conv => lhs; whnf) (lt_of_ble rfl)
          apply Wk.mv (by conv => lhs; whnf) (lt_of_ble rfl)
          apply Wk.goff 25 (ok_faddr fd77_4) rfl rfl (by simp)
          apply Wk.goff 25 (ok_load 3 ty75) rfl rfl (by simp)
          apply Wk.goff 25 (ok_datw (k4.w rfl) Try.func93 rfl rfl) rfl rfl (by simp)
          apply Wk.pckF rfl (by conv => lhs; whnf) (lt_of_ble rfl)
          apply Wk.mv (by conv => lhs; whnf) (lt_of_ble rfl)
          apply Wk.goff 30 (ok_faddr fd77_5) rfl rfl (by simp)
          apply Wk.goff 30 (ok_load 3 ty75) rfl rfl (by simp)
          apply Wk.goff 30 (ok_datw (k5.w rfl) Try.func93 rfl rfl) rfl rfl (by simp)
          apply Wk.pckF rfl (by conv => lhs; whnf) (lt_of_ble rfl)
          apply Wk.asg (by conv => lhs; whnf) (lt_of_ble rfl)
          refine Wk.nil (AW.ret ?_)
          repeat (first | refine thenA_ret ?_ | refine inBlockA_ret ?_)
          exact RetQ.ret [] (.cons rfl .nil) ⟨rfl, rfl⟩ none_kept
        · skip
          cases b4
          · skip
            refine Spec.intro (n := 35) (rv := [.tmp 4]) Try.func57 rfl rfl rfl (by simp) fun C hN hX => ?_
            refine AW.seq ?_
            apply AW.list
            apply Wk.bx 2 rfl rfl (lt_of_ble rfl)
            apply Wk.bx 3 rfl rfl (lt_of_ble rfl)
            apply Wk.asg (by conv => lhs; whnf) (lt_of_ble rfl)
            refine Wk.nil ?_
            refine AW.seq ?_
            apply AW.list
            apply Wk.ld (i := 2) 5 true ty29 rfl rfl (by conv => lhs; whnf) (lt_of_ble rfl)
            apply Wk.fad 0 9 true fd77_0 rfl (lt_of_ble rfl)
            apply Wk.ld (i := 3) 10 true ty33 rfl rfl (by conv => lhs; whnf) (lt_of_ble rfl)
            apply Wk.dat k0 Try.func14 rfl rfl rfl rfl rfl (lt_of_ble rfl)
            apply Wk.mv (by conv => lhs; whnf) (lt_of_ble rfl)
            apply Wk.gon 9 rfl rfl
            apply Wk.fad 10 6 true fd77_1 rfl (lt_of_ble rfl)
            apply Wk.gon 9 rfl rfl
            apply Wk.ld (i := 3) 7 true ty72 rfl rfl (by conv => lhs; whnf) (lt_of_ble rfl)
            apply Wk.gon 9 rfl rfl
            apply Wk.dat k1 Try.func91 rfl rfl rfl rfl rfl (lt_of_ble rfl)
            apply Wk.pckT rfl (by conv => lhs; whnf) (lt_of_ble rfl)
            apply Wk.mv (by conv => lhs; whnf) (lt_of_ble rfl)
            apply Wk.gon 14 rfl rfl
            apply Wk.ld (i := 2) 5 true ty29 rfl rfl (by conv => lhs; whnf) (lt_of_ble rfl)
            apply Wk.gon 14 rfl rfl
            apply Wk.fad 17 4 true fd77_2 rfl (lt_of_ble rfl)
            apply Wk.gon 14 rfl rfl
            apply Wk.ld (i := 3) 5 true ty44 rfl rfl (by conv => lhs; whnf) (lt_of_ble rfl)
            apply Wk.gon 14 rfl rfl
            apply Wk.dat k2 Try.func21 rfl rfl rfl rfl rfl (lt_of_ble rfl)
            apply Wk.pckT rfl (by conv => lhs; whnf) (lt_of_ble rfl)
            apply Wk.mv (by conv => lhs; whnf) (lt_of_ble rfl)
            apply Wk.gon 20 rfl rfl
            apply Wk.fad 22 3 true fd77_3 rfl (lt_of_ble rfl)
            apply Wk.gon 20 rfl rfl
            apply Wk.ld (i := 3) 4 true ty74 rfl rfl (by conv => lhs; whnf) (lt_of_ble rfl)
            apply Wk.gon 20 rfl rfl
            apply Wk.dat k3 Try.func92 rfl rfl rfl rfl rfl (lt_of_ble rfl)
            apply Wk.pckT rfl (by conv => lhs; whnf) (lt_of_ble rfl)
            apply Wk.mv (by conv => lhs; whnf) (lt_of_ble rfl)
            apply Wk.gon 25 rfl rfl
            apply Wk.fad 26 0 false fd77_4 rfl (lt_of_ble rfl)
            apply Wk.gon 25 rfl rfl
            apply Wk.ld (i := 3) 1 false ty75 rfl rfl (by conv => lhs; whnf) (lt_of_ble rfl)
            apply Wk.gon 25 rfl rfl
            apply Wk.dat k4 Try.func93 rfl rfl rfl rfl rfl (lt_of_ble rfl)
            apply Wk.pckT rfl (by conv => lhs; whnf) (lt_of_ble rfl)
            apply Wk.mv (by conv => lhs; whnf) (lt_of_ble rfl)
            apply Wk.goff 30 (ok_faddr fd77_5) rfl rfl (by simp)
            apply Wk.goff 30 (ok_load 3 ty75) rfl rfl (by simp)
            apply Wk.goff 30 (ok_datw (k5.w rfl) Try.func93 rfl rfl) rfl rfl (by simp)
            apply Wk.pckF rfl (by conv => lhs; whnf) (lt_of_ble rfl)
            apply Wk.asg (by conv => lhs; whnf) (lt_of_ble rfl)
            refine Wk.nil (AW.ret ?_)
            repeat (first | refine thenA_ret ?_ | refine inBlockA_ret ?_)
            exact RetQ.ret [] (.cons rfl .nil) ⟨rfl, rfl⟩ none_kept
          · skip
            cases b5
            · skip
              refine Spec.intro (n := 35) (rv := [.tmp 4]) Try.func57 rfl rfl rfl (by simp) fun C hN hX => ?_
              refine AW.seq ?_
              apply AW.list
              apply Wk.bx 2 rfl rfl (lt_of_ble rfl)
              apply Wk.bx 3 rfl rfl (lt_of_ble rfl)
              apply Wk.asg (by conv => lhs; whnf) (lt_of_ble rfl)
              refine Wk.nil ?_
              refine AW.seq ?_
              apply AW.list
              apply Wk.ld (i := 2) 5 true ty29 rfl rfl (by conv => lhs; whnf) (lt_of_ble rfl)
              apply Wk.fad 0 9 true fd77_0 rfl (lt_of_ble rfl)
              apply Wk.ld (i := 3) 10 true ty33 rfl rfl (by conv => lhs; whnf) (lt_of_ble rfl)
              apply Wk.dat k0 Try.func14 rfl rfl rfl rfl rfl (lt_of_ble rfl)
              apply Wk.mv (by conv => lhs; whnf) (lt_of_ble rfl)
              apply Wk.gon 9 rfl rfl
              apply Wk.fad 10 6 true fd77_1 rfl (lt_of_ble rfl)
              apply Wk.gon 9 rfl rfl
              apply Wk.ld (i := 3) 7 true ty72 rfl rfl (by conv => lhs; whnf) (lt_of_ble rfl)
              apply Wk.gon 9 rfl rfl
              apply Wk.dat k1 Try.func91 rfl rfl rfl rfl rfl (lt_of_ble rfl)
              apply Wk.pckT rfl (by conv => lhs; whnf) (lt_of_ble rfl)
              apply Wk.mv (by conv => lhs; whnf) (lt_of_ble rfl)
              apply Wk.gon 14 rfl rfl
              apply Wk.ld (i := 2) 5 true ty29 rfl rfl (by conv => lhs; whnf) (lt_of_ble rfl)
              apply Wk.gon 14 rfl rfl
              apply Wk.fad 17 4 true fd77_2 rfl (lt_of_ble rfl)
              apply Wk.gon 14 rfl rfl
              apply Wk.ld (i := 3) 5 true ty44 rfl rfl (by conv => lhs; whnf) (lt_of_ble rfl)
              apply Wk.gon 14 rfl rfl
              apply Wk.dat k2 Try.func21 rfl rfl rfl rfl rfl (lt_of_ble rfl)
              apply Wk.pckT rfl (by conv => lhs; whnf) (lt_of_ble rfl)
              apply Wk.mv (by conv => lhs; whnf) (lt_of_ble rfl)
              apply Wk.gon 20 rfl rfl
              apply Wk.fad 22 3 true fd77_3 rfl (lt_of_ble rfl)
              apply Wk.gon 20 rfl rfl
              apply Wk.ld (i := 3) 4 true ty74 rfl rfl (by conv => lhs; whnf) (lt_of_ble rfl)
              apply Wk.gon 20 rfl rfl
              apply Wk.dat k3 Try.func92 rfl rfl rfl rfl rfl (lt_of_ble rfl)
              apply Wk.pckT rfl (by conv => lhs; whnf) (lt_of_ble rfl)
              apply Wk.mv (by conv => lhs; whnf) (lt_of_ble rfl)
              apply Wk.gon 25 rfl rfl
              apply Wk.fad 26 0 false fd77_4 rfl (lt_of_ble rfl)
              apply Wk.gon 25 rfl rfl
              apply Wk.ld (i := 3) 1 false ty75 rfl rfl (by conv => lhs; whnf) (lt_of_ble rfl)
              apply Wk.gon 25 rfl rfl
              apply Wk.dat k4 Try.func93 rfl rfl rfl rfl rfl (lt_of_ble rfl)
              apply Wk.pckT rfl (by conv => lhs; whnf) (lt_of_ble rfl)
              apply Wk.mv (by conv => lhs; whnf) (lt_of_ble rfl)
              apply Wk.gon 30 rfl rfl
              apply Wk.fad 27 0 false fd77_5 rfl (lt_of_ble rfl)
              apply Wk.gon 30 rfl rfl
              apply Wk.ld (i := 3) 1 false ty75 rfl rfl (by conv => lhs; whnf) (lt_of_ble rfl)
              apply Wk.gon 30 rfl rfl
              apply Wk.dat k5 Try.func93 rfl rfl rfl rfl rfl (lt_of_ble rfl)
              apply Wk.pckT rfl (by conv => lhs; whnf) (lt_of_ble rfl)
              apply Wk.asg (by conv => lhs; whnf) (lt_of_ble rfl)
              refine Wk.nil (AW.ret ?_)
              repeat (first | refine thenA_ret ?_ | refine inBlockA_ret ?_)
              exact RetQ.ret [] (.cons rfl .nil) ⟨rfl, rfl⟩ none_kept
            · skip
              refine Spec.intro (n := 35) (rv := [.tmp 4]) Try.func57 rfl rfl rfl (by simp) fun C hN hX => ?_
              refine AW.seq ?_
              apply AW.list
              apply Wk.bx 2 rfl rfl (lt_of_ble rfl)
              apply Wk.bx 3 rfl rfl (lt_of_ble rfl)
              apply Wk.asg (by conv => lhs; whnf) (lt_of_ble rfl)
              refine Wk.nil ?_
              refine AW.seq ?_
              apply AW.list
              apply Wk.ld (i := 2) 5 true ty29 rfl rfl (by conv => lhs; whnf) (lt_of_ble rfl)
              apply Wk.fad 0 9 true fd77_0 rfl (lt_of_ble rfl)
              apply Wk.ld (i := 3) 10 true ty33 rfl rfl (by conv => lhs; whnf) (lt_of_ble rfl)
              apply Wk.dat k0 Try.func14 rfl rfl rfl rfl rfl (lt_of_ble rfl)
              apply Wk.mv (by conv => lhs; whnf) (lt_of_ble rfl)
              apply Wk.gon 9 rfl rfl
              apply Wk.fad 10 6 true fd77_1 rfl (lt_of_ble rfl)
              apply Wk.gon 9 rfl rfl
              apply Wk.ld (i := 3) 7 true ty72 rfl rfl (by conv => lhs; whnf) (lt_of_ble rfl)
              apply Wk.gon 9 rfl rfl
              apply Wk.dat k1 Try.func91 rfl rfl rfl rfl rfl (lt_of_ble rfl)
              apply Wk.pckT rfl (by conv => lhs; whnf) (lt_of_ble rfl)
              apply Wk.mv (by conv => lhs; whnf) (lt_of_ble rfl)
              apply Wk.gon 14 rfl rfl
              apply Wk.ld (i := 2) 5 true ty29 rfl rfl (by conv => lhs; whnf) (lt_of_ble rfl)
              apply Wk.gon 14 rfl rfl
              apply Wk.fad 17 4 true fd77_2 rfl (lt_of_ble rfl)
              apply Wk.gon 14 rfl rfl
              apply Wk.ld (i := 3) 5 true ty44 rfl rfl (by conv => lhs; whnf) (lt_of_ble rfl)
              apply Wk.gon 14 rfl rfl
              apply Wk.dat k2 Try.func21 rfl rfl rfl rfl rfl (lt_of_ble rfl)
              apply Wk.pckT rfl (by conv => lhs; whnf) (lt_of_ble rfl)
              apply Wk.mv (by conv => lhs; whnf) (lt_of_ble rfl)
              apply Wk.gon 20 rfl rfl
              apply Wk.fad 22 3 true fd77_3 rfl (lt_of_ble rfl)
              apply Wk.gon 20 rfl rfl
              apply Wk.ld (i := 3) 4 true ty74 rfl rfl (by conv => lhs; whnf) (lt_of_ble rfl)
              apply Wk.gon 20 rfl rfl
              apply Wk.dat k3 Try.func92 rfl rfl rfl rfl rfl (lt_of_ble rfl)
              apply Wk.pckT rfl (by conv => lhs; whnf) (lt_of_ble rfl)
              apply Wk.mv (by conv => lhs; whnf) (lt_of_ble rfl)
              apply Wk.gon 25 rfl rfl
              apply Wk.fad 26 0 false fd77_4 rfl (lt_of_ble rfl)
              apply Wk.gon 25 rfl rfl
              apply Wk.ld (i := 3) 1 false ty75 rfl rfl (by conv => lhs; whnf) (lt_of_ble rfl)
              apply Wk.gon 25 rfl rfl
              apply Wk.dat k4 Try.func93 rfl rfl rfl rfl rfl (lt_of_ble rfl)
              apply Wk.pckT rfl (by conv => lhs; whnf) (lt_of_ble rfl)
              apply Wk.mv (by conv => lhs; whnf) (lt_of_ble rfl)
              apply Wk.gon 30 rfl rfl
              apply Wk.fad 27 0 false fd77_5 rfl (lt_of_ble rfl)
              apply Wk.gon 30 rfl rfl
              apply Wk.ld (i := 3) 1 false ty75 rfl rfl (by conv => lhs; whnf) (lt_of_ble rfl)
              apply Wk.gon 30 rfl rfl
              apply Wk.dat k5 Try.func93 rfl rfl rfl rfl rfl (lt_of_ble rfl)
              apply Wk.pckT rfl (by conv => lhs; whnf) (lt_of_ble rfl)
              apply Wk.asg (by conv => lhs; whnf) (lt_of_ble rfl)
              refine Wk.nil (AW.ret ?_)
              repeat (first | refine thenA_ret ?_ | refine inBlockA_ret ?_)
              exact RetQ.ret [] (.cons rfl .nil) ⟨rfl, rfl⟩ none_kept
set_option maxHeartbeats 4000000 in
set_option maxRecDepth 100000 in
theorem iwok_ok (x : WD) : DataOk Try.prog 26 [wdA x] (.d (.v (.bool x.okB))) := by
  obtain ⟨m, w, p, u, y, ends, net, link⟩ := x
  have el : (((ends.map enD).length : Nat) : Int) = (ends.length : Int) := by rw [List.length_map]
  have nl : (((net.map fun l => [D.row (l.map msgC)]).length : Nat) : Int) = (net.length : Int) := by rw [List.length_map]
  have k1 := ione_ok link
  by_cases he : ends.length = 2
  rotate_left
  · skip
    rw [show WD.okB ⟨m, w, p, u, y, ends, net, link⟩ = false from by simp [WD.okB, he]]
    refine Spec.intro (n := 42) (rv := [.tmp 2]) Try.func26 rfl rfl rfl (by simp) fun C hN hX => ?_
    refine AW.seq ?_
    apply AW.list
    apply Wk.bx 1 rfl rfl (lt_of_ble rfl)
    apply Wk.asg (by conv => lhs; whnf) (lt_of_ble rfl)
    refine Wk.nil ?_
    refine AW.seq (AW.seq ?_)
    apply AW.list
    apply Wk.fad 5 0 false fd57_1 rfl (lt_of_ble rfl)
    apply Wk.ld (i := 1) 1 false ty54 rfl rfl (by conv => lhs; whnf) (lt_of_ble rfl)
    apply Wk.len un54 rfl (lt_of_ble rfl)
    apply Wk.bin rfl rfl (r := .bool true) (fun w => by rw [el]; simp [go_sem]; omega) (lt_of_ble rfl)
    apply Wk.mv (by conv => lhs; whnf) (lt_of_ble rfl)
    apply Wk.goff 8 (ok_faddr fd57_2) rfl rfl (by simp)
    apply Wk.goff 8 (ok_load 1 ty55) rfl rfl (by simp)
    apply Wk.goff 8 (ok_len un55) rfl rfl (by simp)
    apply Wk.goff 8 (ok_bin _ _ _ _ _) rfl rfl (by simp)
    apply Wk.pckT rfl (by conv => lhs; whnf) (lt_of_ble rfl)
    apply Wk.mv (by conv => lhs; whnf) (lt_of_ble rfl)
    apply Wk.goff 14 (ok_faddr fd57_3) rfl rfl (by simp)
    apply Wk.goff 14 (ok_load 1 ty3) rfl rfl (by simp)
    apply Wk.goff 14 (ok_datw (k1.w rfl) Try.func56 rfl rfl) rfl rfl (by simp)
    apply Wk.goff 14 (ok_un _ _ _) rfl rfl (by simp)
    apply Wk.pckT rfl (by conv => lhs; whnf) (lt_of_ble rfl)
    refine Wk.nil ?_
    refine AW.cond rfl (fun _ => ?_) (fun hc => by cases hc)
    refine AW.seq ?_
    apply AW.list
    apply Wk.asg (by conv => lhs; whnf) (lt_of_ble rfl)
    refine Wk.nil (AW.ret ?_)
    repeat (first | refine thenA_ret ?_ | refine inBlockA_ret ?_)
    exact RetQ.ret [] (.cons rfl .nil) ⟨rfl, rfl⟩ none_kept
  by_cases hn : net.length = 2
  rotate_left
  · skip
    rw [show WD.okB ⟨m, w, p, u, y, ends, net, link⟩ = false from by simp [WD.okB, hn]]
    refine Spec.intro (n := 42) (rv := [.tmp 2]) Try.func26 rfl rfl rfl (by simp) fun C hN hX => ?_
    refine AW.seq ?_
    apply AW.list
    apply Wk.bx 1 rfl rfl (lt_of_ble rfl)
    apply Wk.asg (by conv => lhs; whnf) (lt_of_ble rfl)
    refine Wk.nil ?_
    refine AW.seq (AW.seq ?_)
    apply AW.list
    apply Wk.fad 5 0 false fd57_1 rfl (lt_of_ble rfl)
    apply Wk.ld (i := 1) 1 false ty54 rfl rfl (by conv => lhs; whnf) (lt_of_ble rfl)
    apply Wk.len un54 rfl (lt_of_ble rfl)
    apply Wk.bin rfl rfl (r := .bool false) (fun w => by rw [el]; simp [go_sem]; omega) (lt_of_ble rfl)
    apply Wk.mv (by conv => lhs; whnf) (lt_of_ble rfl)
    apply Wk.gon 8 rfl rfl
    apply Wk.fad 6 0 false fd57_2 rfl (lt_of_ble rfl)
    apply Wk.gon 8 rfl rfl
    apply Wk.ld (i := 1) 1 false ty55 rfl rfl (by conv => lhs; whnf) (lt_of_ble rfl)
    apply Wk.gon 8 rfl rfl
    apply Wk.len un55 rfl (lt_of_ble rfl)
    apply Wk.gon 8 rfl rfl
    apply Wk.bin rfl rfl (r := .bool true) (fun w => by rw [nl]; simp [go_sem]; omega) (lt_of_ble rfl)
    apply Wk.pckF rfl (by conv => lhs; whnf) (lt_of_ble rfl)
    apply Wk.mv (by conv => lhs; whnf) (lt_of_ble rfl)
    apply Wk.goff 14 (ok_faddr fd57_3) rfl rfl (by simp)
    apply Wk.goff 14 (ok_load 1 ty3) rfl rfl (by simp)
    apply Wk.goff 14 (ok_datw (k1.w rfl) Try.func56 rfl rfl) rfl rfl (by simp)
    apply Wk.goff 14 (ok_un _ _ _) rfl rfl (by simp)
    apply Wk.pckT rfl (by conv => lhs; whnf) (lt_of_ble rfl)
    refine Wk.nil ?_
    refine AW.cond rfl (fun _ => ?_) (fun hc => by cases hc)
    refine AW.seq ?_
    apply AW.list
    apply Wk.asg (by conv => lhs; whnf) (lt_of_ble rfl)
    refine Wk.nil (AW.ret ?_)
    repeat (first | refine thenA_ret ?_ | refine inBlockA_ret ?_)
    exact RetQ.ret [] (.cons rfl .nil) ⟨rfl, rfl⟩ none_kept
  cases hk : inB link 0 1
  · rw [hk] at k1
    rw [show WD.okB ⟨m, w, p, u, y, ends, net, link⟩ = false from by simp [WD.okB, hk]]
    refine Spec.intro (n := 42) (rv := [.tmp 2]) Try.func26 rfl rfl rfl (by simp) fun C hN hX => ?_
    refine AW.seq ?_
    apply AW.list
    apply Wk.bx 1 rfl rfl (lt_of_ble rfl)
    apply Wk.asg (by conv => lhs; whnf) (lt_of_ble rfl)
    refine Wk.nil ?_
    refine AW.seq (AW.seq ?_)
    apply AW.list
    apply Wk.fad 5 0 false fd57_1 rfl (lt_of_ble rfl)
    apply Wk.ld (i := 1) 1 false ty54 rfl rfl (by conv => lhs; whnf) (lt_of_ble rfl)
    apply Wk.len un54 rfl (lt_of_ble rfl)
    apply Wk.bin rfl rfl (r := .bool false) (fun w => by rw [el]; simp [go_sem]; omega) (lt_of_ble rfl)
    apply Wk.mv (by conv => lhs; whnf) (lt_of_ble rfl)
    apply Wk.gon 8 rfl rfl
    apply Wk.fad 6 0 false fd57_2 rfl (lt_of_ble rfl)
    apply Wk.gon 8 rfl rfl
    apply Wk.ld (i := 1) 1 false ty55 rfl rfl (by conv => lhs; whnf) (lt_of_ble rfl)
    apply Wk.gon 8 rfl rfl
    apply Wk.len un55 rfl (lt_of_ble rfl)
    apply Wk.gon 8 rfl rfl
    apply Wk.bin rfl rfl (r := .bool false) (fun w => by rw [nl]; simp [go_sem]; omega) (lt_of_ble rfl)
    apply Wk.pckF rfl (by conv => lhs; whnf) (lt_of_ble rfl)
    apply Wk.mv (by conv => lhs; whnf) (lt_of_ble rfl)
    apply Wk.gon 14 rfl rfl
    apply Wk.fad 7 0 false fd57_3 rfl (lt_of_ble rfl)
    apply Wk.gon 14 rfl rfl
    apply Wk.ld (i := 1) 1 false ty3 rfl rfl (by conv => lhs; whnf) (lt_of_ble rfl)
    apply Wk.gon 14 rfl rfl
    apply Wk.dat k1 Try.func56 rfl rfl rfl rfl rfl (lt_of_ble rfl)
    apply Wk.gon 14 rfl rfl
    apply Wk.un rfl (fun w => by simp [go_sem] <;> rfl) (lt_of_ble rfl)
    apply Wk.pckF rfl (by conv => lhs; whnf) (lt_of_ble rfl)
    refine Wk.nil ?_
    refine AW.cond rfl (fun _ => ?_) (fun hc => by cases hc)
    refine AW.seq ?_
    apply AW.list
    apply Wk.asg (by conv => lhs; whnf) (lt_of_ble rfl)
    refine Wk.nil (AW.ret ?_)
    repeat (first | refine thenA_ret ?_ | refine inBlockA_ret ?_)
    exact RetQ.ret [] (.cons rfl .nil) ⟨rfl, rfl⟩ none_kept
  rw [hk] at k1
  refine Spec.intro (n := 42) (rv := [.tmp 2]) Try.func26 rfl rfl rfl (by simp) fun C hN hX => ?_
  refine AW.seq ?_
  apply AW.list
  apply Wk.bx 1 rfl rfl (lt_of_ble rfl)
  apply Wk.asg (by conv => lhs; whnf) (lt_of_ble rfl)
  refine Wk.nil ?_
  refine AW.seq (AW.seq ?_)
  apply AW.list
  apply Wk.fad 5 0 false fd57_1 rfl (lt_of_ble rfl)
  apply Wk.ld (i := 1) 1 false ty54 rfl rfl (by conv => lhs; whnf) (lt_of_ble rfl)
  apply Wk.len un54 rfl (lt_of_ble rfl)
  apply Wk.bin rfl rfl (r := .bool false) (fun w => by rw [el]; simp [go_sem]; omega) (lt_of_ble rfl)
  apply Wk.mv (by conv => lhs; whnf) (lt_of_ble rfl)
  apply Wk.gon 8 rfl rfl
  apply Wk.fad 6 0 false fd57_2 rfl (lt_of_ble rfl)
  apply Wk.gon 8 rfl rfl
  apply Wk.ld (i := 1) 1 false ty55 rfl rfl (by conv => lhs; whnf) (lt_of_ble rfl)
  apply Wk.gon 8 rfl rfl
  apply Wk.len un55 rfl (lt_of_ble rfl)
  apply Wk.gon 8 rfl rfl
  apply Wk.bin rfl rfl (r := .bool false) (fun w => by rw [nl]; simp [go_sem]; omega) (lt_of_ble rfl)
  apply Wk.pckF rfl (by conv => lhs; whnf) (lt_of_ble rfl)
  apply Wk.mv (by conv => lhs; whnf) (lt_of_ble rfl)
  apply Wk.gon 14 rfl rfl
  apply Wk.fad 7 0 false fd57_3 rfl (lt_of_ble rfl)
  apply Wk.gon 14 rfl rfl
  apply Wk.ld (i := 1) 1 false ty3 rfl rfl (by conv => lhs; whnf) (lt_of_ble rfl)
  apply Wk.gon 14 rfl rfl
  apply Wk.dat k1 Try.func56 rfl rfl rfl rfl rfl (lt_of_ble rfl)
  apply Wk.gon 14 rfl rfl
  apply Wk.un rfl (fun w => by simp [go_sem] <;> rfl) (lt_of_ble rfl)
  apply Wk.pckF rfl (by conv => lhs; whnf) (lt_of_ble rfl)
  refine Wk.nil ?_
  refine AW.cond rfl (fun hc => by cases hc) (fun _ => AW.skip (thenA_normal ?_))
  refine AW.seq (AW.seq ?_)
  apply AW.list
  apply Wk.mv (by conv => lhs; whnf) (lt_of_ble rfl)
  refine Wk.nil (AW.block ?_)
  refine AW.loop (fun k : Nat => St.of 42 [(1, .ptr 1 0), (20, .d (.v (.int .i64 (k : Int))))] [(1, .var ((wdD ⟨m, w, p, u, y, ends, net, link⟩).map A.d))]) (fun k => k ≤ 2 ∧ (∀ a ∈ ends.take k, EN.okB ⟨m, w, p, u, y⟩ a = true) ∧ ∀ a ∈ net.take k, netB a = true) (fun k => 2 - k) 0 ⟨by omega, by simp, by simp⟩ ?_ ?_
  · exact fun a w => Rel.keep ⟨rfl, .cons rfl rfl (.cons rfl rfl .nil), .cons rfl rfl .nil, hN.mono (by simp [keys])⟩
  rintro k ⟨hk2, hke, hkn⟩
  show AW Try.prog C _ _ (St.of 42 [(1, .ptr 1 0), (20, .d (.v (.int .i64 (k : Int))))] [(1, .var ((wdD ⟨m, w, p, u, y, ends, net, link⟩).map A.d))])
  refine AW.seq ?_
  by_cases hlt : k < 2
  · skip
    apply AW.list
    apply Wk.bin rfl rfl (r := .bool true) (fun w => by simp [go_sem]; omega) (lt_of_ble rfl)
    refine Wk.nil ?_
    refine AW.seq ?_
    refine AW.cond rfl (fun _ => AW.skip ?_) (fun hc => by cases hc)
    repeat (first | refine thenA_normal ?_ | refine inBlockA_normal ?_)
    obtain ⟨e, hd⟩ : ∃ d, ends[k]? = some d := ⟨_, List.getElem?_eq_getElem (by omega)⟩
    obtain ⟨l, hl⟩ : ∃ d, net[k]? = some d := ⟨_, List.getElem?_eq_getElem (by omega)⟩
    have hget : (ends.map enD)[k]? = some (enD e) := by simp [hd]
    have hklt : k < (ends.map enD).length := by simp; omega
    have nget : (net.map fun l => [D.row (l.map msgC)])[k]? = some [D.row (l.map msgC)] := by simp [hl]
    have nklt : k < (net.map fun l => [D.row (l.map msgC)]).length := by simp; omega
    have next : EN.okB ⟨m, w, p, u, y⟩ e = true → netB l = true → k + 1 ≤ 2 ∧ (∀ a ∈ ends.take (k + 1), EN.okB ⟨m, w, p, u, y⟩ a = true) ∧ ∀ a ∈ net.take (k + 1), netB a = true := fun hb hb2 => ⟨by omega, fun a ha => by
      rw [List.take_add_one, hd] at ha
      rcases List.mem_append.1 ha with h | h
      · exact hke a h
      · obtain rfl : a = e := by simpa using h
        exact hb, fun a ha => by
      rw [List.take_add_one, hl] at ha
      rcases List.mem_append.1 ha with h | h
      · exact hkn a h
      · obtain rfl : a = l := by simpa using h
        exact hb2⟩
    have done : EN.okB ⟨m, w, p, u, y⟩ e = false ∨ netB l = false → WD.okB ⟨m, w, p, u, y, ends, net, link⟩ = false := fun hb => by
      cases hw : WD.okB ⟨m, w, p, u, y, ends, net, link⟩ with
      | false => rfl
      | true =>
        simp only [WD.okB, Bool.and_eq_true, List.all_eq_true] at hw
        rcases hb with hb | hb
        · rw [hw.2.2.2.2.1 e (List.mem_of_getElem? hd)] at hb; cases hb
        · rw [hw.2.2.2.2.2 l (List.mem_of_getElem? hl)] at hb; cases hb
    have ce := iend_ok m w p u y e
    have cn := inets_ok l
    refine AW.seq (AW.block (AW.seq ?_))
    apply AW.list
    apply Wk.mv (by conv => lhs; whnf) (lt_of_ble rfl)
    apply Wk.asg (by conv => lhs; whnf) (lt_of_ble rfl)
    refine Wk.nil ?_
    refine AW.seq ?_
    obtain ⟨be, hbe⟩ : ∃ b, EN.okB ⟨m, w, p, u, y⟩ e = b := ⟨_, rfl⟩
    obtain ⟨bn, hbn⟩ : ∃ b, netB l = b := ⟨_, rfl⟩
    rw [hbe] at ce next done
    rw [hbn] at cn next done
    clear hbe hbn
    cases be
    · skip
      apply AW.draw (hm := hmix) (cs := _)
      · apply Wk.fad 0 4 true fd57_0 rfl (lt_of_ble rfl)
        apply Wk.ld (i := 1) 5 true ty29 rfl rfl (by conv => lhs; whnf) (lt_of_ble rfl)
        apply Wk.fad 5 0 false fd57_1 rfl (lt_of_ble rfl)
        apply Wk.ld (i := 1) 1 false ty54 rfl rfl (by conv => lhs; whnf) (lt_of_ble rfl)
        apply Wk.mv (by conv => lhs; whnf) (lt_of_ble rfl)
        apply Wk.iad 28 true un54 ty77 rfl rfl hklt (enD_len _) (lt_of_ble rfl)
        apply Wk.ldr 28 true ty77 rfl hget (by conv => lhs; whnf) (lt_of_ble rfl)
        apply Wk.dat ce Try.func57 rfl rfl rfl rfl rfl (lt_of_ble rfl)
        apply Wk.un rfl (fun w => by simp [go_sem] <;> rfl) (lt_of_ble rfl)
        apply Wk.mv (by conv => lhs; whnf) (lt_of_ble rfl)
        apply Wk.goff 32 (ok_faddr fd57_2) rfl rfl (by simp)
        apply Wk.goff 32 (ok_load 1 ty55) rfl rfl (by simp)
        apply Wk.goff 32 (ok_move _) rfl rfl (by simp)
        apply Wk.goff 32 (ok_iaddr un55 ty78) rfl rfl (by simp)
        apply Wk.goff 32 (ok_loadr ty78) rfl rfl (by simp)
        apply Wk.goff 32 (ok_datw (cn.w rfl) Try.func58 rfl rfl) rfl rfl (by simp)
        apply Wk.goff 32 (ok_un _ _ _) rfl rfl (by simp)
        apply Wk.pckT rfl (by conv => lhs; whnf) (lt_of_ble rfl)
        refine Wk.nil ?_
        refine AW.cond rfl (fun _ => ?_) (fun hc => by cases hc)
        rw [done (by simp)]
        refine AW.seq ?_
        apply AW.list
        apply Wk.asg (by conv => lhs; whnf) (lt_of_ble rfl)
        refine Wk.nil (AW.ret ?_)
        repeat (first | refine thenA_ret ?_ | refine inBlockA_ret ?_)
        exact RetQ.ret [] (.cons rfl .nil) ⟨rfl, rfl⟩ none_kept
      · rfl
      · rfl
    · cases bn
      · skip
        apply AW.draw (hm := hmix) (cs := _)
        · apply Wk.fad 0 4 true fd57_0 rfl (lt_of_ble rfl)
          apply Wk.ld (i := 1) 5 true ty29 rfl rfl (by conv => lhs; whnf) (lt_of_ble rfl)
          apply Wk.fad 5 0 false fd57_1 rfl (lt_of_ble rfl)
          apply Wk.ld (i := 1) 1 false ty54 rfl rfl (by conv => lhs; whnf) (lt_of_ble rfl)
          apply Wk.mv (by conv => lhs; whnf) (lt_of_ble rfl)
          apply Wk.iad 28 true un54 ty77 rfl rfl hklt (enD_len _) (lt_of_ble rfl)
          apply Wk.ldr 28 true ty77 rfl hget (by conv => lhs; whnf) (lt_of_ble rfl)
          apply Wk.dat ce Try.func57 rfl rfl rfl rfl rfl (lt_of_ble rfl)
          apply Wk.un rfl (fun w => by simp [go_sem] <;> rfl) (lt_of_ble rfl)
          apply Wk.mv (by conv => lhs; whnf) (lt_of_ble rfl)
          apply Wk.gon 32 rfl rfl
          apply Wk.fad 6 0 false fd57_2 rfl (lt_of_ble rfl)
          apply Wk.gon 32 rfl rfl
          apply Wk.ld (i := 1) 1 false ty55 rfl rfl (by conv => lhs; whnf) (lt_of_ble rfl)
          apply Wk.gon 32 rfl rfl
          apply Wk.mv (by conv => lhs; whnf) (lt_of_ble rfl)
          apply Wk.gon 32 rfl rfl
          apply Wk.iad 1 false un55 ty78 rfl rfl nklt (net_one _) (lt_of_ble rfl)
          apply Wk.gon 32 rfl rfl
          apply Wk.ldr 1 false ty78 rfl nget (by conv => lhs; whnf) (lt_of_ble rfl)
          apply Wk.gon 32 rfl rfl
          apply Wk.dat cn Try.func58 rfl rfl rfl rfl rfl (lt_of_ble rfl)
          apply Wk.gon 32 rfl rfl
          apply Wk.un rfl (fun w => by simp [go_sem] <;> rfl) (lt_of_ble rfl)
          apply Wk.pckF rfl (by conv => lhs; whnf) (lt_of_ble rfl)
          refine Wk.nil ?_
          refine AW.cond rfl (fun _ => ?_) (fun hc => by cases hc)
          rw [done (by simp)]
          refine AW.seq ?_
          apply AW.list
          apply Wk.asg (by conv => lhs; whnf) (lt_of_ble rfl)
          refine Wk.nil (AW.ret ?_)
          repeat (first | refine thenA_ret ?_ | refine inBlockA_ret ?_)
          exact RetQ.ret [] (.cons rfl .nil) ⟨rfl, rfl⟩ none_kept
        · rfl
        · rfl
      · skip
        apply AW.draw (hm := hmix) (cs := _)
        · apply Wk.fad 0 4 true fd57_0 rfl (lt_of_ble rfl)
          apply Wk.ld (i := 1) 5 true ty29 rfl rfl (by conv => lhs; whnf) (lt_of_ble rfl)
          apply Wk.fad 5 0 false fd57_1 rfl (lt_of_ble rfl)
          apply Wk.ld (i := 1) 1 false ty54 rfl rfl (by conv => lhs; whnf) (lt_of_ble rfl)
          apply Wk.mv (by conv => lhs; whnf) (lt_of_ble rfl)
          apply Wk.iad 28 true un54 ty77 rfl rfl hklt (enD_len _) (lt_of_ble rfl)
          apply Wk.ldr 28 true ty77 rfl hget (by conv => lhs; whnf) (lt_of_ble rfl)
          apply Wk.dat ce Try.func57 rfl rfl rfl rfl rfl (lt_of_ble rfl)
          apply Wk.un rfl (fun w => by simp [go_sem] <;> rfl) (lt_of_ble rfl)
          apply Wk.mv (by conv => lhs; whnf) (lt_of_ble rfl)
          apply Wk.gon 32 rfl rfl
          apply Wk.fad 6 0 false fd57_2 rfl (lt_of_ble rfl)
          apply Wk.gon 32 rfl rfl
          apply Wk.ld (i := 1) 1 false ty55 rfl rfl (by conv => lhs; whnf) (lt_of_ble rfl)
          apply Wk.gon 32 rfl rfl
          apply Wk.mv (by conv => lhs; whnf) (lt_of_ble rfl)
          apply Wk.gon 32 rfl rfl
          apply Wk.iad 1 false un55 ty78 rfl rfl nklt (net_one _) (lt_of_ble rfl)
          apply Wk.gon 32 rfl rfl
          apply Wk.ldr 1 false ty78 rfl nget (by conv => lhs; whnf) (lt_of_ble rfl)
          apply Wk.gon 32 rfl rfl
          apply Wk.dat cn Try.func58 rfl rfl rfl rfl rfl (lt_of_ble rfl)
          apply Wk.gon 32 rfl rfl
          apply Wk.un rfl (fun w => by simp [go_sem] <;> rfl) (lt_of_ble rfl)
          apply Wk.pckF rfl (by conv => lhs; whnf) (lt_of_ble rfl)
          refine Wk.nil ?_
          refine AW.cond rfl (fun hc => by cases hc) (fun _ => AW.skip ?_)
          repeat (first | refine thenA_normal ?_ | refine inBlockA_normal ?_)
          apply AW.list
          apply Wk.addn (b := 1) rfl rfl (by omega) (lt_of_ble rfl)
          apply Wk.mv (by conv => lhs; whnf) (lt_of_ble rfl)
          refine Wk.nil ?_
          repeat (first | refine thenA_normal ?_ | refine inBlockA_normal ?_)
          exact ⟨k + 1, next rfl rfl, by omega, fun a w => Rel.keep ⟨rfl, .cons rfl rfl (.cons rfl rfl .nil), .cons rfl rfl .nil, hN.mono (by simp [keys])⟩⟩
        · rfl
        · rfl
  · skip
    have hk3 : k = 2 := by omega
    subst hk3
    apply AW.list
    apply Wk.bin rfl rfl (r := .bool false) (fun w => by simp [go_sem]) (lt_of_ble rfl)
    refine Wk.nil ?_
    refine AW.seq ?_
    refine AW.cond rfl (fun hc => by cases hc) (fun _ => AW.exit ?_)
    repeat (first | refine inBlockA_same ?_ | refine thenA_exit ?_)
    repeat (first | refine thenA_normal ?_ | refine inBlockA_normal ?_)
    rw [List.take_of_length_le (by omega)] at hke hkn
    rw [show WD.okB ⟨m, w, p, u, y, ends, net, link⟩ = true from by
      obtain ⟨e, hd⟩ : ∃ d, ends[0]? = some d := ⟨_, List.getElem?_eq_getElem (by omega)⟩
      have h0 := hke e (List.mem_of_getElem? hd)
      simp only [EN.okB, Bool.and_eq_true] at h0
      have h1 := (crdOk_facts h0.2.2.1).1
      simp only [WD.okB, Bool.and_eq_true, List.all_eq_true, decide_eq_true_eq]
      exact ⟨h1, he, hn, hk, hke, hkn⟩]
    refine AW.seq ?_
    apply AW.list
    apply Wk.asg (by conv => lhs; whnf) (lt_of_ble rfl)
    refine Wk.nil (AW.ret ?_)
    repeat (first | refine thenA_ret ?_ | refine inBlockA_ret ?_)
    exact RetQ.ret [] (.cons rfl .nil) ⟨rfl, rfl⟩ none_kept
set_option maxHeartbeats 4000000 in
set_option maxRecDepth 100000 in
theorem send_ok (m w p u y : Int) (e : EN) : DataOk Try.prog 53 [cfgA m w p u y, .agg ((enD e).map A.d)] (.d (.v (.bool (EN.okB ⟨m, w, p, u, y⟩ e)))) := by
  have k0 := stx_ok m w p u y e.tx
  have k1 := srx_ok e.rx.e e.rx.c e.rx.m e.rx.bs e.rx.a e.rx.u e.rx.d
  have k2 := scx_ok m w p u y e.cx
  have k3 := scrx_ok e.kx.v e.kx.m e.kx.bs e.kx.d
  unfold EN.okB
  generalize txOkB ⟨m, w, p, u, y⟩ e.tx = b0 at *
  generalize rxB e.rx.e e.rx.c e.rx.m e.rx.bs.length = b1 at *
  generalize crdOkB ⟨m, w, p, u, y⟩ e.cx = b2 at *
  generalize crxB e.kx.v e.kx.m e.kx.bs.length = b3 at *
  obtain ⟨⟨n, a, fl, s, qu, q, t, h, c, d0⟩, ⟨e1, c1, m1, z1, a1, u1, d1⟩, ⟨v2, q2, g2, s2, d2⟩, ⟨v3, m3, z3, d3⟩, put, got⟩ := e
  have pl : (((put.map bsC).length : Nat) : Int) = (put.length : Int) := by rw [List.length_map]
  have gl : (((got.map bsC).length : Nat) : Int) = (got.length : Int) := by rw [List.length_map]
  cases b0
  · skip
    refine Spec.intro (n := 71) (rv := [.tmp 4]) Try.func53 rfl rfl rfl (by simp) fun C hN hX => ?_
    refine AW.seq ?_
    apply AW.list
    apply Wk.bx 2 rfl rfl (lt_of_ble rfl)
    apply Wk.bx 3 rfl rfl (lt_of_ble rfl)
    apply Wk.asg (by conv => lhs; whnf) (lt_of_ble rfl)
    refine Wk.nil ?_
    refine AW.seq (AW.seq ?_)
    apply AW.list
    apply Wk.ld (i := 2) 5 true ty29 rfl rfl (by conv => lhs; whnf) (lt_of_ble rfl)
    apply Wk.fad 0 9 true fd77_0 rfl (lt_of_ble rfl)
    apply Wk.ld (i := 3) 10 true ty33 rfl rfl (by conv => lhs; whnf) (lt_of_ble rfl)
    apply Wk.dat k0 Try.func11 rfl rfl rfl rfl rfl (lt_of_ble rfl)
    apply Wk.un rfl (fun w => by simp [go_sem] <;> rfl) (lt_of_ble rfl)
    apply Wk.mv (by conv => lhs; whnf) (lt_of_ble rfl)
    apply Wk.goff 12 (ok_faddr fd77_1) rfl rfl (by simp)
    apply Wk.goff 12 (ok_load 3 ty72) rfl rfl (by simp)
    apply Wk.goff 12 (ok_datw (k1.w rfl) Try.func87 rfl rfl) rfl rfl (by simp)
    apply Wk.goff 12 (ok_un _ _ _) rfl rfl (by simp)
    apply Wk.pckT rfl (by conv => lhs; whnf) (lt_of_ble rfl)
    apply Wk.mv (by conv => lhs; whnf) (lt_of_ble rfl)
    apply Wk.goff 18 (ok_load 2 ty29) rfl rfl (by simp)
    apply Wk.goff 18 (ok_faddr fd77_2) rfl rfl (by simp)
    apply Wk.goff 18 (ok_load 3 ty44) rfl rfl (by simp)
    apply Wk.goff 18 (ok_datw (k2.w rfl) Try.func19 rfl rfl) rfl rfl (by simp)
    apply Wk.goff 18 (ok_un _ _ _) rfl rfl (by simp)
    apply Wk.pckT rfl (by conv => lhs; whnf) (lt_of_ble rfl)
    apply Wk.mv (by conv => lhs; whnf) (lt_of_ble rfl)
    apply Wk.goff 25 (ok_faddr fd77_3) rfl rfl (by simp)
    apply Wk.goff 25 (ok_load 3 ty74) rfl rfl (by simp)
    apply Wk.goff 25 (ok_datw (k3.w rfl) Try.func88 rfl rfl) rfl rfl (by simp)
    apply Wk.goff 25 (ok_un _ _ _) rfl rfl (by simp)
    apply Wk.pckT rfl (by conv => lhs; whnf) (lt_of_ble rfl)
    apply Wk.mv (by conv => lhs; whnf) (lt_of_ble rfl)
    apply Wk.goff 31 (ok_faddr fd77_4) rfl rfl (by simp)
    apply Wk.goff 31 (ok_load 3 ty75) rfl rfl (by simp)
    apply Wk.goff 31 (ok_len un75) rfl rfl (by simp)
    apply Wk.goff 31 (ok_bin _ _ _ _ _) rfl rfl (by simp)
    apply Wk.pckT rfl (by conv => lhs; whnf) (lt_of_ble rfl)
    apply Wk.mv (by conv => lhs; whnf) (lt_of_ble rfl)
    apply Wk.goff 37 (ok_faddr fd77_5) rfl rfl (by simp)
    apply Wk.goff 37 (ok_load 3 ty75) rfl rfl (by simp)
    apply Wk.goff 37 (ok_len un75) rfl rfl (by simp)
    apply Wk.goff 37 (ok_bin _ _ _ _ _) rfl rfl (by simp)
    apply Wk.pckT rfl (by conv => lhs; whnf) (lt_of_ble rfl)
    refine Wk.nil ?_
    refine AW.cond rfl (fun _ => ?_) (fun hc => by cases hc)
    refine AW.seq ?_
    apply AW.list
    apply Wk.asg (by conv => lhs; whnf) (lt_of_ble rfl)
    refine Wk.nil (AW.ret ?_)
    repeat (first | refine thenA_ret ?_ | refine inBlockA_ret ?_)
    exact RetQ.ret [] (.cons rfl .nil) ⟨rfl, rfl⟩ none_kept
  · skip
    cases b1
    · skip
      refine Spec.intro (n := 71) (rv := [.tmp 4]) Try.func53 rfl rfl rfl (by simp) fun C hN hX => ?_
      refine AW.seq ?_
      apply AW.list
      apply Wk.bx 2 rfl rfl (lt_of_ble rfl)
      apply Wk.bx 3 rfl rfl (lt_of_ble rfl)
      apply Wk.asg (by conv => lhs; whnf) (lt_of_ble rfl)
      refine Wk.nil ?_
      refine AW.seq (AW.seq ?_)
      apply AW.list
      apply Wk.ld (i := 2) 5 true ty29 rfl rfl (by conv => lhs; whnf) (lt_of_ble rfl)
      apply Wk.fad 0 9 true fd77_0 rfl (lt_of_ble rfl)
      apply Wk.ld (i := 3) 10 true ty33 rfl rfl (by conv => lhs; whnf) (lt_of_ble rfl)
      apply Wk.dat k0 Try.func11 rfl rfl rfl rfl rfl (lt_of_ble rfl)
      apply Wk.un rfl (fun w => by simp [go_sem] <;> rfl) (lt_of_ble rfl)
      apply Wk.mv (by conv => lhs; whnf) (lt_of_ble rfl)
      apply Wk.gon 12 rfl rfl
      apply Wk.fad 10 6 true fd77_1 rfl (lt_of_ble rfl)
      apply Wk.gon 12 rfl rfl
      apply Wk.ld (i := 3) 7 true ty72 rfl rfl (by conv => lhs; whnf) (lt_of_ble rfl)
      apply Wk.gon 12 rfl rfl
      apply Wk.dat k1 Try.func87 rfl rfl rfl rfl rfl (lt_of_ble rfl)
      apply Wk.gon 12 rfl rfl
      apply Wk.un rfl (fun w => by simp [go_sem] <;> rfl) (lt_of_ble rfl)
      apply Wk.pckF rfl (by conv => lhs; whnf) (lt_of_ble rfl)
      apply Wk.mv (by conv => lhs; whnf) (lt_of_ble rfl)
      apply Wk.goff 18 (ok_load 2 ty29) rfl rfl (by simp)
      apply Wk.goff 18 (ok_faddr fd77_2) rfl rfl (by simp)
      apply Wk.goff 18 (ok_load 3 ty44) rfl rfl (by simp)
      apply Wk.goff 18 (ok_datw (k2.w rfl) Try.func19 rfl rfl) rfl rfl (by simp)
      apply Wk.goff 18 (ok_un _ _ _) rfl rfl (by simp)
      apply Wk.pckT rfl (by conv => lhs; whnf) (lt_of_ble rfl)
      apply Wk.mv (by conv => lhs; whnf) (lt_of_ble rfl)
      apply Wk.goff 25 (ok_faddr fd77_3) rfl rfl (by simp)
      apply Wk.goff 25 (ok_load 3 ty74) rfl rfl (by simp)
      apply Wk.goff 25 (ok_datw (k3.w rfl) Try.func88 rfl rfl) rfl rfl (by simp)
      apply Wk.goff 25 (ok_un _ _ _) rfl rfl (by simp)
      apply Wk.pckT rfl (by conv => lhs; whnf) (lt_of_ble rfl)
      apply Wk.mv (by conv => lhs; whnf) (lt_of_ble rfl)
      apply Wk.goff 31 (ok_faddr fd77_4) rfl rfl (by simp)
      apply Wk.goff 31 (ok_load 3 ty75) rfl rfl (by simp)
      apply Wk.goff 31 (ok_len un75) rfl rfl (by simp)
      apply Wk.goff 31 (ok_bin _ _ _ _ _) rfl rfl (by simp)
      apply Wk.pckT rfl (by conv => lhs; whnf) (lt_of_ble rfl)
      apply Wk.mv (by conv => lhs; whnf) (lt_of_ble rfl)
      apply Wk.goff 37 (ok_faddr fd77_5) rfl rfl (by simp)
      apply Wk.goff 37 (ok_load 3 ty75) rfl rfl (by simp)
      apply Wk.goff 37 (ok_len un75) rfl rfl (by simp)
      apply Wk.goff 37 (ok_bin _ _ _ _ _) rfl rfl (by simp)
      apply Wk.pckT rfl (by conv => lhs; whnf) (lt_of_ble rfl)
      refine Wk.nil ?_
      refine AW.cond rfl (fun _ => ?_) (fun hc => by cases hc)
      refine AW.seq ?_
      apply AW.list
      apply Wk.asg (by conv => lhs; whnf) (lt_of_ble rfl)
      refine Wk.nil (AW.ret ?_)
      repeat (first | refine thenA_ret ?_ | refine inBlockA_ret ?_)
      exact RetQ.ret [] (.cons rfl .nil) ⟨rfl, rfl⟩ none_kept
    · skip
      cases b2
      · skip
        refine Spec.intro (n := 71) (rv := [.tmp 4]) Try.func53 rfl rfl rfl (by simp) fun C hN hX => ?_
        refine AW.seq ?_
        apply AW.list
        apply Wk.bx 2 rfl rfl (lt_of_ble rfl)
        apply Wk.bx 3 rfl rfl (lt_of_ble rfl)
        apply Wk.asg (by conv => lhs; whnf) (lt_of_ble rfl)
        refine Wk.nil ?_
        refine AW.seq (AW.seq ?_)
        apply AW.list
        apply Wk.ld (i := 2) 5 true ty29 rfl rfl (by conv => lhs; whnf) (lt_of_ble rfl)
        apply Wk.fad 0 9 true fd77_0 rfl (lt_of_ble rfl)
        apply Wk.ld (i := 3) 10 true ty33 rfl rfl (by conv => lhs; whnf) (lt_of_ble rfl)
        apply Wk.dat k0 Try.func11 rfl rfl rfl rfl rfl (lt_of_ble rfl)
        apply Wk.un rfl (fun w => by simp [go_sem] <;> rfl) (lt_of_ble rfl)
        apply Wk.mv (by conv => lhs; whnf) (lt_of_ble rfl)
        apply Wk.gon 12 rfl rfl
        apply Wk.fad 10 6 true fd77_1 rfl (lt_of_ble rfl)
        apply Wk.gon 12 rfl rfl
        apply Wk.ld (i := 3) 7 true ty72 rfl rfl (by conv => lhs; whnf) (lt_of_ble rfl)
        apply Wk.gon 12 rfl rfl
        apply Wk.dat k1 Try.func87 rfl rfl rfl rfl rfl (lt_of_ble rfl)
        apply Wk.gon 12 rfl rfl
        apply Wk.un rfl (fun w => by simp [go_sem] <;> rfl) (lt_of_ble rfl)
        apply Wk.pckF rfl (by conv => lhs; whnf) (lt_of_ble rfl)
        apply Wk.mv (by conv => lhs; whnf) (lt_of_ble rfl)
        apply Wk.gon 18 rfl rfl
        apply Wk.ld (i := 2) 5 true ty29 rfl rfl (by conv => lhs; whnf) (lt_of_ble rfl)
        apply Wk.gon 18 rfl rfl
        apply Wk.fad 17 4 true fd77_2 rfl (lt_of_ble rfl)
        apply Wk.gon 18 rfl rfl
        apply Wk.ld (i := 3) 5 true ty44 rfl rfl (by conv => lhs; whnf) (lt_of_ble rfl)
        apply Wk.gon 18 rfl rfl
        apply Wk.dat k2 Try.func19 rfl rfl rfl rfl rfl (lt_of_ble rfl)
        apply Wk.gon 18 rfl rfl
        apply Wk.un rfl (fun w => by simp [go_sem] <;> rfl) (lt_of_ble rfl)
        apply Wk.pckF rfl (by conv => lhs; whnf) (lt_of_ble rfl)
        apply Wk.mv (by conv => lhs; whnf) (lt_of_ble rfl)
        apply Wk.goff 25 (ok_faddr fd77_3) rfl rfl (by simp)
        apply Wk.goff 25 (ok_load 3 ty74) rfl rfl (by simp)
        apply Wk.goff 25 (ok_datw (k3.w rfl) Try.func88 rfl rfl) rfl rfl (by simp)
        apply Wk.goff 25 (ok_un _ _ _) rfl rfl (by simp)
        apply Wk.pckT rfl (by conv => lhs; whnf) (lt_of_ble rfl)
        apply Wk.mv (by conv => lhs; whnf) (lt_of_ble rfl)
        apply Wk.goff 31 (ok_faddr fd77_4) rfl rfl (by simp)
        apply Wk.goff 31 (ok_load 3 ty75) rfl rfl (by simp)
        apply Wk.goff 31 (ok_len un75) rfl rfl (by simp)
        apply Wk.goff 31 (ok_bin _ _ _ _ _) rfl rfl (by simp)
        apply Wk.pckT rfl (by conv => lhs; whnf) (lt_of_ble rfl)
        apply Wk.mv (by conv => lhs; whnf) (lt_of_ble rfl)
        apply Wk.goff 37 (ok_faddr fd77_5) rfl rfl (by simp)
        apply Wk.goff 37 (ok_load 3 ty75) rfl rfl (by simp)
        apply Wk.goff 37 (ok_len un75) rfl rfl (by simp)
        apply Wk.goff 37 (ok_bin _ _ _ _ _) rfl rfl (by simp)
        apply Wk.pckT rfl (by conv => lhs; whnf) (lt_of_ble rfl)
        refine Wk.nil ?_
        refine AW.cond rfl (fun _ => ?_) (fun hc => by cases hc)
        refine AW.seq ?_
        apply AW.list
        apply Wk.asg (by conv => lhs; whnf) (lt_of_ble rfl)
        refine Wk.nil (AW.ret ?_)
        repeat (first | refine thenA_ret ?_ | refine inBlockA_ret ?_)
        exact RetQ.ret [] (.cons rfl .nil) ⟨rfl, rfl⟩ none_kept
      · skip
        cases b3
        · skip
          refine Spec.intro (n := 71) (rv := [.tmp 4]) Try.func53 rfl rfl rfl (by simp) fun C hN hX => ?_
          refine AW.seq ?_
          apply AW.list
          apply Wk.bx 2 rfl rfl (lt_of_ble rfl)
          apply Wk.bx 3 rfl rfl (lt_of_ble rfl)
          apply Wk.asg (by conv => lhs; whnf) (lt_of_ble rfl)
          refine Wk.nil ?_
          refine AW.seq (AW.seq ?_)
          apply AW.list
          apply Wk.ld (i := 2) 5 true ty29 rfl rfl (by conv => lhs; whnf) (lt_of_ble rfl)
          apply Wk.fad 0 9 true fd77_0 rfl (lt_of_ble rfl)
          apply Wk.ld (i := 3) 10 true ty33 rfl rfl (by conv => lhs; whnf) (lt_of_ble rfl)
          apply Wk.dat k0 Try.func11 rfl rfl rfl rfl rfl (lt_of_ble rfl)
          apply Wk.un rfl (fun w => by simp [go_sem] <;> rfl) (lt_of_ble rfl)
          apply Wk.mv (by conv => lhs; whnf) (lt_of_ble rfl)
          apply Wk.gon 12 rfl rfl
          apply Wk.fad 10 6 true fd77_1 rfl (lt_of_ble rfl)
          apply Wk.gon 12 rfl rfl
          apply Wk.ld (i := 3) 7 true ty72 rfl rfl (by conv => lhs; whnf) (lt_of_ble rfl)
          apply Wk.gon 12 rfl rfl
          apply Wk.dat k1 Try.func87 rfl rfl rfl rfl rfl (lt_of_ble rfl)
          apply Wk.gon 12 rfl rfl
          apply Wk.un rfl (fun w => by simp [go_sem] <;> rfl) (lt_of_ble rfl)
          apply Wk.pckF rfl (by conv => lhs; whnf) (lt_of_ble rfl)
          apply Wk.mv (by conv => lhs; whnf) (lt_of_ble rfl)
          apply Wk.gon 18 rfl rfl
          apply Wk.ld (i := 2) 5 true ty29 rfl rfl (by conv => lhs; whnf) (lt_of_ble rfl)
          apply Wk.gon 18 rfl rfl
          apply Wk.fad 17 4 true fd77_2 rfl (lt_of_ble rfl)
          apply Wk.gon 18 rfl rfl
          apply Wk.ld (i := 3) 5 true ty44 rfl rfl (by conv => lhs; whnf) (lt_of_ble rfl)
          apply Wk.gon 18 rfl rfl
          apply Wk.dat k2 Try.func19 rfl rfl rfl rfl rfl (lt_of_ble rfl)
          apply Wk.gon 18 rfl rfl
          apply Wk.un rfl (fun w => by simp [go_sem] <;> rfl) (lt_of_ble rfl)
          apply Wk.pckF rfl (by conv => lhs; whnf) (lt_of_ble rfl)
          apply Wk.mv (by conv => lhs; whnf) (lt_of_ble rfl)
          apply Wk.gon 25 rfl rfl
          apply Wk.fad 22 3 true fd77_3 rfl (lt_of_ble rfl)
          apply Wk.gon 25 rfl rfl
          apply Wk.ld (i := 3) 4 true ty74 rfl rfl (by conv => lhs; whnf) (lt_of_ble rfl)
          apply Wk.gon 25 rfl rfl
          apply Wk.dat k3 Try.func88 rfl rfl rfl rfl rfl (lt_of_ble rfl)
          apply Wk.gon 25 rfl rfl
          apply Wk.un rfl (fun w => by simp [go_sem] <;> rfl) (lt_of_ble rfl)
          apply Wk.pckF rfl (by conv => lhs; whnf) (lt_of_ble rfl)
          apply Wk.mv (by conv => lhs; whnf) (lt_of_ble rfl)
          apply Wk.goff 31 (ok_faddr fd77_4) rfl rfl (by simp)
          apply Wk.goff 31 (ok_load 3 ty75) rfl rfl (by simp)
          apply Wk.goff 31 (ok_len un75) rfl rfl (by simp)
          apply Wk.goff 31 (ok_bin _ _ _ _ _) rfl rfl (by simp)
          apply Wk.pckT rfl (by conv => lhs; whnf) (lt_of_ble rfl)
          apply Wk.mv (by conv => lhs; whnf) (lt_of_ble rfl)
          apply Wk.goff 37 (ok_faddr fd77_5) rfl rfl (by simp)
          apply Wk.goff 37 (ok_load 3 ty75) rfl rfl (by simp)
          apply Wk.goff 37 (ok_len un75) rfl rfl (by simp)
          apply Wk.goff 37 (ok_bin _ _ _ _ _) rfl rfl (by simp)
          apply Wk.pckT rfl (by conv => lhs; whnf) (lt_of_ble rfl)
          refine Wk.nil ?_
          refine AW.cond rfl (fun _ => ?_) (fun hc => by cases hc)
          refine AW.seq ?_
          apply AW.list
          apply Wk.asg (by conv => lhs; whnf) (lt_of_ble rfl)
          refine Wk.nil (AW.ret ?_)
          repeat (first | refine thenA_ret ?_ | refine inBlockA_ret ?_)
          exact RetQ.ret [] (.cons rfl .nil) ⟨rfl, rfl⟩ none_kept
        · skip
          by_cases hp : put.length ≤ 60
          rotate_left
          · rw [show sdusB put = false from by simp [sdusB, hp]]
            refine Spec.intro (n := 71) (rv := [.tmp 4]) Try.func53 rfl rfl rfl (by simp) fun C hN hX => ?_
            refine AW.seq ?_
            apply AW.list
            apply Wk.bx 2 rfl rfl (lt_of_ble rfl)
            apply Wk.bx 3 rfl rfl (lt_of_ble rfl)
            apply Wk.asg (by conv => lhs; whnf) (lt_of_ble rfl)
            refine Wk.nil ?_
            refine AW.seq (AW.seq ?_)
            apply AW.list
            apply Wk.ld (i := 2) 5 true ty29 rfl rfl (by conv => lhs; whnf) (lt_of_ble rfl)
            apply Wk.fad 0 9 true fd77_0 rfl (lt_of_ble rfl)
            apply Wk.ld (i := 3) 10 true ty33 rfl rfl (by conv => lhs; whnf) (lt_of_ble rfl)
            apply Wk.dat k0 Try.func11 rfl rfl rfl rfl rfl (lt_of_ble rfl)
            apply Wk.un rfl (fun w => by simp [go_sem] <;> rfl) (lt_of_ble rfl)
            apply Wk.mv (by conv => lhs; whnf) (lt_of_ble rfl)
            apply Wk.gon 12 rfl rfl
            apply Wk.fad 10 6 true fd77_1 rfl (lt_of_ble rfl)
            apply Wk.gon 12 rfl rfl
            apply Wk.ld (i := 3) 7 true ty72 rfl rfl (by conv => lhs; whnf) (lt_of_ble rfl)
            apply Wk.gon 12 rfl rfl
            apply Wk.dat k1 Try.func87 rfl rfl rfl rfl rfl (lt_of_ble rfl)
            apply Wk.gon 12 rfl rfl
            apply Wk.un rfl (fun w => by simp [go_sem] <;> rfl) (lt_of_ble rfl)
            apply Wk.pckF rfl (by conv => lhs; whnf) (lt_of_ble rfl)
            apply Wk.mv (by conv => lhs; whnf) (lt_of_ble rfl)
            apply Wk.gon 18 rfl rfl
            apply Wk.ld (i := 2) 5 true ty29 rfl rfl (by conv => lhs; whnf) (lt_of_ble rfl)
            apply Wk.gon 18 rfl rfl
            apply Wk.fad 17 4 true fd77_2 rfl (lt_of_ble rfl)
            apply Wk.gon 18 rfl rfl
            apply Wk.ld (i := 3) 5 true ty44 rfl rfl (by conv => lhs; whnf) (lt_of_ble rfl)
            apply Wk.gon 18 rfl rfl
            apply Wk.dat k2 Try.func19 rfl rfl rfl rfl rfl (lt_of_ble rfl)
            apply Wk.gon 18 rfl rfl
            apply Wk.un rfl (fun w => by simp [go_sem] <;> rfl) (lt_of_ble rfl)
            apply Wk.pckF rfl (by conv => lhs; whnf) (lt_of_ble rfl)
            apply Wk.mv (by conv => lhs; whnf) (lt_of_ble rfl)
            apply Wk.gon 25 rfl rfl
            apply Wk.fad 22 3 true fd77_3 rfl (lt_of_ble rfl)
            apply Wk.gon 25 rfl rfl
            apply Wk.ld (i := 3) 4 true ty74 rfl rfl (by conv => lhs; whnf) (lt_of_ble rfl)
            apply Wk.gon 25 rfl rfl
            apply Wk.dat k3 Try.func88 rfl rfl rfl rfl rfl (lt_of_ble rfl)
            apply Wk.gon 25 rfl rfl
            apply Wk.un rfl (fun w => by simp [go_sem] <;> rfl) (lt_of_ble rfl)
            apply Wk.pckF rfl (by conv => lhs; whnf) (lt_of_ble rfl)
            apply Wk.mv (by conv => lhs; whnf) (lt_of_ble rfl)
            apply Wk.gon 31 rfl rfl
            apply Wk.fad 26 0 false fd77_4 rfl (lt_of_ble rfl)
            apply Wk.gon 31 rfl rfl
            apply Wk.ld (i := 3) 1 false ty75 rfl rfl (by conv => lhs; whnf) (lt_of_ble rfl)
            apply Wk.gon 31 rfl rfl
            apply Wk.len un75 rfl (lt_of_ble rfl)
            apply Wk.gon 31 rfl rfl
            apply Wk.bin rfl rfl (r := .bool true) (fun w => by rw [pl]; simp [go_sem]; omega) (lt_of_ble rfl)
            apply Wk.pckF rfl (by conv => lhs; whnf) (lt_of_ble rfl)
            apply Wk.mv (by conv => lhs; whnf) (lt_of_ble rfl)
            apply Wk.goff 37 (ok_faddr fd77_5) rfl rfl (by simp)
            apply Wk.goff 37 (ok_load 3 ty75) rfl rfl (by simp)
            apply Wk.goff 37 (ok_len un75) rfl rfl (by simp)
            apply Wk.goff 37 (ok_bin _ _ _ _ _) rfl rfl (by simp)
            apply Wk.pckT rfl (by conv => lhs; whnf) (lt_of_ble rfl)
            refine Wk.nil ?_
            refine AW.cond rfl (fun _ => ?_) (fun hc => by cases hc)
            refine AW.seq ?_
            apply AW.list
            apply Wk.asg (by conv => lhs; whnf) (lt_of_ble rfl)
            refine Wk.nil (AW.ret ?_)
            repeat (first | refine thenA_ret ?_ | refine inBlockA_ret ?_)
            exact RetQ.ret [] (.cons rfl .nil) ⟨rfl, rfl⟩ none_kept
          by_cases hg : got.length ≤ 60
          rotate_left
          · rw [show sdusB put = !put.any sduB from by simp [sdusB, hp], show sdusB got = false from by simp [sdusB, hg]]
            rw [show (true && (true && (true && (true && (!put.any sduB && false))))) = false from by simp]
            refine Spec.intro (n := 71) (rv := [.tmp 4]) Try.func53 rfl rfl rfl (by simp) fun C hN hX => ?_
            refine AW.seq ?_
            apply AW.list
            apply Wk.bx 2 rfl rfl (lt_of_ble rfl)
            apply Wk.bx 3 rfl rfl (lt_of_ble rfl)
            apply Wk.asg (by conv => lhs; whnf) (lt_of_ble rfl)
            refine Wk.nil ?_
            refine AW.seq (AW.seq ?_)
            apply AW.list
            apply Wk.ld (i := 2) 5 true ty29 rfl rfl (by conv => lhs; whnf) (lt_of_ble rfl)
            apply Wk.fad 0 9 true fd77_0 rfl (lt_of_ble rfl)
            apply Wk.ld (i := 3) 10 true ty33 rfl rfl (by conv => lhs; whnf) (lt_of_ble rfl)
            apply Wk.dat k0 Try.func11 rfl rfl rfl rfl rfl (lt_of_ble rfl)
            apply Wk.un rfl (fun w => by simp [go_sem] <;> rfl) (lt_of_ble rfl)
            apply Wk.mv (by conv => lhs; whnf) (lt_of_ble rfl)
            apply Wk.gon 12 rfl rfl
            apply Wk.fad 10 6 true fd77_1 rfl (lt_of_ble rfl)
            apply Wk.gon 12 rfl rfl
            apply Wk.ld (i := 3) 7 true ty72 rfl rfl (by conv => lhs; whnf) (lt_of_ble rfl)
            apply Wk.gon 12 rfl rfl
            apply Wk.dat k1 Try.func87 rfl rfl rfl rfl rfl (lt_of_ble rfl)
            apply Wk.gon 12 rfl rfl
            apply Wk.un rfl (fun w => by simp [go_sem] <;> rfl) (lt_of_ble rfl)
            apply Wk.pckF rfl (by conv => lhs; whnf) (lt_of_ble rfl)
            apply Wk.mv (by conv => lhs; whnf) (lt_of_ble rfl)
            apply Wk.gon 18 rfl rfl
            apply Wk.ld (i := 2) 5 true ty29 rfl rfl (by conv => lhs; whnf) (lt_of_ble rfl)
            apply Wk.gon 18 rfl rfl
            apply Wk.fad 17 4 true fd77_2 rfl (lt_of_ble rfl)
            apply Wk.gon 18 rfl rfl
            apply Wk.ld (i := 3) 5 true ty44 rfl rfl (by conv => lhs; whnf) (lt_of_ble rfl)
            apply Wk.gon 18 rfl rfl
            apply Wk.dat k2 Try.func19 rfl rfl rfl rfl rfl (lt_of_ble rfl)
            apply Wk.gon 18 rfl rfl
            apply Wk.un rfl (fun w => by simp [go_sem] <;> rfl) (lt_of_ble rfl)
            apply Wk.pckF rfl (by conv => lhs; whnf) (lt_of_ble rfl)
            apply Wk.mv (by conv => lhs; whnf) (lt_of_ble rfl)
            apply Wk.gon 25 rfl rfl
            apply Wk.fad 22 3 true fd77_3 rfl (lt_of_ble rfl)
            apply Wk.gon 25 rfl rfl
            apply Wk.ld (i := 3) 4 true ty74 rfl rfl (by conv => lhs; whnf) (lt_of_ble rfl)
            apply Wk.gon 25 rfl rfl
            apply Wk.dat k3 Try.func88 rfl rfl rfl rfl rfl (lt_of_ble rfl)
            apply Wk.gon 25 rfl rfl
            apply Wk.un rfl (fun w => by simp [go_sem] <;> rfl) (lt_of_ble rfl)
            apply Wk.pckF rfl (by conv => lhs; whnf) (lt_of_ble rfl)
            apply Wk.mv (by conv => lhs; whnf) (lt_of_ble rfl)
            apply Wk.gon 31 rfl rfl
            apply Wk.fad 26 0 false fd77_4 rfl (lt_of_ble rfl)
            apply Wk.gon 31 rfl rfl
            apply Wk.ld (i := 3) 1 false ty75 rfl rfl (by conv => lhs; whnf) (lt_of_ble rfl)
            apply Wk.gon 31 rfl rfl
            apply Wk.len un75 rfl (lt_of_ble rfl)
            apply Wk.gon 31 rfl rfl
            apply Wk.bin rfl rfl (r := .bool false) (fun w => by rw [pl]; simp [go_sem]; omega) (lt_of_ble rfl)
            apply Wk.pckF rfl (by conv => lhs; whnf) (lt_of_ble rfl)
            apply Wk.mv (by conv => lhs; whnf) (lt_of_ble rfl)
            apply Wk.gon 37 rfl rfl
            apply Wk.fad 27 0 false fd77_5 rfl (lt_of_ble rfl)
            apply Wk.gon 37 rfl rfl
            apply Wk.ld (i := 3) 1 false ty75 rfl rfl (by conv => lhs; whnf) (lt_of_ble rfl)
            apply Wk.gon 37 rfl rfl
            apply Wk.len un75 rfl (lt_of_ble rfl)
            apply Wk.gon 37 rfl rfl
            apply Wk.bin rfl rfl (r := .bool true) (fun w => by rw [gl]; simp [go_sem]; omega) (lt_of_ble rfl)
            apply Wk.pckF rfl (by conv => lhs; whnf) (lt_of_ble rfl)
            refine Wk.nil ?_
            refine AW.cond rfl (fun _ => ?_) (fun hc => by cases hc)
            refine AW.seq ?_
            apply AW.list
            apply Wk.asg (by conv => lhs; whnf) (lt_of_ble rfl)
            refine Wk.nil (AW.ret ?_)
            repeat (first | refine thenA_ret ?_ | refine inBlockA_ret ?_)
            exact RetQ.ret [] (.cons rfl .nil) ⟨rfl, rfl⟩ none_kept
          rw [show sdusB put = !put.any sduB from by simp [sdusB, hp], show sdusB got = !got.any sduB from by simp [sdusB, hg]]
          refine Spec.intro (n := 71) (rv := [.tmp 4]) Try.func53 rfl rfl rfl (by simp) fun C hN hX => ?_
          refine AW.seq ?_
          apply AW.list
          apply Wk.bx 2 rfl rfl (lt_of_ble rfl)
          apply Wk.bx 3 rfl rfl (lt_of_ble rfl)
          apply Wk.asg (by conv => lhs; whnf) (lt_of_ble rfl)
          refine Wk.nil ?_
          refine AW.seq (AW.seq ?_)
          apply AW.list
          apply Wk.ld (i := 2) 5 true ty29 rfl rfl (by conv => lhs; whnf) (lt_of_ble rfl)
          apply Wk.fad 0 9 true fd77_0 rfl (lt_of_ble rfl)
          apply Wk.ld (i := 3) 10 true ty33 rfl rfl (by conv => lhs; whnf) (lt_of_ble rfl)
          apply Wk.dat k0 Try.func11 rfl rfl rfl rfl rfl (lt_of_ble rfl)
          apply Wk.un rfl (fun w => by simp [go_sem] <;> rfl) (lt_of_ble rfl)
          apply Wk.mv (by conv => lhs; whnf) (lt_of_ble rfl)
          apply Wk.gon 12 rfl rfl
          apply Wk.fad 10 6 true fd77_1 rfl (lt_of_ble rfl)
          apply Wk.gon 12 rfl rfl
          apply Wk.ld (i := 3) 7 true ty72 rfl rfl (by conv => lhs; whnf) (lt_of_ble rfl)
          apply Wk.gon 12 rfl rfl
          apply Wk.dat k1 Try.func87 rfl rfl rfl rfl rfl (lt_of_ble rfl)
          apply Wk.gon 12 rfl rfl
          apply Wk.un rfl (fun w => by simp [go_sem] <;> rfl) (lt_of_ble rfl)
          apply Wk.pckF rfl (by conv => lhs; whnf) (lt_of_ble rfl)
          apply Wk.mv (by conv => lhs; whnf) (lt_of_ble rfl)
          apply Wk.gon 18 rfl rfl
          apply Wk.ld (i := 2) 5 true ty29 rfl rfl (by conv => lhs; whnf) (lt_of_ble rfl)
          apply Wk.gon 18 rfl rfl
          apply Wk.fad 17 4 true fd77_2 rfl (lt_of_ble rfl)
          apply Wk.gon 18 rfl rfl
          apply Wk.ld (i := 3) 5 true ty44 rfl rfl (by conv => lhs; whnf) (lt_of_ble rfl)
          apply Wk.gon 18 rfl rfl
          apply Wk.dat k2 Try.func19 rfl rfl rfl rfl rfl (lt_of_ble rfl)
          apply Wk.gon 18 rfl rfl
          apply Wk.un rfl (fun w => by simp [go_sem] <;> rfl) (lt_of_ble rfl)
          apply Wk.pckF rfl (by conv => lhs; whnf) (lt_of_ble rfl)
          apply Wk.mv (by conv => lhs; whnf) (lt_of_ble rfl)
          apply Wk.gon 25 rfl rfl
          apply Wk.fad 22 3 true fd77_3 rfl (lt_of_ble rfl)
          apply Wk.gon 25 rfl rfl
          apply Wk.ld (i := 3) 4 true ty74 rfl rfl (by conv => lhs; whnf) (lt_of_ble rfl)
          apply Wk.gon 25 rfl rfl
          apply Wk.dat k3 Try.func88 rfl rfl rfl rfl rfl (lt_of_ble rfl)
          apply Wk.gon 25 rfl rfl
          apply Wk.un rfl (fun w => by simp [go_sem] <;> rfl) (lt_of_ble rfl)
          apply Wk.pckF rfl (by conv => lhs; whnf) (lt_of_ble rfl)
          apply Wk.mv (by conv => lhs; whnf) (lt_of_ble rfl)
          apply Wk.gon 31 rfl rfl
          apply Wk.fad 26 0 false fd77_4 rfl (lt_of_ble rfl)
          apply Wk.gon 31 rfl rfl
          apply Wk.ld (i := 3) 1 false ty75 rfl rfl (by conv => lhs; whnf) (lt_of_ble rfl)
          apply Wk.gon 31 rfl rfl
          apply Wk.len un75 rfl (lt_of_ble rfl)
          apply Wk.gon 31 rfl rfl
          apply Wk.bin rfl rfl (r := .bool false) (fun w => by rw [pl]; simp [go_sem]; omega) (lt_of_ble rfl)
          apply Wk.pckF rfl (by conv => lhs; whnf) (lt_of_ble rfl)
          apply Wk.mv (by conv => lhs; whnf) (lt_of_ble rfl)
          apply Wk.gon 37 rfl rfl
          apply Wk.fad 27 0 false fd77_5 rfl (lt_of_ble rfl)
          apply Wk.gon 37 rfl rfl
          apply Wk.ld (i := 3) 1 false ty75 rfl rfl (by conv => lhs; whnf) (lt_of_ble rfl)
          apply Wk.gon 37 rfl rfl
          apply Wk.len un75 rfl (lt_of_ble rfl)
          apply Wk.gon 37 rfl rfl
          apply Wk.bin rfl rfl (r := .bool false) (fun w => by rw [gl]; simp [go_sem]; omega) (lt_of_ble rfl)
          apply Wk.pckF rfl (by conv => lhs; whnf) (lt_of_ble rfl)
          refine Wk.nil ?_
          refine AW.cond rfl (fun hc => by cases hc) (fun _ => AW.skip (thenA_normal ?_))
          refine AW.seq (AW.seq ?_)
          apply AW.list
          apply Wk.asg (by conv => lhs; whnf) (lt_of_ble rfl)
          refine Wk.nil (AW.block ?_)
          refine AW.loop (fun k : Nat => St.of 71 [(2, .ptr 2 0), (3, .ptr 3 0), (5, .d (.v (.int .i64 (k : Int))))] [(2, .var (cfgC m w p u y)), (3, .var ((enD ⟨⟨n, a, fl, s, qu, q, t, h, c, d0⟩, ⟨e1, c1, m1, z1, a1, u1, d1⟩, ⟨v2, q2, g2, s2, d2⟩, ⟨v3, m3, z3, d3⟩, put, got⟩).map A.d))]) (fun k => k ≤ put.length ∧ ∀ z ∈ put.take k, sduB z = false) (fun k => put.length - k) 0 ⟨Nat.zero_le _, by simp⟩ ?_ ?_
          · exact fun a w => Rel.keep ⟨rfl, .cons rfl rfl (.cons rfl rfl (.cons rfl rfl .nil)), .cons rfl rfl (.cons rfl rfl .nil), hN.mono (by simp [keys])⟩
          rintro k ⟨hk, hk2⟩
          show AW Try.prog C _ _ (St.of 71 [(2, .ptr 2 0), (3, .ptr 3 0), (5, .d (.v (.int .i64 (k : Int))))] [(2, .var (cfgC m w p u y)), (3, .var ((enD ⟨⟨n, a, fl, s, qu, q, t, h, c, d0⟩, ⟨e1, c1, m1, z1, a1, u1, d1⟩, ⟨v2, q2, g2, s2, d2⟩, ⟨v3, m3, z3, d3⟩, put, got⟩).map A.d))])
          refine AW.seq (AW.seq ?_)
          by_cases hlt : k < put.length
          · skip
            apply AW.list
            apply Wk.mv (by conv => lhs; whnf) (lt_of_ble rfl)
            apply Wk.fad 26 0 false fd77_4 rfl (lt_of_ble rfl)
            apply Wk.ld (i := 3) 1 false ty75 rfl rfl (by conv => lhs; whnf) (lt_of_ble rfl)
            apply Wk.len un75 rfl (lt_of_ble rfl)
            apply Wk.bin rfl rfl (r := .bool true) (fun w => by rw [pl]; simp [go_sem]; omega) (lt_of_ble rfl)
            refine Wk.nil ?_
            refine AW.cond rfl (fun _ => AW.skip ?_) (fun hc => by cases hc)
            repeat (first | refine thenA_normal ?_ | refine inBlockA_normal ?_)
            obtain ⟨zz, hd⟩ : ∃ d, put[k]? = some d := ⟨_, List.getElem?_eq_getElem hlt⟩
            have hget : (put.map bsC)[k]? = some (bsC zz) := by simp [hd]
            have hklt : k < (put.map bsC).length := by simpa using hlt
            have next : sduB zz = false → k + 1 ≤ put.length ∧ ∀ a ∈ put.take (k + 1), sduB a = false := fun hb => ⟨by omega, fun a ha => by
              rw [List.take_add_one, hd] at ha
              rcases List.mem_append.1 ha with h | h
              · exact hk2 a h
              · obtain rfl : a = zz := by simpa using h
                exact hb⟩
            refine AW.seq (AW.block (AW.seq ?_))
            apply AW.list
            apply Wk.fad 26 0 false fd77_4 rfl (lt_of_ble rfl)
            apply Wk.ld (i := 3) 1 false ty75 rfl rfl (by conv => lhs; whnf) (lt_of_ble rfl)
            apply Wk.mv (by conv => lhs; whnf) (lt_of_ble rfl)
            apply Wk.iad 1 false un75 ty64 rfl rfl hklt (bs_one _) (lt_of_ble rfl)
            apply Wk.ldr 1 false ty64 rfl hget (by conv => lhs; whnf) (lt_of_ble rfl)
            apply Wk.len un64 rfl (lt_of_ble rfl)
            apply Wk.bin rfl rfl (r := .bool (sduB zz)) (fun w => by rw [fb_len]; simp [go_sem, sduB]; omega) (lt_of_ble rfl)
            refine Wk.nil ?_
            refine AW.cond rfl (fun hb => ?_) (fun hb => AW.skip ?_)
            · rw [show put.any sduB = true from List.any_eq_true.2 ⟨zz, List.mem_of_getElem? hd, hb⟩]
              refine AW.seq ?_
              apply AW.list
              apply Wk.asg (by conv => lhs; whnf) (lt_of_ble rfl)
              refine Wk.nil (AW.ret ?_)
              repeat (first | refine thenA_ret ?_ | refine inBlockA_ret ?_)
              exact RetQ.ret [] (.cons rfl .nil) ⟨rfl, rfl⟩ none_kept
            repeat (first | refine thenA_normal ?_ | refine inBlockA_normal ?_)
            apply AW.list
            apply Wk.mv (by conv => lhs; whnf) (lt_of_ble rfl)
            apply Wk.addn (b := 1) rfl rfl (by omega) (lt_of_ble rfl)
            apply Wk.asg (by conv => lhs; whnf) (lt_of_ble rfl)
            refine Wk.nil ?_
            repeat (first | refine thenA_normal ?_ | refine inBlockA_normal ?_)
            exact ⟨k + 1, next hb, by omega, fun a w => Rel.keep ⟨rfl, .cons rfl rfl (.cons rfl rfl (.cons rfl rfl .nil)), .cons rfl rfl (.cons rfl rfl .nil), hN.mono (by simp [keys])⟩⟩
          have hke : k = put.length := by omega
          subst hke
          rw [List.take_length] at hk2
          apply AW.list
          apply Wk.mv (by conv => lhs; whnf) (lt_of_ble rfl)
          apply Wk.fad 26 0 false fd77_4 rfl (lt_of_ble rfl)
          apply Wk.ld (i := 3) 1 false ty75 rfl rfl (by conv => lhs; whnf) (lt_of_ble rfl)
          apply Wk.len un75 rfl (lt_of_ble rfl)
          apply Wk.bin rfl rfl (r := .bool false) (fun w => by rw [pl]; simp [go_sem]) (lt_of_ble rfl)
          refine Wk.nil ?_
          refine AW.cond rfl (fun hc => by cases hc) (fun _ => AW.exit ?_)
          repeat (first | refine inBlockA_same ?_ | refine thenA_exit ?_)
          repeat (first | refine thenA_normal ?_ | refine inBlockA_normal ?_)
          rw [show put.any sduB = false from List.any_eq_false.2 fun e he => by rw [hk2 e he]; simp]
          clear hk2 hlt hk
          refine AW.seq (AW.seq ?_)
          apply AW.list
          apply Wk.asg (by conv => lhs; whnf) (lt_of_ble rfl)
          refine Wk.nil (AW.block ?_)
          refine AW.loop (fun k : Nat => St.of 71 [(2, .ptr 2 0), (3, .ptr 3 0), (6, .d (.v (.int .i64 (k : Int))))] [(2, .var (cfgC m w p u y)), (3, .var ((enD ⟨⟨n, a, fl, s, qu, q, t, h, c, d0⟩, ⟨e1, c1, m1, z1, a1, u1, d1⟩, ⟨v2, q2, g2, s2, d2⟩, ⟨v3, m3, z3, d3⟩, put, got⟩).map A.d))]) (fun k => k ≤ got.length ∧ ∀ z ∈ got.take k, sduB z = false) (fun k => got.length - k) 0 ⟨Nat.zero_le _, by simp⟩ ?_ ?_
          · exact fun a w => Rel.keep ⟨rfl, .cons rfl rfl (.cons rfl rfl (.cons rfl rfl .nil)), .cons rfl rfl (.cons rfl rfl .nil), hN.mono (by simp [keys])⟩
          rintro k ⟨hk, hk2⟩
          show AW Try.prog C _ _ (St.of 71 [(2, .ptr 2 0), (3, .ptr 3 0), (6, .d (.v (.int .i64 (k : Int))))] [(2, .var (cfgC m w p u y)), (3, .var ((enD ⟨⟨n, a, fl, s, qu, q, t, h, c, d0⟩, ⟨e1, c1, m1, z1, a1, u1, d1⟩, ⟨v2, q2, g2, s2, d2⟩, ⟨v3, m3, z3, d3⟩, put, got⟩).map A.d))])
          refine AW.seq (AW.seq ?_)
          by_cases hlt : k < got.length
          · skip
            apply AW.list
            apply Wk.mv (by conv => lhs; whnf) (lt_of_ble rfl)
            apply Wk.fad 27 0 false fd77_5 rfl (lt_of_ble rfl)
            apply Wk.ld (i := 3) 1 false ty75 rfl rfl (by conv => lhs; whnf) (lt_of_ble rfl)
            apply Wk.len un75 rfl (lt_of_ble rfl)
            apply Wk.bin rfl rfl (r := .bool true) (fun w => by rw [gl]; simp [go_sem]; omega) (lt_of_ble rfl)
            refine Wk.nil ?_
            refine AW.cond rfl (fun _ => AW.skip ?_) (fun hc => by cases hc)
            repeat (first | refine thenA_normal ?_ | refine inBlockA_normal ?_)
            obtain ⟨zz, hd⟩ : ∃ d, got[k]? = some d := ⟨_, List.getElem?_eq_getElem hlt⟩
            have hget : (got.map bsC)[k]? = some (bsC zz) := by simp [hd]
            have hklt : k < (got.map bsC).length := by simpa using hlt
            have next : sduB zz = false → k + 1 ≤ got.length ∧ ∀ a ∈ got.take (k + 1), sduB a = false := fun hb => ⟨by omega, fun a ha => by
              rw [List.take_add_one, hd] at ha
              rcases List.mem_append.1 ha with h | h
              · exact hk2 a h
              · obtain rfl : a = zz := by simpa using h
                exact hb⟩
            refine AW.seq (AW.block (AW.seq ?_))
            apply AW.list
            apply Wk.fad 27 0 false fd77_5 rfl (lt_of_ble rfl)
            apply Wk.ld (i := 3) 1 false ty75 rfl rfl (by conv => lhs; whnf) (lt_of_ble rfl)
            apply Wk.mv (by conv => lhs; whnf) (lt_of_ble rfl)
            apply Wk.iad 1 false un75 ty64 rfl rfl hklt (bs_one _) (lt_of_ble rfl)
            apply Wk.ldr 1 false ty64 rfl hget (by conv => lhs; whnf) (lt_of_ble rfl)
            apply Wk.len un64 rfl (lt_of_ble rfl)
            apply Wk.bin rfl rfl (r := .bool (sduB zz)) (fun w => by rw [fb_len]; simp [go_sem, sduB]; omega) (lt_of_ble rfl)
            refine Wk.nil ?_
            refine AW.cond rfl (fun hb => ?_) (fun hb => AW.skip ?_)
            · rw [show got.any sduB = true from List.any_eq_true.2 ⟨zz, List.mem_of_getElem? hd, hb⟩]
              refine AW.seq ?_
              apply AW.list
              apply Wk.asg (by conv => lhs; whnf) (lt_of_ble rfl)
              refine Wk.nil (AW.ret ?_)
              repeat (first | refine thenA_ret ?_ | refine inBlockA_ret ?_)
              exact RetQ.ret [] (.cons rfl .nil) ⟨rfl, rfl⟩ none_kept
            repeat (first | refine thenA_normal ?_ | refine inBlockA_normal ?_)
            apply AW.list
            apply Wk.mv (by conv => lhs; whnf) (lt_of_ble rfl)
            apply Wk.addn (b := 1) rfl rfl (by omega) (lt_of_ble rfl)
            apply Wk.asg (by conv => lhs; whnf) (lt_of_ble rfl)
            refine Wk.nil ?_
            repeat (first | refine thenA_normal ?_ | refine inBlockA_normal ?_)
            exact ⟨k + 1, next hb, by omega, fun a w => Rel.keep ⟨rfl, .cons rfl rfl (.cons rfl rfl (.cons rfl rfl .nil)), .cons rfl rfl (.cons rfl rfl .nil), hN.mono (by simp [keys])⟩⟩
          have hke : k = got.length := by omega
          subst hke
          rw [List.take_length] at hk2
          apply AW.list
          apply Wk.mv (by conv => lhs; whnf) (lt_of_ble rfl)
          apply Wk.fad 27 0 false fd77_5 rfl (lt_of_ble rfl)
          apply Wk.ld (i := 3) 1 false ty75 rfl rfl (by conv => lhs; whnf) (lt_of_ble rfl)
          apply Wk.len un75 rfl (lt_of_ble rfl)
          apply Wk.bin rfl rfl (r := .bool false) (fun w => by rw [gl]; simp [go_sem]) (lt_of_ble rfl)
          refine Wk.nil ?_
          refine AW.cond rfl (fun hc => by cases hc) (fun _ => AW.exit ?_)
          repeat (first | refine inBlockA_same ?_ | refine thenA_exit ?_)
          repeat (first | refine thenA_normal ?_ | refine inBlockA_normal ?_)
          rw [show got.any sduB = false from List.any_eq_false.2 fun e he => by rw [hk2 e he]; simp]
          clear hk2 hlt hk
          refine AW.seq ?_
          apply AW.list
          apply Wk.asg (by conv => lhs; whnf) (lt_of_ble rfl)
          refine Wk.nil (AW.ret ?_)
          repeat (first | refine thenA_ret ?_ | refine inBlockA_ret ?_)
          exact RetQ.ret [] (.cons rfl .nil) ⟨rfl, rfl⟩ none_kept
set_option maxHeartbeats 4000000 in
set_option maxRecDepth 100000 in
theorem swok_ok (x : WD) : DataOk Try.prog 24 [wdA x] (.d (.v (.bool x.okB))) := by
  obtain ⟨m, w, p, u, y, ends, net, link⟩ := x
  have el : (((ends.map enD).length : Nat) : Int) = (ends.length : Int) := by rw [List.length_map]
  have nl : (((net.map fun l => [D.row (l.map msgC)]).length : Nat) : Int) = (net.length : Int) := by rw [List.length_map]
  cases hc0 : Opt.ok ⟨m, w, p, u, y⟩
  · skip
    rw [show WD.okB ⟨m, w, p, u, y, ends, net, link⟩ = false from by simp [WD.okB, hc0]]
    refine Spec.intro (n := 70) (rv := [.tmp 2]) Try.func24 rfl rfl rfl (by simp) fun C hN hX => ?_
    refine AW.seq ?_
    apply AW.list
    apply Wk.bx 1 rfl rfl (lt_of_ble rfl)
    apply Wk.asg (by conv => lhs; whnf) (lt_of_ble rfl)
    refine Wk.nil ?_
    refine AW.seq (AW.seq ?_)
    apply AW.list
    apply Wk.fad 0 4 true fd57_0 rfl (lt_of_ble rfl)
    apply Wk.ld (i := 1) 5 true ty29 rfl rfl (by conv => lhs; whnf) (lt_of_ble rfl)
    apply Wk.dat (scfgb hc0) Try.func36 rfl rfl rfl rfl rfl (lt_of_ble rfl)
    apply Wk.un rfl (fun w => by simp [go_sem] <;> rfl) (lt_of_ble rfl)
    apply Wk.mv (by conv => lhs; whnf) (lt_of_ble rfl)
    apply Wk.goff 9 (ok_faddr fd57_1) rfl rfl (by simp)
    apply Wk.goff 9 (ok_load 1 ty54) rfl rfl (by simp)
    apply Wk.goff 9 (ok_len un54) rfl rfl (by simp)
    apply Wk.goff 9 (ok_bin _ _ _ _ _) rfl rfl (by simp)
    apply Wk.pckT rfl (by conv => lhs; whnf) (lt_of_ble rfl)
    apply Wk.mv (by conv => lhs; whnf) (lt_of_ble rfl)
    apply Wk.goff 15 (ok_faddr fd57_2) rfl rfl (by simp)
    apply Wk.goff 15 (ok_load 1 ty55) rfl rfl (by simp)
    apply Wk.goff 15 (ok_len un55) rfl rfl (by simp)
    apply Wk.goff 15 (ok_bin _ _ _ _ _) rfl rfl (by simp)
    apply Wk.pckT rfl (by conv => lhs; whnf) (lt_of_ble rfl)
    apply Wk.mv (by conv => lhs; whnf) (lt_of_ble rfl)
    apply Wk.goff 21 (ok_faddr fd57_3) rfl rfl (by simp)
    apply Wk.goff 21 (ok_load 1 ty3) rfl rfl (by simp)
    apply Wk.goff 21 (ok_datw ((sinb (n := link) (lo := 0) (hi := 1) rfl).w rfl) Try.func40 rfl rfl) rfl rfl (by simp)
    apply Wk.goff 21 (ok_un _ _ _) rfl rfl (by simp)
    apply Wk.pckT rfl (by conv => lhs; whnf) (lt_of_ble rfl)
    refine Wk.nil ?_
    refine AW.cond rfl (fun _ => ?_) (fun hc => by cases hc)
    refine AW.seq ?_
    apply AW.list
    apply Wk.asg (by conv => lhs; whnf) (lt_of_ble rfl)
    refine Wk.nil (AW.ret ?_)
    repeat (first | refine thenA_ret ?_ | refine inBlockA_ret ?_)
    exact RetQ.ret [] (.cons rfl .nil) ⟨rfl, rfl⟩ none_kept
  by_cases he : ends.length = 2
  rotate_left
  · skip
    rw [show WD.okB ⟨m, w, p, u, y, ends, net, link⟩ = false from by simp [WD.okB, he]]
    refine Spec.intro (n := 70) (rv := [.tmp 2]) Try.func24 rfl rfl rfl (by simp) fun C hN hX => ?_
    refine AW.seq ?_
    apply AW.list
    apply Wk.bx 1 rfl rfl (lt_of_ble rfl)
    apply Wk.asg (by conv => lhs; whnf) (lt_of_ble rfl)
    refine Wk.nil ?_
    refine AW.seq (AW.seq ?_)
    apply AW.list
    apply Wk.fad 0 4 true fd57_0 rfl (lt_of_ble rfl)
    apply Wk.ld (i := 1) 5 true ty29 rfl rfl (by conv => lhs; whnf) (lt_of_ble rfl)
    apply Wk.dat (scfgb hc0) Try.func36 rfl rfl rfl rfl rfl (lt_of_ble rfl)
    apply Wk.un rfl (fun w => by simp [go_sem] <;> rfl) (lt_of_ble rfl)
    apply Wk.mv (by conv => lhs; whnf) (lt_of_ble rfl)
    apply Wk.gon 9 rfl rfl
    apply Wk.fad 5 0 false fd57_1 rfl (lt_of_ble rfl)
    apply Wk.gon 9 rfl rfl
    apply Wk.ld (i := 1) 1 false ty54 rfl rfl (by conv => lhs; whnf) (lt_of_ble rfl)
    apply Wk.gon 9 rfl rfl
    apply Wk.len un54 rfl (lt_of_ble rfl)
    apply Wk.gon 9 rfl rfl
    apply Wk.bin rfl rfl (r := .bool true) (fun w => by rw [el]; simp [go_sem]; omega) (lt_of_ble rfl)
    apply Wk.pckF rfl (by conv => lhs; whnf) (lt_of_ble rfl)
    apply Wk.mv (by conv => lhs; whnf) (lt_of_ble rfl)
    apply Wk.goff 15 (ok_faddr fd57_2) rfl rfl (by simp)
    apply Wk.goff 15 (ok_load 1 ty55) rfl rfl (by simp)
    apply Wk.goff 15 (ok_len un55) rfl rfl (by simp)
    apply Wk.goff 15 (ok_bin _ _ _ _ _) rfl rfl (by simp)
    apply Wk.pckT rfl (by conv => lhs; whnf) (lt_of_ble rfl)
    apply Wk.mv (by conv => lhs; whnf) (lt_of_ble rfl)
    apply Wk.goff 21 (ok_faddr fd57_3) rfl rfl (by simp)
    apply Wk.goff 21 (ok_load 1 ty3) rfl rfl (by simp)
    apply Wk.goff 21 (ok_datw ((sinb (n := link) (lo := 0) (hi := 1) rfl).w rfl) Try.func40 rfl rfl) rfl rfl (by simp)
    apply Wk.goff 21 (ok_un _ _ _) rfl rfl (by simp)
    apply Wk.pckT rfl (by conv => lhs; whnf) (lt_of_ble rfl)
    refine Wk.nil ?_
    refine AW.cond rfl (fun _ => ?_) (fun hc => by cases hc)
    refine AW.seq ?_
    apply AW.list
    apply Wk.asg (by conv => lhs; whnf) (lt_of_ble rfl)
    refine Wk.nil (AW.ret ?_)
    repeat (first | refine thenA_ret ?_ | refine inBlockA_ret ?_)
    exact RetQ.ret [] (.cons rfl .nil) ⟨rfl, rfl⟩ none_kept
  by_cases hn : net.length = 2
  rotate_left
  · skip
    rw [show WD.okB ⟨m, w, p, u, y, ends, net, link⟩ = false from by simp [WD.okB, hn]]
    refine Spec.intro (n := 70) (rv := [.tmp 2]) Try.func24 rfl rfl rfl (by simp) fun C hN hX => ?_
    refine AW.seq ?_
    apply AW.list
    apply Wk.bx 1 rfl rfl (lt_of_ble rfl)
    apply Wk.asg (by conv => lhs; whnf) (lt_of_ble rfl)
    refine Wk.nil ?_
    refine AW.seq (AW.seq ?_)
    apply AW.list
    apply Wk.fad 0 4 true fd57_0 rfl (lt_of_ble rfl)
    apply Wk.ld (i := 1) 5 true ty29 rfl rfl (by conv => lhs; whnf) (lt_of_ble rfl)
    apply Wk.dat (scfgb hc0) Try.func36 rfl rfl rfl rfl rfl (lt_of_ble rfl)
    apply Wk.un rfl (fun w => by simp [go_sem] <;> rfl) (lt_of_ble rfl)
    apply Wk.mv (by conv => lhs; whnf) (lt_of_ble rfl)
    apply Wk.gon 9 rfl rfl
    apply Wk.fad 5 0 false fd57_1 rfl (lt_of_ble rfl)
    apply Wk.gon 9 rfl rfl
    apply Wk.ld (i := 1) 1 false ty54 rfl rfl (by conv => lhs; whnf) (lt_of_ble rfl)
    apply Wk.gon 9 rfl rfl
    apply Wk.len un54 rfl (lt_of_ble rfl)
    apply Wk.gon 9 rfl rfl
    apply Wk.bin rfl rfl (r := .bool false) (fun w => by rw [el]; simp [go_sem]; omega) (lt_of_ble rfl)
    apply Wk.pckF rfl (by conv => lhs; whnf) (lt_of_ble rfl)
    apply Wk.mv (by conv => lhs; whnf) (lt_of_ble rfl)
    apply Wk.gon 15 rfl rfl
    apply Wk.fad 6 0 false fd57_2 rfl (lt_of_ble rfl)
    apply Wk.gon 15 rfl rfl
    apply Wk.ld (i := 1) 1 false ty55 rfl rfl (by conv => lhs; whnf) (lt_of_ble rfl)
    apply Wk.gon 15 rfl rfl
    apply Wk.len un55 rfl (lt_of_ble rfl)
    apply Wk.gon 15 rfl rfl
    apply Wk.bin rfl rfl (r := .bool true) (fun w => by rw [nl]; simp [go_sem]; omega) (lt_of_ble rfl)
    apply Wk.pckF rfl (by conv => lhs; whnf) (lt_of_ble rfl)
    apply Wk.mv (by conv => lhs; whnf) (lt_of_ble rfl)
    apply Wk.goff 21 (ok_faddr fd57_3) rfl rfl (by simp)
    apply Wk.goff 21 (ok_load 1 ty3) rfl rfl (by simp)
    apply Wk.goff 21 (ok_datw ((sinb (n := link) (lo := 0) (hi := 1) rfl).w rfl) Try.func40 rfl rfl) rfl rfl (by simp)
    apply Wk.goff 21 (ok_un _ _ _) rfl rfl (by simp)
    apply Wk.pckT rfl (by conv => lhs; whnf) (lt_of_ble rfl)
    refine Wk.nil ?_
    refine AW.cond rfl (fun _ => ?_) (fun hc => by cases hc)
    refine AW.seq ?_
    apply AW.list
    apply Wk.asg (by conv => lhs; whnf) (lt_of_ble rfl)
    refine Wk.nil (AW.ret ?_)
    repeat (first | refine thenA_ret ?_ | refine inBlockA_ret ?_)
    exact RetQ.ret [] (.cons rfl .nil) ⟨rfl, rfl⟩ none_kept
  cases hk : inB link 0 1
  · skip
    rw [show WD.okB ⟨m, w, p, u, y, ends, net, link⟩ = false from by simp [WD.okB, hk]]
    refine Spec.intro (n := 70) (rv := [.tmp 2]) Try.func24 rfl rfl rfl (by simp) fun C hN hX => ?_
    refine AW.seq ?_
    apply AW.list
    apply Wk.bx 1 rfl rfl (lt_of_ble rfl)
    apply Wk.asg (by conv => lhs; whnf) (lt_of_ble rfl)
    refine Wk.nil ?_
    refine AW.seq (AW.seq ?_)
    apply AW.list
    apply Wk.fad 0 4 true fd57_0 rfl (lt_of_ble rfl)
    apply Wk.ld (i := 1) 5 true ty29 rfl rfl (by conv => lhs; whnf) (lt_of_ble rfl)
    apply Wk.dat (scfgb hc0) Try.func36 rfl rfl rfl rfl rfl (lt_of_ble rfl)
    apply Wk.un rfl (fun w => by simp [go_sem] <;> rfl) (lt_of_ble rfl)
    apply Wk.mv (by conv => lhs; whnf) (lt_of_ble rfl)
    apply Wk.gon 9 rfl rfl
    apply Wk.fad 5 0 false fd57_1 rfl (lt_of_ble rfl)
    apply Wk.gon 9 rfl rfl
    apply Wk.ld (i := 1) 1 false ty54 rfl rfl (by conv => lhs; whnf) (lt_of_ble rfl)
    apply Wk.gon 9 rfl rfl
    apply Wk.len un54 rfl (lt_of_ble rfl)
    apply Wk.gon 9 rfl rfl
    apply Wk.bin rfl rfl (r := .bool false) (fun w => by rw [el]; simp [go_sem]; omega) (lt_of_ble rfl)
    apply Wk.pckF rfl (by conv => lhs; whnf) (lt_of_ble rfl)
    apply Wk.mv (by conv => lhs; whnf) (lt_of_ble rfl)
    apply Wk.gon 15 rfl rfl
    apply Wk.fad 6 0 false fd57_2 rfl (lt_of_ble rfl)
    apply Wk.gon 15 rfl rfl
    apply Wk.ld (i := 1) 1 false ty55 rfl rfl (by conv => lhs; whnf) (lt_of_ble rfl)
    apply Wk.gon 15 rfl rfl
    apply Wk.len un55 rfl (lt_of_ble rfl)
    apply Wk.gon 15 rfl rfl
    apply Wk.bin rfl rfl (r := .bool false) (fun w => by rw [nl]; simp [go_sem]; omega) (lt_of_ble rfl)
    apply Wk.pckF rfl (by conv => lhs; whnf) (lt_of_ble rfl)
    apply Wk.mv (by conv => lhs; whnf) (lt_of_ble rfl)
    apply Wk.gon 21 rfl rfl
    apply Wk.fad 7 0 false fd57_3 rfl (lt_of_ble rfl)
    apply Wk.gon 21 rfl rfl
    apply Wk.ld (i := 1) 1 false ty3 rfl rfl (by conv => lhs; whnf) (lt_of_ble rfl)
    apply Wk.gon 21 rfl rfl
    apply Wk.dat (sinb hk) Try.func40 rfl rfl rfl rfl rfl (lt_of_ble rfl)
    apply Wk.gon 21 rfl rfl
    apply Wk.un rfl (fun w => by simp [go_sem] <;> rfl) (lt_of_ble rfl)
    apply Wk.pckF rfl (by conv => lhs; whnf) (lt_of_ble rfl)
    refine Wk.nil ?_
    refine AW.cond rfl (fun _ => ?_) (fun hc => by cases hc)
    refine AW.seq ?_
    apply AW.list
    apply Wk.asg (by conv => lhs; whnf) (lt_of_ble rfl)
    refine Wk.nil (AW.ret ?_)
    repeat (first | refine thenA_ret ?_ | refine inBlockA_ret ?_)
    exact RetQ.ret [] (.cons rfl .nil) ⟨rfl, rfl⟩ none_kept
  refine Spec.intro (n := 70) (rv := [.tmp 2]) Try.func24 rfl rfl rfl (by simp) fun C hN hX => ?_
  refine AW.seq ?_
  apply AW.list
  apply Wk.bx 1 rfl rfl (lt_of_ble rfl)
  apply Wk.asg (by conv => lhs; whnf) (lt_of_ble rfl)
  refine Wk.nil ?_
  refine AW.seq (AW.seq ?_)
  apply AW.list
  apply Wk.fad 0 4 true fd57_0 rfl (lt_of_ble rfl)
  apply Wk.ld (i := 1) 5 true ty29 rfl rfl (by conv => lhs; whnf) (lt_of_ble rfl)
  apply Wk.dat (scfgb hc0) Try.func36 rfl rfl rfl rfl rfl (lt_of_ble rfl)
  apply Wk.un rfl (fun w => by simp [go_sem] <;> rfl) (lt_of_ble rfl)
  apply Wk.mv (by conv => lhs; whnf) (lt_of_ble rfl)
  apply Wk.gon 9 rfl rfl
  apply Wk.fad 5 0 false fd57_1 rfl (lt_of_ble rfl)
  apply Wk.gon 9 rfl rfl
  apply Wk.ld (i := 1) 1 false ty54 rfl rfl (by conv => lhs; whnf) (lt_of_ble rfl)
  apply Wk.gon 9 rfl rfl
  apply Wk.len un54 rfl (lt_of_ble rfl)
  apply Wk.gon 9 rfl rfl
  apply Wk.bin rfl rfl (r := .bool false) (fun w => by rw [el]; simp [go_sem]; omega) (lt_of_ble rfl)
  apply Wk.pckF rfl (by conv => lhs; whnf) (lt_of_ble rfl)
  apply Wk.mv (by conv => lhs; whnf) (lt_of_ble rfl)
  apply Wk.gon 15 rfl rfl
  apply Wk.fad 6 0 false fd57_2 rfl (lt_of_ble rfl)
  apply Wk.gon 15 rfl rfl
  apply Wk.ld (i := 1) 1 false ty55 rfl rfl (by conv => lhs; whnf) (lt_of_ble rfl)
  apply Wk.gon 15 rfl rfl
  apply Wk.len un55 rfl (lt_of_ble rfl)
  apply Wk.gon 15 rfl rfl
  apply Wk.bin rfl rfl (r := .bool false) (fun w => by rw [nl]; simp [go_sem]; omega) (lt_of_ble rfl)
  apply Wk.pckF rfl (by conv => lhs; whnf) (lt_of_ble rfl)
  apply Wk.mv (by conv => lhs; whnf) (lt_of_ble rfl)
  apply Wk.gon 21 rfl rfl
  apply Wk.fad 7 0 false fd57_3 rfl (lt_of_ble rfl)
  apply Wk.gon 21 rfl rfl
  apply Wk.ld (i := 1) 1 false ty3 rfl rfl (by conv => lhs; whnf) (lt_of_ble rfl)
  apply Wk.gon 21 rfl rfl
  apply Wk.dat (sinb hk) Try.func40 rfl rfl rfl rfl rfl (lt_of_ble rfl)
  apply Wk.gon 21 rfl rfl
  apply Wk.un rfl (fun w => by simp [go_sem] <;> rfl) (lt_of_ble rfl)
  apply Wk.pckF rfl (by conv => lhs; whnf) (lt_of_ble rfl)
  refine Wk.nil ?_
  refine AW.cond rfl (fun hc => by cases hc) (fun _ => AW.skip (thenA_normal ?_))
  refine AW.seq (AW.seq ?_)
  apply AW.list
  apply Wk.asg (by conv => lhs; whnf) (lt_of_ble rfl)
  refine Wk.nil (AW.block ?_)
  refine AW.loop (fun k : Nat => St.of 70 [(1, .ptr 1 0), (3, .d (.v (.int .i64 (k : Int))))] [(1, .var ((wdD ⟨m, w, p, u, y, ends, net, link⟩).map A.d))]) (fun k => k ≤ 2 ∧ (∀ a ∈ ends.take k, EN.okB ⟨m, w, p, u, y⟩ a = true) ∧ ∀ a ∈ net.take k, netB a = true) (fun k => 2 - k) 0 ⟨by omega, by simp, by simp⟩ ?_ ?_
  · exact fun a w => Rel.keep ⟨rfl, .cons rfl rfl (.cons rfl rfl .nil), .cons rfl rfl .nil, hN.mono (by simp [keys])⟩
  rintro k ⟨hk2, hke, hkn⟩
  show AW Try.prog C _ _ (St.of 70 [(1, .ptr 1 0), (3, .d (.v (.int .i64 (k : Int))))] [(1, .var ((wdD ⟨m, w, p, u, y, ends, net, link⟩).map A.d))])
  refine AW.seq (AW.seq ?_)
  by_cases hlt : k < 2
  · skip
    apply AW.list
    apply Wk.mv (by conv => lhs; whnf) (lt_of_ble rfl)
    apply Wk.bin rfl rfl (r := .bool true) (fun w => by simp [go_sem]; omega) (lt_of_ble rfl)
    refine Wk.nil ?_
    refine AW.cond rfl (fun _ => AW.skip ?_) (fun hc => by cases hc)
    repeat (first | refine thenA_normal ?_ | refine inBlockA_normal ?_)
    obtain ⟨e, hd⟩ : ∃ d, ends[k]? = some d := ⟨_, List.getElem?_eq_getElem (by omega)⟩
    obtain ⟨l, hl⟩ : ∃ d, net[k]? = some d := ⟨_, List.getElem?_eq_getElem (by omega)⟩
    have hget : (ends.map enD)[k]? = some (enD e) := by simp [hd]
    have hklt : k < (ends.map enD).length := by simp; omega
    have nget : (net.map fun l => [D.row (l.map msgC)])[k]? = some [D.row (l.map msgC)] := by simp [hl]
    have nklt : k < (net.map fun l => [D.row (l.map msgC)]).length := by simp; omega
    have next : EN.okB ⟨m, w, p, u, y⟩ e = true → netB l = true → k + 1 ≤ 2 ∧ (∀ a ∈ ends.take (k + 1), EN.okB ⟨m, w, p, u, y⟩ a = true) ∧ ∀ a ∈ net.take (k + 1), netB a = true := fun hb hb2 => ⟨by omega, fun a ha => by
      rw [List.take_add_one, hd] at ha
      rcases List.mem_append.1 ha with h | h
      · exact hke a h
      · obtain rfl : a = e := by simpa using h
        exact hb, fun a ha => by
      rw [List.take_add_one, hl] at ha
      rcases List.mem_append.1 ha with h | h
      · exact hkn a h
      · obtain rfl : a = l := by simpa using h
        exact hb2⟩
    have done : EN.okB ⟨m, w, p, u, y⟩ e = false ∨ netB l = false → WD.okB ⟨m, w, p, u, y, ends, net, link⟩ = false := fun hb => by
      cases hw : WD.okB ⟨m, w, p, u, y, ends, net, link⟩ with
      | false => rfl
      | true =>
        simp only [WD.okB, Bool.and_eq_true, List.all_eq_true] at hw
        rcases hb with hb | hb
        · rw [hw.2.2.2.2.1 e (List.mem_of_getElem? hd)] at hb; cases hb
        · rw [hw.2.2.2.2.2 l (List.mem_of_getElem? hl)] at hb; cases hb
    have ce := send_ok m w p u y e
    have ll : (((l.map msgC).length : Nat) : Int) = (l.length : Int) := by rw [List.length_map]
    refine AW.seq (AW.block ?_)
    obtain ⟨be, hbe⟩ : ∃ b, EN.okB ⟨m, w, p, u, y⟩ e = b := ⟨_, rfl⟩
    rw [hbe] at ce next done
    clear hbe
    refine AW.seq (AW.seq ?_)
    cases be
    · skip
      apply AW.draw (hm := hmix) (cs := _)
      · apply Wk.fad 0 4 true fd57_0 rfl (lt_of_ble rfl)
        apply Wk.ld (i := 1) 5 true ty29 rfl rfl (by conv => lhs; whnf) (lt_of_ble rfl)
        apply Wk.fad 5 0 false fd57_1 rfl (lt_of_ble rfl)
        apply Wk.ld (i := 1) 1 false ty54 rfl rfl (by conv => lhs; whnf) (lt_of_ble rfl)
        apply Wk.mv (by conv => lhs; whnf) (lt_of_ble rfl)
        apply Wk.iad 28 true un54 ty77 rfl rfl hklt (enD_len _) (lt_of_ble rfl)
        apply Wk.ldr 28 true ty77 rfl hget (by conv => lhs; whnf) (lt_of_ble rfl)
        apply Wk.dat ce Try.func53 rfl rfl rfl rfl rfl (lt_of_ble rfl)
        apply Wk.un rfl (fun w => by simp [go_sem] <;> rfl) (lt_of_ble rfl)
        apply Wk.mv (by conv => lhs; whnf) (lt_of_ble rfl)
        apply Wk.goff 40 (ok_faddr fd57_2) rfl rfl (by simp)
        apply Wk.goff 40 (ok_load 1 ty55) rfl rfl (by simp)
        apply Wk.goff 40 (ok_move _) rfl rfl (by simp)
        apply Wk.goff 40 (ok_iaddr un55 ty78) rfl rfl (by simp)
        apply Wk.goff 40 (ok_loadr ty78) rfl rfl (by simp)
        apply Wk.goff 40 (ok_len un78) rfl rfl (by simp)
        apply Wk.goff 40 (ok_bin _ _ _ _ _) rfl rfl (by simp)
        apply Wk.pckT rfl (by conv => lhs; whnf) (lt_of_ble rfl)
        refine Wk.nil ?_
        refine AW.cond rfl (fun _ => ?_) (fun hc => by cases hc)
        rw [done (by simp)]
        refine AW.seq ?_
        apply AW.list
        apply Wk.asg (by conv => lhs; whnf) (lt_of_ble rfl)
        refine Wk.nil (AW.ret ?_)
        repeat (first | refine thenA_ret ?_ | refine inBlockA_ret ?_)
        exact RetQ.ret [] (.cons rfl .nil) ⟨rfl, rfl⟩ none_kept
      · rfl
      · rfl
    by_cases hl30 : l.length ≤ 30
    rotate_left
    · rw [show netB l = false from by simp [netB, hl30]] at next done
      apply AW.draw (hm := hmix) (cs := _)
      · apply Wk.fad 0 4 true fd57_0 rfl (lt_of_ble rfl)
        apply Wk.ld (i := 1) 5 true ty29 rfl rfl (by conv => lhs; whnf) (lt_of_ble rfl)
        apply Wk.fad 5 0 false fd57_1 rfl (lt_of_ble rfl)
        apply Wk.ld (i := 1) 1 false ty54 rfl rfl (by conv => lhs; whnf) (lt_of_ble rfl)
        apply Wk.mv (by conv => lhs; whnf) (lt_of_ble rfl)
        apply Wk.iad 28 true un54 ty77 rfl rfl hklt (enD_len _) (lt_of_ble rfl)
        apply Wk.ldr 28 true ty77 rfl hget (by conv => lhs; whnf) (lt_of_ble rfl)
        apply Wk.dat ce Try.func53 rfl rfl rfl rfl rfl (lt_of_ble rfl)
        apply Wk.un rfl (fun w => by simp [go_sem] <;> rfl) (lt_of_ble rfl)
        apply Wk.mv (by conv => lhs; whnf) (lt_of_ble rfl)
        apply Wk.gon 40 rfl rfl
        apply Wk.fad 6 0 false fd57_2 rfl (lt_of_ble rfl)
        apply Wk.gon 40 rfl rfl
        apply Wk.ld (i := 1) 1 false ty55 rfl rfl (by conv => lhs; whnf) (lt_of_ble rfl)
        apply Wk.gon 40 rfl rfl
        apply Wk.mv (by conv => lhs; whnf) (lt_of_ble rfl)
        apply Wk.gon 40 rfl rfl
        apply Wk.iad 1 false un55 ty78 rfl rfl nklt (net_one _) (lt_of_ble rfl)
        apply Wk.gon 40 rfl rfl
        apply Wk.ldr 1 false ty78 rfl nget (by conv => lhs; whnf) (lt_of_ble rfl)
        apply Wk.gon 40 rfl rfl
        apply Wk.len un78 rfl (lt_of_ble rfl)
        apply Wk.gon 40 rfl rfl
        apply Wk.bin rfl rfl (r := .bool true) (fun w => by rw [ll]; simp [go_sem]; omega) (lt_of_ble rfl)
        apply Wk.pckF rfl (by conv => lhs; whnf) (lt_of_ble rfl)
        refine Wk.nil ?_
        refine AW.cond rfl (fun _ => ?_) (fun hc => by cases hc)
        rw [done (by simp)]
        refine AW.seq ?_
        apply AW.list
        apply Wk.asg (by conv => lhs; whnf) (lt_of_ble rfl)
        refine Wk.nil (AW.ret ?_)
        repeat (first | refine thenA_ret ?_ | refine inBlockA_ret ?_)
        exact RetQ.ret [] (.cons rfl .nil) ⟨rfl, rfl⟩ none_kept
      · rfl
      · rfl
    rw [show netB l = !l.any msgB from by simp [netB, hl30]] at next done
    apply AW.draw (hm := hmix) (cs := _)
    · apply Wk.fad 0 4 true fd57_0 rfl (lt_of_ble rfl)
      apply Wk.ld (i := 1) 5 true ty29 rfl rfl (by conv => lhs; whnf) (lt_of_ble rfl)
      apply Wk.fad 5 0 false fd57_1 rfl (lt_of_ble rfl)
      apply Wk.ld (i := 1) 1 false ty54 rfl rfl (by conv => lhs; whnf) (lt_of_ble rfl)
      apply Wk.mv (by conv => lhs; whnf) (lt_of_ble rfl)
      apply Wk.iad 28 true un54 ty77 rfl rfl hklt (enD_len _) (lt_of_ble rfl)
      apply Wk.ldr 28 true ty77 rfl hget (by conv => lhs; whnf) (lt_of_ble rfl)
      apply Wk.dat ce Try.func53 rfl rfl rfl rfl rfl (lt_of_ble rfl)
      apply Wk.un rfl (fun w => by simp [go_sem] <;> rfl) (lt_of_ble rfl)
      apply Wk.mv (by conv => lhs; whnf) (lt_of_ble rfl)
      apply Wk.gon 40 rfl rfl
      apply Wk.fad 6 0 false fd57_2 rfl (lt_of_ble rfl)
      apply Wk.gon 40 rfl rfl
      apply Wk.ld (i := 1) 1 false ty55 rfl rfl (by conv => lhs; whnf) (lt_of_ble rfl)
      apply Wk.gon 40 rfl rfl
      apply Wk.mv (by conv => lhs; whnf) (lt_of_ble rfl)
      apply Wk.gon 40 rfl rfl
      apply Wk.iad 1 false un55 ty78 rfl rfl nklt (net_one _) (lt_of_ble rfl)
      apply Wk.gon 40 rfl rfl
      apply Wk.ldr 1 false ty78 rfl nget (by conv => lhs; whnf) (lt_of_ble rfl)
      apply Wk.gon 40 rfl rfl
      apply Wk.len un78 rfl (lt_of_ble rfl)
      apply Wk.gon 40 rfl rfl
      apply Wk.bin rfl rfl (r := .bool false) (fun w => by rw [ll]; simp [go_sem]; omega) (lt_of_ble rfl)
      apply Wk.pckF rfl (by conv => lhs; whnf) (lt_of_ble rfl)
      refine Wk.nil ?_
      refine AW.cond rfl (fun hc => by cases hc) (fun _ => AW.skip ?_)
      repeat (first | refine thenA_normal ?_ | refine inBlockA_normal ?_)
      refine AW.seq ?_
      apply AW.list
      apply Wk.asg (by conv => lhs; whnf) (lt_of_ble rfl)
      refine Wk.nil (AW.block ?_)
      refine AW.loop (fun j : Nat => St.of 70 [(1, .ptr 1 0), (3, .d (.v (.int .i64 (k : Int)))), (4, .d (.v (.int .i64 (j : Int))))] [(1, .var ((wdD ⟨m, w, p, u, y, ends, net, link⟩).map A.d))]) (fun j => j ≤ l.length ∧ ∀ z ∈ l.take j, msgB z = false) (fun j => l.length - j) 0 ⟨Nat.zero_le _, by simp⟩ ?_ ?_
      · exact fun a w => Rel.keep ⟨rfl, .cons rfl rfl (.cons rfl rfl (.cons rfl rfl .nil)), .cons rfl rfl .nil, hN.mono (by simp [keys])⟩
      rintro j ⟨hj, hj2⟩
      show AW Try.prog C _ _ (St.of 70 [(1, .ptr 1 0), (3, .d (.v (.int .i64 (k : Int)))), (4, .d (.v (.int .i64 (j : Int))))] [(1, .var ((wdD ⟨m, w, p, u, y, ends, net, link⟩).map A.d))])
      refine AW.seq (AW.seq ?_)
      by_cases hjl : j < l.length
      · skip
        apply AW.list
        apply Wk.mv (by conv => lhs; whnf) (lt_of_ble rfl)
        apply Wk.fad 6 0 false fd57_2 rfl (lt_of_ble rfl)
        apply Wk.ld (i := 1) 1 false ty55 rfl rfl (by conv => lhs; whnf) (lt_of_ble rfl)
        apply Wk.mv (by conv => lhs; whnf) (lt_of_ble rfl)
        apply Wk.iad 1 false un55 ty78 rfl rfl nklt (net_one _) (lt_of_ble rfl)
        apply Wk.ldr 1 false ty78 rfl nget (by conv => lhs; whnf) (lt_of_ble rfl)
        apply Wk.len un78 rfl (lt_of_ble rfl)
        apply Wk.bin rfl rfl (r := .bool true) (fun w => by rw [ll]; simp [go_sem]; omega) (lt_of_ble rfl)
        refine Wk.nil ?_
        refine AW.cond rfl (fun _ => AW.skip ?_) (fun hc => by cases hc)
        repeat (first | refine thenA_normal ?_ | refine inBlockA_normal ?_)
        obtain ⟨mm, hm⟩ : ∃ d, l[j]? = some d := ⟨_, List.getElem?_eq_getElem hjl⟩
        have mget : (l.map msgC)[j]? = some (msgC mm) := by simp [hm]
        have mjlt : j < (l.map msgC).length := by simpa using hjl
        have jnext : msgB mm = false → j + 1 ≤ l.length ∧ ∀ a ∈ l.take (j + 1), msgB a = false := fun hb => ⟨by omega, fun a ha => by
          rw [List.take_add_one, hm] at ha
          rcases List.mem_append.1 ha with h | h
          · exact hj2 a h
          · obtain rfl : a = mm := by simpa using h
            exact hb⟩
        obtain ⟨bt, mb⟩ := mm
        refine AW.seq (AW.block (AW.seq ?_))
        apply AW.list
        apply Wk.fad 6 0 false fd57_2 rfl (lt_of_ble rfl)
        apply Wk.ld (i := 1) 1 false ty55 rfl rfl (by conv => lhs; whnf) (lt_of_ble rfl)
        apply Wk.mv (by conv => lhs; whnf) (lt_of_ble rfl)
        apply Wk.iad 1 false un55 ty78 rfl rfl nklt (net_one _) (lt_of_ble rfl)
        apply Wk.ldr 1 false ty78 rfl nget (by conv => lhs; whnf) (lt_of_ble rfl)
        apply Wk.mv (by conv => lhs; whnf) (lt_of_ble rfl)
        apply Wk.iad 2 true un78 ty92 rfl rfl mjlt (msg_two _) (lt_of_ble rfl)
        apply Wk.fad 1 0 false fd92_1 rfl (lt_of_ble rfl)
        apply Wk.ldr 1 false ty64 rfl mget (by conv => lhs; whnf) (lt_of_ble rfl)
        apply Wk.len un64 rfl (lt_of_ble rfl)
        apply Wk.bin rfl rfl (r := .bool (msgB ⟨bt, mb⟩)) (fun w => by rw [fb_len]; simp [go_sem, msgB]; omega) (lt_of_ble rfl)
        refine Wk.nil ?_
        refine AW.cond rfl (fun hb => ?_) (fun hb => AW.skip ?_)
        · rw [done (.inr (by rw [show l.any msgB = true from List.any_eq_true.2 ⟨_, List.mem_of_getElem? hm, hb⟩]; rfl))]
          refine AW.seq ?_
          apply AW.list
          apply Wk.asg (by conv => lhs; whnf) (lt_of_ble rfl)
          refine Wk.nil (AW.ret ?_)
          repeat (first | refine thenA_ret ?_ | refine inBlockA_ret ?_)
          exact RetQ.ret [] (.cons rfl .nil) ⟨rfl, rfl⟩ none_kept
        repeat (first | refine thenA_normal ?_ | refine inBlockA_normal ?_)
        apply AW.list
        apply Wk.mv (by conv => lhs; whnf) (lt_of_ble rfl)
        apply Wk.addn (b := 1) rfl rfl (by omega) (lt_of_ble rfl)
        apply Wk.asg (by conv => lhs; whnf) (lt_of_ble rfl)
        refine Wk.nil ?_
        repeat (first | refine thenA_normal ?_ | refine inBlockA_normal ?_)
        exact ⟨j + 1, jnext hb, by omega, fun a w => Rel.keep ⟨rfl, .cons rfl rfl (.cons rfl rfl (.cons rfl rfl .nil)), .cons rfl rfl .nil, hN.mono (by simp [keys])⟩⟩
      have hje : j = l.length := by omega
      subst hje
      rw [List.take_length] at hj2
      apply AW.list
      apply Wk.mv (by conv => lhs; whnf) (lt_of_ble rfl)
      apply Wk.fad 6 0 false fd57_2 rfl (lt_of_ble rfl)
      apply Wk.ld (i := 1) 1 false ty55 rfl rfl (by conv => lhs; whnf) (lt_of_ble rfl)
      apply Wk.mv (by conv => lhs; whnf) (lt_of_ble rfl)
      apply Wk.iad 1 false un55 ty78 rfl rfl nklt (net_one _) (lt_of_ble rfl)
      apply Wk.ldr 1 false ty78 rfl nget (by conv => lhs; whnf) (lt_of_ble rfl)
      apply Wk.len un78 rfl (lt_of_ble rfl)
      apply Wk.bin rfl rfl (r := .bool false) (fun w => by rw [ll]; simp [go_sem]) (lt_of_ble rfl)
      refine Wk.nil ?_
      refine AW.cond rfl (fun hc => by cases hc) (fun _ => AW.exit ?_)
      repeat (first | refine inBlockA_same ?_ | refine thenA_exit ?_)
      repeat (first | refine thenA_normal ?_ | refine inBlockA_normal ?_)
      apply AW.list
      apply Wk.mv (by conv => lhs; whnf) (lt_of_ble rfl)
      apply Wk.addn (b := 1) rfl rfl (by omega) (lt_of_ble rfl)
      apply Wk.asg (by conv => lhs; whnf) (lt_of_ble rfl)
      refine Wk.nil ?_
      repeat (first | refine thenA_normal ?_ | refine inBlockA_normal ?_)
      exact ⟨k + 1, next rfl (by rw [show l.any msgB = false from List.any_eq_false.2 fun e he => by rw [hj2 e he]; simp]; rfl), by omega, fun a w => Rel.keep ⟨rfl, .cons rfl rfl (.cons rfl rfl .nil), .cons rfl rfl .nil, hN.mono (by simp [keys])⟩⟩
    · rfl
    · rfl
  · skip
    have hk3 : k = 2 := by omega
    subst hk3
    apply AW.list
    apply Wk.mv (by conv => lhs; whnf) (lt_of_ble rfl)
    apply Wk.bin rfl rfl (r := .bool false) (fun w => by simp [go_sem]) (lt_of_ble rfl)
    refine Wk.nil ?_
    refine AW.cond rfl (fun hc => by cases hc) (fun _ => AW.exit ?_)
    repeat (first | refine inBlockA_same ?_ | refine thenA_exit ?_)
    repeat (first | refine thenA_normal ?_ | refine inBlockA_normal ?_)
    rw [List.take_of_length_le (by omega)] at hke hkn
    rw [show WD.okB ⟨m, w, p, u, y, ends, net, link⟩ = true from by
      simp only [WD.okB, Bool.and_eq_true, List.all_eq_true, decide_eq_true_eq]
      exact ⟨hc0, he, hn, hk, hke, hkn⟩]
    refine AW.seq ?_
    apply AW.list
    apply Wk.asg (by conv => lhs; whnf) (lt_of_ble rfl)
    refine Wk.nil (AW.ret ?_)
    repeat (first | refine thenA_ret ?_ | refine inBlockA_ret ?_)
    exact RetQ.ret [] (.cons rfl .nil) ⟨rfl, rfl⟩ none_kept
end Go.Proofs.Ytdjadeegjbhihaa
