/- What two agree on: of the program and of the specification. -/
import Derived.Test.YtaoafikkamnjlaaCfg
import Derived.Test.YtaoafikkamnjlaaOpenRead
namespace Go.Proofs.Ytaoafikkamnjlaa
open Go.RowKit

set_option maxHeartbeats 2000000 in
theorem impl_meet (a b : Opt) (w : World) :
    Calls Try.prog 21 #[.agg #[.int .i64 a.mode, .int .i64 a.win, .int .i64 a.mps, .int .i64 a.mtu, .int .i64 a.tri], .agg #[.int .i64 b.mode, .int .i64 b.win, .int .i64 b.mps, .int .i64 b.mtu, .int .i64 b.tri]] w fun e w' => e = .returned (.tuple #[.agg #[.int .i64 (meet a b).mode, .int .i64 (meet a b).win, .int .i64 (meet a b).mps, .int .i64 (meet a b).mtu, .int .i64 (meet a b).tri], .bool (meets a b)]) ∧ Below w.heap.size w w' := by
  obtain ⟨a1, a2, a3, a4, a5⟩ := a
  obtain ⟨b1, b2, b3, b4, b5⟩ := b
  obtain ⟨w0, e0, B1, B2, B3, b0, hs⟩ := bo3 w #[.int .i64 a1, .int .i64 a2, .int .i64 a3, .int .i64 a4, .int .i64 a5] 24 #[.int .i64 b1, .int .i64 b2, .int .i64 b3, .int .i64 b4, .int .i64 b5] 24 #[.int .i64 0, .int .i64 0, .int .i64 0, .int .i64 0, .int .i64 0] 24
  have k1 := B1.k; have k2 := B2.k; have k3 := B3.k; have f3 := B3.f
  cases ha : (⟨a1, a2, a3, a4, a5⟩ : Opt).ok
  · have hy : meets ⟨a1, a2, a3, a4, a5⟩ ⟨b1, b2, b3, b4, b5⟩ = false := by simp [meets, ha]
    have hx : meet ⟨a1, a2, a3, a4, a5⟩ ⟨b1, b2, b3, b4, b5⟩ = Opt.zero := by simp [meet, hy]
    rw [hx, hy]
    go_enter Try.func21, Try.ntmps21
    go_wp2_with (first
      | (go_at_call 54; refine (impl_cfg_v _ _ _ _ _ _).mono ?_; rintro e w' ⟨rfl, bb⟩; clear k1 k2 k3 f3; (try clear e0); replace b0 := bchain b0 bb; replace B1 := B1.kept bb; replace B2 := B2.kept bb; replace B3 := B3.kept bb; clear bb; have k1 := B1.k; have k2 := B2.k; have k3 := B3.k; have f3 := B3.f)
      )
    refine bodyPost_ret (v := .tuple #[.agg #[.int .i64 Opt.zero.mode, .int .i64 Opt.zero.win, .int .i64 Opt.zero.mps, .int .i64 Opt.zero.mtu, .int .i64 Opt.zero.tri], .bool false]) (by simp [results, Try.results21, go_sem, k3, Opt.zero]) rfl ⟨rfl, ?_⟩
    iterate 5 refine Below.setCell ?_ (by simp; try omega) _
    exact b0
  · cases hb : (⟨b1, b2, b3, b4, b5⟩ : Opt).ok
    · have hy : meets ⟨a1, a2, a3, a4, a5⟩ ⟨b1, b2, b3, b4, b5⟩ = false := by simp [meets, hb]
      have hx : meet ⟨a1, a2, a3, a4, a5⟩ ⟨b1, b2, b3, b4, b5⟩ = Opt.zero := by simp [meet, hy]
      rw [hx, hy]
      go_enter Try.func21, Try.ntmps21
      go_wp2_with (first
        | (go_at_call 54; refine (impl_cfg_v _ _ _ _ _ _).mono ?_; rintro e w' ⟨rfl, bb⟩; clear k1 k2 k3 f3; (try clear e0); replace b0 := bchain b0 bb; replace B1 := B1.kept bb; replace B2 := B2.kept bb; replace B3 := B3.kept bb; clear bb; have k1 := B1.k; have k2 := B2.k; have k3 := B3.k; have f3 := B3.f)
        )
      refine bodyPost_ret (v := .tuple #[.agg #[.int .i64 Opt.zero.mode, .int .i64 Opt.zero.win, .int .i64 Opt.zero.mps, .int .i64 Opt.zero.mtu, .int .i64 Opt.zero.tri], .bool false]) (by simp [results, Try.results21, go_sem, k3, Opt.zero]) rfl ⟨rfl, ?_⟩
      iterate 5 refine Below.setCell ?_ (by simp; try omega) _
      exact b0
    · by_cases hm : a1 = b1
      · subst hm
        have hy : meets ⟨a1, a2, a3, a4, a5⟩ ⟨a1, b2, b3, b4, b5⟩ = true := by simp [meets, ha, hb]
        have hx : meet ⟨a1, a2, a3, a4, a5⟩ ⟨a1, b2, b3, b4, b5⟩ = Opt.least ⟨a1, a2, a3, a4, a5⟩ ⟨a1, b2, b3, b4, b5⟩ := by simp [meet, hy]
        rw [hx, hy]
        go_enter Try.func21, Try.ntmps21
        go_wp2_with (first
          | (go_at_call 54; refine (impl_cfg_v _ _ _ _ _ _).mono ?_; rintro e w' ⟨rfl, bb⟩; clear k1 k2 k3 f3; (try clear e0); replace b0 := bchain b0 bb; replace B1 := B1.kept bb; replace B2 := B2.kept bb; replace B3 := B3.kept bb; clear bb; have k1 := B1.k; have k2 := B2.k; have k3 := B3.k; have f3 := B3.f)
          )
        clear k1 k2
        have d1 : Below w'.heap.size w' w'.drew := (Below.refl _ _).drew
        replace B1 := B1.kept d1
        replace B2 := B2.kept d1
        obtain ⟨ι, W, inW, ofW⟩ := cls (fun x => Bo x w.heap.size #[.int .i64 a1, .int .i64 a2, .int .i64 a3, .int .i64 a4, .int .i64 a5] ∧ Bo x (w.heap.size + 1) #[.int .i64 a1, .int .i64 b2, .int .i64 b3, .int .i64 b4, .int .i64 b5])
        have ne : Nonempty ι := ⟨(inW _ ⟨B1, B2⟩).choose⟩
        have kW : ∀ x k, (W x).cell? ⟨w.heap.size, k, none⟩ = (#[.int .i64 a1, .int .i64 a2, .int .i64 a3, .int .i64 a4, .int .i64 a5] : Array Value)[k]? := fun x k => (ofW x).1.2.1 k
        have kV : ∀ x k, (W x).cell? ⟨w.heap.size + 1, k, none⟩ = (#[.int .i64 a1, .int .i64 b2, .int .i64 b3, .int .i64 b4, .int .i64 b5] : Array Value)[k]? := fun x k => (ofW x).2.2.1 k
        refine region_by (fun w' => ∃ x, w' = W x) 23 [(0, true), (1, true), (2, true), (3, true), (4, true), (5, true), (7, true), (8, true), (9, true), (10, true), (12, true), (13, true), (14, true), (15, true), (17, true), (18, true), (19, true), (20, true), (6, false), (11, false), (16, false), (21, false), (22, false), (23, false), (24, false)] ⟨none, .assign (.tmp 0), 0, "", #[], none⟩ (by kernel_rfl) (by kernel_rfl) (inW _ (⟨B1, B2⟩)) (fun x _ _ _ _ h => by cases x <;> exact h) ?_
        simp only [arrange, List.map_cons, List.map_nil, List.getD_cons_zero, List.getD_cons_succ]
        iterate 18 (refine by_read rfl (fun K hK => ?_); go_simp; refine hK _ ?_; clear hK K)
        iterate 4 (refine by_move rfl (fun K hK => ?_); go_simp; go_at_call 62; refine (lesser_any _ _ _).mono ?_; rintro e w2 ⟨rfl, rfl⟩; refine hK _ _ (fun _ => inW _ ⟨B1, B2⟩) ?_; clear hK K)
        refine by_move rfl (fun K hK => ?_)
        go_simp
        refine hK _ _ (fun _ => inW _ ⟨B1, B2⟩) ?_
        clear hK K
        iterate 2 (refine by_move rfl (fun K hK => ?_); go_simp; refine hK _ _ (fun h => absurd h (by decide)) ?_; clear hK K)
        refine by_nil ?_
        clear kW kV
        clear ofW inW ne W ι
        go_wp2
        refine bodyPost_ret (v := .tuple #[.agg #[.int .i64 a1, .int .i64 (min a2 b2), .int .i64 (min a3 b3), .int .i64 (min a4 b4), .int .i64 (min a5 b5)], .bool true]) (by simp [results, Try.results21, go_sem, k3]) rfl ⟨rfl, ?_⟩
        refine Below.drew ?_
        iterate 5 refine Below.setCell ?_ (by simp; try omega) _
        exact b0
      · have hy : meets ⟨a1, a2, a3, a4, a5⟩ ⟨b1, b2, b3, b4, b5⟩ = false := by simp [meets, hm]
        have hx : meet ⟨a1, a2, a3, a4, a5⟩ ⟨b1, b2, b3, b4, b5⟩ = Opt.zero := by simp [meet, hy]
        rw [hx, hy]
        go_enter Try.func21, Try.ntmps21
        go_wp2_with (first
          | (go_at_call 54; refine (impl_cfg_v _ _ _ _ _ _).mono ?_; rintro e w' ⟨rfl, bb⟩; clear k1 k2 k3 f3; (try clear e0); replace b0 := bchain b0 bb; replace B1 := B1.kept bb; replace B2 := B2.kept bb; replace B3 := B3.kept bb; clear bb; have k1 := B1.k; have k2 := B2.k; have k3 := B3.k; have f3 := B3.f)
          )
        refine bodyPost_ret (v := .tuple #[.agg #[.int .i64 Opt.zero.mode, .int .i64 Opt.zero.win, .int .i64 Opt.zero.mps, .int .i64 Opt.zero.mtu, .int .i64 Opt.zero.tri], .bool false]) (by simp [results, Try.results21, go_sem, k3, Opt.zero]) rfl ⟨rfl, ?_⟩
        iterate 5 refine Below.setCell ?_ (by simp; try omega) _
        exact b0
end Go.Proofs.Ytaoafikkamnjlaa
