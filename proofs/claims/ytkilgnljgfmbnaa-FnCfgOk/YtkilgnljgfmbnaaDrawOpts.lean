/- What the laws of what two agree on draw. -/
import Derived.Test.YtkilgnljgfmbnaaDrawCfg
namespace Go.Proofs.Ytkilgnljgfmbnaa
open Go.RowKit
set_option maxHeartbeats 1000000 in
theorem drawCfg_any (v : Value) (zs : List Nat) (w : World) (h : Rd w v zs) :
    Calls Try.prog 9 #[v] w fun e w' => ∃ x0 x1 x2 x3 x4 : Int, e = .returned (.agg #[.int .i64 x0, .int .i64 x1, .int .i64 x2, .int .i64 x3, .int .i64 x4]) ∧ Drawn x0 x1 x2 x3 x4 ∧ Below w.heap.size w w' := by
  obtain ⟨w0, e0, B0, b0, hs⟩ := bl1 w #[.int .i64 0, .int .i64 0, .int .i64 0, .int .i64 0, .int .i64 0] 24
  go_enter Try.func9, Try.ntmps9
  go_wp2_with fail
  refine (open_any v zs _ (h.kept b0)).mono ?_
  rintro e w1 ⟨rfl, ⟨cs, r1⟩, b1⟩
  go_wp2_with fail
  refine (cfg_any _ _ 0 cs 2 w1 r1 (by omega) (by omega)).mono ?_
  rintro e w2 ⟨x0, x1, x2, x3, x4, p2, rfl, hd, _, hp2, r2, g2⟩
  have hl := r1.lt
  have R2 := ((B0.kept b1).grown g2 (by omega)).bo
  have b2 : Below w.heap.size w w2 := (bchain b0 b1).grown g2 (bchain b0 b1).size (fun q e => by cases e; omega)
  have k := R2.k
  have f := R2.f
  have kz := (((((R2.put 0 (by simp) (.int .i64 x0)).put 1 (by simp) (.int .i64 x1)).put 2 (by simp) (.int .i64 x2)).put 3 (by simp) (.int .i64 x3)).put 4 (by simp) (.int .i64 x4)).k
  clear r1 r2 g2 B0 R2 b1 b0 e0 h
  go_wp2
  refine bodyPost_ret (v := .agg #[.int .i64 x0, .int .i64 x1, .int .i64 x2, .int .i64 x3, .int .i64 x4]) (by simp [results, Try.results9, go_sem, kz]) rfl ⟨x0, x1, x2, x3, x4, rfl, hd, ?_⟩
  iterate 5 refine Below.setCell ?_ (by simp) _
  exact b2
end Go.Proofs.Ytkilgnljgfmbnaa
